import PyProof.Rows.All
import Wide.All
import OpenK.AllK
import Wide.FinOn
import HandS.ForMost
import HandS.Wide
import HandS.Evl
import HandS.IsInst
import HandS.RaiseMore
import HandS.More
import HandS.CallLocal
import HandS.Style
import HandS.TupAny
import HandS.Strs
import KE.IntTextLaws
import HandS.Walk
import HandS.Iter
import KE.GoesMore
import HandS.OwnEq
import HandS.OwnIter
import HandS.DictComp
import HandS.StrMore
import HandS.FStr
import HandS.Zip
import HandS.Text
import HandS.Star
import HandS.Defaults
import PyProof.InstEq
import PyProof.CallStr
import HandS.IterVal
import PyProof.NeKinds
import HandS.SetFor
import PyProof.SetRoads
import HandS.Deep
import HandS.NoneIn
import PyProof.ListStr
import HandS.ExcInit
import HandS.ExcField
import HandS.Lambda
import HandS.TryMany
import HandS.WordsExc
import KE.KExcInit
import PyProof.ReprRoads
import HandS.ExcInitHot
import HandS.RaiseFrom
import HandS.SuiteRaise
import HandS.EndTab
import HandS.List
import HandS.MakeKwOnly
import HandS.Exc
import HandS.ExcOwn
import HandS.TryOnly
import HandS.Codes
import HandS.Small
import HandS.WrittenGet
import PySem.Challenge.RW_settledplay_k44_errors_of_letters_and_ba
import HandS.TupMul
import PyProof.StrOps2
import KE.KNestM
set_option Elab.async false
set_option linter.all false
set_option maxRecDepth 100000
set_option maxHeartbeats 4000000
namespace Vr
open PySem PySem.Spec PyProof.Rows L2 Evl
/-! ### rules of calls whose answer is one -/
section
variable {X : Cx}
def rI1 (g : Int → V) : List V → Hp → VK → Prop := fun xs H Q => ∃ i, xs = [.int i] ∧ Q (g i) H
def rB1 (g : Bool → V) : List V → Hp → VK → Prop := fun xs H Q => ∃ i, xs = [.bl i] ∧ Q (g i) H
def rI2 (g : Int → Int → V) : List V → Hp → VK → Prop := fun xs H Q => ∃ i j, xs = [.int i, .int j] ∧ Q (g i j) H
theorem callR_mono {f : Value} {r r' : List V → Hp → VK → Prop} (h : CallR X f r) (k : ∀ vs H Q, r' vs H Q → r vs H Q) : CallR X f r' :=
  fun pins s σ H xs us Q I rv q => h pins s σ H xs us Q I rv (k _ _ _ q)
theorem c_int : CallR X (.type "int") (rI1 fun i => .int i) := callR_mono call_int1 fun _ _ _ h => .inl h
theorem c_intB : CallR X (.type "int") (rB1 fun k => .int (if k then 1 else 0)) := callR_mono call_int1 fun _ _ _ h => .inr h
theorem c_abs : CallR X (.builtin "abs") (rI1 fun i => .int (if i < 0 then -i else i)) := call_abs
theorem c_max (hc : X.calm = true) : CallR X (.builtin "max") (rI2 fun i j => .int (if j > i then j else i)) := call_max2 hc
theorem c_min (hc : X.calm = true) : CallR X (.builtin "min") (rI2 fun i j => .int (if j < i then j else i)) := call_min2 hc
def rRepr : List V → Hp → VK → Prop := fun xs H Q => ∃ i : Int, xs = [.int i] ∧ i.natAbs.log2 < 1920 ∧ Q (.str (toString i)) H
theorem c_repr : CallR X (.builtin "repr") rRepr := SkE.call_repr_int
theorem c_len : CallR X (.builtin "len") (rLenS X.K) := call_len_seq
end
section
variable {K : PySem.W.Frag} {σ : L2.St} {H H' : Hp} {ta tb tc te : TE} {t u : TT} {x y z v : V} {r r' : R2} {D : Ends}
theorem sc_mul {i j : Int} (h : -18446744073709551616 < i ∧ i < 18446744073709551616) : CMul i j := .inl h
theorem sc_div {i j : Int} (h : 0 < j) (h2 : j.natAbs.log2 < 9000) : CDivW i j := ⟨h, h2⟩
theorem rc_I1 {g : Int → V} {i : Int} : RC (rI1 g) [.int i] H (g i) := fun H1 _ _ q => ⟨i, rfl, q H1 (Ex.refl H1)⟩
theorem rc_B1 {g : Bool → V} {i : Bool} : RC (rB1 g) [.bl i] H (g i) := fun H1 _ _ q => ⟨i, rfl, q H1 (Ex.refl H1)⟩
theorem rc_I2 {g : Int → Int → V} {i j : Int} : RC (rI2 g) [.int i, .int j] H (g i j) := fun H1 _ _ q => ⟨i, j, rfl, q H1 (Ex.refl H1)⟩
theorem rc_repr {i : Int} (h : i.natAbs.log2 < 1920) : RC rRepr [.int i] H (.str (toString i)) := fun H1 _ _ q => ⟨i, rfl, h, q H1 (Ex.refl H1)⟩
theorem rc_lenL {p : Addr} {xs : List V} (h : SqL K H p xs) : RC (rLenS K) [.ref p] H (.int (xs.length : Int)) := fun H1 e _ q => ⟨p, xs, rfl, .inl (ex_l e h), q H1 (Ex.refl H1)⟩
theorem ev_chain {a b : Bool} (h1 : Ev ta σ H x) (h2 : Ev tb σ H y) (r1 : RV r x y H (.bl a)) (h3 : Ev tc σ H z) (r2 : RV r' y z H (.bl b)) : Ev (tChain r r' ta tb tc) σ H (.bl (a && b)) := fun H1 e Q q =>
  h1 H1 e _ fun H2 e2 => h2 H2 (e.trans e2) _ fun H3 e3 => r1 H3 ((e.trans e2).trans e3) _ fun H4 e4 => ⟨a, rfl, by
    cases a with
    | true =>
      rw [if_pos rfl]
      exact h3 H4 (((e.trans e2).trans e3).trans e4) _ fun H5 e5 => r2 H5 ((((e.trans e2).trans e3).trans e4).trans e5) _ fun H6 e6 => q H6 ((((e2.trans e3).trans e4).trans e5).trans e6)
    | false =>
      rw [if_neg Bool.false_ne_true]
      exact q H4 ((e2.trans e3).trans e4)⟩
/-- an expression that evaluates, then what follows -/
theorem go {Q : VK} (h : Ev te σ H v) (k : ∀ H1, Ex H H1 → Q v H1) : te σ H Q := h H (Ex.refl H) Q k
theorem goT {b : Bool} {Q : Bool → Hp → Prop} (h : EvT t σ H b) (k : ∀ H1, Ex H H1 → Q b H1) : t σ H Q := h H (Ex.refl H) Q k
theorem goA {ts : TA} {vs : List V} {Q : List V → Hp → Prop} (h : EvA ts σ H vs) (k : ∀ H1, Ex H H1 → Q vs H1) : ts σ H Q := h H (Ex.refl H) Q k
/-! ### promises of defs that answer by their arguments, whatever else they make -/
def Pure (ok : List V → Hp → V → Prop) : Sp := fun vs H Q _ => ∃ z, ok vs H z ∧ ∀ H', Ex H H' → Q z H'
theorem ev_callP {ok : List V → Hp → V → Prop} {E : XK} {ts : TA} {vs : List V} (h : EvA ts σ H vs) (ho : ∀ H1, Ex H H1 → ok vs H1 z) : Ev (tCall (Pure ok) [] E ts) σ H z := fun H1 e Q q =>
  h H1 e _ fun H2 e2 => by
    show Pure ok (vs ++ []) H2 Q E
    rw [List.append_nil]
    exact ⟨z, ho H2 (e.trans e2), fun H3 e3 => q H3 (e2.trans e3)⟩
theorem fin {Q : VK} (k : ∀ H', Ex H H' → Q z H') (e : Ex H H') : Q z H' := k H' e
/-! ### the dice: a list of three ints at p, all else as it was -/
def Exd (p : Addr) (H H' : Hp) : Prop := ∀ a o, a ≠ p → H a = some o → H' a = some o
theorem Exd.refl (p : Addr) (H : Hp) : Exd p H H := fun _ _ _ h => h
theorem Exd.trans {p : Addr} {H H1 H2 : Hp} (a : Exd p H H1) (b : Exd p H1 H2) : Exd p H H2 := fun c o n h => b c o n (a c o n h)
theorem Exd.of {p : Addr} (e : Ex H H') : Exd p H H' := fun a o _ h => e a o h
theorem Exd.upd {p : Addr} {o : HO} : Exd p H (upd H p o) := fun a u n h => by rw [upd_ne n]; exact h
def Dice (p : Addr) (H : Hp) : Prop := ∃ a b c : Int, H p = some (.lst [.int a, .int b, .int c])
theorem Dice.ex {p : Addr} (e : Ex H H') (d : Dice p H) : Dice p H' := by
  obtain ⟨a, b, c, h⟩ := d
  exact ⟨a, b, c, e _ _ h⟩
theorem Exd.l {p a : Addr} {xs : List V} (e : Exd p H H') (n : a ≠ p) (h : SqL K H a xs) : SqL K H' a xs := by
  rcases h with (h | ⟨o, h⟩) | h
  · exact .inl (.inl (e _ _ n h))
  · exact .inl (.inr ⟨o, e _ _ n h⟩)
  · exact .inr h
/-! ### more values -/
theorem ev_ite {b : Bool} {v1 v2 : V} (h : EvT t σ H b) (h1 : b = true → Ev ta σ H v1) (h2 : b = false → Ev tb σ H v2) : Ev (tIf t ta tb) σ H (if b = true then v1 else v2) :=
  ev_if h (fun e => by rw [if_pos e]; exact h1 e) (fun e => by rw [if_neg (by rw [e]; exact Bool.false_ne_true)]; exact h2 e)
theorem ev_pow {a b c : Int} (h : 0 ≤ b ∧ b ≤ 1000000 ∧ a.natAbs < 2 ^ 64) (e : a ^ b.toNat = c) : Ev (tOp (rI CPow fun i j => .int (i ^ j.toNat)) (tC (.int a)) (tC (.int b))) σ H (.int c) := by
  rw [← e]
  exact ev_op ev_c ev_c (rv_I h)
/-- the type of a value, and what isinstance says of int and bool -/
def isIB : V → Bool
  | .int _ => true
  | .bl _ => true
  | _ => false
def isB : V → Bool
  | .bl _ => true
  | _ => false
def isS : V → Bool
  | .str _ => true
  | _ => false
/-- a plain value: its type is a built-in one -/
def Plain (K : PySem.W.Frag) (H : Hp) (x : V) : Prop := ∃ n, TyX K H x (.type n)
theorem isi_int {n : String} (h : TyX K H x (.type n)) : PySem.W.kitOne K (.type n) (.type "int") = some (isIB x) := by
  cases h with
  | base b => cases b <;> first | exact kit_ty (r := false) (by decide +kernel) | exact kit_ty (r := true) (by decide +kernel)
  | byt _ => first | exact kit_ty (r := false) (by decide +kernel) | exact kit_ty (r := true) (by decide +kernel)
  | set _ => first | exact kit_ty (r := false) (by decide +kernel) | exact kit_ty (r := true) (by decide +kernel)
  | kList _ _ => first | exact kit_ty (r := false) (by decide +kernel) | exact kit_ty (r := true) (by decide +kernel)
  | kTuple _ _ => first | exact kit_ty (r := false) (by decide +kernel) | exact kit_ty (r := true) (by decide +kernel)
  | kDict _ _ => first | exact kit_ty (r := false) (by decide +kernel) | exact kit_ty (r := true) (by decide +kernel)
  | fTuple _ => first | exact kit_ty (r := false) (by decide +kernel) | exact kit_ty (r := true) (by decide +kernel)
  | fDict _ => first | exact kit_ty (r := false) (by decide +kernel) | exact kit_ty (r := true) (by decide +kernel)
theorem isi_bool {n : String} (h : TyX K H x (.type n)) : PySem.W.kitOne K (.type n) (.type "bool") = some (isB x) := by
  cases h with
  | base b => cases b <;> first | exact kit_ty (r := false) (by decide +kernel) | exact kit_ty (r := true) (by decide +kernel)
  | byt _ => first | exact kit_ty (r := false) (by decide +kernel) | exact kit_ty (r := true) (by decide +kernel)
  | set _ => first | exact kit_ty (r := false) (by decide +kernel) | exact kit_ty (r := true) (by decide +kernel)
  | kList _ _ => first | exact kit_ty (r := false) (by decide +kernel) | exact kit_ty (r := true) (by decide +kernel)
  | kTuple _ _ => first | exact kit_ty (r := false) (by decide +kernel) | exact kit_ty (r := true) (by decide +kernel)
  | kDict _ _ => first | exact kit_ty (r := false) (by decide +kernel) | exact kit_ty (r := true) (by decide +kernel)
  | fTuple _ => first | exact kit_ty (r := false) (by decide +kernel) | exact kit_ty (r := true) (by decide +kernel)
  | fDict _ => first | exact kit_ty (r := false) (by decide +kernel) | exact kit_ty (r := true) (by decide +kernel)
theorem ty_ex {u : Value} (e : Ex H H') (h : TyX K H x u) : TyX K H' x u := by
  cases h with
  | base b =>
    cases b with
    | non => exact .base .non
    | bl y => exact .base (.bl y)
    | int y => exact .base (.int y)
    | str y => exact .base (.str y)
    | flt y => exact .base (.flt y)
    | lst h => exact .base (.lst (e _ _ h))
    | frz h => exact .base (.frz (e _ _ h))
    | tup h => exact .base (.tup (e _ _ h))
    | dK h => exact .base (.dK (e _ _ h))
    | dT h => exact .base (.dT (e _ _ h))
    | ins h a b c d f => exact .base (.ins (e _ _ h) a b c d f)
  | byt b => exact .byt b
  | set h => exact .set (e _ _ h)
  | kList h c => exact .kList h c
  | kTuple h c => exact .kTuple h c
  | kDict h c => exact .kDict h c
  | fTuple h => exact .fTuple (e _ _ h)
  | fDict h => exact .fDict (e _ _ h)
theorem Plain.ex (e : Ex H H') (h : Plain K H x) : Plain K H' x := by
  obtain ⟨n, h⟩ := h
  exact ⟨n, ty_ex e h⟩
theorem rc_isiInt (h : Plain K H x) : RC (rIsi K) [x, .ty "int"] H (.bl (isIB x)) := fun H1 e Q q => by
  obtain ⟨n, h⟩ := h.ex e
  exact ⟨x, .ty "int", .type n, .type "int", _, rfl, .ty _, h, isi_int h, q H1 (Ex.refl H1)⟩
theorem rc_isiBool (h : Plain K H x) : RC (rIsi K) [x, .ty "bool"] H (.bl (isB x)) := fun H1 e Q q => by
  obtain ⟨n, h⟩ := h.ex e
  exact ⟨x, .ty "bool", .type n, .type "bool", _, rfl, .ty _, h, isi_bool h, q H1 (Ex.refl H1)⟩
/-- an integer of at most sixty digits -/
def isIntV : V → Bool
  | .int i => decide (-1000000000000000000000000000000000000000000000000000000000000 < i) && decide (i < 1000000000000000000000000000000000000000000000000000000000000)
  | _ => false
def isWithin (lo hi : Int) : V → Bool
  | .int i => isIntV (.int i) && (decide (lo ≤ i) && decide (i ≤ hi))
  | _ => false
theorem pl_int {i : Int} : Plain K H (.int i) := ⟨_, .base (.int i)⟩
theorem pl_bl {i : Bool} : Plain K H (.bl i) := ⟨_, .base (.bl i)⟩
theorem pl_str {i : Str} : Plain K H (.str i) := ⟨_, .base (.str i)⟩
theorem pl_non : Plain K H .non := ⟨_, .base .non⟩
theorem pl_lst {a : Addr} {xs : List V} (h : H a = some (.lst xs)) : Plain K H (.ref a) := ⟨_, .base (.lst h)⟩
theorem pl_tup {a : Addr} {xs : List V} (h : H a = some (.tup xs)) : Plain K H (.ref a) := ⟨_, .base (.tup h)⟩
theorem pl_dK {a : Addr} {xs : List (Key × V)} (h : H a = some (.dK xs)) : Plain K H (.ref a) := ⟨_, .base (.dK h)⟩
/-! ### loops over a new tuple -/
variable {tu tw tz : TS} {g : TG}
theorem s_forNU {xs : List V} {tl : TE} (h : EvU tl σ H xs) (Pv : Addr → Nat → L2.St → Hp → Prop) (h0 : ∀ p H1, H p = none → Ex H H1 → H1 p = some (.tup xs) → Pv p 0 σ H1) (hl : ∀ p i σ' H', i ≤ xs.length → Pv p i σ' H' → SqT K H' p xs)
    (hs : ∀ p i x σ' H', xs[i]? = some x → Pv p i σ' H' → g x σ' H' fun σ2 H2 => tu { D with nx := Pv p (i + 1), ct := Pv p (i + 1), bk := D.nx } σ2 H2) (hd : ∀ p σ' H', Pv p xs.length σ' H' → D.nx σ' H') : tFor (iTup K tl) g tu D σ H :=
  h H (Ex.refl H) _ fun p H1 hp e h1 => ⟨p, rfl, ⟨xs, st_of h1⟩, for_tup (Pv p) (h0 p H1 hp e h1) (hl p) (hs p) (hd p)⟩
theorem q_forNU {xs : List V} {tl : TE} (h : EvU tl σ H xs) (Pv : Addr → Nat → L2.St → Hp → Prop) (h0 : ∀ p H1, H p = none → Ex H H1 → H1 p = some (.tup xs) → Pv p 0 σ H1) (hl : ∀ p i σ' H', i ≤ xs.length → Pv p i σ' H' → SqT K H' p xs)
    (hs : ∀ p i x σ' H', xs[i]? = some x → Pv p i σ' H' → g x σ' H' fun σ2 H2 => tu { D with nx := Pv p (i + 1), ct := Pv p (i + 1), bk := tz D } σ2 H2) (hd : ∀ p σ' H', Pv p xs.length σ' H' → tz D σ' H') : tSeq (tFor (iTup K tl) g tu) tz D σ H :=
  s_forNU (D := { D with nx := tz D }) h Pv h0 hl hs hd
/-! ### what draws from the dice -/
def Dv (p : Addr) (te : TE) (σ : L2.St) (H : Hp) (R : V → Prop) : Prop := ∀ H1, Exd p H H1 → Dice p H1 → ∀ Q : VK, (∀ v H2, R v → Exd p H1 H2 → Dice p H2 → Q v H2) → te σ H1 Q
def DvA (p : Addr) (ta : TA) (σ : L2.St) (H : Hp) (R : List V → Prop) : Prop := ∀ H1, Exd p H H1 → Dice p H1 → ∀ Q : List V → Hp → Prop, (∀ v H2, R v → Exd p H1 H2 → Dice p H2 → Q v H2) → ta σ H1 Q
theorem dv_ev {p : Addr} {R : V → Prop} (h : ∀ H1, Exd p H H1 → Dice p H1 → Ev te σ H1 v) (hr : R v) : Dv p te σ H R := fun H1 e d Q q => h H1 e d H1 (Ex.refl H1) Q fun H2 e2 => q v H2 hr (Exd.of e2) (d.ex e2)
theorem Dv.mono {p : Addr} {R R' : V → Prop} (h : Dv p te σ H R) (k : ∀ v, R v → R' v) : Dv p te σ H R' := fun H1 e d Q q => h H1 e d Q fun v H2 r => q v H2 (k v r)
theorem da_nil {p : Addr} {P : V → Prop} : DvA p tNil σ H (fun vs => vs.length = 0 ∧ ∀ v ∈ vs, P v) := fun H1 e d Q q => q [] H1 ⟨rfl, fun _ h => by cases h⟩ (Exd.refl p H1) d
theorem da_cons {p : Addr} {n : Nat} {P : V → Prop} {tr : TA} (h : Dv p te σ H P) (hr : DvA p tr σ H (fun vs => vs.length = n ∧ ∀ v ∈ vs, P v)) : DvA p (tCons te tr) σ H (fun vs => vs.length = n + 1 ∧ ∀ v ∈ vs, P v) := fun H1 e d Q q =>
  h H1 e d _ fun v H2 r e2 d2 => hr H2 (e.trans e2) d2 _ fun vs H3 rs e3 d3 => q (v :: vs) H3 ⟨by rw [List.length_cons, rs.1], fun x hx => by
    rcases List.mem_cons.mp hx with z | z
    · rw [z]; exact r
    · exact rs.2 x z⟩ (e2.trans e3) d3
theorem Exd.none {p a : Addr} (e : Exd p H H') (n : a ≠ p) (h : H' a = none) : H a = none := by
  cases q : H a with
  | none => rfl
  | some o => rw [e a o n q] at h; cases h
theorem Dice.ne {p a : Addr} (d : Dice p H) (h : H a = none) : a ≠ p := by
  obtain ⟨x, y, z, hp⟩ := d
  intro e
  rw [e, hp] at h
  cases h
/-- the call of a def that draws: what it promises of its answer -/
def Draws (ok : List V → Hp → Addr → (V → Prop) → Prop) : Sp := fun vs H Q _ => ∃ (p : Addr) (R : V → Prop), ok vs H p R ∧ Dice p H ∧ ∀ v H', R v → Exd p H H' → Dice p H' → Q v H'
theorem dv_call {ok : List V → Hp → Addr → (V → Prop) → Prop} {E : XK} {ts : TA} {p : Addr} {R : V → Prop} {vs : List V} (h : ∀ H1, Exd p H H1 → Dice p H1 → EvA ts σ H1 vs) (ho : ∀ H1, Exd p H H1 → Dice p H1 → ok vs H1 p R) : Dv p (tCall (Draws ok) [] E ts) σ H R := fun H1 e d Q q =>
  h H1 e d H1 (Ex.refl H1) _ fun H2 e2 => by
    show Draws ok (vs ++ []) H2 Q E
    rw [List.append_nil]
    exact ⟨p, R, ho H2 (e.trans (Exd.of e2)) (d.ex e2), d.ex e2, fun v H3 r e3 d3 => q v H3 r ((Exd.of e2).trans e3) d3⟩
theorem sc_mulr {i j : Int} (h : -18446744073709551616 < j ∧ j < 18446744073709551616) : CMul i j := .inr h
theorem q_asgI {i : Nat} (h : ∃ c : Int, Ev te σ H (.int c)) (k : ∀ (c : Int) H1, Ex H H1 → tz D (σ.set i (some (.int c))) H1) : tSeq (tAsg te (gName i)) tz D σ H := by
  obtain ⟨c, h⟩ := h
  exact q_asg h (k c)
/-! ### data of any depth -/
mutual
theorem dp_ex (e : Ex H H') : ∀ {d : PyData} {x : V}, Dp K H x d → Dp K H' x d
  | _, _, .non => .non
  | _, _, .bl b => .bl b
  | _, _, .int i => .int i
  | _, _, .str z => .str z
  | _, _, .lst h a => .lst (ex_l e h) (dpa_ex e a)
  | _, _, .tup h a => .tup (ex_t e h) (dpa_ex e a)
theorem dpa_ex (e : Ex H H') : ∀ {ds : List PyData} {xs : List V}, DpAll K H xs ds → DpAll K H' xs ds
  | _, _, .nil => .nil
  | _, _, .cons h t => .cons (dp_ex e h) (dpa_ex e t)
end
def EvD (K : PySem.W.Frag) (te : TE) (σ : L2.St) (H : Hp) (d : PyData) : Prop := ∀ H1, Ex H H1 → ∀ Q : VK, (∀ v H2, Ex H1 H2 → Dp K H2 v d → Q v H2) → te σ H1 Q
def EvDA (K : PySem.W.Frag) (ta : TA) (σ : L2.St) (H : Hp) (ds : List PyData) : Prop := ∀ H1, Ex H H1 → ∀ Q : List V → Hp → Prop, (∀ vs H2, Ex H1 H2 → DpAll K H2 vs ds → Q vs H2) → ta σ H1 Q
theorem dpa_len : ∀ {vs : List V} {ds : List PyData}, DpAll K H vs ds → vs.length = ds.length
  | _, _, .nil => rfl
  | _, _, .cons _ t => congrArg (· + 1) (dpa_len t)
theorem evd_of {d : PyData} (h : Ev te σ H v) (hd : ∀ H1, Ex H H1 → Dp K H1 v d) : EvD K te σ H d := fun H1 e Q q => h H1 e Q fun H2 e2 => q v H2 e2 (hd H2 (e.trans e2))
theorem evd_int {i : Int} (h : Ev te σ H (.int i)) : EvD K te σ H (.int i) := evd_of h fun _ _ => .int i
theorem evd_bl {b : Bool} (h : Ev te σ H (.bl b)) : EvD K te σ H (.bool b) := evd_of h fun _ _ => .bl b
theorem evd_str {z : Str} (h : Ev te σ H (.str z)) : EvD K te σ H (.str z) := evd_of h fun _ _ => .str z
theorem evd_non (h : Ev te σ H .non) : EvD K te σ H .none := evd_of h fun _ _ => .non
theorem evda_nil : EvDA K tNil σ H [] := fun H1 _ _ q => q [] H1 (Ex.refl H1) .nil
theorem evda_cons {d : PyData} {ds : List PyData} {tr : TA} (h : EvD K te σ H d) (hr : EvDA K tr σ H ds) : EvDA K (tCons te tr) σ H (d :: ds) := fun H1 e Q q =>
  h H1 e _ fun v H2 e2 hv => hr H2 (e.trans e2) _ fun vs H3 e3 hs => q (v :: vs) H3 (e2.trans e3) (.cons (dp_ex e3 hv) hs)
theorem evd_tup {ds : List PyData} {ts : TA} (h : EvDA K ts σ H ds) (hl : ds.length ≤ 100000) : EvD K (tTup ts) σ H (.tuple ds) := fun H1 e Q q =>
  h H1 e _ fun vs H2 e2 hs => ⟨by rw [dpa_len hs]; exact sz_of hl, fun p hp => q _ _ (e2.trans (Ex.new hp)) (.tup (st_of upd_same) (dpa_ex (Ex.new hp) hs))⟩
theorem evd_lst {ds : List PyData} {ts : TA} (h : EvDA K ts σ H ds) (hl : ds.length ≤ 100000) : EvD K (tLst ts) σ H (.list ds) := fun H1 e Q q =>
  h H1 e _ fun vs H2 e2 hs => ⟨by rw [dpa_len hs]; exact sz_of hl, fun p hp => q _ _ (e2.trans (Ex.new hp)) (.lst (sq_of upd_same) (dpa_ex (Ex.new hp) hs))⟩
theorem ev_eqD {d e : PyData} (h1 : EvD K ta σ H d) (h2 : EvD K tb σ H e) (s1 : SeqAt.shaped d = true) (s2 : SeqAt.shaped e = true) : Ev (tOp (rEqD K) ta tb) σ H (.bl (PyData.eqv d e)) := fun H1 x Q q =>
  h1 H1 x _ fun v H2 x2 hv => h2 H2 (x.trans x2) _ fun u H3 x3 hu => ⟨d, e, dp_ex x3 hv, hu, s1, s2, q H3 (x2.trans x3)⟩
theorem ev_neD {d e : PyData} (h1 : EvD K ta σ H d) (h2 : EvD K tb σ H e) (s1 : SeqAt.shaped d = true) (s2 : SeqAt.shaped e = true) : Ev (tOp (rNeD K) ta tb) σ H (.bl (!PyData.eqv d e)) := fun H1 x Q q =>
  h1 H1 x _ fun v H2 x2 hv => h2 H2 (x.trans x2) _ fun u H3 x3 hu => ⟨d, e, dp_ex x3 hv, hu, s1, s2, q H3 (x2.trans x3)⟩
/-! ### dicts laid on the way -/
def EvPs (trs : List (TE × TE)) (σ : L2.St) (H : Hp) (ps : List (V × V)) : Prop := ∀ H1, Ex H H1 → ∀ Q : List (V × V) → Hp → Prop, (∀ H2, Ex H1 H2 → Q ps H2) → tPairs trs σ H1 Q
theorem eps_nil : EvPs [] σ H [] := fun H1 _ _ q => q H1 (Ex.refl H1)
theorem eps_cons {trs : List (TE × TE)} {ps : List (V × V)} (h1 : Ev ta σ H x) (h2 : Ev tb σ H y) (hr : EvPs trs σ H ps) : EvPs ((ta, tb) :: trs) σ H ((x, y) :: ps) := fun H1 e Q q =>
  h1 H1 e _ fun H2 e2 => h2 H2 (e.trans e2) _ fun H3 e3 => hr H3 ((e.trans e2).trans e3) _ fun H4 e4 => q H4 ((e2.trans e3).trans e4)
def EvK (te : TE) (σ : L2.St) (H : Hp) (kvs : List (Key × V)) : Prop := ∀ H1, Ex H H1 → ∀ Q : VK, (∀ p H2, H1 p = none → Ex H1 H2 → H2 p = some (.dK kvs) → Q (.ref p) H2) → te σ H1 Q
theorem ek_disp {trs : List (TE × TE)} {ps : List (V × V)} (kvs : List (Key × V)) (h : EvPs trs σ H ps) (e : ps = kvs.map fun kv => (kV kv.1, kv.2)) (hl : kvs.length ≤ 15) : EvK (tDisp trs) σ H (mergeK [] kvs) := fun H1 x Q q p hp =>
  h (upd H1 p (.dK [])) (x.trans (Ex.new hp)) _ fun H2 x2 => ⟨x2 _ _ upd_same, kvs, e, hl, q p _ hp (fun a o ha => by rw [upd_ne (ne_of_none ha hp)]; exact x2 _ _ (Ex.new hp _ _ ha)) upd_same⟩
theorem ev_dgetK {kvs : List (Key × V)} {k : Key} (h1 : EvK ta σ H kvs) (h2 : Ev tb σ H (kV k)) (hv : valV kvs k = some v) : Ev (tDGet ta tb) σ H v := fun H1 e Q q =>
  h1 H1 e _ fun p H2 hp e2 h => h2 H2 (e.trans e2) _ fun H3 e3 => ⟨p, v, rfl, by rw [← hv]; exact DGet.k (e3 _ _ h), q H3 (e2.trans e3)⟩
/-! ### sorted ints, an item of a new list -/
theorem el_sorted {tl : TE} {ns ms : List Int} (h : EvL tl σ H (ns.map V.int)) (hl : ns.length < 64) (hp : ms.Perm ns) (hs : ms.Pairwise (· ≤ ·)) : EvL (tCB (rSorted K) (tCons tl tNil)) σ H (ms.map V.int) := fun H1 e Q q =>
  h H1 e _ fun p H2 hp2 e2 h2 => ⟨p, ns, rfl, sq_of h2, hl, fun ns' a hp' hs' ha => by
    have z : ns' = ms := PySem.W.ksm_same (hp'.trans hp.symm) hs' hs
    rw [z]
    exact q a _ (fresh_back e2 ha) (e2.trans (Ex.new ha)) upd_same⟩
theorem ev_ixN {xs : List V} {i : Int} (h : EvL ta σ H xs) (hb : ∀ H1, Ex H H1 → Ev tb σ H1 (.int i)) (ha : atI xs i = some v) : Ev (tOp (rIxL K) ta tb) σ H v := ev_opL1 h hb fun p H1 hp _ => rv_ixL (sq_of hp) ha
theorem q_asgDL {p : Addr} {i : Nat} {ts : TA} {R : List V → Prop} (h : DvA p ts σ H R) (hd : Dice p H) (hl : ∀ vs, R vs → vs.length ≤ 100000) (k : ∀ l xs H1, R xs → Exd p H H1 → Dice p H1 → H1 l = some (.lst xs) → l ≠ p → tz D (σ.set i (some (.ref l))) H1) : tSeq (tAsg (tLst ts) (gName i)) tz D σ H :=
  h H (Exd.refl p H) hd _ fun xs H1 hx e1 d1 => ⟨sz_of (hl xs hx), fun l hl => k l xs _ hx (e1.trans (Exd.of (Ex.new hl))) (d1.ex (Ex.new hl)) upd_same (d1.ne hl)⟩
/-- xs + [drawn things]: a new list of both -/
theorem cat_go {p : Addr} {ts : TA} {R : List V → Prop} {l : Addr} {i : Nat} {xs : List V} {Q : VK} (h : DvA p ts σ H R) (hd : Dice p H) (hx : H l = some (.lst xs)) (hlp : l ≠ p) (hi : σ[i]? = some (some (.ref l))) (hl : ∀ ys, R ys → xs.length + ys.length ≤ 100000)
    (k : ∀ ys l4 H', R ys → Exd p H H' → Dice p H' → H' l4 = some (.lst (xs ++ ys)) → l4 ≠ p → Q (.ref l4) H') : tOp rCat (tVar i) (tLst ts) σ H Q :=
  ⟨.ref l, hi, h H (Exd.refl p H) hd _ fun ys H3 hy e3 d3 => ⟨sz_of (Nat.le_trans (Nat.le_add_left _ _) (hl ys hy)), fun l2 hl2 => ⟨l, l2, xs, ys, rfl, rfl, Ex.new hl2 _ _ (e3 _ _ hlp hx), upd_same, sz_of (hl ys hy), fun l4 hl4 =>
    k ys l4 _ hy (e3.trans ((Exd.of (Ex.new hl2)).trans (Exd.of (Ex.new hl4)))) ((d3.ex (Ex.new hl2)).ex (Ex.new hl4)) upd_same ((d3.ex (Ex.new hl2)).ne hl4)⟩⟩⟩
/-- a if t else b, as a test -/
def tIfT (t u1 u2 : TT) : TT := fun σ H Q => t σ H fun c H1 => if c = true then u1 σ H1 Q else u2 σ H1 Q
theorem pt_ifExp {X : Cx} {c a b : Expr} {pos : Pos} {tA t1 t2 : TT} (hc : PT X c tA) (ha : PT X a t1) (hb : PT X b t2) : PT X (.IfExp c a b pos) (tIfT tA t1 t2) := by
  refine ⟨fun pins s σ H Q I h => ?_⟩
  refine isTrue_IfExp (thn (hc.run pins s σ H _ I h) fun d s1 ⟨H1, I1, q1⟩ => ?_)
  cases d with
  | true => exact ha.run pins s1 σ H1 Q I1 q1
  | false => exact hb.run pins s1 σ H1 Q I1 q1
theorem et_ifT {u1 u2 : TT} {b c : Bool} (h : EvT t σ H b) (h1 : b = true → EvT u1 σ H c) (h2 : b = false → EvT u2 σ H c) : EvT (tIfT t u1 u2) σ H c := fun H1 e Q q => h H1 e _ fun H2 e2 => by
  cases b with
  | true =>
    rw [if_pos rfl]
    exact h1 rfl H2 (e.trans e2) Q fun H3 e3 => q H3 (e2.trans e3)
  | false =>
    rw [if_neg Bool.false_ne_true]
    exact h2 rfl H2 (e.trans e2) Q fun H3 e3 => q H3 (e2.trans e3)
/-- a, b = a new tuple of two -/
theorem q_asg2U {i j : Nat} {v1 v2 : V} (h : EvU te σ H [v1, v2]) (k : ∀ H1, Ex H H1 → tz D ((σ.set i (some v1)).set j (some v2)) H1) : tSeq (tAsg te (gTup K 2 (gCons (gName i) (gCons (gName j) gNil)))) tz D σ H :=
  h H (Ex.refl H) _ fun p H1 hp e hl => ⟨p, [v1, v2], rfl, st_of hl, rfl, v1, [v2], rfl, v2, [], rfl, rfl, k H1 e⟩
/-! ### tests that hang on the dice, calls with a new tuple -/
def DvT (p : Addr) (t : TT) (σ : L2.St) (H : Hp) : Prop := ∀ H1, Exd p H H1 → Dice p H1 → ∀ Q : Bool → Hp → Prop, (∀ b H2, Exd p H1 H2 → Dice p H2 → Q b H2) → t σ H1 Q
def IntV (v : V) : Prop := ∃ n : Int, v = .int n
theorem dvt_eq {p : Addr} {k : Int} (h : Dv p ta σ H IntV) : DvT p (tTest (tOp rEq ta (tC (.int k)))) σ H := fun H1 e d Q q =>
  h H1 e d _ fun v H2 hv e2 d2 => by
    obtain ⟨n, rfl⟩ := hv
    exact ⟨rfl, _, rfl, q _ H2 e2 d2⟩
theorem dv_if {p : Addr} {R : V → Prop} (h : DvT p t σ H) (h1 : Dv p ta σ H R) (h2 : Dv p tb σ H R) : Dv p (tIf t ta tb) σ H R := fun H1 e d Q q =>
  h H1 e d _ fun b H2 e2 d2 => by
    cases b with
    | true =>
      rw [if_pos rfl]
      exact h1 H2 (e.trans e2) d2 Q fun v H3 r e3 d3 => q v H3 r (e2.trans e3) d3
    | false =>
      rw [if_neg Bool.false_ne_true]
      exact h2 H2 (e.trans e2) d2 Q fun v H3 r e3 d3 => q v H3 r (e2.trans e3) d3
theorem dv_op {p : Addr} {R1 R2' R : V → Prop} (h1 : Dv p ta σ H R1) (h2 : Dv p tb σ H R2') (hr : ∀ x y H1, R1 x → R2' y → ∃ z, RV r x y H1 z ∧ R z) : Dv p (tOp r ta tb) σ H R := fun H1 e d Q q =>
  h1 H1 e d _ fun x H2 hx e2 d2 => h2 H2 (e.trans e2) d2 _ fun y H3 hy e3 d3 => by
    obtain ⟨z, hz, rz⟩ := hr x y H3 hx hy
    exact hz H3 (Ex.refl H3) Q fun H4 e4 => q z H4 rz ((e2.trans e3).trans (Exd.of e4)) (d3.ex e4)
theorem dv_c {p : Addr} {R : V → Prop} (hr : R v) : Dv p (tC v) σ H R := dv_ev (fun H1 _ _ => ev_c) hr
theorem dv_var {p : Addr} {i : Nat} {R : V → Prop} (h : σ[i]? = some (some v)) (hr : R v) : Dv p (tVar i) σ H R := dv_ev (fun H1 _ _ => ev_var h) hr
theorem ev_callU {ok : List V → Hp → V → Prop} {E : XK} {xs : List V} (h1 : Ev ta σ H x) (h2 : EvU tb σ H xs) (ho : ∀ p H1, Ex H H1 → H1 p = some (.tup xs) → ok [x, .ref p] H1 z) : Ev (tCall (Pure ok) [] E (tCons ta (tCons tb tNil))) σ H z := fun H1 e Q q =>
  h1 H1 e _ fun H2 e2 => h2 H2 (e.trans e2) _ fun p H3 hp e3 h3 => ⟨z, ho p H3 ((e.trans e2).trans e3) h3, fun H4 e4 => q H4 ((e2.trans e3).trans e4)⟩
/-- a call that draws, whose last argument is a new list -/
theorem dv_pickL {ok : List V → Hp → Addr → (V → Prop) → Prop} {E : XK} {p : Addr} {R : V → Prop} {xs : List V} {i : Nat} (hs : σ[i]? = some (some (.ref p))) (h : ∀ H1, Exd p H H1 → Dice p H1 → EvL tb σ H1 xs) (ho : ∀ l H1, Exd p H H1 → Dice p H1 → l ≠ p → H1 l = some (.lst xs) → ok [.ref p, .ref l] H1 p R) :
    Dv p (tCall (Draws ok) [] E (tCons (tVar i) (tCons tb tNil))) σ H R := fun H1 e d Q q => ⟨.ref p, hs, h H1 e d H1 (Ex.refl H1) _ fun l H2 hl e2 h2 => ⟨p, R, ho l H2 (e.trans (Exd.of e2)) (d.ex e2) (d.ne hl) h2, d.ex e2, fun v H3 r e3 d3 => q v H3 r ((Exd.of e2).trans e3) d3⟩⟩
theorem q_asgDv {p : Addr} {i : Nat} {R : V → Prop} (h : Dv p te σ H R) (hd : Dice p H) (k : ∀ v H1, R v → Exd p H H1 → Dice p H1 → tz D (σ.set i (some v)) H1) : tSeq (tAsg te (gName i)) tz D σ H := h H (Exd.refl p H) hd _ fun v H1 r e1 d1 => k v H1 r e1 d1
theorem s_retDv {p : Addr} {R : V → Prop} (h : Dv p te σ H R) (hd : Dice p H) (k : ∀ v H1, R v → Exd p H H1 → Dice p H1 → D.rt v H1) : tRet te D σ H := h H (Exd.refl p H) hd _ fun v H1 r e1 d1 => k v H1 r e1 d1
theorem q_par {ts : TA} {i j : Nat} {v1 v2 : V} (h : EvA ts σ H [v1, v2]) (k : ∀ H1, Ex H H1 → tz D ((σ.set i (some v1)).set j (some v2)) H1) : tSeq (tPar i j ts) tz D σ H := h H (Ex.refl H) _ fun H1 e1 => ⟨v1, v2, rfl, k H1 e1⟩
theorem q_parDv {p : Addr} {i j : Nat} {R1 R2' : V → Prop} (h1 : Dv p ta σ H R1) (h2 : Dv p tb σ H R2') (hd : Dice p H) (k : ∀ v1 v2 H1, R1 v1 → R2' v2 → Exd p H H1 → Dice p H1 → tz D ((σ.set i (some v1)).set j (some v2)) H1) : tSeq (tPar i j (tCons ta (tCons tb tNil))) tz D σ H :=
  h1 H (Exd.refl p H) hd _ fun v1 H1 r1 e1 d1 => h2 H1 e1 d1 _ fun v2 H2 r2 e2 d2 => ⟨v1, v2, rfl, k v1 v2 H2 r1 r2 (e1.trans e2) d2⟩
/-! ### tests that are known, whatever the dice did -/
def DvF (p : Addr) (t : TT) (σ : L2.St) (H : Hp) (b : Bool) : Prop := ∀ H1, Exd p H H1 → Dice p H1 → ∀ Q : Bool → Hp → Prop, (∀ H2, Exd p H1 H2 → Dice p H2 → Q b H2) → t σ H1 Q
theorem dvf_et {p : Addr} {b : Bool} (h : ∀ H1, Exd p H H1 → Dice p H1 → EvT t σ H1 b) : DvF p t σ H b := fun H1 e d Q q => h H1 e d H1 (Ex.refl H1) Q fun H2 e2 => q H2 (Exd.of e2) (d.ex e2)
theorem dvf_or {p : Addr} {b : Bool} (h1 : DvF p t σ H false) (h2 : DvF p u σ H b) : DvF p (tOr t u) σ H b := fun H1 e d Q q => h1 H1 e d _ fun H2 e2 d2 => by
  rw [if_neg Bool.false_ne_true]
  exact h2 H2 (e.trans e2) d2 Q fun H3 e3 d3 => q H3 (e2.trans e3) d3
theorem dvf_not {p : Addr} {b : Bool} (h : DvF p t σ H b) : DvF p (tNot t) σ H (!b) := fun H1 e d Q q => h H1 e d _ fun H2 e2 d2 => q H2 e2 d2
theorem dvf_B {p : Addr} {b : Bool} (h : Dv p te σ H (fun v => v = .bl b)) : DvF p (tB te) σ H b := fun H1 e d Q q => h H1 e d _ fun v H2 hv e2 d2 => ⟨b, hv, q H2 e2 d2⟩
theorem q_whenF {p : Addr} (h : DvF p t σ H false) (hd : Dice p H) (k : ∀ H1, Exd p H H1 → Dice p H1 → tz D σ H1) : tSeq (tIfS t tu tNext) tz D σ H := h H (Exd.refl p H) hd _ fun H1 e1 d1 => by
  rw [if_neg Bool.false_ne_true]
  exact k H1 e1 d1
/-! ### tuples, whatever the dice did -/
def DvU (K : PySem.W.Frag) (p : Addr) (te : TE) (σ : L2.St) (H : Hp) (R : List V → Prop) : Prop := ∀ H1, Exd p H H1 → Dice p H1 → ∀ Q : VK, (∀ b xs H2, R xs → b ≠ p → Exd p H1 H2 → Dice p H2 → SqT K H2 b xs → Q (.ref b) H2) → te σ H1 Q
theorem Exd.tt {p a : Addr} {xs : List V} (e : Exd p H H') (n : a ≠ p) (h : SqT K H a xs) : SqT K H' a xs := by
  rcases h with (h | ⟨o, h⟩) | h
  · exact .inl (.inl (e _ _ n h))
  · exact .inl (.inr ⟨o, e _ _ n h⟩)
  · exact .inr h
theorem du_sl {p a : Addr} {i : Nat} {xs : List V} {lo hi : Option Int} {tl th : TO} (hs : σ[i]? = some (some (.ref a))) (hap : a ≠ p) (hT : SqT K H a xs) (hl : ∀ H1, EvO tl σ H1 lo) (hh : ∀ H1, EvO th σ H1 hi) (hc : HT.sIx xs.length 0 lo = 0 ∧ HT.sIx xs.length xs.length hi = xs.length → cutV xs lo hi = xs) :
    DvU K p (tSl (rSlA K) (tVar i) tl th) σ H (fun ys => ys = cutV xs lo hi) := fun H1 e d Q q => ⟨.ref a, hs, hl H1 H1 (Ex.refl H1) _ fun H2 e2 => hh H2 H2 (Ex.refl H2) _ fun H3 e3 => ⟨a, xs, rfl, ex_t (e2.trans e3) (e.tt hap hT),
  fun z => q a xs H3 (hc z).symm hap (Exd.of (e2.trans e3)) (d.ex (e2.trans e3)) (ex_t (e2.trans e3) (e.tt hap hT)),
  fun _ b hb => q b _ _ rfl ((d.ex (e2.trans e3)).ne hb) (Exd.of ((e2.trans e3).trans (Ex.new hb))) (d.ex ((e2.trans e3).trans (Ex.new hb))) (st_of upd_same)⟩⟩
theorem du_one {p : Addr} {R : V → Prop} (h : Dv p te σ H R) : DvU K p (tTup (tCons te tNil)) σ H (fun ys => ∃ v, ys = [v] ∧ R v) := fun H1 e d Q q => h H1 e d _ fun v H2 hv e2 d2 => ⟨by show 1 ≤ sizeLine; decide, fun b hb => q b [v] _ ⟨v, rfl, hv⟩ (d2.ne hb) (e2.trans (Exd.of (Ex.new hb))) (d2.ex (Ex.new hb)) (st_of upd_same)⟩
theorem du_cat {p : Addr} {R1 R2' R : List V → Prop} (h1 : DvU K p ta σ H R1) (h2 : DvU K p tb σ H R2') (hr : ∀ xs ys, R1 xs → R2' ys → R (xs ++ ys) ∧ xs.length + ys.length ≤ 100000) : DvU K p (tOp (rCatA K) ta tb) σ H R := fun H1 e d Q q =>
  h1 H1 e d _ fun a xs H2 hx ha e2 d2 h2x => h2 H2 (e.trans e2) d2 _ fun b ys H3 hy hb e3 d3 h3y => by
    obtain ⟨r1, r2⟩ := hr xs ys hx hy
    refine ⟨a, b, xs, ys, rfl, rfl, e3.tt ha h2x, h3y, sz_of r2, fun z => ?_, fun _ z => ?_, fun _ _ c hc => ?_⟩
    · subst z
      exact q b ys H3 r1 hb (e2.trans e3) d3 h3y
    · subst z
      rw [List.append_nil] at r1
      exact q a xs H3 r1 ha (e2.trans e3) d3 (e3.tt ha h2x)
    · exact q c _ _ r1 (d3.ne hc) ((e2.trans e3).trans (Exd.of (Ex.new hc))) (d3.ex (Ex.new hc)) (st_of upd_same)
theorem q_asgU2 {p : Addr} {i : Nat} {R : List V → Prop} (h : DvU K p te σ H R) (hd : Dice p H) (k : ∀ b xs H1, R xs → b ≠ p → Exd p H H1 → Dice p H1 → SqT K H1 b xs → tz D (σ.set i (some (.ref b))) H1) : tSeq (tAsg te (gName i)) tz D σ H := h H (Exd.refl p H) hd _ fun b xs H1 hx hb e1 d1 hT => k b xs H1 hx hb e1 d1 hT
def rTupL (K : PySem.W.Frag) : List V → Hp → VK → Prop := fun xs H Q => ∃ p ys, xs = [.ref p] ∧ SqL K H p ys ∧ ∀ l, H l = none → Q (.ref l) (upd H l (.tup ys))
theorem c_tupL {X : Cx} : CallR X (.type "tuple") (rTupL X.K) := callR_mono call_tuple_of fun vs H Q h => by
  obtain ⟨p, ys, e, hs, k⟩ := h
  exact ⟨p, ys, e, .inl ⟨hs, k⟩⟩
/-- [e for x in range(n)], each e drawn -/
theorem dl_lcR {p : Addr} {n j : Nat} {vs : List Nat} {R : V → Prop} {Q : VK} (hw : ∀ x, wipe ((wipe σ vs).set j (some x)) vs = wipe σ vs) (hn : n ≤ 1000) (he : ∀ i : Nat, i < n → Dv p te ((wipe σ vs).set j (some (.int (0 + (i : Int))))) H R) (hd : Dice p H)
    (k : ∀ l xs H2, (xs.length = n ∧ ∀ v ∈ xs, R v) → l ≠ p → Exd p H H2 → Dice p H2 → H2 l = some (.lst xs) → Q (.ref l) H2) : tLc (iRng1 (tCons (tC (.int n)) tNil)) (gName j) tYes te vs σ H Q :=
  ⟨n, rfl, by omega, by omega, fun Dl hD => by
    have hDp : Dl ≠ p := hd.ne hD
    rw [show ((n : Int).toNat) = n from Int.toNat_natCast n]
    refine lc_range (fun i H' => Exd p H H' ∧ Dice p H' ∧ ∃ acc, H' Dl = some (.lst acc) ∧ acc.length = i ∧ ∀ v ∈ acc, R v) ⟨Exd.of (Ex.new hD), hd.ex (Ex.new hD), [], upd_same, rfl, fun _ h => by cases h⟩ ?_ ?_
    · rintro i H' hi ⟨e', d', acc, hacc, hlen, hR⟩
      refine ⟨hw _, ?_⟩
      unfold tYes
      dsimp only
      rw [if_pos rfl]
      refine he i hi H' e' d' _ fun v H4 hv e4 d4 => ⟨acc, e4 _ _ hDp hacc, sz_lt (by omega), fun a o ha ho => ?_, ?_, acc ++ [v], upd_same, by rw [List.length_append, hlen]; rfl, fun x hx => ?_⟩
      · rw [upd_ne (ne_of_none ho hD)]
        exact e4 _ _ ha (e' _ _ ha ho)
      · obtain ⟨x, y, z, h⟩ := d4
        exact ⟨x, y, z, by rw [upd_ne (Ne.symm hDp)]; exact h⟩
      · rcases List.mem_append.mp hx with z | z
        · exact hR x z
        · rw [List.mem_singleton.mp z]; exact hv
    · rintro H' ⟨e', d', acc, hacc, hlen, hR⟩
      exact k Dl acc H' ⟨hlen, hR⟩ hDp e' d' hacc⟩
theorem du_tupLc {p : Addr} {n j : Nat} {vs : List Nat} {R : V → Prop} (hw : ∀ x, wipe ((wipe σ vs).set j (some x)) vs = wipe σ vs) (hn : n ≤ 1000) (he : ∀ i : Nat, i < n → Dv p te ((wipe σ vs).set j (some (.int (0 + (i : Int))))) H R) :
    DvU K p (tCB (rTupL K) (tCons (tLc (iRng1 (tCons (tC (.int n)) tNil)) (gName j) tYes te vs) tNil)) σ H (fun ys => ys.length = n ∧ ∀ v ∈ ys, R v) := fun H1 e d Q q =>
  dl_lcR (Q := fun x H2 => rTupL K [x] H2 Q) hw hn (fun i hi H2 e2 => he i hi H2 (e.trans e2)) d fun l xs H2 hx hl e2 d2 h2 => ⟨l, xs, rfl, sq_of h2, fun b hb => q b xs _ hx (d2.ne hb) (e2.trans (Exd.of (Ex.new hb))) (d2.ex (Ex.new hb)) (st_of upd_same)⟩
theorem q_parU {p : Addr} {i j : Nat} {R1 : V → Prop} {R2' : List V → Prop} (h1 : Dv p ta σ H R1) (h2 : DvU K p tb σ H R2') (hd : Dice p H) (k : ∀ v1 b xs H1, R1 v1 → R2' xs → b ≠ p → Exd p H H1 → Dice p H1 → SqT K H1 b xs → tz D ((σ.set i (some v1)).set j (some (.ref b))) H1) : tSeq (tPar i j (tCons ta (tCons tb tNil))) tz D σ H :=
  h1 H (Exd.refl p H) hd _ fun v1 H1 r1 e1 d1 => h2 H1 e1 d1 _ fun b xs H2 hx hb e2 d2 hT => ⟨v1, .ref b, rfl, k v1 b xs H2 r1 hx hb (e1.trans e2) d2 hT⟩
theorem s_retCallDv {p : Addr} {ok : List V → Hp → V → Prop} {E : XK} {R : V → Prop} {i j : Nat} {x1 x2 : V} (h1 : σ[i]? = some (some x1)) (h2 : σ[j]? = some (some x2)) (h3 : Dv p te σ H R) (hd : Dice p H) (k : ∀ v H1, R v → Exd p H H1 → Dice p H1 → ok [x1, x2, v] H1 z) (q : ∀ H1, Exd p H H1 → Dice p H1 → D.rt z H1) :
    tRet (tCall (Pure ok) [] E (tCons (tVar i) (tCons (tVar j) (tCons te tNil)))) D σ H := ⟨x1, h1, x2, h2, h3 H (Exd.refl p H) hd _ fun v H1 r e1 d1 => ⟨z, k v H1 r e1 d1, fun H2 e2 => q H2 (e1.trans (Exd.of e2)) (d1.ex e2)⟩⟩
theorem s_whenF {p : Addr} (h : DvF p t σ H false) (hd : Dice p H) (k : ∀ H1, Exd p H H1 → Dice p H1 → D.nx σ H1) : tIfS t tu tNext D σ H := h H (Exd.refl p H) hd _ fun H1 e1 d1 => by
  rw [if_neg Bool.false_ne_true]
  exact k H1 e1 d1
/-- what the dice did is nothing to a heap that has not got them -/
theorem Exd.out {p : Addr} {H0 : Hp} (e : Exd p H H') (e0 : Ex H0 H) (h : H0 p = Option.none) : Ex H0 H' := fun a o ho => e a o (fun z => by rw [z, h] at ho; cases ho) (e0 a o ho)
theorem dpa_ints : ∀ ns : List Int, DpAll K H (ns.map V.int) (ns.map PyData.int)
  | [] => .nil
  | n :: ns => .cons (.int n) (dpa_ints ns)
theorem evd_ints {ns : List Int} (h : EvL te σ H (ns.map V.int)) : EvD K te σ H (.list (ns.map PyData.int)) := fun H1 e Q q => h H1 e Q fun p H2 _ e2 h2 => q _ H2 e2 (.lst (sq_of h2) (dpa_ints ns))
end
end Vr
set_option Elab.async false
set_option linter.all false
set_option maxRecDepth 100000
set_option maxHeartbeats 4000000
namespace Tx
open PySem PySem.Builtin.Str PySem.StrLaws
/-! texts as lists of signs -/
abbrev S (l : List Nat) : Str := ⟨l.toArray⟩
theorem S_toList (l : List Nat) : (S l).cps.toList = l := rfl
theorem S_of (z : Str) : S z.cps.toList = z := by cases z; rfl
theorem S_len (l : List Nat) : (S l).length = l.length := by simp [Str.length]
theorem S_app (a b : List Nat) : S a ++ S b = S (a ++ b) := by
  apply Str.ext'
  simp [Str.cps_append]
theorem S_inj {a b : List Nat} (h : S a = S b) : a = b := by
  have := congrArg (fun z : Str => z.cps.toList) h
  exact this
def splitL (c : Nat) : List Nat → List (List Nat)
  | [] => [[]]
  | x :: xs => if x = c then [] :: splitL c xs else match splitL c xs with
    | [] => [[x]]
    | p :: ps => (x :: p) :: ps
def joinL (c : Nat) : List (List Nat) → List Nat
  | [] => []
  | [p] => p
  | p :: q :: r => p ++ c :: joinL c (q :: r)
theorem splitL_ne (c : Nat) : ∀ xs, ∃ p ps, splitL c xs = p :: ps
  | [] => ⟨[], [], rfl⟩
  | x :: xs => by
    obtain ⟨p, ps, h⟩ := splitL_ne c xs
    by_cases hx : x = c
    · exact ⟨[], splitL c xs, by show (if x = c then _ else _) = _; rw [if_pos hx]⟩
    · exact ⟨x :: p, ps, by show (if x = c then _ else _) = _; rw [if_neg hx, h]⟩
theorem splitL_hit {c x : Nat} {xs : List Nat} (h : x = c) : splitL c (x :: xs) = [] :: splitL c xs := by
  show (if x = c then _ else _) = _
  rw [if_pos h]
theorem splitL_miss {c x : Nat} {xs p : List Nat} {ps : List (List Nat)} (h : x ≠ c) (e : splitL c xs = p :: ps) : splitL c (x :: xs) = (x :: p) :: ps := by
  show (if x = c then _ else _) = _
  rw [if_neg h, e]
theorem joinL_cons {c : Nat} {p : List Nat} {ps : List (List Nat)} (h : ps ≠ []) : joinL c (p :: ps) = p ++ c :: joinL c ps := by
  cases ps with
  | nil => exact absurd rfl h
  | cons q r => rfl
theorem join_splitL (c : Nat) : ∀ xs, joinL c (splitL c xs) = xs
  | [] => rfl
  | x :: xs => by
    obtain ⟨p, ps, h⟩ := splitL_ne c xs
    have ih := join_splitL c xs
    by_cases hx : x = c
    · rw [splitL_hit hx, joinL_cons (by rw [h]; simp), ih, hx]
      rfl
    · rw [splitL_miss hx h]
      rw [h] at ih
      cases ps with
      | nil => show x :: p = x :: xs; rw [show p = xs from ih]
      | cons q r =>
        show x :: (p ++ c :: joinL c (q :: r)) = _
        rw [show p ++ c :: joinL c (q :: r) = xs from ih]
theorem splitL_no (c : Nat) : ∀ xs, ∀ p ∈ splitL c xs, c ∉ p
  | [], p, h => by
    rw [List.mem_singleton.mp h]
    simp
  | x :: xs, p, h => by
    have ih := splitL_no c xs
    obtain ⟨q, qs, e⟩ := splitL_ne c xs
    by_cases hx : x = c
    · rw [splitL_hit hx] at h
      rcases List.mem_cons.mp h with rfl | h
      · simp
      · exact ih p h
    · rw [splitL_miss hx e] at h
      rcases List.mem_cons.mp h with rfl | h
      · have := ih q (by rw [e]; exact List.mem_cons_self ..)
        simp only [List.mem_cons, not_or]
        exact ⟨fun z => hx z.symm, this⟩
      · exact ih p (by rw [e]; exact List.mem_cons_of_mem _ h)
theorem splitL_part {c : Nat} : ∀ {p rest : List Nat}, c ∉ p → splitL c (p ++ c :: rest) = p :: splitL c rest
  | [], rest, _ => splitL_hit rfl
  | x :: p, rest, h => by
    have h' : x ≠ c ∧ c ∉ p := ⟨fun z => h (by rw [z]; exact List.mem_cons_self ..), fun z => h (List.mem_cons_of_mem _ z)⟩
    exact splitL_miss h'.1 (splitL_part h'.2)
theorem splitL_one {c : Nat} : ∀ {p : List Nat}, c ∉ p → splitL c p = [p]
  | [], _ => rfl
  | x :: p, h => splitL_miss (fun z => h (by rw [z]; exact List.mem_cons_self ..)) (splitL_one fun z => h (List.mem_cons_of_mem _ z))
theorem split_joinL {c : Nat} : ∀ {ps : List (List Nat)}, ps ≠ [] → (∀ p ∈ ps, c ∉ p) → splitL c (joinL c ps) = ps
  | [], h, _ => absurd rfl h
  | [p], _, h => splitL_one (h p (List.mem_cons_self ..))
  | p :: q :: r, _, h => by
    show splitL c (p ++ c :: joinL c (q :: r)) = _
    rw [splitL_part (h p (List.mem_cons_self ..)), split_joinL (by simp) fun x hx => h x (List.mem_cons_of_mem _ hx)]
theorem splitL_infix (c : Nat) : ∀ xs, ∀ p ∈ splitL c xs, p <:+: xs := fun xs p hp => by
  have key : ∀ ps : List (List Nat), ∀ p ∈ ps, p <:+: joinL c ps := by
    intro ps
    induction ps with
    | nil => intro p h; cases h
    | cons q r ih =>
      intro p h
      cases r with
      | nil =>
        rw [List.mem_singleton.mp h]
        exact List.infix_refl _
      | cons q2 r =>
        show p <:+: q ++ c :: joinL c (q2 :: r)
        rcases List.mem_cons.mp h with rfl | h
        · exact ⟨[], c :: joinL c (q2 :: r), by simp⟩
        · obtain ⟨a, b, e⟩ := ih p h
          exact ⟨q ++ c :: a, b, by rw [← e]; simp⟩
  have := key _ p hp
  rwa [join_splitL] at this
theorem splitL_length (c : Nat) : ∀ xs, (splitL c xs).length ≤ xs.length + 1
  | [] => Nat.le_refl _
  | x :: xs => by
    have ih := splitL_length c xs
    obtain ⟨q, qs, e⟩ := splitL_ne c xs
    by_cases hx : x = c
    · rw [splitL_hit hx, List.length_cons, List.length_cons]; omega
    · rw [splitL_miss hx e]
      rw [e] at ih
      simp only [List.length_cons] at ih ⊢
      omega
/-! the model's split by one sign -/
def posL (c : Nat) : Nat → List Nat → List Nat
  | _, [] => []
  | k, x :: xs => if x = c then k :: posL c (k + 1) xs else posL c (k + 1) xs
theorem subAt1 {l : List Nat} {c k : Nat} {x : Nat} {xs : List Nat} (h : l.drop k = x :: xs) : subAt (S l) (S [c]) k = decide (x = c) := by
  rw [subAt_eq]
  show ((l.drop k).take 1 == [c]) = _
  rw [h]
  by_cases hx : x = c
  · subst hx; simp
  · simp [hx]
theorem occ_go (l : List Nat) (c : Nat) : ∀ (xs : List Nat) (k : Nat) (acc : Array Nat) (free : Nat), l.drop k = xs → k + xs.length = l.length → free ≤ k → acc.size ≤ k →
    (forIn (List.range' k (xs.length + 1)) (acc, free) (occBody (S l) (S [c]) l.length (l.length + 1))).run.fst.toList = acc.toList ++ posL c k xs
  | [], k, acc, free, h, hk, hf, ha => by
    rw [List.range'_succ, List.forIn_cons]
    unfold occBody
    rw [if_neg (fun z => by
      have z2 : k + (S [c]).length ≤ l.length := z.1.2
      rw [S_len] at z2
      have : k = l.length := by simpa using hk
      simp only [List.length_cons, List.length_nil] at z2
      omega)]
    show _ = acc.toList ++ []
    rw [List.append_nil]
    rfl
  | x :: xs, k, acc, free, h, hk, hf, ha => by
    have hs := subAt1 (c := c) h
    have h1 : l.drop (k + 1) = xs := by rw [← List.drop_drop, h]; rfl
    have h2 : k + 1 + xs.length = l.length := by rw [List.length_cons] at hk; omega
    have h3 : k + 1 ≤ l.length := by omega
    rw [List.length_cons, List.range'_succ, List.forIn_cons]
    by_cases hx : x = c
    · have e : occBody (S l) (S [c]) l.length (l.length + 1) k (acc, free) = pure (ForInStep.yield (acc.push k, k + 1)) := by
        unfold occBody
        rw [if_pos ⟨⟨⟨by show acc.size < l.length + 1; omega, hf⟩, by rw [S_len]; exact h3⟩, by rw [hs, decide_eq_true hx]⟩, S_len]
        rfl
      rw [e]
      refine Eq.trans (b := (forIn (m := Id) (List.range' (k + 1) (xs.length + 1)) (acc.push k, k + 1) (occBody (S l) (S [c]) l.length (l.length + 1))).run.fst.toList) rfl ?_
      rw [occ_go l c xs (k + 1) (acc.push k) (k + 1) h1 h2 (Nat.le_refl _) (by rw [Array.size_push]; omega), Array.toList_push]
      show _ = acc.toList ++ (if x = c then _ else _)
      rw [if_pos hx, List.append_assoc]
      rfl
    · have e : occBody (S l) (S [c]) l.length (l.length + 1) k (acc, free) = pure (ForInStep.yield (acc, free)) := by
        unfold occBody
        rw [if_neg (fun z => by rw [hs, decide_eq_false hx] at z; exact absurd z.2 (by simp))]
      rw [e]
      refine Eq.trans (b := (forIn (m := Id) (List.range' (k + 1) (xs.length + 1)) (acc, free) (occBody (S l) (S [c]) l.length (l.length + 1))).run.fst.toList) rfl ?_
      rw [occ_go l c xs (k + 1) acc free h1 h2 (by omega) (by omega)]
      show _ = acc.toList ++ (if x = c then _ else _)
      rw [if_neg hx]
theorem occ_one (l : List Nat) (c : Nat) : occurrences (S l) (S [c]) 0 (S l).length ((S l).length + 1) = posL c 0 l := by
  rw [occ_eq, S_len]
  have := occ_go l c l 0 #[] 0 rfl (by simp) (Nat.le_refl _) (Nat.le_refl _)
  simpa using this
theorem sub_S (l : List Nat) (a b : Nat) : strSub (S l) a b = S ((l.drop a).take (b - a)) := by
  apply Str.ext'
  apply Array.toList_inj.mp
  rw [strSub_toList]
theorem parts_go (l : List Nat) (c : Nat) : ∀ (xs : List Nat) (a k : Nat) (p : List Nat) (ps : List (List Nat)), l.drop k = xs → a ≤ k → k + xs.length = l.length → splitL c xs = p :: ps →
    partsFrom (S l) 1 a (posL c k xs) = S ((l.drop a).take (k - a) ++ p) :: ps.map S
  | [], a, k, p, ps, h, ha, hk, hs => by
    have e : splitL c [] = [[]] := rfl
    rw [e] at hs
    cases hs
    show [strSub (S l) a (S l).length] = _
    rw [sub_S, S_len, List.append_nil]
    have : k = l.length := by simpa using hk
    rw [this]
    rfl
  | x :: xs, a, k, p, ps, h, ha, hk, hs => by
    have h1 : l.drop (k + 1) = xs := by rw [← List.drop_drop, h]; rfl
    have h2 : k + 1 + xs.length = l.length := by rw [List.length_cons] at hk; omega
    obtain ⟨q, qs, e⟩ := splitL_ne c xs
    by_cases hx : x = c
    · rw [splitL_hit hx] at hs
      cases hs
      show partsFrom (S l) 1 a (if x = c then k :: posL c (k + 1) xs else _) = _
      rw [if_pos hx]
      show strSub (S l) a k :: partsFrom (S l) 1 (k + 1) (posL c (k + 1) xs) = _
      rw [parts_go l c xs (k + 1) (k + 1) q qs h1 (Nat.le_refl _) h2 e, sub_S, List.append_nil, e, Nat.sub_self]
      simp
    · rw [splitL_miss hx e] at hs
      cases hs
      show partsFrom (S l) 1 a (if x = c then _ else posL c (k + 1) xs) = _
      rw [if_neg hx, parts_go l c xs a (k + 1) q ps h1 (by omega) h2 e]
      congr 2
      have e1 : k + 1 - a = (k - a) + 1 := by omega
      have e2 : (l.drop a).drop (k - a) = x :: xs := by rw [List.drop_drop, ← h]; congr 1; omega
      rw [e1, List.take_add_one]
      have e3 : (l.drop a)[k - a]? = some x := by
        have := congrArg (fun z => z[0]?) e2
        simpa using this
      rw [e3]
      simp
theorem kind_small {c : Nat} (h : c < 256) (x : Str) : decide (Builtin.Str.strKind x < Builtin.Str.strKind (S [c])) = false := by
  have e : Builtin.Str.strKind (S [c]) = 1 := by
    unfold Builtin.Str.strKind
    rw [if_pos (by simp [S, h])]
  rw [e]
  refine decide_eq_false fun z => ?_
  unfold Builtin.Str.strKind at z
  split at z
  · omega
  · split at z <;> omega
theorem split_S {c : Nat} (hc : c < 256) (l : List Nat) : Txt.split (S l) (S [c]) = (splitL c l).map S := by
  obtain ⟨p, ps, e⟩ := splitL_ne c l
  have hp := parts_go l c l 0 0 p ps rfl (Nat.le_refl _) (by simp) e
  unfold Txt.split
  rw [kind_small hc, occ_one, partsBetween_eq]
  split
  · rename_i h
    have h0 : l.length < 1 := by simpa [S_len] using h
    have : l = [] := List.length_eq_zero_iff.mp (by omega)
    subst this
    rfl
  · have e1 : (S [c]).length = 1 := S_len _
    split
    · rename_i h
      have h0 : posL c 0 l = [] := by simpa using h
      rw [h0] at hp
      have h2 : partsFrom (S l) 1 0 [] = [S l] := by
        show [strSub (S l) 0 (S l).length] = _
        rw [sub_whole]
      rw [h2] at hp
      rw [hp, e]
      simp
    · rw [e1, hp, e]
      simp
theorem glued_S (c : List Nat) : ∀ ps : List (List Nat), Txt.join (S c) (ps.map S) = S (match ps with | [] => [] | p :: r => r.foldl (fun acc q => acc ++ c ++ q) p) := by
  intro ps
  show glued _ _ = _
  unfold glued
  cases ps with
  | nil => rfl
  | cons p r =>
    show (⟨((r.map S).foldl (fun acc q => acc ++ (S c).cps ++ q.cps) (S p).cps)⟩ : Str) = _
    apply Str.ext'
    show (r.map S).foldl (fun acc q => acc ++ (S c).cps ++ q.cps) p.toArray = (r.foldl (fun acc q => acc ++ c ++ q) p).toArray
    induction r generalizing p with
    | nil => rfl
    | cons q r ih =>
      rw [List.map_cons, List.foldl_cons, List.foldl_cons]
      have : p.toArray ++ (S c).cps ++ (S q).cps = (p ++ c ++ q).toArray := by simp
      rw [this]
      exact ih (p ++ c ++ q)
theorem fold_joinL (c : Nat) : ∀ (r : List (List Nat)) (p : List Nat), r.foldl (fun acc q => acc ++ [c] ++ q) p = joinL c (p :: r)
  | [], p => rfl
  | q :: r, p => by
    rw [List.foldl_cons, fold_joinL c r (p ++ [c] ++ q)]
    cases r with
    | nil => show p ++ [c] ++ q = p ++ c :: q; simp
    | cons q2 r =>
      show (p ++ [c] ++ q) ++ c :: joinL c (q2 :: r) = p ++ c :: (q ++ c :: joinL c (q2 :: r))
      simp
theorem join_S (c : Nat) (ps : List (List Nat)) : Txt.join (S [c]) (ps.map S) = S (joinL c ps) := by
  rw [glued_S]
  cases ps with
  | nil => rfl
  | cons p r => exact congrArg S (fold_joinL c r p)
end Tx
set_option Elab.async false
set_option linter.all false
set_option maxRecDepth 100000
set_option maxHeartbeats 4000000
namespace En
open PySem PySem.Spec PyProof.Rows L2 Evl Vr
theorem meets_newT (l : Addr) (items : Array Value) :
    Meets (Builtin.«enumerate.__new__» ⟨[.type "enumerate", .ref l], []⟩) (fun _ R s => s.heap.IsTuple l items ∧
      R (.ok (.ret (.ref (s.heap.push { cls := .type "tuple_iterator", data := .fields #[.ref l, .int 0 0] }).objs.size)))
        { s with heap := (s.heap.push { cls := .type "tuple_iterator", data := .fields #[.ref l, .int 0 0] }).push { cls := .type "enumerate", data := .fields #[.none, .bool false, .ref s.heap.objs.size, rawInt 0, .none, .none] } }) :=
  .of_wp fun prog w A R s h => by
    obtain ⟨hp, g, d, tk, os⟩ := s; obtain ⟨hl, h⟩ := h
    have hsub := sub_enumerate
    have q1 : ∀ {A' : Around} {E : Value → Shared → Prop} {Q : Value → Shared → Prop}, Q (.ref hp.objs.size) ⟨hp.push { cls := .type "tuple_iterator", data := .fields #[.ref l, .int 0 0] }, g, d, tk, os⟩ → wpAny (model prog w) A' (pyIter (.ref l)) Q E ⟨hp, g, d, tk, os⟩ :=
      fun q => wpAny_pyIter_tuple (s := ⟨hp, g, d, tk, os⟩) hl q
    wp_walk using q1
    refine wpAny_stack_any fun st => wpAny_pure ?_
    split
    · rename_i c _ _ _ _ _
      cases (c == Value.type "enumerate")
      · wp_walk using q1
        exact ⟨_, rfl, h⟩
      · wp_walk using q1
        exact ⟨_, rfl, h⟩
    · wp_walk using q1
      exact ⟨_, rfl, h⟩
theorem call_enumT {prog : Program} {w : World} {A : Around} {E : Value → Shared → Prop} {s : Shared} {l : Addr} {items : Array Value} {Q : Value → Shared → Prop} (hL : s.heap.IsTuple l items)
    (h : ∀ h', IsEnum h' (s.heap.objs.size + 1) s.heap.objs.size 0 .none → h'.IsTupleIter s.heap.objs.size l 0 → h'.objs.size = s.heap.objs.size + 2 →
      (∀ b o, s.heap.get? b = some o → h'.get? b = some o) → Q (.ref (s.heap.objs.size + 1)) { s with heap := h' }) :
    wpAny (model prog w) A (call (.type "enumerate") [.ref l]) Q E s := by
  refine callType_new F.called_enumerate (by decide) (F.typeCall_enumerate_1 _) (F.newCall_enumerate_1 _) (fun obj => F.args_object_init_2 obj _) F.entry_enumerate_new
    (meets_newT l items) ⟨hL, ?_⟩
  have hz : (s.heap.push { cls := .type "tuple_iterator", data := .fields #[.ref l, .int 0 0] }).objs.size = s.heap.objs.size + 1 := Heap.size_push ..
  show _ ∧ _
  rw [hz]
  have he : IsEnum ((s.heap.push { cls := .type "tuple_iterator", data := .fields #[.ref l, .int 0 0] }).push
      { cls := .type "enumerate", data := .fields #[.none, .bool false, .ref s.heap.objs.size, rawInt 0, .none, .none] }) (s.heap.objs.size + 1) s.heap.objs.size 0 .none := by
    have := Heap.get?_push_size (s.heap.push { cls := .type "tuple_iterator", data := .fields #[.ref l, .int 0 0] })
      (o := { cls := .type "enumerate", data := .fields #[.none, .bool false, .ref s.heap.objs.size, rawInt 0, .none, .none] }) rfl
    rw [hz] at this; exact this
  refine ⟨⟨_, he, rfl⟩, h _ he ⟨_, Heap.get?_push_of_some _ (Heap.get?_push_size _ rfl), rfl, rfl⟩ (by rw [Heap.size_push, hz]) fun b o x => Heap.get?_push_of_some _ (Heap.get?_push_of_some _ x)⟩
/-- the tuple at a, each item in a new pair -/
def IteT (K : PySem.W.Frag) (a : Addr) : It :=
  ⟨fun i H => ∃ (xs : List V) (x : V), SqT K H a xs ∧ xs[i]? = some x, fun i H v H' => ∃ T x, v = .ref T ∧ H T = none ∧ H' = upd H T (.tup [.int (i : Nat), x]) ∧ ∀ xs, SqT K H a xs → xs[i]? = some x, fun i H => ∃ xs : List V, SqT K H a xs ∧ xs.length ≤ i⟩
theorem turn_enumT {P : Program} {w : World} {K : PySem.W.Frag} {elts : List Expr} {kk : Nat} {tpos : Pos} (a e it : Addr) :
    Turn P w K (.Tuple elts kk tpos) (IteT K a) [e, it] e (fun i h => (∃ old, IsEnum h e it ((i : Nat) : Int) old) ∧ h.IsTupleIter it a i ∧ e ≠ it) where
  mem := by simp
  obj := fun i h st b hb => by
    obtain ⟨⟨old, he⟩, ⟨o, ho, hc, hd⟩, _⟩ := st
    have e' : b = e ∨ b = it := by simpa using hb
    rcases e' with z | z
    · rw [z]; exact ⟨_, he, fun v q => nomatch q⟩
    · rw [z]; exact ⟨o, ho, fun v q => by rw [hd] at q; cases q⟩
  keep := fun i h h' st k => let ⟨⟨old, he⟩, hi, hne⟩ := st; ⟨⟨old, k e (by simp) _ he⟩, hi.at fun o q => k it (by simp) o q, hne⟩
  item := by
    intro X hP hw hK hc i pins s σ H E I hf st hg
    subst hP hw hK
    obtain ⟨⟨old, he⟩, hit, hne⟩ := st
    obtain ⟨xs, x, hq, hx⟩ := hg
    obtain ⟨its, rv, p, hz⟩ := I.tuple hq
    have p : s.heap.IsTuple a its.toArray := p
    obtain ⟨u, hu, ru⟩ := rv.get hx
    have hel : e < s.heap.objs.size := Heap.lt_size he
    have hil : it < s.heap.objs.size := by obtain ⟨_, q, _⟩ := hit; exact Heap.lt_size q
    have hai : a ≠ it := by
      intro z
      obtain ⟨o, ho, hc1, _⟩ := hit
      obtain ⟨o2, ho2, hc2, _⟩ := p
      rw [z, ho] at ho2
      cases ho2
      rw [hc1] at hc2
      exact absurd hc2 (by decide)
    have hae : e ≠ a := by
      intro z
      obtain ⟨o2, ho2, hc2, _⟩ := p
      have he' : s.heap.get? e = _ := he
      rw [z, ho2] at he'
      cases he'
      exact absurd (show Value.type "enumerate" = Value.type "tuple" from hc2) (by decide)
    have hh : X.A.handled = none := I.ok.hd hc
    have Dr := Draws.tuple (prog := X.prog) (w := X.w) (A := X.A.in1) (by simp [hh]) it a hai its.toArray
    have hlt : i < its.toArray.size := by
      have := (List.getElem?_eq_some_iff.mp hu).1
      simpa using this
    refine wpAny_pyNext_enum_itemD Dr he ⟨hit, p⟩ hlt hne (by simp [hne, hae]) fun x' h' tk hPx ho hit' hT hsz hk => ?_
    have hxu : x' = u := by
      have h1 : its[i]? = some x' := by simpa using hPx
      rw [hu] at h1
      exact (Option.some.inj h1).symm
    subst hxu
    obtain ⟨hit', _⟩ := hit'
    refine ⟨_, rfl, wpAny_letOwnedTupleGo_enum (s := { s with heap := h', toks := tk + 1 }) ho fun h'' he' sb => ?_⟩
    have hT2 : h''.get? s.heap.objs.size = some { cls := .type "tuple", data := .seq #[.int i tk, x'] } := (sb.2 _ (Nat.ne_of_gt hel)).trans hT
    have new : ObjOk X.prog X.w (upd H s.heap.objs.size (.tup [.int (i : Nat), x])) h'' s.heap.objs.size (.tup [.int (i : Nat), x]) :=
      ⟨by show 2 ≤ sizeLine; decide, [.int i tk, x'], .cons ⟨_, rfl⟩ (.cons ru .nil), ⟨_, hT2, rfl, _, rfl⟩⟩
    have I1 : Inv X pins σ (upd H s.heap.objs.size (.tup [.int (i : Nat), x])) { s with heap := h'', toks := tk + 1 } :=
      I.turnedNew (ch := [e, it]) (fun b ob hb q => (sb.2 b (fun z => hb (by simp [z]))).trans (hk b ob (fun z => hb (by simp [z])) (fun z => hb (by simp [z])) q)) hf (Nat.le_refl _) new
    refine ⟨.ref s.heap.objs.size, _, I1, rfl, ⟨_, x, rfl, I.hok.fresh (Nat.le_refl _), rfl, fun ys hy => by rw [I.tuple_inj hy hq]; exact hx⟩, ⟨⟨x', ?_⟩, hit'.at fun o q => (sb.2 it (Ne.symm hne)).trans q, hne⟩, fun b hb => ?_⟩
    · have e1 : ((i + 1 : Nat) : Int) = (i : Int) + 1 := by omega
      rw [e1]; exact he'
    · have hb' : b < s.heap.objs.size := by
        have e' : b = e ∨ b = it := by simpa using hb
        rcases e' with z | z
        · rw [z]; exact hel
        · rw [z]; exact hil
      rw [upd_ne (Nat.ne_of_lt hb')]
      exact (hf b hb).1
  done := by
    intro X hP hw hK hc i pins s σ H E I hf st hg
    subst hP hw hK
    obtain ⟨⟨old, he⟩, hit, hne⟩ := st
    obtain ⟨xs, hq, hx⟩ := hg
    obtain ⟨its, rv, p, hz⟩ := I.tuple hq
    have p : s.heap.IsTuple a its.toArray := p
    obtain ⟨f0, f1, f2, f3, f4, f5⟩ := hf it (by simp)
    have hl := rv.length
    have hT : s.TypeIs (.ref e) "enumerate" := ⟨_, he, rfl⟩
    have hh : X.A.handled = none := I.ok.hd hc
    unfold pyNext
    refine wpAny_bind (wpAny_attempt (wpAny_callSpecial?_slot (name := Str.ofString "__next__") hT F.slot_enumerate_next
      (wpAny_call_entry F.slot_enumerate_next hT F.entry_enumerate_next ?_ (F.args_enumerate_next_1 _))))
    show wpAny _ _ (field (.ref e) 2 >>= _) _ _ _
    refine wpAny_bind (wpAny_field he rfl (x := .ref it) rfl ?_)
    refine wpAny_bind (wpAny_nextOf_tuple_end (by simp [hh]) hit p (by simp; omega) fun h' x he' hx' => ?_)
    obtain ⟨o, ho, hc⟩ := hx'
    refine wpAny_bind (wpAny_isInstance (T := "StopIteration") (b := true) ⟨o, ho, hc⟩ isSubtype_stop ?_)
    exact wpAny_pure ⟨rfl, I.turned (t' := s.toks) (fun b o hb q => he' b o hb q) f0 f1 f3 f4 f5⟩
  self := fun A i s Q E st h => let ⟨⟨_, he⟩, _⟩ := st; wpAny_pyIter_enum he h
def iEnumT (K : PySem.W.Frag) (ta : TA) : TI := fun σ H R => ta σ H fun vs H1 => ∃ a xs, vs = [.ref a] ∧ SqT K H1 a xs ∧ R (IteT K a) H1
theorem pi_enumT {X : Cx} {e : Expr} {ta : TA} {p pos tpos : Pos} {elts : List Expr} {kk : Nat} (hg : Gl X "enumerate") (hm : X.mg "enumerate" = none) (ha : PA X [e] ta) (hs : starEach [e] X.env = [(false, eval e X.env)] := by rfl) :
    PI X (.Tuple elts kk tpos) (.Call (.Name "enumerate" p) [e] [] pos) (iEnumT X.K ta) := by
  refine ⟨fun pins s σ H R I h => ?_⟩
  refine Call_ (ld_blt I hg hm boot_enumerate (PyProof.Rows.callWith_type1 (thn (ha.run pos pins s σ H _ I h) fun us s1 ⟨vs, H1, I1, r1, q1⟩ => ?_) hs rfl))
  obtain ⟨a, xs, ex, hq, q⟩ := q1
  subst ex
  cases r1 with
  | cons r rr =>
    cases rr
    cases r
    obtain ⟨its, rv, p', hz⟩ := I1.tuple hq
    have p' : s1.heap.IsTuple a its.toArray := p'
    refine call_enumT p' fun h' he hit hsz hk => wpAny_pyIter_enum he ?_
    have I2 : Inv X pins σ H1 { s1 with heap := h' } := I1.kept (t' := s1.toks) hk
    refine ⟨s1.heap.objs.size + 1, [s1.heap.objs.size + 1, s1.heap.objs.size], _, _, H1, rfl, I2, turn_enumT a (s1.heap.objs.size + 1) s1.heap.objs.size, ⟨⟨.none, he⟩, hit, Nat.succ_ne_self _⟩, fun b hb => ?_, q⟩
    have e' : b = s1.heap.objs.size + 1 ∨ b = s1.heap.objs.size := by simpa using hb
    have hle : s1.heap.objs.size ≤ b := by
      rcases e' with z | z
      · rw [z]; exact Nat.le_add_right _ _
      · rw [z]; exact Nat.le_refl _
    exact I1.fpOk hle (I1.hok.fresh hle)
theorem walk_enumT {K : PySem.W.Frag} {a : Addr} {xs : List V} : Walk (IteT K a) xs.length (fun H => SqT K H a xs) (YPair (fun i => some (.int (i : Nat))) (fun i => xs[i]?)) := by
  refine ⟨fun i _ hi q => ⟨xs, xs[i], q, by simp [hi]⟩, fun _ q => ⟨xs, q, Nat.le_refl _⟩, fun i H v H' _ q y => ?_⟩
  obtain ⟨T, x, h1, h2, h3, h4⟩ := y
  exact ⟨T, .int (i : Nat), x, h1, h2, h3, rfl, h4 xs q⟩
/-- [e for i, x in enumerate(tuple) if t] -/
theorem el_lcEnumT {σ : L2.St} {H : Hp} {te : TE} {t : TT} {K : PySem.W.Frag} {a : Addr} {xs : List V} {ta : TA} {j l : Nat} {vs : List Nat} (f : Nat → Bool) (v : Nat → V) (h : EvA ta σ H [.ref a]) (hx : SqT K H a xs) (hz : xs.length ≤ 40000)
    (hw : ∀ x y, wipe (((wipe σ vs).set j (some x)).set l (some y)) vs = wipe σ vs)
    (ht : ∀ (i : Nat) (x : V) H1, Ex H H1 → xs[i]? = some x → EvT t (((wipe σ vs).set j (some (.int (i : Nat)))).set l (some x)) H1 (f i)) (he : ∀ (i : Nat) (x : V) H1, Ex H H1 → xs[i]? = some x → f i = true → Ev te (((wipe σ vs).set j (some (.int (i : Nat)))).set l (some x)) H1 (v i)) :
    EvL (tLc (iEnumT K ta) (gTup K 2 (gCons (gName j) (gCons (gName l) gNil))) t te vs) σ H (given xs.length f v) := fun H0 e Q q => h H0 e _ fun H1 e1 => ⟨a, xs, rfl, ex_t (e.trans e1) hx, fun Dl hD =>
  lc_it walk_enumT (Cw H1 f v Dl) ⟨hD, Ex.new hD, upd_same⟩ (fun i H' _ p => ex_t ((e.trans e1).trans p.2.1) hx) (fun i x H' H'' hi p y => by
    obtain ⟨T, y1, y2, rfl, hT, rfl, h3, h4⟩ := y
    have h3 : y1 = .int (i : Nat) := (Option.some.inj h3).symm
    subst h3
    have eT : Ex H' (upd H' T (.tup [.int (i : Nat), y2])) := Ex.new hT
    refine ⟨T, [.int (i : Nat), y2], rfl, st_of upd_same, rfl, .int (i : Nat), [y2], rfl, y2, [], rfl, rfl, hw _ _, ?_⟩
    have p' : Cw H1 f v Dl i (upd H' T (.tup [.int (i : Nat), y2])) := ⟨p.1, p.2.1.trans eT, eT _ _ p.2.2⟩
    exact cw_turn p' (by omega) (ht i y2 H1 (e.trans e1) h4) (fun hf => he i y2 H1 (e.trans e1) h4 hf))
    (fun H' p => q Dl H' (fresh_back e1 p.1) (e1.trans p.2.1) p.2.2)⟩
end En
set_option Elab.async false
set_option linter.all false
set_option maxRecDepth 100000
set_option maxHeartbeats 4000000
namespace Wo
open PySem PySem.Spec PyProof.Rows L2 Evl Vr En
section
variable {X : Cx} {CX : CXT} {n f C : Addr} {fd : FuncData} {ps : List Str} {sp : Sp} {E : XK} {pins : List (Addr × Obj)} {σ : L2.St} {H : Hp} {s : Shared} {us : List Value} {vs : List V} {Q : VK}
theorem ix_tupK {X : Cx} {K : PySem.W.Frag} (h : X.K = K) : IxR X (rIxT K) := by subst h; exact ix_tup
theorem ix_listK {X : Cx} {K : PySem.W.Frag} (h : X.K = K) : IxR X (rIxL K) := by subst h; exact ix_list
/-- a def called from somewhere below the body -/
theorem call_sub {A : Around} {k : Nat} (sb : Sub X k A) (F : FnOk X.prog X.w X.K X.mg X.base CX k f fd ps sp) (hb : Binds X.K fd ps []) (hx : Passes CX X E) (I : Inv X pins σ H s) (r : Vals vs us) (h : sp vs H Q E) :
    wpAny (model X.prog X.w) A (call (.ref f) us) (EP X pins σ Q) X.xe s := by
  have e0 : Env0 X.prog X.w X.K X.mg X.base A X.stack s H := by
    have e := I.env0
    exact ⟨by rw [sb.fr]; exact e.frames, e.mod, e.bs, e.bsz, e.funs, e.frf, e.hok, e.bare⟩
  have hl := F.len _ _ _ _ h
  have hb' : BindsTo s fd ⟨us, []⟩ (ps.zip us) := by
    have := hb s us I.kIn (by rw [List.append_nil, ← r.length]; exact hl)
    simpa using this
  refine wpAny_call (codeAny_mono (F.run A X.stack s H ⟨us, []⟩ us vs Q E sb.room e0 hb' r h) fun r s' hq => ?_)
  cases r with
  | error e => exact hx pins σ H s e s' I hq
  | ok fl =>
    cases fl with
    | ret u => exact I.after hq
    | next => exact False.elim hq
    | brk => exact False.elim hq
    | cont => exact False.elim hq
/-- the bool that comes back -/
def backB (Q : VK) : VK := fun v H' => ∃ b, v = .bl b ∧ Q (.bl b) H'
def backN (Q : VK) : VK := fun v H' => ∃ b, v = .bl b ∧ Q (.bl (!b)) H'
/-- x in o, o's class with its own __contains__ -/
def rInO (C : Addr) (sp : Sp) (E : XK) : R2 := fun x y H Q => ∃ a dx fs, y = .ref a ∧ H a = some (.ins C dx fs) ∧ sp [.ref a, x] H (backB Q) E
def rNiO (C : Addr) (sp : Sp) (E : XK) : R2 := fun x y H Q => ∃ a dx fs, y = .ref a ∧ H a = some (.ins C dx fs) ∧ sp [.ref a, x] H (backN Q) E
theorem op_inO {k : Nat} (F : FnOk X.prog X.w X.K X.mg X.base CX k f fd ps sp) (hr : Room k X.A) (M : Meth X.K C "__contains__" f) (hb : Binds X.K fd ps []) (hx : Passes CX X E) : OpR X (compareOp .In) (rInO C sp E) := by
  intro pins s σ H x y v u Q I rx ry h
  obtain ⟨a, dx, fs, rfl, ha, h⟩ := h
  cases ry
  obtain ⟨mA, J, _⟩ := ins_get I.hok ha
  obtain ⟨od, J, _⟩ := J.look
  obtain ⟨m, hF⟩ := I.fr
  refine PySem.W.in_K hF I.ok.mod.kin J M.at_ M.fn ?_
  refine wpAny_mono (call_sub (vs := [.ref a, x]) ⟨hr, rfl⟩ F hb hx I (.cons rfl (.cons rx .nil)) h) (fun r s' z => ?_) fun _ _ z => z
  obtain ⟨w, H', I', rw', b, rfl, q⟩ := z
  cases rw'
  exact wpAny_truthy_bool ⟨.bl b, H', I', rfl, q⟩
theorem op_niO {k : Nat} (F : FnOk X.prog X.w X.K X.mg X.base CX k f fd ps sp) (hr : Room k X.A) (M : Meth X.K C "__contains__" f) (hb : Binds X.K fd ps []) (hx : Passes CX X E) : OpR X (compareOp .NotIn) (rNiO C sp E) := by
  intro pins s σ H x y v u Q I rx ry h
  obtain ⟨a, dx, fs, rfl, ha, h⟩ := h
  cases ry
  obtain ⟨mA, J, _⟩ := ins_get I.hok ha
  obtain ⟨od, J, _⟩ := J.look
  obtain ⟨m, hF⟩ := I.fr
  refine PySem.W.notIn_K hF I.ok.mod.kin J M.at_ M.fn ?_
  refine wpAny_mono (call_sub (vs := [.ref a, x]) ⟨hr, rfl⟩ F hb hx I (.cons rfl (.cons rx .nil)) h) (fun r s' z => ?_) fun _ _ z => z
  obtain ⟨w, H', I', rw', b, rfl, q⟩ := z
  cases rw'
  exact wpAny_truthy_bool ⟨.bl (!b), H', I', rfl, q⟩
/-- len(o) -/
def rLenO (C : Addr) (sp : Sp) (E : XK) : List V → Hp → VK → Prop := fun xs H Q => ∃ a dx fs, xs = [.ref a] ∧ H a = some (.ins C dx fs) ∧ sp [.ref a] H (fun v H' => ∃ n : Int, v = .int n ∧ 0 ≤ n ∧ n < 2 ^ 63 ∧ Q (.int n) H') E
theorem c_lenO {k : Nat} (F : FnOk X.prog X.w X.K X.mg X.base CX k f fd ps sp) (hr : Room (k + 1) X.A) (M : Meth X.K C "__len__" f) (hb : Binds X.K fd ps []) (hx : Passes CX X E) : CallR X (.builtin "len") (rLenO C sp E) := by
  intro pins s σ H xs us Q I r h
  obtain ⟨a, dx, fs, rfl, ha, h⟩ := h
  rw [Vals.ref1 r]
  obtain ⟨mA, J, _⟩ := ins_get I.hok ha
  obtain ⟨od, J, _⟩ := J.look
  obtain ⟨m, hF⟩ := I.fr
  refine PySem.W.len_K hF I.ok.mod.kin J M.at_ M.fn ?_
  have hs : Sub X k X.A.in1 := Sub.in1 ⟨hr, rfl⟩
  refine wpAny_mono (call_sub (vs := [.ref a]) hs F hb hx I (.cons rfl .nil) h) (fun r s' z => ?_) fun _ _ z => z
  obtain ⟨w, H', I', rw', n, rfl, h0, h1, q⟩ := z
  obtain ⟨t, rfl⟩ := rw'
  exact ⟨⟨h0, h1⟩, .int n, H', I'.tok _, ⟨_, rfl⟩, q⟩
end
section
variable {σ : L2.St} {H : Hp} {te ta tb to : TE} {ts tr : TA} {K : PySem.W.Frag} {a C dx : Addr} {fs : List (Str × V)} {f : Str} {v z x : V}
theorem ev_fld (h : Ev ta σ H (.ref a)) (ho : H a = some (.ins C dx fs)) (c : Cls K C) (n : NoAttr K C f) (l : fs.lookup f = some v) : Ev (tFld K ta f) σ H v := fun H1 e Q q =>
  h H1 e _ fun H2 e2 => ⟨a, C, dx, fs, v, rfl, (e.trans e2) _ _ ho, c, n, l, q H2 e2⟩
theorem ev_methP {m : Str} {ok : List V → Hp → V → Prop} {E : XK} {vs : List V} (h : Ev to σ H (.ref a)) (ho : H a = some (.ins C dx fs)) (hl : fs.lookup m = none) (ha : EvA ts σ H vs) (hok : ∀ H1, Ex H H1 → ok (.ref a :: vs) H1 z) : Ev (tMeth C m (Pure ok) [] E to ts) σ H z := fun H1 e Q q =>
  h H1 e _ fun H2 e2 => ⟨a, dx, fs, rfl, (e.trans e2) _ _ ho, hl, ha H2 (e.trans e2) _ fun H3 e3 => by
    rw [List.append_nil]
    exact ⟨z, hok H3 ((e.trans e2).trans e3), fun H4 e4 => q H4 ((e2.trans e3).trans e4)⟩⟩
theorem rv_inO {ok : List V → Hp → V → Prop} {E : XK} {b : Bool} (ho : H a = some (.ins C dx fs)) (hok : ∀ H1, Ex H H1 → ok [.ref a, x] H1 (.bl b)) : RV (rInO C (Pure ok) E) x (.ref a) H (.bl b) := fun H1 e Q q =>
  ⟨a, dx, fs, rfl, e _ _ ho, .bl b, hok H1 e, fun H2 e2 => ⟨b, rfl, q H2 e2⟩⟩
theorem rv_niO {ok : List V → Hp → V → Prop} {E : XK} {b : Bool} (ho : H a = some (.ins C dx fs)) (hok : ∀ H1, Ex H H1 → ok [.ref a, x] H1 (.bl b)) : RV (rNiO C (Pure ok) E) x (.ref a) H (.bl (!b)) := fun H1 e Q q =>
  ⟨a, dx, fs, rfl, e _ _ ho, .bl b, hok H1 e, fun H2 e2 => ⟨b, rfl, q H2 e2⟩⟩
theorem rc_lenO {ok : List V → Hp → V → Prop} {E : XK} {n : Int} (ho : H a = some (.ins C dx fs)) (h0 : 0 ≤ n) (h1 : n < 2 ^ 63) (hok : ∀ H1, Ex H H1 → ok [.ref a] H1 (.int n)) : RC (rLenO C (Pure ok) E) [.ref a] H (.int n) := fun H1 e Q q =>
  ⟨a, dx, fs, rfl, e _ _ ho, .int n, hok H1 e, fun H2 e2 => ⟨n, rfl, h0, h1, q H2 e2⟩⟩
end
end Wo
set_option Elab.async false
set_option linter.all false
set_option maxRecDepth 100000
set_option maxHeartbeats 4000000
namespace Wo
open PySem PySem.Spec PyProof.Rows L2 Evl Vr En
section
variable {σ : L2.St} {H H' : Hp} {te ta tb tc tn to : TE} {t : TT} {tr ts tk : TA} {tz tu : TS} {D : Ends} {K : PySem.W.Frag} {w : World} {x y z v : V} {g : TG}
def Tupd (ok : List V → Hp → List V → Prop) : Sp := fun vs H Q _ => ∃ xs, ok vs H xs ∧ ∀ p H', H p = none → Ex H H' → H' p = some (.tup xs) → Q (.ref p) H'
theorem eu_callT {ok : List V → Hp → List V → Prop} {E : XK} {ts : TA} {vs xs : List V} (h : EvA ts σ H vs) (ho : ∀ H1, Ex H H1 → ok vs H1 xs) : EvU (tCall (Tupd ok) [] E ts) σ H xs := fun H1 e Q q =>
  h H1 e _ fun H2 e2 => by
    show Tupd ok (vs ++ []) H2 Q E
    rw [List.append_nil]
    exact ⟨xs, ho H2 (e.trans e2), fun p H3 hp e3 h3 => q p H3 (fresh_back e2 hp) (e2.trans e3) h3⟩
theorem q_asg2T {i j : Nat} {p : Addr} {v1 v2 : V} (h : Ev te σ H (.ref p)) (hT : SqT K H p [v1, v2]) (k : ∀ H1, Ex H H1 → tz D ((σ.set i (some v1)).set j (some v2)) H1) : tSeq (tAsg te (gTup K 2 (gCons (gName i) (gCons (gName j) gNil)))) tz D σ H :=
  h H (Ex.refl H) _ fun H1 e => ⟨p, [v1, v2], rfl, ex_t e hT, rfl, v1, [v2], rfl, v2, [], rfl, rfl, k H1 e⟩
theorem q_asg4T {i j l m : Nat} {p : Addr} {v1 v2 v3 v4 : V} (h : Ev te σ H (.ref p)) (hT : SqT K H p [v1, v2, v3, v4]) (k : ∀ H1, Ex H H1 → tz D ((((σ.set i (some v1)).set j (some v2)).set l (some v3)).set m (some v4)) H1) : tSeq (tAsg te (gTup K 4 (gCons (gName i) (gCons (gName j) (gCons (gName l) (gCons (gName m) gNil)))))) tz D σ H :=
  h H (Ex.refl H) _ fun H1 e => ⟨p, [v1, v2, v3, v4], rfl, ex_t e hT, rfl, v1, _, rfl, v2, _, rfl, v3, _, rfl, v4, [], rfl, rfl, k H1 e⟩
def Lstd (ok : List V → Hp → List V → Prop) : Sp := fun vs H Q _ => ∃ xs, ok vs H xs ∧ ∀ p H', H p = none → Ex H H' → H' p = some (.lst xs) → Q (.ref p) H'
theorem el_callL {ok : List V → Hp → List V → Prop} {E : XK} {ts : TA} {vs xs : List V} (h : EvA ts σ H vs) (ho : ∀ H1, Ex H H1 → ok vs H1 xs) : EvL (tCall (Lstd ok) [] E ts) σ H xs := fun H1 e Q q =>
  h H1 e _ fun H2 e2 => by
    show Lstd ok (vs ++ []) H2 Q E
    rw [List.append_nil]
    exact ⟨xs, ho H2 (e.trans e2), fun p H3 hp e3 h3 => q p H3 (fresh_back e2 hp) (e2.trans e3) h3⟩
theorem eu_if {b : Bool} {xs : List V} (h : EvT t σ H b) (h1 : b = true → EvU ta σ H xs) (h2 : b = false → EvU tb σ H xs) : EvU (tIf t ta tb) σ H xs := fun H1 e Q q => h H1 e _ fun H2 e2 => by
  match b with
  | true =>
    rw [if_pos rfl]
    exact h1 rfl H2 (e.trans e2) Q fun p H3 hp e3 h3 => q p H3 (fresh_back e2 hp) (e2.trans e3) h3
  | false =>
    rw [if_neg Bool.false_ne_true]
    exact h2 rfl H2 (e.trans e2) Q fun p H3 hp e3 h3 => q p H3 (fresh_back e2 hp) (e2.trans e3) h3
theorem ea_starL {xs ys : List V} (h : EvL te σ H xs) (hr : ∀ H1, Ex H H1 → EvA tr σ H1 ys) : EvA (StX.tStar K te tr) σ H (xs ++ ys) := fun H1 e Q q =>
  h H1 e _ fun p H2 hp e2 h2 => ⟨p, xs, rfl, .inr (sq_of h2), hr H2 (e.trans e2) H2 (Ex.refl H2) _ fun H3 e3 => q H3 (e2.trans e3)⟩
theorem given_int (l : List Int) (g : Int → Bool) : given l.length (fun i => g (l.getD i 0)) (fun i => V.int (l.getD i 0)) = (l.filter g).map V.int := by
  unfold given
  have e : (List.range l.length).map (fun i => l.getD i 0) = l := by
    apply List.ext_getElem
    · simp
    · intro i h1 h2
      simp [List.getD_eq_getElem?_getD, List.getElem?_eq_getElem h2]
  conv => rhs; rw [← e, List.filter_map, List.map_map]
  rfl
theorem ev_callT {ok : List V → Hp → V → Prop} {E : XK} {xs vs : List V} (h1 : EvU ta σ H xs) (h2 : ∀ H1, Ex H H1 → EvA tr σ H1 vs) (ho : ∀ p H1, Ex H H1 → H1 p = some (.tup xs) → ok (.ref p :: vs) H1 z) : Ev (tCall (Pure ok) [] E (tCons ta tr)) σ H z := fun H1 e Q q =>
  h1 H1 e _ fun p H2 hp e2 hx => h2 H2 (e.trans e2) H2 (Ex.refl H2) _ fun H3 e3 => by
    show Pure ok ((.ref p :: vs) ++ []) H3 Q E
    rw [List.append_nil]
    exact ⟨z, ho p H3 ((e.trans e2).trans e3) (e3 _ _ hx), fun H4 e4 => q H4 ((e2.trans e3).trans e4)⟩
theorem ev_anyN {bs : List Bool} (ha : EvL ta σ H (bs.map V.bl)) : Ev (tCB (rAny K) (tCons ta tNil)) σ H (.bl (bs.any id)) := fun H1 e Q q =>
  ha H1 e _ fun p H2 _ e2 h2 => ⟨p, bs, rfl, sq_of h2, q H2 e2⟩
theorem ev_minN {ns : List Int} {m : Int} (ha : EvL ta σ H (ns.map V.int)) (hm : m ∈ ns) (hl : ∀ y ∈ ns, m ≤ y) : Ev (tCB (rMin K) (tCons ta tNil)) σ H (.int m) := fun H1 e Q q =>
  ha H1 e _ fun p H2 _ e2 h2 => ⟨p, ns, rfl, sq_of h2, List.length_pos_of_mem hm, fun m' h1 h3 => by
    have e4 : m' = m := Int.le_antisymm (h3 m hm) (hl m' h1)
    rw [e4]
    exact q H2 e2⟩
theorem el_lcT {a : Addr} {xs : List V} {tl : TE} {j : Nat} {vs : List Nat} (f : Nat → Bool) (v : Nat → V) (h : Ev tl σ H (.ref a)) (hx : SqT K H a xs) (hz : xs.length ≤ 40000) (hw : ∀ x, wipe ((wipe σ vs).set j (some x)) vs = wipe σ vs)
    (ht : ∀ (i : Nat) (x : V) H1, Ex H H1 → xs[i]? = some x → EvT t ((wipe σ vs).set j (some x)) H1 (f i)) (he : ∀ (i : Nat) (x : V) H1, Ex H H1 → xs[i]? = some x → f i = true → Ev te ((wipe σ vs).set j (some x)) H1 (v i)) :
    EvL (tLc (iTup K tl) (gName j) t te vs) σ H (given xs.length f v) := fun H0 e Q q => h H0 e _ fun H1 e1 => ⟨a, rfl, ⟨xs, ex_t (e.trans e1) hx⟩, fun Dl hD =>
  lc_tup (xs := xs) (Cw H1 f v Dl) ⟨hD, Ex.new hD, upd_same⟩ (fun i H' _ p => ex_t ((e.trans e1).trans p.2.1) hx) (fun i x H' hi p => ⟨hw x, cw_turn p (by have := (List.getElem?_eq_some_iff.mp hi).1; omega) (ht i x H1 (e.trans e1) hi) (fun hf => he i x H1 (e.trans e1) hi hf)⟩)
    (fun H' p => q Dl H' (fresh_back e1 p.1) (e1.trans p.2.1) p.2.2)⟩
theorem given_yes_map {α : Type} (l : List α) (d : α) (g : α → V) : given l.length (fun _ => true) (fun i => g (l.getD i d)) = l.map g := by
  unfold given
  rw [List.filter_eq_self.mpr (fun _ _ => rfl)]
  apply List.ext_getElem
  · simp
  · intro i h1 h2
    have h3 : i < l.length := by simpa using h2
    simp [List.getD_eq_getElem?_getD, List.getElem?_eq_getElem h3]
theorem rc_isiTup {a : Addr} {xs : List V} (h : SqT K H a xs) : RC (rIsi K) [.ref a, .ty "tuple"] H (.bl true) := fun H1 e Q q => by
  have ht : TyX K H1 (.ref a) (.type "tuple") := by
    rcases ex_t e h with h | ⟨o, its, n, h1, h2, _⟩
    · rcases h with h | ⟨d, h⟩
      · exact .base (.tup h)
      · exact .fTuple h
    · exact .kTuple h1 h2
  exact ⟨_, .ty "tuple", .type "tuple", .type "tuple", true, rfl, .ty _, ht, kit_ty (r := true) (by decide +kernel), q H1 (Ex.refl H1)⟩
theorem rc_lenT {a : Addr} {xs : List V} (h : SqT K H a xs) : RC (rLenS K) [.ref a] H (.int (xs.length : Int)) := fun H1 e _ q => ⟨a, xs, rfl, .inr (ex_t e h), q H1 (Ex.refl H1)⟩
theorem within_ok {lo hi n : Int} (h : lo ≤ n ∧ n ≤ hi) (hl : -1000000000 ≤ lo) (hh : hi ≤ 1000000000) : isWithin lo hi (.int n) = true := by
  unfold isWithin isIntV
  simp only [Bool.and_eq_true, decide_eq_true_eq]
  omega
theorem ev_allN {bs : List Bool} (ha : EvL ta σ H (bs.map V.bl)) : Ev (tCB (rAll K) (tCons ta tNil)) σ H (.bl (bs.all id)) := fun H1 e Q q =>
  ha H1 e _ fun p H2 _ e2 h2 => ⟨p, bs, rfl, sq_of h2, q H2 e2⟩
theorem ev_callVT {ok : List V → Hp → V → Prop} {E : XK} {x : V} {xs vs : List V} (h0 : Ev ta σ H x) (h1 : EvU tb σ H xs) (h2 : ∀ H1, Ex H H1 → EvA tr σ H1 vs) (ho : ∀ p H1, Ex H H1 → H1 p = some (.tup xs) → ok (x :: .ref p :: vs) H1 z) : Ev (tCall (Pure ok) [] E (tCons ta (tCons tb tr))) σ H z := fun H0 e0 Q q =>
  h0 H0 e0 _ fun H1 e1 => h1 H1 (e0.trans e1) _ fun p H2 hp e2 hx => h2 H2 ((e0.trans e1).trans e2) H2 (Ex.refl H2) _ fun H3 e3 => by
    show Pure ok ((x :: .ref p :: vs) ++ []) H3 Q E
    rw [List.append_nil]
    exact ⟨z, ho p H3 (((e0.trans e1).trans e2).trans e3) (e3 _ _ hx), fun H4 e4 => q H4 (((e1.trans e2).trans e3).trans e4)⟩
theorem given_filter {α : Type} (l : List α) (d : α) (g : α → Bool) (h : α → V) : given l.length (fun i => g (l.getD i d)) (fun i => h (l.getD i d)) = (l.filter g).map h := by
  unfold given
  have e : (List.range l.length).map (fun i => l.getD i d) = l := by
    apply List.ext_getElem
    · simp
    · intro i h1 h2
      simp [List.getD_eq_getElem?_getD, List.getElem?_eq_getElem h2]
  conv => rhs; rw [← e, List.filter_map, List.map_map]
  rfl
theorem lay_ints : ∀ ns : List Int, PyData.canLayAll0 (ns.map PyData.int) = true ∧ PyData.depthAll (ns.map PyData.int) = 0
  | [] => ⟨rfl, rfl⟩
  | n :: ns => by
    have h := lay_ints ns
    refine ⟨?_, ?_⟩
    · show (true && PyData.canLayAll0 (ns.map PyData.int)) = true
      rw [h.1]
      rfl
    · show max 0 (PyData.depthAll (ns.map PyData.int)) = 0
      rw [h.2]
      rfl
theorem shaped_ints (ns : List Int) : SeqAt.shaped (.list (ns.map PyData.int)) = true := by
  have h := lay_ints ns
  show (PyData.canLayAll0 (ns.map PyData.int) && decide (PyData.depthAll (ns.map PyData.int) + 1 ≤ 64)) = true
  rw [h.1, h.2]
  rfl
def DrawsT (ok : List V → Hp → Addr → (List V → Prop) → Prop) : Sp := fun vs H Q _ => ∃ p R, ok vs H p R ∧ Dice p H ∧ ∀ a xs H', R xs → a ≠ p → Exd p H H' → Dice p H' → H' a = some (.tup xs) → Q (.ref a) H'
theorem du_callT {ok : List V → Hp → Addr → (List V → Prop) → Prop} {E : XK} {ts : TA} {p : Addr} {R : List V → Prop} {vs : List V} (h : ∀ H1, Exd p H H1 → Dice p H1 → EvA ts σ H1 vs) (ho : ∀ H1, Exd p H H1 → Dice p H1 → ok vs H1 p R) : DvU K p (tCall (DrawsT ok) [] E ts) σ H R := fun H1 e d Q q =>
  h H1 e d H1 (Ex.refl H1) _ fun H2 e2 => by
    show DrawsT ok (vs ++ []) H2 Q E
    rw [List.append_nil]
    exact ⟨p, R, ho H2 (e.trans (Exd.of e2)) (d.ex e2), d.ex e2, fun a xs H3 hx ha e3 d3 h3 => q a xs H3 hx ha ((Exd.of e2).trans e3) d3 (st_of h3)⟩
theorem s_retT {p : Addr} {ts : TA} {R : List V → Prop} (h : DvA p ts σ H R) (hd : Dice p H) (hl : ∀ xs, R xs → xs.length ≤ 100000) (k : ∀ a xs H1, R xs → a ≠ p → Exd p H H1 → Dice p H1 → H1 a = some (.tup xs) → D.rt (.ref a) H1) : tRet (tTup ts) D σ H :=
  h H (Exd.refl p H) hd _ fun xs H1 hx e1 d1 => ⟨sz_of (hl xs hx), fun a ha => k a xs _ hx (d1.ne ha) (e1.trans (Exd.of (Ex.new ha))) (d1.ex (Ex.new ha)) upd_same⟩
theorem da_nil0 {p : Addr} : DvA p tNil σ H (fun vs => vs = []) := fun H1 e d Q q => q [] H1 rfl (Exd.refl p H1) d
theorem da_cons2 {p : Addr} {R1 : V → Prop} {R2' : List V → Prop} (h : Dv p te σ H R1) (hr : DvA p tr σ H R2') : DvA p (tCons te tr) σ H (fun vs => ∃ v ws, vs = v :: ws ∧ R1 v ∧ R2' ws) := fun H1 e d Q q =>
  h H1 e d _ fun v H2 r e2 d2 => hr H2 (e.trans e2) d2 _ fun ws H3 rs e3 d3 => q (v :: ws) H3 ⟨v, ws, rfl, r, rs⟩ (e2.trans e3) d3
theorem q_asgLc {p : Addr} {n i j : Nat} {vs : List Nat} {R : V → Prop} {tz : TS} (hw : ∀ x, wipe ((wipe σ vs).set j (some x)) vs = wipe σ vs) (hn : n ≤ 1000) (he : ∀ k : Nat, k < n → Dv p te ((wipe σ vs).set j (some (.int (0 + (k : Int))))) H R) (hd : Dice p H)
    (k : ∀ l xs H2, (xs.length = n ∧ ∀ v ∈ xs, R v) → l ≠ p → Exd p H H2 → Dice p H2 → H2 l = some (.lst xs) → tz D (σ.set i (some (.ref l))) H2) : tSeq (tAsg (tLc (iRng1 (tCons (tC (.int n)) tNil)) (gName j) tYes te vs) (gName i)) tz D σ H := dl_lcR (Q := fun v H2 => tz D (σ.set i (some v)) H2) hw hn he hd k
def reprV : V → Str
  | .int i => toString i
  | .bl b => if b then "True" else "False"
  | _ => "None"
def reprOk : V → Prop
  | .int i => i.natAbs.log2 < 1920
  | .bl _ => True
  | .non => True
  | _ => False
def rReprA : List V → Hp → VK → Prop := fun xs H Q => ∃ x, xs = [x] ∧ reprOk x ∧ Q (.str (reprV x)) H
theorem c_reprA {X : Cx} : CallR X (.builtin "repr") rReprA := by
  intro pins s σ H xs us Q I r h
  obtain ⟨x, rfl, hz, q⟩ := h
  match x, hz with
  | .int i, hz => 
    obtain ⟨u, rfl, t, rfl⟩ := vals1 r
    exact PySem.P.repr_of_int hz ⟨.str _, H, I.tok _, ⟨_, rfl⟩, q⟩
  | .bl b, _ =>
    obtain ⟨u, rfl, rfl⟩ := vals1 r
    exact PySem.P.repr_of_bool ⟨.str _, H, I.tok _, ⟨_, rfl⟩, q⟩
  | .non, _ =>
    obtain ⟨u, rfl, rfl⟩ := vals1 r
    exact PySem.P.repr_of_none ⟨.str _, H, I.tok _, ⟨_, rfl⟩, q⟩
theorem rc_reprA (h : reprOk x) : RC rReprA [x] H (.str (reprV x)) := fun H1 _ _ q => ⟨x, rfl, h, q H1 (Ex.refl H1)⟩
theorem el_cat {xs ys : List V} (h1 : EvL ta σ H xs) (h2 : EvL tb σ H ys) (hz : xs.length + ys.length ≤ 100000) : EvL (tOp rCat ta tb) σ H (xs ++ ys) := fun H1 e Q q =>
  h1 H1 e _ fun p H2 hp e2 hx => h2 H2 (e.trans e2) _ fun r H3 hr e3 hy => ⟨p, r, xs, ys, rfl, rfl, e3 _ _ hx, hy, sz_of hz, fun l hl =>
    q l _ (fresh_back (e2.trans e3) hl) ((e2.trans e3).trans (Ex.new hl)) upd_same⟩
theorem q_asg2UU {tz : TS} {i j : Nat} {xs ys : List V} (h1 : EvU ta σ H xs) (h2 : EvU tb σ H ys) (k : ∀ p r H1, H p = none → H r = none → Ex H H1 → H1 p = some (.tup xs) → H1 r = some (.tup ys) → tz D ((σ.set i (some (.ref p))).set j (some (.ref r))) H1) :
    tSeq (tAsg (tTup (tCons ta (tCons tb tNil))) (gTup K 2 (gCons (gName i) (gCons (gName j) gNil)))) tz D σ H :=
  h1 H (Ex.refl H) _ fun p H1 hp e1 hx => h2 H1 e1 _ fun r H2 hr e2 hy => ⟨by show 2 ≤ sizeLine; decide, fun t ht => ⟨t, [.ref p, .ref r], rfl, st_of upd_same, rfl, .ref p, [.ref r], rfl, .ref r, [], rfl, rfl,
    k p r _ hp (fresh_back e1 hr) ((e1.trans e2).trans (Ex.new ht)) (Ex.new ht _ _ (e2 _ _ hx)) (Ex.new ht _ _ hy)⟩⟩
theorem q_parUU {tz : TS} {i j : Nat} {xs ys : List V} (h1 : EvU ta σ H xs) (h2 : EvU tb σ H ys) (k : ∀ p r H1, H p = none → H r = none → Ex H H1 → H1 p = some (.tup xs) → H1 r = some (.tup ys) → tz D ((σ.set i (some (.ref p))).set j (some (.ref r))) H1) : tSeq (tPar i j (tCons ta (tCons tb tNil))) tz D σ H :=
  h1 H (Ex.refl H) _ fun p H1 hp e1 hx => h2 H1 e1 _ fun r H2 hr e2 hy => ⟨.ref p, .ref r, rfl, k p r H2 hp (fresh_back e1 hr) (e1.trans e2) (e2 _ _ hx) hy⟩
theorem bool_iff {a b : Bool} (h : a = true ↔ b = true) : a = b := by
  cases a <;> cases b <;> simp_all
theorem s_forDv {p : Addr} {R : List V → Prop} (h : DvA p ts σ H R) (hd : Dice p H) (hz : ∀ xs, R xs → xs.length ≤ 100000) (Pv : Addr → List V → Nat → L2.St → Hp → Prop) (h0 : ∀ t xs H1, R xs → t ≠ p → Exd p H H1 → Dice p H1 → H1 t = some (.tup xs) → Pv t xs 0 σ H1)
    (hl : ∀ t xs i σ' H', i ≤ xs.length → Pv t xs i σ' H' → SqT K H' t xs) (hs : ∀ t xs i x σ' H', R xs → xs[i]? = some x → Pv t xs i σ' H' → g x σ' H' fun σ2 H2 => tu { D with nx := Pv t xs (i + 1), ct := Pv t xs (i + 1), bk := D.nx } σ2 H2) (hd2 : ∀ t xs σ' H', Pv t xs xs.length σ' H' → D.nx σ' H') : tFor (iTup K (tTup ts)) g tu D σ H :=
  h H (Exd.refl p H) hd _ fun xs H1 hx e1 d1 => ⟨sz_of (hz xs hx), fun t ht => ⟨t, rfl, ⟨xs, st_of upd_same⟩, for_tup (Pv t xs) (h0 t xs _ hx (d1.ne ht) (e1.trans (Exd.of (Ex.new ht))) (d1.ex (Ex.new ht)) upd_same) (hl t xs) (fun i x σ' H' hi p' => hs t xs i x σ' H' hx hi p') (hd2 t xs)⟩⟩
theorem q_same {x : V} : (!decide (x = x)) = false := by simp
theorem shaped_tup (ns : List Int) : SeqAt.shaped (.tuple (ns.map PyData.int)) = true := by
  have h := lay_ints ns
  show (PyData.canLayAll0 (ns.map PyData.int) && decide (PyData.depthAll (ns.map PyData.int) + 1 ≤ 64)) = true
  rw [h.1, h.2]
  rfl
theorem eqv_ints : ∀ ns : List Int, PyData.eqvAll (ns.map PyData.int) (ns.map PyData.int) = true
  | [] => rfl
  | n :: ns => by
    show ((n == n) && PyData.eqvAll (ns.map PyData.int) (ns.map PyData.int)) = true
    rw [eqv_ints ns]
    simp
theorem eqv_tup (ns : List Int) : PyData.eqv (.tuple (ns.map PyData.int)) (.tuple (ns.map PyData.int)) = true := eqv_ints ns
theorem evd_intsU {ns : List Int} (h : EvU te σ H (ns.map V.int)) : EvD K te σ H (.tuple (ns.map PyData.int)) := fun H1 e Q q => h H1 e Q fun p H2 _ e2 h2 => q _ H2 e2 (.tup (st_of h2) (dpa_ints ns))
theorem evd_intsT {a : Addr} {ns : List Int} (h : Ev te σ H (.ref a)) (hT : SqT K H a (ns.map V.int)) : EvD K te σ H (.tuple (ns.map PyData.int)) := fun H1 e Q q => h H1 e Q fun H2 e2 => q _ H2 e2 (.tup (ex_t (e.trans e2) hT) (dpa_ints ns))
def DvN (p : Addr) (te : TE) (σ : L2.St) (H : Hp) (R : List V → Prop) : Prop := ∀ H1, Exd p H H1 → Dice p H1 → ∀ Q : VK, (∀ b xs H2, R xs → b ≠ p → Exd p H1 H2 → Dice p H2 → H2 b = some (.tup xs) → Q (.ref b) H2) → te σ H1 Q
theorem dn_callT {ok : List V → Hp → Addr → (List V → Prop) → Prop} {E : XK} {ts : TA} {p : Addr} {R : List V → Prop} {vs : List V} (h : ∀ H1, Exd p H H1 → Dice p H1 → EvA ts σ H1 vs) (ho : ∀ H1, Exd p H H1 → Dice p H1 → ok vs H1 p R) : DvN p (tCall (DrawsT ok) [] E ts) σ H R := fun H1 e d Q q =>
  h H1 e d H1 (Ex.refl H1) _ fun H2 e2 => by
    show DrawsT ok (vs ++ []) H2 Q E
    rw [List.append_nil]
    exact ⟨p, R, ho H2 (e.trans (Exd.of e2)) (d.ex e2), d.ex e2, fun a xs H3 hx ha e3 d3 h3 => q a xs H3 hx ha ((Exd.of e2).trans e3) d3 h3⟩
def EvAP (ta : TA) (σ : L2.St) (H : Hp) (P : List V → Hp → Prop) : Prop := ∀ H1, Ex H H1 → ∀ Q : List V → Hp → Prop, (∀ vs H2, Ex H1 H2 → P vs H2 → Q vs H2) → ta σ H1 Q
theorem ap_nil : EvAP tNil σ H (fun vs _ => vs = []) := fun H1 _ _ q => q [] H1 (Ex.refl H1) rfl
theorem ap_cons {P : List V → Hp → Prop} (h : Ev te σ H x) (hr : EvAP tr σ H P) : EvAP (tCons te tr) σ H (fun vs H' => ∃ ws, vs = x :: ws ∧ P ws H') := fun H1 e Q q =>
  h H1 e _ fun H2 e2 => hr H2 (e.trans e2) _ fun ws H3 e3 p => q (x :: ws) H3 (e2.trans e3) ⟨ws, rfl, p⟩
theorem ap_consU {P : List V → Hp → Prop} {xs : List V} (h : EvU te σ H xs) (hr : EvAP tr σ H P) : EvAP (tCons te tr) σ H (fun vs H' => ∃ p ws, vs = .ref p :: ws ∧ H' p = some (.tup xs) ∧ P ws H') := fun H1 e Q q =>
  h H1 e _ fun p H2 hp e2 h2 => hr H2 (e.trans e2) _ fun ws H3 e3 pw => q (.ref p :: ws) H3 (e2.trans e3) ⟨p, ws, rfl, e3 _ _ h2, pw⟩
theorem ev_callAP {ok : List V → Hp → V → Prop} {E : XK} {P : List V → Hp → Prop} (h : EvAP ts σ H P) (ho : ∀ vs H1, Ex H H1 → P vs H1 → ok vs H1 z) : Ev (tCall (Pure ok) [] E ts) σ H z := fun H1 e Q q =>
  h H1 e _ fun vs H2 e2 p => by
    show Pure ok (vs ++ []) H2 Q E
    rw [List.append_nil]
    exact ⟨z, ho vs H2 (e.trans e2) p, fun H3 e3 => q H3 (e2.trans e3)⟩
theorem eu_callAP {ok : List V → Hp → List V → Prop} {E : XK} {P : List V → Hp → Prop} {xs : List V} (h : EvAP ts σ H P) (ho : ∀ vs H1, Ex H H1 → P vs H1 → ok vs H1 xs) : EvU (tCall (Tupd ok) [] E ts) σ H xs := fun H1 e Q q =>
  h H1 e _ fun vs H2 e2 pw => by
    show Tupd ok (vs ++ []) H2 Q E
    rw [List.append_nil]
    exact ⟨xs, ho vs H2 (e.trans e2) pw, fun p H3 hp e3 h3 => q p H3 (fresh_back e2 hp) (e2.trans e3) h3⟩
theorem EvAP.mono {P P' : List V → Hp → Prop} (h : EvAP ts σ H P) (k : ∀ vs H1, P vs H1 → P' vs H1) : EvAP ts σ H P' := fun H1 e Q q => h H1 e Q fun vs H2 e2 p => q vs H2 e2 (k vs H2 p)
theorem q_asgD {i : Nat} {d : PyData} (h : EvD K te σ H d) (k : ∀ v H1, Ex H H1 → Dp K H1 v d → tz D (σ.set i (some v)) H1) : tSeq (tAsg te (gName i)) tz D σ H := h H (Ex.refl H) _ fun v H1 e p => k v H1 e p
theorem evd_var {i : Nat} {d : PyData} {v : V} (h : σ[i]? = some (some v)) (p : Dp K H v d) : EvD K (tVar i) σ H d := evd_of (ev_var h) fun H1 e => dp_ex e p
theorem q_asg3U {i j l : Nat} {xs ys zs : List V} (h1 : EvU ta σ H xs) (h2 : EvU tb σ H ys) (h3 : EvU tc σ H zs) (k : ∀ p r s H1, Ex H H1 → H1 p = some (.tup xs) → H1 r = some (.tup ys) → H1 s = some (.tup zs) → tz D (((σ.set i (some (.ref p))).set j (some (.ref r))).set l (some (.ref s))) H1) :
    tSeq (tAsg (tTup (tCons ta (tCons tb (tCons tc tNil)))) (gTup K 3 (gCons (gName i) (gCons (gName j) (gCons (gName l) gNil))))) tz D σ H :=
  h1 H (Ex.refl H) _ fun p H1 hp e1 hx => h2 H1 e1 _ fun r H2 hr e2 hy => h3 H2 (e1.trans e2) _ fun s H3 hs e3 hz => ⟨by show 3 ≤ sizeLine; decide, fun t ht => ⟨t, [.ref p, .ref r, .ref s], rfl, st_of upd_same, rfl, .ref p, [.ref r, .ref s], rfl, .ref r, [.ref s], rfl, .ref s, [], rfl, rfl,
    k p r s _ (((e1.trans e2).trans e3).trans (Ex.new ht)) (Ex.new ht _ _ (e3 _ _ (e2 _ _ hx))) (Ex.new ht _ _ (e3 _ _ hy)) (Ex.new ht _ _ hz)⟩⟩
theorem el_lcNT {xs : List V} {tl : TE} {j : Nat} {vs : List Nat} (f : Nat → Bool) (v : Nat → V) (h : EvU tl σ H xs) (hz : xs.length ≤ 40000) (hw : ∀ x, wipe ((wipe σ vs).set j (some x)) vs = wipe σ vs)
    (ht : ∀ (i : Nat) (x : V) H1, Ex H H1 → xs[i]? = some x → EvT t ((wipe σ vs).set j (some x)) H1 (f i)) (he : ∀ (i : Nat) (x : V) H1, Ex H H1 → xs[i]? = some x → f i = true → Ev te ((wipe σ vs).set j (some x)) H1 (v i)) :
    EvL (tLc (iTup K tl) (gName j) t te vs) σ H (given xs.length f v) := fun H0 e Q q => h H0 e _ fun a H1 ha e1 hx => ⟨a, rfl, ⟨xs, st_of hx⟩, fun Dl hD =>
  lc_tup (xs := xs) (Cw H1 f v Dl) ⟨hD, Ex.new hD, upd_same⟩ (fun i H' _ p => st_of (p.2.1 a _ hx)) (fun i x H' hi p => ⟨hw x, cw_turn p (by have := (List.getElem?_eq_some_iff.mp hi).1; omega) (ht i x H1 (e.trans e1) hi) (fun hf => he i x H1 (e.trans e1) hi hf)⟩)
    (fun H' p => q Dl H' (fresh_back e1 p.1) (e1.trans p.2.1) p.2.2)⟩
theorem dpa_bls {H : Hp} : ∀ bs : List Bool, DpAll K H (bs.map V.bl) (bs.map PyData.bool)
  | [] => .nil
  | b :: bs => .cons (.bl b) (dpa_bls bs)
theorem evd_bls {bs : List Bool} (h : EvL te σ H (bs.map V.bl)) : EvD K te σ H (.list (bs.map PyData.bool)) := fun H1 e Q q => h H1 e Q fun p H2 _ e2 h2 => q _ H2 e2 (.lst (sq_of h2) (dpa_bls bs))
theorem et_notN (h : Ev te σ H x) : EvT (tB (tNotN te)) σ H (!decide (x = .non)) := fun H1 e _ q => h H1 e _ fun H2 e2 => ⟨_, rfl, q H2 e2⟩
theorem ap_consL {P : List V → Hp → Prop} {xs : List V} (h : EvL te σ H xs) (hr : EvAP tr σ H P) : EvAP (tCons te tr) σ H (fun vs H' => ∃ p ws, vs = .ref p :: ws ∧ H' p = some (.lst xs) ∧ P ws H') := fun H1 e Q q =>
  h H1 e _ fun p H2 hp e2 h2 => hr H2 (e.trans e2) _ fun ws H3 e3 pw => q (.ref p :: ws) H3 (e2.trans e3) ⟨p, ws, rfl, e3 _ _ h2, pw⟩
theorem cut1 (xs : List V) : cutV xs (some 1) none = xs.drop 1 := by
  unfold cutV HT.sIx
  cases xs with
  | nil => rfl
  | cons x xs => simp
/-- [e for x, y in zip(list, list) if t] -/
theorem el_lcZip {xs ys : List V} {ta : TA} {j l : Nat} {vs : List Nat} (f : Nat → Bool) (v : Nat → V) (h : EvAP ta σ H (fun vs H1 => ∃ a b, vs = [.ref a, .ref b] ∧ SqL K H1 a xs ∧ SqL K H1 b ys)) (hz : xs.length ≤ 40000)
    (hw : ∀ x y, wipe (((wipe σ vs).set j (some x)).set l (some y)) vs = wipe σ vs)
    (ht : ∀ (i : Nat) (x y : V) H1, Ex H H1 → xs[i]? = some x → ys[i]? = some y → EvT t (((wipe σ vs).set j (some x)).set l (some y)) H1 (f i)) (he : ∀ (i : Nat) (x y : V) H1, Ex H H1 → xs[i]? = some x → ys[i]? = some y → f i = true → Ev te (((wipe σ vs).set j (some x)).set l (some y)) H1 (v i)) :
    EvL (tLc (iZip K ta) (gTup K 2 (gCons (gName j) (gCons (gName l) gNil))) t te vs) σ H (given (min xs.length ys.length) f v) := fun H0 e Q q => h H0 e _ fun us H1 e1 ⟨a, b, hv, hx, hy⟩ => ⟨a, b, xs, ys, hv, hx, hy, fun Dl hD =>
  lc_it (walk_zip rfl) (Cw H1 f v Dl) ⟨hD, Ex.new hD, upd_same⟩ (fun i H' _ p => ⟨ex_l p.2.1 hx, ex_l p.2.1 hy⟩) (fun i x H' H'' hi p y => by
    obtain ⟨T, y1, y2, rfl, hT, rfl, h3, h4⟩ := y
    have eT : Ex H' (upd H' T (.tup [y1, y2])) := Ex.new hT
    refine ⟨T, [y1, y2], rfl, st_of upd_same, rfl, y1, [y2], rfl, y2, [], rfl, rfl, hw _ _, ?_⟩
    have p' : Cw H1 f v Dl i (upd H' T (.tup [y1, y2])) := ⟨p.1, p.2.1.trans eT, eT _ _ p.2.2⟩
    exact cw_turn p' (by omega) (ht i y1 y2 H1 (e.trans e1) h3 h4) (fun hf => he i y1 y2 H1 (e.trans e1) h3 h4 hf))
    (fun H' p => q Dl H' (fresh_back e1 p.1) (e1.trans p.2.1) p.2.2)⟩
theorem ev_strM {z : Str} {g : Str → Bool} (h : Ev to σ H (.str z)) : Ev (tM0 (fun x xs H Q => ∃ a, x = .str a ∧ xs = [] ∧ True ∧ Q (.bl (g a)) H) to) σ H (.bl (g z)) := fun H1 e Q q => h H1 e _ fun H2 e2 => ⟨⟨z, rfl⟩, z, rfl, rfl, trivial, q H2 e2⟩
theorem rc_lenS {z : Str} (h : z.length ≤ 100000) : RC (fun xs H Q => ∃ z, xs = [V.str z] ∧ z.length ≤ sizeLine ∧ Q (.int z.length) H) [.str z] H (.int z.length) := fun H1 _ _ q => ⟨z, rfl, sz_of h, q H1 (Ex.refl H1)⟩
theorem et_yes : EvT tYes σ H true := fun H4 e4 Q' q' => q' H4 (Ex.refl H4)
end
end Wo
set_option Elab.async false
set_option linter.all false
set_option maxRecDepth 100000
set_option maxHeartbeats 4000000
namespace Wo
open PySem PySem.Spec PyProof.Rows L2 Evl Vr En
theorem op_eqDK {X : Cx} {K : PySem.W.Frag} {A0 : Around} (hu : A0.units + 64 < cLine) (hA : X.A = A0) (hK : X.K = K) : OpR X (compareOp .Eq) (rEqD K) := by subst hA hK; exact op_eqD hu
theorem op_neDK {X : Cx} {K : PySem.W.Frag} {A0 : Around} (hu : A0.units + 64 < cLine) (hA : X.A = A0) (hK : X.K = K) : OpR X (compareOp .NotEq) (rNeD K) := by subst hA hK; exact op_neD hu
section
variable {σ : L2.St} {H H' : Hp} {te ta tb tc tn to tl tk tv td ty tx : TE} {t : TT} {tr ts : TA} {tz tu : TS} {D : Ends} {K : PySem.W.Frag} {w : World} {x y z v : V} {g : TG} {a C dx p : Addr} {fs : List (Str × V)} {f : Str}
/-- o.f = value, the object as it was ahead but for this -/
theorem s_fld (hv : Ev tv σ H y) (ha : Ev ta σ H (.ref a)) (ho : H a = some (.ins C dx fs)) (c : Cls K C) (n : NoAttr K C f) (hl : fs.length < 1000) (k : ∀ H1, Ex H H1 → D.nx σ (upd H1 a (.ins C dx (putF f y fs)))) : sFld K ta tv f D σ H :=
  hv H (Ex.refl H) _ fun H1 e1 => ha H1 e1 _ fun H2 e2 => ⟨a, C, dx, fs, rfl, (e1.trans e2) _ _ ho, c, n, hl, k H2 (e1.trans e2)⟩
theorem q_fld (hv : Ev tv σ H y) (ha : Ev ta σ H (.ref a)) (ho : H a = some (.ins C dx fs)) (c : Cls K C) (n : NoAttr K C f) (hl : fs.length < 1000) (k : ∀ H1, Ex H H1 → tz D σ (upd H1 a (.ins C dx (putF f y fs)))) : tSeq (sFld K ta tv f) tz D σ H :=
  s_fld (D := { D with nx := tz D }) hv ha ho c n hl k
theorem q_fldU {xs : List V} (hv : EvU tv σ H xs) (ha : ∀ H1, Ev ta σ H1 (.ref a)) (ho : H a = some (.ins C dx fs)) (c : Cls K C) (n : NoAttr K C f) (hl : fs.length < 1000) (k : ∀ r H1, H r = none → Ex H H1 → H1 r = some (.tup xs) → tz D σ (upd H1 a (.ins C dx (putF f (.ref r) fs)))) : tSeq (sFld K ta tv f) tz D σ H :=
  hv H (Ex.refl H) _ fun r H1 hr e1 h1 => ha H1 H1 (Ex.refl H1) _ fun H2 e2 => ⟨a, C, dx, fs, rfl, (e1.trans e2) _ _ ho, c, n, hl, k r H2 hr (e1.trans e2) (e2 _ _ h1)⟩
theorem s_fldK {kvs : List (Key × V)} (hv : EvK tv σ H kvs) (ha : ∀ H1, Ev ta σ H1 (.ref a)) (ho : H a = some (.ins C dx fs)) (c : Cls K C) (n : NoAttr K C f) (hl : fs.length < 1000) (k : ∀ r H1, H r = none → Ex H H1 → H1 r = some (.dK kvs) → D.nx σ (upd H1 a (.ins C dx (putF f (.ref r) fs)))) : sFld K ta tv f D σ H :=
  hv H (Ex.refl H) _ fun r H1 hr e1 h1 => ha H1 H1 (Ex.refl H1) _ fun H2 e2 => ⟨a, C, dx, fs, rfl, (e1.trans e2) _ _ ho, c, n, hl, k r H2 hr (e1.trans e2) (e2 _ _ h1)⟩
/-- what stands at p is an instance: a tuple told of is another -/
theorem _root_.Vr.Exd.ti {b : Addr} {xs : List V} (e : Exd p H H') (hp : H p = some (.ins C dx fs)) (h : SqT K H b xs) : SqT K H' b xs := by
  rcases h with (h | ⟨o, h⟩) | h
  · exact .inl (.inl (e _ _ (fun z => by rw [z, hp] at h; cases h) h))
  · exact .inl (.inr ⟨o, e _ _ (fun z => by rw [z, hp] at h; cases h) h⟩)
  · exact .inr h
theorem eu_tupL {xs : List V} (h : EvL te σ H xs) : EvU (tCB (rTupL K) (tCons te tNil)) σ H xs := fun H1 e Q q => h H1 e _ fun p H2 hp e2 h2 => ⟨p, xs, rfl, sq_of h2, fun l hl => q l _ (fresh_back e2 hl) (e2.trans (Ex.new hl)) upd_same⟩
/-- {k: v for x in tuple}: the keys all new -/
theorem ek_dcT {xs : List V} {j : Nat} {vs : List Nat} (kvs : Nat → List (Key × V)) (h0 : kvs 0 = []) (h : Ev tl σ H (.ref a)) (hx : SqT K H a xs) (hz : ∀ i, i ≤ xs.length → (kvs i).length ≤ 1000) (hw : ∀ x, wipe ((wipe σ vs).set j (some x)) vs = wipe σ vs)
    (hs : ∀ (i : Nat) (x : V) H1, Ex H H1 → xs[i]? = some x → ∃ k v, Ev tk ((wipe σ vs).set j (some x)) H1 (kV k) ∧ (∀ H2, Ex H1 H2 → Ev tv ((wipe σ vs).set j (some x)) H2 v) ∧ putK (kvs i) k v = kvs (i + 1)) :
    EvK (tDc (iTup K tl) (gName j) tYes tk tv vs) σ H (kvs xs.length) := fun H0 e Q q => h H0 e _ fun H1 e1 => ⟨a, rfl, ⟨xs, ex_t (e.trans e1) hx⟩, fun Dl hD => by
  refine dc_tup (xs := xs) (fun i H' => H1 Dl = none ∧ Ex H1 H' ∧ H' Dl = some (.dK (kvs i))) ⟨hD, Ex.new hD, by rw [h0]; exact upd_same⟩ (fun i H' _ p => ex_t ((e.trans e1).trans p.2.1) hx) (fun i x H' hi p => ⟨hw x, ?_⟩) (fun H' p => q Dl H' (fresh_back e1 p.1) (e1.trans p.2.1) p.2.2)
  obtain ⟨p1, p2, p3⟩ := p
  have hil : i ≤ xs.length := by have := (List.getElem?_eq_some_iff.mp hi).1; omega
  obtain ⟨k, v, hk, hv, hp⟩ := hs i x H' ((e.trans e1).trans p2) hi
  unfold tYes
  dsimp only
  rw [if_pos rfl]
  refine hk H' (Ex.refl H') _ fun H2 e2 => hv H2 e2 H2 (Ex.refl H2) _ fun H3 e3 => ⟨kvs i, k, rfl, (e2.trans e3) _ _ p3, sz_lt (by have := hz i hil; omega), p1, Ex.mut ((p2.trans e2).trans e3) p1, ?_⟩
  rw [hp]
  exact upd_same⟩
theorem ev_dget {d : Addr} {kvs : List (Key × V)} {k : Key} (h1 : Ev td σ H (.ref d)) (h2 : Ev ty σ H (kV k)) (hd : H d = some (.dK kvs)) (hv : valV kvs k = some v) : Ev (tDGet td ty) σ H v := fun H1 e Q q =>
  h1 H1 e _ fun H2 e2 => h2 H2 (e.trans e2) _ fun H3 e3 => ⟨d, v, rfl, by rw [← hv]; exact DGet.k (((e.trans e2).trans e3) _ _ hd), q H3 (e2.trans e3)⟩
theorem ev_din {d : Addr} {kvs : List (Key × V)} {k : Key} (h1 : Ev ty σ H (kV k)) (h2 : Ev td σ H (.ref d)) (hd : H d = some (.dK kvs)) : Ev (tDIn ty td) σ H (.bl (valV kvs k).isSome) := fun H1 e Q q =>
  h1 H1 e _ fun H2 e2 => h2 H2 (e.trans e2) _ fun H3 e3 => ⟨d, _, rfl, DGet.k (((e.trans e2).trans e3) _ _ hd), q H3 (e2.trans e3)⟩
/-- a method that answers None, called for what it does: the object at p is made anew -/
theorem s_dropM {m : Str} {sp : Sp} {E : XK} {vs : List V} (h : Ev to σ H (.ref a)) (ho : H a = some (.ins C dx fs)) (hl : fs.lookup m = none) (ha : ∀ H1, Ex H H1 → EvA ts σ H1 vs) (k : ∀ H1, Ex H H1 → sp (.ref a :: vs) H1 (fun _ H2 => D.nx σ H2) E) : tDrop (tMeth C m sp [] E to ts) D σ H :=
  h H (Ex.refl H) _ fun H2 e2 => ⟨a, dx, fs, rfl, e2 _ _ ho, hl, ha H2 e2 H2 (Ex.refl H2) _ fun H3 e3 => by
    rw [List.append_nil]
    exact k H3 (e2.trans e3)⟩
theorem q_dropM {m : Str} {sp : Sp} {E : XK} {vs : List V} (h : Ev to σ H (.ref a)) (ho : H a = some (.ins C dx fs)) (hl : fs.lookup m = none) (ha : ∀ H1, Ex H H1 → EvA ts σ H1 vs) (k : ∀ H1, Ex H H1 → sp (.ref a :: vs) H1 (fun _ H2 => tz D σ H2) E) : tSeq (tDrop (tMeth C m sp [] E to ts)) tz D σ H :=
  s_dropM (D := { D with nx := tz D }) h ho hl ha k
end
end Wo
set_option Elab.async false
set_option linter.all false
set_option maxRecDepth 100000
set_option maxHeartbeats 4000000
namespace Wo
open PySem PySem.Spec PyProof.Rows L2 Evl Vr En
theorem c_listS {X : Cx} : CallR X (.type "list") (rListS X.K) := call_list_of
section
variable {σ : L2.St} {H H' : Hp} {te ta tb tc tn to tl tk tv td ty tx : TE} {t : TT} {tr ts : TA} {tz tu : TS} {D : Ends} {K : PySem.W.Frag} {w : World} {x y z v : V} {g : TG} {a C dx p : Addr} {fs : List (Str × V)} {f : Str}
theorem _root_.Vr.Exd.tlst {b : Addr} {xs ys : List V} (e : Exd p H H') (hp : H p = some (.lst ys)) (h : SqT K H b xs) : SqT K H' b xs := by
  rcases h with (h | ⟨o, h⟩) | h
  · exact .inl (.inl (e _ _ (fun z => by rw [z, hp] at h; cases h) h))
  · exact .inl (.inr ⟨o, e _ _ (fun z => by rw [z, hp] at h; cases h) h⟩)
  · exact .inr h
theorem el_listT {xs : List V} (ha : Ev ta σ H (.ref p)) (h : SqT K H p xs) : EvL (tCB (rListS K) (tCons ta tNil)) σ H xs := fun H1 e Q q =>
  ha H1 e _ fun H2 e2 => ⟨p, xs, rfl, .inr (ex_t (e.trans e2) h), fun l hl => q l _ (fresh_back e2 hl) (e2.trans (Ex.new hl)) upd_same⟩
/-- [new object for .. in tuple] -/
theorem lcT_new {xs : List V} {vs : List Nat} {Q : VK} (Pr : Nat → Addr → Hp → Prop) (hP : ∀ i r H H' Dl acc, H Dl = some (.lst acc) → Exd Dl H H' → Pr i r H → Pr i r H') (h : Ev tl σ H (.ref a)) (hx : SqT K H a xs) (hz : xs.length ≤ 40000)
    (hs : ∀ (i : Nat) (x : V) (H1 : Hp) (R : VK), Ex H H1 → xs[i]? = some x → (∀ r H2, Ex H1 H2 → Pr i r H2 → R (.ref r) H2) → g x (wipe σ vs) H1 fun σ2 H2 => wipe σ2 vs = wipe σ vs ∧ te σ2 H2 R)
    (k : ∀ l (rs : List Addr) H', H l = none → Ex H H' → H' l = some (.lst (rs.map V.ref)) → rs.length = xs.length → (∀ (i : Nat) r, rs[i]? = some r → Pr i r H') → Q (.ref l) H') : tLc (iTup K tl) g tYes te vs σ H Q := h H (Ex.refl H) _ fun H1 e1 => ⟨a, rfl, ⟨xs, ex_t e1 hx⟩, fun Dl hD => by
  refine lc_tup (xs := xs) (fun i H' => Ex H1 H' ∧ ∃ rs : List Addr, H' Dl = some (.lst (rs.map V.ref)) ∧ rs.length = i ∧ ∀ (j : Nat) r, rs[j]? = some r → Pr j r H') ⟨Ex.new hD, [], upd_same, rfl, fun j r h => by cases h⟩ (fun i H' _ p => ex_t (e1.trans p.1) hx) (fun i x H' hi p => ?_) (fun H' ⟨p1, rs, p2, p3, p4⟩ => k Dl rs H' (fresh_back e1 hD) (e1.trans p1) p2 p3 p4)
  obtain ⟨p1, rs, p2, p3, p4⟩ := p
  have hil : i < xs.length := (List.getElem?_eq_some_iff.mp hi).1
  refine hs i x H' _ (e1.trans p1) hi fun r H4 e4 hr => ?_
  have hD4 := e4 _ _ p2
  have xd : Exd Dl H4 (upd H4 Dl (.lst (rs.map V.ref ++ [.ref r]))) := Exd.upd
  refine ⟨rs.map V.ref, hD4, sz_lt (by rw [List.length_map]; omega), Ex.mut (p1.trans e4) hD, rs ++ [r], ?_, by rw [List.length_append, p3]; rfl, fun j r' hj => ?_⟩
  · rw [upd_same, List.map_append]
    rfl
  · refine hP j r' H4 _ Dl _ hD4 xd ?_
    by_cases hjl : j < i
    · rw [List.getElem?_append_left (by omega)] at hj
      exact hP j r' H' H4 Dl _ p2 (Exd.of e4) (p4 j r' hj)
    · have hj2 : j = i := by
        have := (List.getElem?_eq_some_iff.mp hj).1
        rw [List.length_append, p3, List.length_singleton] at this
        omega
      subst hj2
      rw [List.getElem?_append_right (by omega), p3, Nat.sub_self] at hj
      cases hj
      exact hr⟩
theorem ap_starT {P : List V → Hp → Prop} {xs : List V} (h : Ev te σ H (.ref p)) (hx : SqT K H p xs) (hr : EvAP tr σ H P) : EvAP (StX.tStar K te tr) σ H (fun vs H' => ∃ ws, vs = xs ++ ws ∧ P ws H') := fun H1 e Q q =>
  h H1 e _ fun H2 e2 => ⟨p, xs, rfl, .inl (ex_t (e.trans e2) hx), hr H2 (e.trans e2) _ fun ws H3 e3 pw => q (xs ++ ws) H3 (e2.trans e3) ⟨ws, rfl, pw⟩⟩
theorem q_asgTP {i : Nat} {P : List V → Hp → Prop} (h : EvAP ts σ H P) (hl : ∀ vs H1, P vs H1 → vs.length ≤ 100000) (k : ∀ r vs H2, Ex H H2 → P vs H2 → H2 r = none → tz D (σ.set i (some (.ref r))) (upd H2 r (.tup vs))) : tSeq (tAsg (tTup ts) (gName i)) tz D σ H :=
  h H (Ex.refl H) _ fun vs H2 e2 pv => ⟨sz_of (hl vs H2 pv), fun r hr => k r vs H2 e2 pv hr⟩
theorem s_retTP {P : List V → Hp → Prop} (h : EvAP ts σ H P) (hl : ∀ vs H1, P vs H1 → vs.length ≤ 100000) (k : ∀ r vs H2, Ex H H2 → P vs H2 → H2 r = none → D.rt (.ref r) (upd H2 r (.tup vs))) : tRet (tTup ts) D σ H :=
  h H (Ex.refl H) _ fun vs H2 e2 pv => ⟨sz_of (hl vs H2 pv), fun r hr => k r vs H2 e2 pv hr⟩
theorem eu_tupV {xs : List V} (h : Ev te σ H (.ref p)) (hx : SqL K H p xs) : EvU (tCB (rTupL K) (tCons te tNil)) σ H xs := fun H1 e Q q => h H1 e _ fun H2 e2 => ⟨p, xs, rfl, ex_l (e.trans e2) hx, fun l hl => q l _ (fresh_back e2 hl) (e2.trans (Ex.new hl)) upd_same⟩
/-- {k: new tuple} -/
def EvK1 (te : TE) (σ : L2.St) (H : Hp) (k : Key) (xs : List V) : Prop := ∀ H1, Ex H H1 → ∀ Q : VK, (∀ d r H2, Ex H1 H2 → H2 d = some (.dK [(k, .ref r)]) → H2 r = some (.tup xs) → Q (.ref d) H2) → te σ H1 Q
theorem ek1_disp {k : Key} {xs : List V} (hk : ∀ H1, Ex H H1 → Ev ta σ H1 (kV k)) (hv : ∀ H1, Ex H H1 → EvU tb σ H1 xs) : EvK1 (tDisp [(ta, tb)]) σ H k xs := fun H1 e Q q d hd => by
  have e1 : Ex H1 (upd H1 d (.dK [])) := Ex.new hd
  refine hk _ (e.trans e1) _ (Ex.refl _) _ fun H2 e2 => hv H2 ((e.trans e1).trans e2) H2 (Ex.refl H2) _ fun r H3 hr e3 h3 => ?_
  have hd3 := e3 _ _ (e2 _ _ (upd_same (H := H1) (a := d) (o := .dK [])))
  have hrd : r ≠ d := fun z => by rw [z, hd3] at h3; cases h3
  refine ⟨hd3, [(k, .ref r)], rfl, by show 1 ≤ 15; decide, ?_⟩
  refine q d r _ (Ex.mut ((e1.trans e2).trans e3) hd) upd_same (by rw [upd_ne hrd]; exact h3)
end
end Wo
set_option Elab.async false
set_option linter.all false
set_option maxRecDepth 100000
set_option maxHeartbeats 4000000
namespace Wo
open PySem PySem.Spec PyProof.Rows L2 Evl Vr En PySem.W
theorem ne_bind (v : Value) : bindSpecial (.builtin "object.__ne__") v = pure (.builtin "object.__ne__", [v]) := PySem.F.cmp_object.ne.bind v
section
variable {prog : Program} {w : PySem.World} {A : Around} {E : Value → Shared → Prop} {s : Shared} {K : Frag} {x C L f : Addr} {h₀ : Heap} {m : Str → Option Value} {ox : Obj} {od : Option Obj} {b tb : Value}
/-- a special name that stands for a built-in -/
theorem bound_b {M : Model} {i : String} {nm : Str} {as : List Value} {Q : Option Value → Shared → Prop} (X : K.In s.heap) (J : InstAt s.heap x ox C od) (hf : findIn K (.ref C) nm = some (some (.builtin i))) (hb : ∀ v, bindSpecial (.builtin i) v = pure (.builtin i, [v]))
    (k : wpAny M A (call (.builtin i) (.ref x :: as)) (fun v => Q (some v)) E s) : wpAny M A (callSpecialIfBound? (.ref x) nm as) Q E s := by
  have go : wpAny M A (call (.builtin i) ([.ref x] ++ as) >>= fun v => pure (some v)) Q E s := wpAny_bind (wpAny_mono k (fun _ _ z => wpAny_pure z) fun _ _ z => z)
  simp only [callSpecialIfBound?, bindSpecialIfBound?]
  refine wpAny_holding (wpAny_bind (wpAny_bind (wpAny_bind (J.type.here ((looks_findIn X hf).here ?_)))))
  simp only [hb]
  refine wpAny_bind (wpAny_askSetting (wpAny_ite ?_))
  split
  · exact wpAny_bind (wpAny_pure (wpAny_pure (by exact go)))
  · exact wpAny_tryCatch (wpAny_bind (wpAny_pure (wpAny_pure (by exact go))))
/-- a comparison that the left one answers -/
theorem cmp_left {op : CmpOp} {Q : Value → Shared → Prop} (hu : A.units < cLine) (X : K.In s.heap) (J : InstAt s.heap x ox C od) (hb : Looks (model prog w) s.heap (typeOf b) tb) (hn : notFirst K C tb = true)
    (one : wpAny (model prog w) A (tryCompare (.ref x) (cmpInfo op).2.1 b) (fun r s' => ∃ v, r = some v ∧ Q v s') E s) : wpAny (model prog w) A (richCompare op (.ref x) b) Q E s := by
  unfold richCompare
  simp only [oneThing_ref]
  refine wpAny_holding (wpAny_bind (wpAny_cRoomFor hu (wpAny_bind (J.type.here (wpAny_bind (hb.here ?_))))))
  by_cases e : tb = .ref C
  · subst e
    rw [show (Value.ref C != Value.ref C) = false from by simp]
    refine wpAny_bind (wpAny_pure ?_)
    rw [if_neg Bool.false_ne_true]
    exact wpAny_bind (wpAny_mono one (fun r s' ⟨v, hv, q⟩ => by subst hv; exact wpAny_pure q) fun _ _ z => z)
  · have e1 : (Value.ref C != tb) = true := by simpa using Ne.symm e
    have e2 : subIn K tb (.ref C) = some false := by
      unfold notFirst at hn
      simp only [Bool.or_eq_true, beq_iff_eq] at hn
      exact hn.resolve_left e
    rw [e1, if_pos rfl]
    refine wpAny_bind ((looks_subIn X e2).here ?_)
    rw [if_neg Bool.false_ne_true]
    exact wpAny_bind (wpAny_mono one (fun r s' ⟨v, hv, q⟩ => by subst hv; exact wpAny_pure q) fun _ _ z => z)
/-- != of what has its own == alone -/
theorem ne_left {Q : Value → Shared → Prop} (hu : A.units + 1 < cLine) (X : K.In s.heap) (J : InstAt s.heap x ox C od) (hb : Looks (model prog w) s.heap (typeOf b) tb) (hn : notFirst K C tb = true)
    (hne : findIn K (.ref C) "__ne__" = some (some (.builtin "object.__ne__"))) (hob : subIn K (.ref C) (.type "object") = some true) (hs : findIn K (.ref C) "__eq__" = some (some (.ref f))) (hf : isFn K (.ref f) = true)
    (k : wpAny (model prog w) A.in1 (call (.ref f) [.ref x, b]) (fun v s' => ∃ z, v = .bool z ∧ Q (.bool (!z)) s') E s) : wpAny (model prog w) A (richCompare .NotEq (.ref x) b) Q E s := by
  refine cmp_left (by omega) X J hb hn ?_
  unfold tryCompare
  refine wpAny_bind (bound_b X J hne ne_bind (wpAny_call (codeAny_call_builtin PySem.F.cmp_object.ne.plain PySem.F.cmpEntry_ne (check_slot PySem.F.cmpKind_ne PySem.F.cmpSplit_ne (J.type.andThen (looks_subIn X hob)) (PySem.F.cmpArgs_ne _ _) ?_))))
  unfold Builtin.«object.__ne__»
  refine wpAny_bind (wpAny_pure ?_)
  refine wpAny_bind (wpAny_cRoomFor (by show A.units + 1 < cLine; exact hu) ?_)
  refine wpAny_bind (m := callSpecialIfBound? _ _ _) (ifBound_K X J hs hf (wpAny_mono k (fun v s' ⟨z, hz, q⟩ => ?_) fun _ _ z => z))
  subst hz
  refine wpAny_bind (wpAny_truthy_bool ?_)
  exact wpAny_pure (wpAny_pure ⟨_, rfl, q⟩)
end
section
variable {X : Cx} {CX : CXT} {n f C : Addr} {fd : FuncData} {ps : List Str} {sp : Sp} {E : XK} {k : Nat}
/-- o == y, o's class with its own __eq__ -/
def rEqO (K : PySem.W.Frag) (C : Addr) (sp : Sp) (E : XK) : R2 := fun x y H Q => ∃ a dx fs tb, x = .ref a ∧ H a = some (.ins C dx fs) ∧ TyX K H y tb ∧ notFirst K C tb = true ∧ sp [.ref a, y] H (backB Q) E
def rNeO (K : PySem.W.Frag) (C : Addr) (sp : Sp) (E : XK) : R2 := fun x y H Q => ∃ a dx fs tb, x = .ref a ∧ H a = some (.ins C dx fs) ∧ TyX K H y tb ∧ notFirst K C tb = true ∧ sp [.ref a, y] H (backN Q) E
theorem op_eqO (F : FnOk X.prog X.w X.K X.mg X.base CX k f fd ps sp) (hr : Room k X.A) (M : Meth X.K C "__eq__" f) (hb : Binds X.K fd ps []) (hx : Passes CX X E) : OpR X (compareOp .Eq) (rEqO X.K C sp E) := by
  intro pins s σ H x y v u Q I rx ry h
  obtain ⟨a, dx, fs, tb, rfl, ha, ty, hn, h⟩ := h
  cases rx
  obtain ⟨mA, J, _⟩ := ins_get I.hok ha
  obtain ⟨od, J, _⟩ := J.look
  obtain ⟨m, hF⟩ := I.fr
  obtain ⟨P, Z, p, _⟩ := kit_of I ry ty
  refine cmp_K (op := .Eq) (tb := tb) hr.units0 hF I.ok.mod.kin J (Z.ty _ _ I.kIn p) hn M.at_ M.fn ?_
  refine wpAny_mono (call_sub (vs := [.ref a, y]) ⟨hr, rfl⟩ F hb hx I (.cons rfl (.cons ry .nil)) h) (fun r s' z => ?_) fun _ _ z => z
  obtain ⟨w, H', I', rw', b, rfl, q⟩ := z
  cases rw'
  exact ⟨.bl b, H', I', rfl, q⟩
theorem op_neO (F : FnOk X.prog X.w X.K X.mg X.base CX k f fd ps sp) (hr : Room (k + 1) X.A) (M : Meth X.K C "__eq__" f) (hne : findIn X.K (.ref C) "__ne__" = some (some (.builtin "object.__ne__"))) (hob : subIn X.K (.ref C) (.type "object") = some true) (hb : Binds X.K fd ps []) (hx : Passes CX X E) : OpR X (compareOp .NotEq) (rNeO X.K C sp E) := by
  intro pins s σ H x y v u Q I rx ry h
  obtain ⟨a, dx, fs, tb, rfl, ha, ty, hn, h⟩ := h
  cases rx
  obtain ⟨mA, J, _⟩ := ins_get I.hok ha
  obtain ⟨od, J, _⟩ := J.look
  obtain ⟨P, Z, p, _⟩ := kit_of I ry ty
  refine ne_left hr.in1.units0 I.kIn J (Z.ty _ _ I.kIn p) hn hne hob M.at_ M.fn ?_
  have sb : Sub X k X.A.in1 := Sub.in1 ⟨hr, rfl⟩
  refine wpAny_mono (call_sub (vs := [.ref a, y]) sb F hb hx I (.cons rfl (.cons ry .nil)) h) (fun r s' z => ?_) fun _ _ z => z
  obtain ⟨w, H', I', rw', b, rfl, q⟩ := z
  cases rw'
  exact ⟨b, rfl, .bl (!b), H', I', rfl, q⟩
end
section
variable {H : Hp} {K : PySem.W.Frag} {a C dx : Addr} {fs : List (Str × V)} {y : V} {E : XK} {ok : List V → Hp → V → Prop} {b : Bool} {tb : Value}
theorem rv_eqO (ho : H a = some (.ins C dx fs)) (ht : ∀ H1, Ex H H1 → TyX K H1 y tb) (hn : notFirst K C tb = true) (hok : ∀ H1, Ex H H1 → ok [.ref a, y] H1 (.bl b)) : RV (rEqO K C (Pure ok) E) (.ref a) y H (.bl b) := fun H1 e Q q =>
  ⟨a, dx, fs, tb, rfl, e _ _ ho, ht H1 e, hn, .bl b, hok H1 e, fun H2 e2 => ⟨b, rfl, q H2 e2⟩⟩
theorem rv_neO (ho : H a = some (.ins C dx fs)) (ht : ∀ H1, Ex H H1 → TyX K H1 y tb) (hn : notFirst K C tb = true) (hok : ∀ H1, Ex H H1 → ok [.ref a, y] H1 (.bl b)) : RV (rNeO K C (Pure ok) E) (.ref a) y H (.bl (!b)) := fun H1 e Q q =>
  ⟨a, dx, fs, tb, rfl, e _ _ ho, ht H1 e, hn, .bl b, hok H1 e, fun H2 e2 => ⟨b, rfl, q H2 e2⟩⟩
end
end Wo
set_option Elab.async false
set_option linter.all false
set_option maxRecDepth 100000
set_option maxHeartbeats 4000000
namespace Wo
open PySem PySem.Spec PyProof.Rows L2 Evl Vr En PySem.W
section
variable {prog : Program} {w : PySem.World} {A : Around} {E : Value → Shared → Prop} {s : Shared}
/-- a built-in type called, its __new__ followed in this very program -/
theorem ty_call {T i : String} {as : List Value} {Q : Value → Shared → Prop} (ft : TypeCalled T i "object.__init__") (hne : (some i != some "object.__new__") = true) (hct : checkTypeCall T ⟨as, []⟩ = pure ()) (hok : ∀ o, argsOk "object.__init__" ⟨o :: as, []⟩)
    (g : codeAny (model prog w) A.in1 (.call (.builtin i) ⟨.type T :: as, []⟩) (wants (fun o s1 => s1.TypeIs o T ∧ Q o s1) E) s) : wpAny (model prog w) A (call (.type T) as) Q E s := by
  obtain ⟨c, tl, k1⟩ := ft.mro
  have k2 := ft.made
  have k3 := ft.sub
  have k4 := ft.notType
  have k5 := ft.canCreate
  refine wpAny_call (codeAny_of_tree ?_)
  show wpAny (model prog w) A.in1 (callAny (.type T) ⟨as, []⟩) _ _ s
  refine wpAny_pure ⟨Code.quiet_builtin _ (by decide +kernel), codeAny_builtin PySem.F.entry_type_call ?_⟩
  rw [Around.under_plain (weight_type_call_type T as []) (units_type_call_type T as [])]
  repeat (any_goals (first | assumption | wp_step))
  refine codeAny_mono g fun r s1 hr => ?_
  cases r with
  | error e => exact hr
  | ok fl =>
    cases fl with
    | ret o =>
      obtain ⟨hT, hq⟩ := hr
      have k6 := ft.init.lookup
      have k7 := ft.init.bind o
      repeat (any_goals (first | assumption | wp_step))
      refine codeAny_mono (codeAny_call_builtin ft.init.plain PySem.F.entry_object_init (ft.init.check _ _ _ _ _ _ _ _ hT (hok o) (object_init_meets ft.init.lookup ft.made hne prog w A.in1 (wants (fun r s2 => r = .none ∧ Q o s2) E) s1 ⟨hT, rfl, hq⟩))) fun r2 s2 h2 => ?_
      cases r2 with
      | error e => exact h2
      | ok f2 =>
        cases f2 with
        | ret r =>
          obtain ⟨rfl, hq⟩ := h2
          repeat (any_goals (first | assumption | wp_step))
        | _ => exact h2.elim
    | _ => exact hr.elim
theorem str_call {v : Value} {Q : Value → Shared → Prop} (k : wpAny (model prog w) A.in1.in1 (Builtin.Str.strOf v) (fun r s1 => s1.TypeIs r "str" ∧ Q r s1) E s) : wpAny (model prog w) A (call (.type "str") [v]) Q E s := by
  refine ty_call PySem.F.called_str (by decide) (PySem.F.typeCall_str_1 _) (fun o => PySem.F.args_object_init_2 o _) (codeAny_call_builtin PySem.F.called_str.plain PySem.F.entry_str_new (wpAny_of_eq (PySem.F.newCall_str_1 _) ?_))
  rw [str_new_tree v]
  refine wpAny_bind (wpAny_pure ?_)
  refine wpAny_bind (wpAny_of_eq isSubtype_str_str ?_)
  exact wpAny_bind (wpAny_mono k (fun r s' h' => wpAny_pure h') fun _ _ e => e)
end
section
variable {X : Cx} {CX : CXT} {k f C : Addr} {fd : FuncData} {ps : List Str} {sp : Sp} {E : XK} {n : Nat}
/-- str(o), o's class with its own __str__ -/
def rStrO (C : Addr) (sp : Sp) (E : XK) : List V → Hp → VK → Prop := fun xs H Q => ∃ a dx fs, xs = [.ref a] ∧ H a = some (.ins C dx fs) ∧ sp [.ref a] H (fun v H' => ∃ z, v = .str z ∧ Q (.str z) H') E
theorem c_strO (F : FnOk X.prog X.w X.K X.mg X.base CX n f fd ps sp) (hr : Room (n + 2) X.A) (M : Meth X.K C "__str__" f) (hb : Binds X.K fd ps []) (hx : Passes CX X E) : CallR X (.type "str") (rStrO C sp E) := by
  intro pins s σ H xs us Q I r h
  obtain ⟨a, dx, fs, rfl, ha, h⟩ := h
  rw [Vals.ref1 r]
  obtain ⟨mA, J, _⟩ := ins_get I.hok ha
  obtain ⟨od, J, _⟩ := J.look
  refine str_call ?_
  unfold Builtin.Str.strOf
  rw [if_neg (show ¬ (Builtin.Str.isExactStr (Value.ref a) = true) from fun z => nomatch z)]
  have hs : Sub X n X.A.in1.in1 := Sub.in1 (Sub.in1 ⟨hr, rfl⟩)
  refine wpAny_bind (wpAny_cRoomFor hs.room.units0 ?_)
  refine wpAny_bind (m := callSpecial? (.ref a) (Str.ofString "__str__")) (special_fn I.kIn J M.at_ (beq_iff_eq.mp M.fn) (wpAny_mono (call_sub (vs := [.ref a]) hs F hb hx I (.cons rfl .nil) h) (fun v s' z => ?_) fun _ _ e => e))
  obtain ⟨w, H', I', rw', x, rfl, q⟩ := z
  obtain ⟨t, rfl⟩ := rw'
  exact wpAny_pure ⟨typeIs_str _ _ _, .str x, H', I', ⟨t, rfl⟩, q⟩
end
end Wo
set_option Elab.async false
set_option linter.all false
set_option maxRecDepth 100000
set_option maxHeartbeats 4000000
namespace Wo
open PySem PySem.Spec PyProof.Rows L2 Evl Vr En PySem.W
abbrev tiObj (t : Addr) (i : Nat) : Obj := { cls := .type "tuple_iterator", data := .fields #[.ref t, .int i 0] }
/-- an iterator over the tuple at t -/
def TiO (t it : Addr) (i : Nat) : HO := .ext fun h => h.get? it = some (tiObj t i)
section
variable {prog : Program} {w : PySem.World} {A : Around} {E : Value → Shared → Prop} {s : Shared} {it t : Addr} {i : Nat} {its : Array Value}
theorem ti_call {Q : Value → Shared → Prop} (ht : s.heap.IsTuple t its) (k : Q (.ref s.heap.objs.size) { s with heap := s.heap.push (tiObj t 0) }) : wpAny (model prog w) A (call (.builtin "iter") [.ref t]) Q E s := by
  refine Calls.call_function_entry (by decide +kernel) (by decide +kernel) kdk_entry_iter (kdk_args_iter _) ?_
  unfold Builtin.«iter»
  refine wpAny_bind (m := someArgs "iter" 1 2 _) (wpAny_of_eq (a := [Value.ref t]) (by first | rfl | kernel_rfl!) (wpAny_bind (m := pyIter (.ref t)) (wpAny_pyIter_tuple ht (wpAny_pure ⟨_, rfl, k⟩))))
theorem ti_next {x : Value} {Q : Option Value → Shared → Prop} (ho : s.heap.get? it = some (tiObj t i)) (ht : s.heap.IsTuple t its) (hx : its[i]? = some x)
    (k : Q (some x) { s with heap := s.heap.update it (Obj.mapFields (·.setIfInBounds 1 (rawInt ((i : Int) + 1)))) }) : wpAny (model prog w) A (pyNext (.ref it)) Q E s := by
  obtain ⟨ot, hot, _, nt, hdt⟩ := ht
  have hT : s.TypeIs (.ref it) "tuple_iterator" := ⟨_, ho, rfl⟩
  unfold pyNext
  refine wpAny_bind (wpAny_attempt (wpAny_callSpecial?_slot (name := Str.ofString "__next__") hT PySem.F.slot_tuple_iterator_next (wpAny_call_entry PySem.F.slot_tuple_iterator_next hT PySem.F.entry_tuple_iterator_next ?_ (PySem.F.args_tuple_iterator_next_1 _))))
  show wpAny (model prog w) A.in1 (field (.ref it) 0 >>= _) _ _ s
  refine wpAny_bind (wpAny_field ho rfl (x := .ref t) rfl ?_)
  rw [if_neg (show ¬ ((Value.ref t == Value.none) = true) from fun z => nomatch z)]
  refine wpAny_bind (m := field (.ref it) 1) (wpAny_field ho rfl (x := .int i 0) rfl ?_)
  refine wpAny_bind (m := seqItems? (.ref t)) (wpAny_seqItems hot hdt ?_)
  simp only [Int.toNat_natCast, hx]
  exact wpAny_bind (wpAny_setField ho rfl (by simp) (wpAny_pure ⟨x, rfl, wpAny_pure k⟩))
theorem ti_stop {Q : Option Value → Shared → Prop} (hh : A.handled = none) (ho : s.heap.get? it = some (tiObj t i)) (ht : s.heap.IsTuple t its) (hx : its[i]? = none)
    (k : ∀ h', (∀ b o, b ≠ it → s.heap.get? b = some o → h'.get? b = some o) → (∃ o, h'.get? it = some o) → Q none { s with heap := h' }) : wpAny (model prog w) A (pyNext (.ref it)) Q E s := by
  obtain ⟨ot, hot, _, nt, hdt⟩ := ht
  have hT : s.TypeIs (.ref it) "tuple_iterator" := ⟨_, ho, rfl⟩
  unfold pyNext
  refine wpAny_bind (wpAny_attempt (wpAny_callSpecial?_slot (name := Str.ofString "__next__") hT PySem.F.slot_tuple_iterator_next (wpAny_call_entry PySem.F.slot_tuple_iterator_next hT PySem.F.entry_tuple_iterator_next ?_ (PySem.F.args_tuple_iterator_next_1 _))))
  show wpAny (model prog w) A.in1 (field (.ref it) 0 >>= _) _ _ s
  refine wpAny_bind (wpAny_field ho rfl (x := .ref t) rfl ?_)
  rw [if_neg (show ¬ ((Value.ref t == Value.none) = true) from fun z => nomatch z)]
  refine wpAny_bind (m := field (.ref it) 1) (wpAny_field ho rfl (x := .int i 0) rfl ?_)
  refine wpAny_bind (m := seqItems? (.ref t)) (wpAny_seqItems hot hdt ?_)
  simp only [Int.toNat_natCast, hx]
  refine wpAny_bind (wpAny_rule (wpAny_bind (wpAny_setField ho rfl (by simp) ?_)))
  have e0 := Heap.get?_update_self (Obj.mapFields (·.setIfInBounds 0 Value.none)) ho (Obj.isFreed_of_fields (Obj.data_mapFields (o := tiObj t i) rfl _))
  show wpAny (model prog w) A.in1 (newExc (.type "StopIteration") [] >>= _) _ _ _
  refine wpAny_bind ?_
  simp only [newExc, newTuple]
  refine wpAny_bind (wpAny_newObj_type (wpAny_bind (m := firstArgMember _ _) (wpAny_of_eq (a := Value.none) (by first | rfl | (simp only [firstArgMember]; rfl)) (wpAny_newObj_type ?_ (by size_fits)))) (by size_fits))
  simp only [raiseNew]
  refine wpAny_bind (wpAny_handled ?_)
  rw [show A.in1.handled = none from hh]
  refine wpAny_bind (wpAny_pure (wpAny_throw ?_))
  refine wpAny_bind (wpAny_isInstance (T := "StopIteration") (b := true) ⟨_, Heap.get?_push_size _ rfl, rfl⟩ isSubtype_stop ?_)
  rw [if_pos rfl]
  refine wpAny_pure (k _ (fun b o hb e => ?_) ?_)
  · exact Heap.get?_push_of_some _ (Heap.get?_push_of_some _ ((Heap.get?_update_other s.heap _ (Ne.symm hb)).trans e))
  · exact ⟨_, Heap.get?_push_of_some _ (Heap.get?_push_of_some _ e0)⟩
end
section
variable {X : Cx} {pins : List (Addr × Obj)} {σ : L2.St} {H : Hp} {s : Shared} {it t q : Addr} {i : Nat}
theorem ti_ok {P : Program} {w : PySem.World} {H : Hp} {h : Heap} (e : h.get? it = some (tiObj t i)) : ObjOk P w H h it (TiO t it i) := ⟨e, ⟨_, e⟩, fun h1 h2 q k => k _ q⟩
theorem ti_get (I : Inv X pins σ H s) (e : H it = some (TiO t it i)) : s.heap.get? it = some (tiObj t i) := (I.hok it _ e).1
/-- iter(t), t a tuple -/
def rIterT (K : PySem.W.Frag) : List V → Hp → VK → Prop := fun xs H Q => ∃ (t : Addr) (zs : List V), xs = [.ref t] ∧ SqT K H t zs ∧ ∀ it, H it = none → Q (.ref it) (upd H it (TiO t it 0))
theorem c_iterT : CallR X (.builtin "iter") (rIterT X.K) := by
  intro pins s σ H xs us Q I r h
  obtain ⟨t, zs, rfl, ht, q⟩ := h
  rw [Vals.ref1 r]
  obtain ⟨its, rv, hT, _⟩ := I.tuple ht
  obtain ⟨o, h1, h2, h3⟩ := hT
  refine ti_call ⟨o, h1, h2, h3⟩ ?_
  exact ⟨.ref s.heap.objs.size, _, I.laid (t' := s.toks) (fun b u e => Heap.get?_push_of_some _ e) (Nat.le_refl _) (ti_ok (Heap.get?_push_size _ rfl)), rfl, q _ (I.hok.fresh (Nat.le_refl _))⟩
theorem ti_step (I : Inv X pins σ H s) (e : H it = some (TiO t it i)) : Inv X pins σ (upd H it (TiO t it (i + 1))) { s with heap := s.heap.update it (Obj.mapFields (·.setIfInBounds 1 (rawInt ((i : Int) + 1)))) } := by
  have ho := ti_get I e
  have hn := Heap.get?_update_self (Obj.mapFields (·.setIfInBounds 1 (rawInt ((i : Int) + 1)))) ho (Obj.isFreed_of_fields (Obj.data_mapFields (o := tiObj t i) rfl _))
  have hf : Obj.mapFields (·.setIfInBounds 1 (rawInt ((i : Int) + 1))) (tiObj t i) = tiObj t (i + 1) := by simp [Obj.mapFields, rawInt]
  rw [hf] at hn
  exact I.write (x := it) (e := it) (t' := s.toks) (by rw [e]; exact trivial) (.inl rfl) (fun b u hb hu => (Heap.get?_update_other s.heap _ (Ne.symm hb)).trans hu) ⟨_, hn⟩ (ti_ok hn)
/-- an iterator that is done -/
def TiX (it : Addr) : HO := .ext fun h => ∃ o, h.get? it = some o
theorem tx_ok {P : Program} {w : PySem.World} {H : Hp} {h : Heap} (e : ∃ o, h.get? it = some o) : ObjOk P w H h it (TiX it) := ⟨e, e, fun h1 h2 q k => let ⟨o, ho⟩ := q; ⟨o, k _ ho⟩⟩
theorem hint_split : splitId "tuple_iterator.__length_hint__" = some ("tuple_iterator", "__length_hint__") := by decide +kernel
theorem ti_hint {M : Model} {A : Around} {E : Value → Shared → Prop} {Q : Bool → Shared → Prop} (ho : s.heap.get? it = some (tiObj t i)) (h : Q false s) : wpAny M A (Builtin.List.listLengthHint (.ref it)) Q E s := by
  have hT : s.TypeIs (.ref it) "tuple_iterator" := ⟨_, ho, rfl⟩
  unfold Builtin.List.listLengthHint
  refine wpAny_bind (wpAny_specialOf hT PySem.F.nolen_tu ?_)
  show wpAny M A (specialOf (Value.ref it) (Str.ofString "__length_hint__") >>= _) _ _ _
  refine wpAny_bind (wpAny_specialOf hT PySem.F.hint_tu ?_)
  generalize hd : ("tuple_iterator.__length_hint__" : String) = d
  wp_delta
  rw [show splitId d = some ("tuple_iterator", "__length_hint__") from by rw [← hd]; exact hint_split]
  subst hd
  refine wpAny_bind (wpAny_isInstance (b := true) hT (by rw [isSubtype_type]; kernel_rfl) ?_)
  exact wpAny_pure h
theorem ti_loop {Rs : Result → Shared → Prop} {A1 : Around} {xs : List V} (hh : A1.handled = none) (hz : xs.length ≤ 40000) (hqi : q ≠ it) (hti : ∀ H', (∀ b, b ≠ q → b ≠ it → H' b = H b) → SqT X.K H' t xs)
    (hdone : ∀ H' s', Inv X pins σ H' s' → (∀ b, b ≠ q → b ≠ it → H' b = H b) → H' q = some (.lst xs) → Rs (.ok (.ret .none)) s') :
    ∀ (m i : Nat) (H' : Hp) (s : Shared), xs.length - i = m → i ≤ xs.length → Inv X pins σ H' s → (∀ b, b ≠ q → b ≠ it → H' b = H b) → H' q = some (.lst (xs.take i)) → H' it = some (TiO t it i) → codeAny (model X.prog X.w) A1 (.builtin "list.extend.loop" ⟨[.ref q, .ref it, .none], []⟩) Rs s := by
  intro m
  induction m with
  | zero =>
    intro i H' s hm hi I hO hq hit
    have hi' : i = xs.length := by omega
    subst hi'
    refine codeAny_builtin PySem.F.entry_extend_loop ?_
    rw [Around.under_plainId PySem.F.plain_extend_loop _]
    show wpAny (model X.prog X.w) A1.in1 (pyNext (.ref it) >>= _) _ _ s
    obtain ⟨its, rv, ⟨o, h1, h2, h3⟩, _⟩ := I.tuple (hti H' hO)
    refine wpAny_bind (ti_stop hh (ti_get I hit) ⟨o, h1, h2, h3⟩ (by simp [← rv.length]) fun h' k1 k2 => wpAny_pure ?_)
    refine hdone (upd H' it (TiX it)) _ (I.write (x := it) (e := it) (t' := s.toks) (by rw [hit]; exact trivial) (.inl rfl) k1 k2 (tx_ok k2)) (fun b hb hb2 => by rw [upd_ne hb2]; exact hO b hb hb2) ?_
    rw [upd_ne hqi, hq, List.take_of_length_le (Nat.le_refl _)]
  | succ m ih =>
    intro i H' s hm hi I hO hq hit
    have hlt : i < xs.length := by omega
    refine codeAny_builtin PySem.F.entry_extend_loop ?_
    rw [Around.under_plainId PySem.F.plain_extend_loop _]
    show wpAny (model X.prog X.w) A1.in1 (pyNext (.ref it) >>= _) _ _ s
    obtain ⟨its, rv, ⟨o, h1, h2, h3⟩, _⟩ := I.tuple (hti H' hO)
    obtain ⟨u, hu, ru⟩ := rv.get (List.getElem?_eq_getElem hlt)
    refine wpAny_bind (ti_next (ti_get I hit) ⟨o, h1, h2, h3⟩ (x := u) (by simpa using hu) ?_)
    have I1 := ti_step I hit
    have hq1 : upd H' it (TiO t it (i + 1)) q = some (.lst (xs.take i)) := by rw [upd_ne hqi]; exact hq
    obtain ⟨z, il, k, r2, hl, e⟩ := I1.lstM hq1
    have hll : il.length = i := by rw [← r2.length, List.length_take]; omega
    show wpAny (model X.prog X.w) A1.in1 (updateSeq q (·.push u) >>= _) _ _ _
    refine wpAny_bind (wpAny_updateSeq e rfl (wpAny_pure ⟨plainId_quiet PySem.F.plain_extend_loop _, ?_⟩) (by rw [List.size_toArray, hll, sizeLine_eq]; omega) (by show (il.toArray.push u).size ≤ sizeLine + 1; rw [Array.size_push, List.size_toArray, hll, sizeLine_eq]; omega))
    refine ih (i + 1) _ _ (by omega) hlt (I1.lset (its' := il ++ [u]) (ys := xs.take (i + 1)) (t' := s.toks) hq1 e (by simp) (by rw [List.take_succ_eq_append_getElem hlt]; exact r2.append (.cons ru .nil)) (by rw [List.length_take, sizeLine_eq]; omega)) (fun b hb hb2 => by rw [upd_ne hb, upd_ne hb2]; exact hO b hb hb2) upd_same (by rw [upd_ne (Ne.symm hqi)]; exact upd_same)
end
end Wo
set_option Elab.async false
set_option linter.all false
set_option maxRecDepth 100000
set_option maxHeartbeats 4000000
namespace Wo
open PySem PySem.Spec PyProof.Rows L2 Evl Vr En PySem.W
section
variable {X : Cx} {pins : List (Addr × Obj)} {σ : L2.St} {H : Hp} {s : Shared} {f f2 C a q : Addr} {fd fd2 : FuncData} {ps ps2 : List Str} {sp sp2 : Sp} {E : XK} {k n : Nat}
/-- a def that raises nothing, called anywhere -/
theorem call_sub0 {A : Around} {us : List Value} {vs : List V} {Q : VK} {Er : Value → Shared → Prop} (sb : Sub X k A) (F : FnOk X.prog X.w X.K X.mg X.base CX0 k f fd ps sp) (hb : Binds X.K fd ps []) (I : Inv X pins σ H s) (r : Vals vs us) (h : sp vs H Q E) :
    wpAny (model X.prog X.w) A (call (.ref f) us) (EP X pins σ Q) Er s := by
  have e := I.env0
  have z0 : Env0 X.prog X.w X.K X.mg X.base A X.stack s H := ⟨by rw [sb.fr]; exact e.frames, e.mod, e.bs, e.bsz, e.funs, e.frf, e.hok, e.bare⟩
  have z1 : BindsTo s fd ⟨us, []⟩ (ps.zip us) := by simpa using hb s us I.kIn (by rw [List.append_nil, ← r.length]; exact F.len _ _ _ _ h)
  refine wpAny_call (codeAny_mono (F.run A X.stack s H ⟨us, []⟩ us vs Q E sb.room z0 z1 r h) fun r s' hq => ?_)
  cases r with
  | error e => exact False.elim hq
  | ok fl => cases fl with
    | ret u => exact I.after hq
    | _ => exact False.elim hq
/-- what the own __iter__ gives: an iterator over a tuple, and then the list q of its things -/
def AftI (K : PySem.W.Frag) (a q : Addr) (sp2 : Sp) (E : XK) (Q : VK) : VK := fun v H' => ∃ (it t : Addr) (xs : List V), v = .ref it ∧ it ≠ q ∧ xs.length ≤ 40000 ∧ H' it = some (TiO t it 0) ∧
  sp2 [.ref a] H' (fun u H1 => ∃ m : Int, u = .int m ∧ 0 ≤ m ∧ m ≤ 40000 ∧ H1 it = some (TiO t it 0) ∧ H1 q = some (.lst []) ∧ (∀ H2, (∀ b, b ≠ q → b ≠ it → H2 b = H1 b) → SqT K H2 t xs) ∧ ∀ H2, (∀ b, b ≠ q → b ≠ it → H2 b = H1 b) → H2 q = some (.lst xs) → Q (.ref q) H2) E
/-- list(o), o's class with its own __iter__ and __len__ -/
def rListO (K : PySem.W.Frag) (C : Addr) (sp sp2 : Sp) (E : XK) : List V → Hp → VK → Prop := fun xs H Q => ∃ a dx fs, xs = [.ref a] ∧ H a = some (.ins C dx fs) ∧ ∀ q, H q = none → sp [.ref a] (upd H q (.lst [])) (fun v H' => H' a = some (.ins C dx fs) ∧ AftI K a q sp2 E Q v H') E
theorem long_no {m : Int} (h0 : 0 ≤ m) (h1 : m ≤ 40000) : Builtin.List.listTooLong m.toNat = false := by
  unfold Builtin.List.listTooLong
  have : m.toNat ≤ 40000 := by omega
  simp only [decide_eq_false_iff_not, sizeLine_eq]
  omega
theorem ol_hint {A : Around} {Q : Bool → Shared → Prop} {Er : Value → Shared → Prop} {dx : Addr} {fs : List (Str × V)} {R : Int → Hp → Prop} (sb : Sub X k A.in1) (F : FnOk X.prog X.w X.K X.mg X.base CX0 k f fd ps sp) (hs : findIn X.K (.ref C) "__len__" = some (some (.ref f))) (hf : isFn X.K (.ref f) = true) (hb : Binds X.K fd ps [])
    (I : Inv X pins σ H s) (ha : H a = some (.ins C dx fs)) (h : sp [.ref a] H (fun u H1 => ∃ m : Int, u = .int m ∧ 0 ≤ m ∧ m ≤ 40000 ∧ R m H1) E) (hq : ∀ b m H1 s1, Inv X pins σ H1 s1 → R m H1 → Q b s1) : wpAny (model X.prog X.w) A (Builtin.List.listLengthHint (.ref a)) Q Er s := by
  obtain ⟨mA, J, _⟩ := ins_get I.hok ha
  obtain ⟨od, J, _⟩ := J.look
  obtain ⟨m0, hF⟩ := I.fr
  unfold Builtin.List.listLengthHint
  refine wpAny_bind (wpAny_bind (J.type.here ((looks_findIn I.kIn hs).here ?_)))
  refine KFB.if_not rfl ?_
  rw [if_pos (by rfl)]
  refine wpAny_bind (wpAny_rule (wpAny_bind (wpAny_attempt (len_K hF I.ok.mod.kin J hs hf (wpAny_mono (call_sub0 (vs := [.ref a]) sb F hb I (.cons rfl .nil) h) (fun r s' z => ?_) fun _ _ z => z)))))
  obtain ⟨v, H', I', rv, m, rfl, h0, h1, hR⟩ := z
  obtain ⟨t, rfl⟩ := rv
  refine ⟨⟨h0, by omega⟩, ?_⟩
  refine wpAny_bind (m := asInt? _) (wpAny_pure ?_)
  dsimp only
  rw [if_neg (by rw [long_no h0 h1]; exact fun z => nomatch z)]
  exact wpAny_pure (hq _ m H' _ (I'.tok _) hR)
theorem oe_run {Q : VK} {A1 : Around} {dx : Addr} {fs : List (Str × V)} (hh : A1.handled = none) (sb : Sub X n A1.in1) (sb2 : Sub X k A1.in1.in1) (F : FnOk X.prog X.w X.K X.mg X.base CX0 n f fd ps sp) (M : Meth X.K C "__iter__" f) (hb : Binds X.K fd ps [])
    (F2 : FnOk X.prog X.w X.K X.mg X.base CX0 k f2 fd2 ps2 sp2) (M2 : Meth X.K C "__len__" f2) (hb2 : Binds X.K fd2 ps2 [])
    (I : Inv X pins σ H s) (ha : H a = some (.ins C dx fs)) (hq : H q = some (.lst [])) (h : sp [.ref a] H (fun v H' => H' a = some (.ins C dx fs) ∧ AftI X.K a q sp2 E Q v H') E) :
    wpAny (model X.prog X.w) A1.in1 (Builtin.List.listExtendWith (.ref q) (.ref a) .none) (fun fin s' => match fin with
      | .done g => wants (fun r s2 => r = .none ∧ EP X pins σ Q (.ref q) s2) X.xe (.ok g) s'
      | .again c' => c'.quiet = true ∧ codeAny (model X.prog X.w) A1 c' (wants (fun r s2 => r = .none ∧ EP X pins σ Q (.ref q) s2) X.xe) s') X.xe s := by
  have hne : q ≠ a := ne_of hq ha (fun z => nomatch z)
  obtain ⟨mA, J, _⟩ := ins_get I.hok ha
  obtain ⟨od, J, _⟩ := J.look
  obtain ⟨m0, hF⟩ := I.fr
  unfold Builtin.List.listExtendWith
  refine wpAny_bind (J.type.here ?_)
  rw [if_neg (by
    have z1 : Builtin.List.listSameRef (.ref q) (.ref a) = false := by simp [Builtin.List.listSameRef, hne]
    rw [z1]
    exact fun z => nomatch z)]
  refine wpAny_bind (owit_iter hF I.ok.mod.kin J M.at_ M.fn (wpAny_mono (call_sub0 (vs := [.ref a]) sb F hb I (.cons rfl .nil) h) (fun u s2 z => ?_) fun _ _ z => z))
  obtain ⟨v, H', I', rv, ha', it, t, xs, rfl, hiq, hz, hi0, h2⟩ := z
  cases rv
  have hT : s2.TypeIs (.ref it) "tuple_iterator" := ⟨_, ti_get I' hi0, rfl⟩
  unfold OwitIt
  refine wpAny_specialOf hT PySem.F.slot_tuple_iterator_next.lookup ?_
  refine wpAny_bind (wpAny_holding (ol_hint sb2 F2 M2.at_ M2.fn hb2 I' ha' h2 fun b m H1 s3 I1 ⟨hit, hq1, hti, hQ⟩ => ?_))
  have go : ∀ s4 : Shared, Inv X pins σ H1 s4 → codeAny (model X.prog X.w) A1 (.builtin "list.extend.loop" ⟨[.ref q, .ref it, .none], []⟩) (wants (fun r s2 => r = .none ∧ EP X pins σ Q (.ref q) s2) X.xe) s4 := fun s4 I4 =>
    ti_loop (t := t) (H := H1) (xs := xs) hh hz (Ne.symm hiq) hti (fun H2 s3 I2 o1 o2 => ⟨rfl, .ref q, H2, I2, rfl, hQ H2 o1 o2⟩) xs.length 0 H1 s4 rfl (Nat.zero_le _) I4 (fun _ _ _ => rfl) (by rw [List.take_zero]; exact hq1) hit
  refine wpAny_ite_split (fun _ => ?_) (fun _ => wpAny_pure ⟨plainId_quiet PySem.F.plain_extend_loop _, go _ I1⟩)
  refine wpAny_bind (wpAny_rule (wpAny_bind ?_))
  obtain ⟨z, il, c, r3, hl3, e3⟩ := I1.lstM hq1
  cases r3
  show wpAny (model X.prog X.w) _ (updateSeq q (·.push .none) >>= fun _ => updateSeq q (·.pop)) _ _ _
  refine wpAny_bind (wpAny_updateSeq e3 rfl ?_)
  have I2 := I1.lset (f := (·.push Value.none)) (its' := [Value.none]) (ys := [.non]) (t' := s3.toks) hq1 e3 (by simp) (.cons rfl .nil) (by rw [List.length_singleton, sizeLine_eq]; decide)
  obtain ⟨z4, il4, c4, r4, hl4, e4⟩ := I2.lstM upd_same
  obtain ⟨u4, rfl, ru4⟩ := r4.one
  refine wpAny_updateSeq e4 rfl ?_ (by show 1 ≤ sizeLine; rw [sizeLine_eq]; decide) (by show 0 ≤ sizeLine + 1; exact Nat.zero_le _)
  have I3 := I2.lset (f := (·.pop)) (its := [u4]) (its' := []) (ys := []) (t' := s3.toks) upd_same e4 (by rfl) .nil (Nat.zero_le _)
  rw [upd_upd] at I3
  have hH : upd H1 q (.lst []) = H1 := by
    funext b
    by_cases hb : b = q
    · rw [hb, upd_same, hq1]
    · exact upd_ne hb
  rw [hH] at I3
  exact wpAny_pure ⟨plainId_quiet PySem.F.plain_extend_loop _, go _ I3⟩
theorem c_listO (hc : X.calm = true) (F : FnOk X.prog X.w X.K X.mg X.base CX0 n f fd ps sp) (hr : Room (n + 2) X.A) (M : Meth X.K C "__iter__" f) (hb : Binds X.K fd ps []) (F2 : FnOk X.prog X.w X.K X.mg X.base CX0 k f2 fd2 ps2 sp2) (hr2 : Room (k + 3) X.A) (M2 : Meth X.K C "__len__" f2) (hb2 : Binds X.K fd2 ps2 []) (hx : Passes CX0 X E) : CallR X (.type "list") (rListO X.K C sp sp2 E) := by
  intro pins s σ H xs us Q I r h
  obtain ⟨a, dx, fs, rfl, ha, h⟩ := h
  rw [Vals.ref1 r]
  have sb : Sub X n X.A.in1.in1 := Sub.in1 (Sub.in1 ⟨hr, rfl⟩)
  have sb2 : Sub X k X.A.in1.in1.in1 := Sub.in1 (Sub.in1 (Sub.in1 ⟨hr2, rfl⟩))
  have fr : H s.heap.objs.size = none := I.hok.fresh (Nat.le_refl _)
  refine callType_codes (Q₁ := fun o s1 => o = .ref s.heap.objs.size ∧ s1 = { s with heap := s.heap.push { cls := .type "list", data := .seq #[] } }) PySem.F.called_list (PySem.F.typeCall_list_1 _) PySem.F.entry_list_init (code_list_new _ ⟨rfl, rfl⟩) fun o s1 h1 => ?_
  obtain ⟨rfl, rfl⟩ := h1
  have hS : (s.heap.push { cls := .type "list", data := .seq #[] }).get? s.heap.objs.size = some { cls := .type "list", data := .seq #[] } := Heap.get?_push_size _ rfl
  refine ⟨⟨_, hS, rfl⟩, PySem.F.args_list_init_2 _ _, ?_⟩
  have I1 : Inv X pins σ (upd H s.heap.objs.size (.lst [])) { s with heap := s.heap.push { cls := .type "list", data := .seq #[] } } := I.lnew (its := []) (t' := s.toks) .nil (Nat.zero_le _)
  show wpAny (model X.prog X.w) _ (Builtin.List.listItems (.ref s.heap.objs.size) >>= fun old => Builtin.List.listUpdate (.ref s.heap.objs.size) (fun _ => #[]) >>= fun _ => letGo old.toList.reverse >>= fun _ => Builtin.List.listExtendWith (.ref s.heap.objs.size) (.ref a) .none) _ _ _
  refine wpAny_bind ?_
  unfold Builtin.List.listItems
  refine wpAny_bind (wpAny_seqItems hS rfl (wpAny_pure ?_))
  show wpAny (model X.prog X.w) _ (updateSeq s.heap.objs.size (fun _ => #[]) >>= fun _ => letGo (#[] : Array Value).toList.reverse >>= fun _ => Builtin.List.listExtendWith (.ref s.heap.objs.size) (.ref a) .none) _ _ _
  refine wpAny_bind (wpAny_updateSeq hS rfl ?_)
  have I2 := I1.lset (f := fun _ => #[]) (its := []) (its' := []) (ys := []) (t' := s.toks) upd_same hS rfl .nil (Nat.zero_le _)
  rw [upd_upd] at I2
  refine wpAny_bind (wpAny_letGo ?_)
  exact oe_run (A1 := X.A.in1) (I.ok.hd hc) sb sb2 F M hb F2 M2 hb2 I2 (by rw [upd_ne (ne_of_none ha fr)]; exact ha) upd_same (h _ fr)
end
section
variable {X : Cx} {CX : CXT} {f C : Addr} {fd : FuncData} {ps : List Str} {sp : Sp} {E : XK} {k : Nat} {K : PySem.W.Frag}
theorem op_eqOK (hK : X.K = K) (F : FnOk X.prog X.w X.K X.mg X.base CX k f fd ps sp) (hr : Room k X.A) (M : Meth X.K C "__eq__" f) (hb : Binds X.K fd ps []) (hx : Passes CX X E) : OpR X (compareOp .Eq) (rEqO K C sp E) := by subst hK; exact op_eqO F hr M hb hx
theorem op_neOK (hK : X.K = K) (F : FnOk X.prog X.w X.K X.mg X.base CX k f fd ps sp) (hr : Room (k + 1) X.A) (M : Meth X.K C "__eq__" f) (hne : findIn X.K (.ref C) "__ne__" = some (some (.builtin "object.__ne__"))) (hob : subIn X.K (.ref C) (.type "object") = some true) (hb : Binds X.K fd ps []) (hx : Passes CX X E) : OpR X (compareOp .NotEq) (rNeO K C sp E) := by subst hK; exact op_neO F hr M hne hob hb hx
end
end Wo
set_option Elab.async false
set_option linter.all false
set_option maxRecDepth 100000
set_option maxHeartbeats 4000000
namespace Wo
open PySem PySem.Spec PyProof.Rows L2 Evl Vr En
/-- != of two tuples of the very same objects -/
def rNeS (K : PySem.W.Frag) : R2 := fun x y H Q => ∃ a b xs, x = .ref a ∧ y = .ref b ∧ SqT K H a xs ∧ SqT K H b xs ∧ (∀ v ∈ xs, v = .non ∨ ∃ r, v = .ref r) ∧ Q (.bl false) H
theorem same_val {v : V} {u u' : Value} (h : v = .non ∨ ∃ r, v = .ref r) (r : RelV v u) (r' : RelV v u') : u = u' := by
  rcases h with rfl | ⟨a, rfl⟩
  · cases r; cases r'; rfl
  · cases r; cases r'; rfl
theorem op_neS {X : Cx} (hu : X.A.units < cLine) : OpR X (compareOp .NotEq) (rNeS X.K) := by
  intro pins s σ H x y v u Q I rx ry h
  obtain ⟨a, b, xs, rfl, rfl, ha, hb, hs, q⟩ := h
  cases rx
  cases ry
  obtain ⟨its, rv, h1, _⟩ := I.tuple ha
  obtain ⟨its2, rv2, h2, _⟩ := I.tuple hb
  have t1 : s.heap.IsTuple a its.toArray := by obtain ⟨o, p1, p2, p3⟩ := h1; exact ⟨o, p1, p2, p3⟩
  have t2 : s.heap.IsTuple b its2.toArray := by obtain ⟨o, p1, p2, p3⟩ := h2; exact ⟨o, p1, p2, p3⟩
  have hsz : its.toArray.size = its2.toArray.size := by rw [List.size_toArray, List.size_toArray, ← rv.length, ← rv2.length]
  have hc := SeqAt.RcNeAt.tuples (A := X.A) (s := s) (e := fun _ => true) t1 t2 hu fun j g1 g2 => by
    have k1 : j < xs.length := by rw [rv.length]; simpa using g1
    obtain ⟨w1, e1, r1⟩ := rv.get (List.getElem?_eq_getElem k1)
    obtain ⟨w2, e2, r2⟩ := rv2.get (List.getElem?_eq_getElem k1)
    have f1 : its.toArray[j] = w1 := by
      have g1' : j < its.length := by simpa using g1
      rw [List.getElem?_eq_getElem g1'] at e1
      simpa using Option.some.inj e1
    have f2 : its2.toArray[j] = w2 := by
      have g2' : j < its2.length := by simpa using g2
      rw [List.getElem?_eq_getElem g2'] at e2
      simpa using Option.some.inj e2
    rw [f1, f2, same_val (hs _ (List.getElem_mem k1)) r1 r2]
    exact SeqAt.EqAt.same _
  have h3 : ((List.range (min its.toArray.size its2.toArray.size)).all fun _ => true) = true := List.all_eq_true.mpr fun _ _ => rfl
  have h4 : (!(((List.range (min its.toArray.size its2.toArray.size)).all fun _ => true) && its.toArray.size == its2.toArray.size)) = false := by
    rw [h3, hsz, beq_self_eq_true]
    rfl
  rw [h4] at hc
  exact hc X.prog X.w X.xe _ ⟨.bl false, H, I, rfl, q⟩
theorem op_neSK {X : Cx} {K : PySem.W.Frag} (hK : X.K = K) (hu : X.A.units < cLine) : OpR X (compareOp .NotEq) (rNeS K) := by subst hK; exact op_neS hu
end Wo
set_option Elab.async false
set_option linter.all false
set_option maxRecDepth 100000
set_option maxHeartbeats 4000000
namespace Sl
open PySem PySem.Spec PyProof.Rows L2
section
variable {P : Program} {w : World} {A : Around} {E : Value → Shared → Prop} {s : Shared}
/-- the object that set() begins with -/
abbrev blank (w : World) : Obj := { cls := .type "set", dict := none, data := .set #[] 0 (.fresh 0 0 (!w.params.followText "set-order")) }
/-- the new set is filled from a list of ints -/
theorem fill {l : Addr} {items : Array Value} {ns : List Int} (calm : A.handled = none) (isL : s.heap.IsList l items) (whole : IntsAre items.toList ns) (few : ns.length + 1 < scanBound) {R : Value → Shared → Prop}
    (k : ∀ (h2 : Heap) (tk c : Nat), SetR w h2 s.heap.objs.size (fun j => decide (j ∈ ns)) c → c ≤ ns.length → (∀ b o, s.heap.get? b = some o → h2.get? b = some o) → R .none { s with heap := h2, toks := tk }) :
    codeAny (model P w) A (.call (.builtin "set.__init__") ⟨[.ref s.heap.objs.size, .ref l], []⟩) (wants R E) { s with heap := s.heap.push (blank w) } := by
  have sz : items.size = ns.length := by have z := IntsAre.length whole; simpa only [Array.length_toList] using z
  have at0 : (s.heap.push (blank w)).get? s.heap.objs.size = some (blank w) := Heap.get?_push_size _ rfl
  have ty : Shared.TypeIs { s with heap := s.heap.push (blank w) } (.ref s.heap.objs.size) "set" := ⟨_, at0, rfl⟩
  have isL1 : (s.heap.push (blank w)).IsList l items := isL.push _
  have hl : l < s.heap.objs.size := by obtain ⟨o, e, _⟩ := isL; exact Heap.lt_size e
  refine codeAny_call_builtin F.called_set.init.plain F.entry_set_init (check_set_init_1 ty ?_)
  obtain ⟨ol, eol, cl, nl, dl⟩ := isL1
  obtain ⟨c0, d0, x0, s0⟩ := ol
  simp only at cl dl; subst cl dl
  have f1 := F.sub_list_set; have f2 := F.sub_list_frozenset
  have f3 : (Value.type "list" == Value.type "dict") = false := by decide
  have again : (s.heap.push (blank w)).IsList l items := ⟨_, eol, rfl, nl, rfl⟩
  unfold Builtin.«set.__init__» noKeywords Builtin.Frozenset.updateFrom
  generalize hI : pyIter = I0
  wp_walk
  subst hI
  refine wpAny_pyIter_list again (wpAny_bind (wpAny_runValue ?_))
  have c3 : A.in1.in1.in1.handled = none := by simp [calm]
  have s1 : (s.heap.push (blank w)).objs.size = s.heap.objs.size + 1 := Heap.size_push ..
  have nI : l ≠ (s.heap.push (blank w)).objs.size := fun z => absurd (z.trans s1) (Nat.ne_of_lt (Nat.lt_succ_of_lt hl))
  have nS : s.heap.objs.size ∉ [(s.heap.push (blank w)).objs.size, l] := by
    intro z; rcases List.mem_cons.mp z with z | z
    · exact absurd (z.trans s1) (Nat.ne_of_lt (Nat.lt_succ_self _))
    · exact absurd (List.mem_singleton.mp z) (Nat.ne_of_gt hl)
  have each : ∀ (i : Nat) (v : Value), items[i]? = some v → ∃ k t, ns[i]? = some k ∧ v = .int k t := fun i v hv => by
    have hi : i < ns.length := by have := (Array.getElem?_eq_some_iff.mp hv).1; omega
    obtain ⟨t, e⟩ := IntsAre.int_at whole i v (by rw [Array.getElem?_toList]; exact hv)
    exact ⟨ns[i], t, List.getElem?_eq_getElem hi, by rw [e, List.getD_eq_getElem?_getD, List.getElem?_eq_getElem hi]; rfl⟩
  have W := (Walks.list (prog := P) (w := w) (A := A.in1.in1) c3 (s.heap.push (blank w)).objs.size l nI items).toS
  refine set_update_ints W s.heap.objs.size nS ns sz few each (items.size - 0) 0 _ rfl (Nat.zero_le _) ⟨⟨_, Heap.get?_push_size _ rfl, rfl, rfl⟩, again.push _⟩ ⟨0, Nat.le_refl 0, ?_⟩ ?_
  · exact setR_new_at (Heap.get?_push_of_some _ at0)
  · rintro ⟨h2, g2, d2, t2, o2⟩ c mv hc hs
    have e1 : g2 = s.gens := mv.gens
    have e2 : d2 = s.drawn := mv.drawn
    have e3 : o2 = s.os := mv.os
    subst e1 e2 e3
    refine wpAny_pure (wpAny_pure ?_)
    rw [sz] at hc
    refine k h2 t2 c hs hc fun b o e => ?_
    have hb : b < s.heap.objs.size := Heap.lt_size e
    refine mv.heap b o (fun z => ?_) (Heap.get?_push_of_some _ (Heap.get?_push_of_some _ e))
    rcases List.mem_cons.mp z with z | z
    · exact absurd z (Nat.ne_of_lt hb)
    · exact absurd ((List.mem_singleton.mp z).trans s1) (Nat.ne_of_lt (Nat.lt_succ_of_lt hb))
theorem made {l : Addr} {items : Array Value} {ns : List Int} {Q : Value → Shared → Prop} (calm : A.handled = none) (isL : s.heap.IsList l items) (whole : IntsAre items.toList ns) (few : ns.length + 1 < scanBound)
    (k : ∀ (h2 : Heap) (tk c : Nat), SetR w h2 s.heap.objs.size (fun j => decide (j ∈ ns)) c → c ≤ ns.length → (∀ b o, s.heap.get? b = some o → h2.get? b = some o) → Q (.ref s.heap.objs.size) { s with heap := h2, toks := tk }) :
    wpAny (model P w) A (call (.type "set") [.ref l]) Q E s := by
  obtain ⟨c, tl, m0⟩ := F.called_set.mro
  have m1 := F.called_set.made; have m2 := F.called_set.sub
  refine wpAny_call (codeAny_of_tree (show wpAny _ _ (callAny (.type "set") _) _ _ _ from wpAny_pure ⟨Code.quiet_builtin _ (by decide +kernel), codeAny_builtin F.entry_type_call ?_⟩))
  rw [Around.under_plain (weight_type_call_type "set" [.ref l] []) rfl]
  have m3 := F.called_set.notType; have m4 := F.called_set.canCreate; have m5 := F.typeCall_set_1 (.ref l)
  repeat (any_goals (first | assumption | wp_step))
  refine codeAny_mono (code_set_led1 (Q₁ := fun v s1 => v = .ref s.heap.objs.size ∧ s1 = { s with heap := s.heap.push (blank w) }) (.ref l) (E := E) ⟨rfl, rfl⟩) fun r s1 hr => ?_
  match r, hr with
  | .error e, hr => exact hr
  | .ok .next, hr => exact hr.elim
  | .ok .brk, hr => exact hr.elim
  | .ok .cont, hr => exact hr.elim
  | .ok (.ret v), hr =>
    obtain ⟨rfl, rfl⟩ := hr
    have ty : Shared.TypeIs { s with heap := s.heap.push (blank w) } (.ref s.heap.objs.size) "set" := ⟨_, Heap.get?_push_size _ rfl, rfl⟩
    have i1 := F.called_set.init.lookup; have i2 := F.called_set.init.bind (.ref s.heap.objs.size)
    repeat (any_goals (first | assumption | wp_step))
    refine codeAny_mono (fill (R := fun v s2 => v = .none ∧ ∃ h2 tk c, s2 = { s with heap := h2, toks := tk } ∧ SetR w h2 s.heap.objs.size (fun j => decide (j ∈ ns)) c ∧ c ≤ ns.length ∧ ∀ b o, s.heap.get? b = some o → h2.get? b = some o) (E := E) (A := A.in1) (by simp [calm]) isL whole few fun h2 tk c x y z => ⟨rfl, h2, tk, c, rfl, x, y, z⟩) fun r s2 hr => ?_
    match r, hr with
    | .error e, hr => exact hr
    | .ok .next, hr => exact hr.elim
    | .ok .brk, hr => exact hr.elim
    | .ok .cont, hr => exact hr.elim
    | .ok (.ret v), hr =>
      obtain ⟨rfl, h2, tk, c, rfl, x, y, z⟩ := hr
      repeat (any_goals (first | assumption | wp_step))
      exact k _ _ _ x y z
end
/-- set(xs) of a list of ints, as a rule -/
def rSetL (K : PySem.W.Frag) (w : World) : List V → Hp → VK → Prop := fun xs H Q => ∃ (l : Addr) (ns : List Int), xs = [.ref l] ∧ SqL K H l (ns.map V.int) ∧ ns.length ≤ 1000 ∧ ∀ a c, H a = none → (∀ ms : List Int, (∀ k ∈ ns, k ∈ ms) → c ≤ ms.length) → Q (.ref a) (upd H a (SetO w a (fun j => decide (j ∈ ns)) c))
theorem ints_of : ∀ {ns : List Int} {us : List Value}, Vals (ns.map V.int) us → IntsAre us ns
  | [], _, .nil => .nil
  | n :: ns, _, .cons r t => by
    obtain ⟨k, rfl⟩ := r
    exact .cons n k (ints_of t)
theorem c_setL {X : Cx} (hc : X.calm = true) : CallR X (.type "set") (rSetL X.K X.w) := by
  intro pins s σ H xs us Q I r h
  obtain ⟨l, ns, rfl, hq, hl, q⟩ := h
  rw [Vals.ref1 r]
  obtain ⟨its, rv, pl, hz⟩ := I.list hq
  refine made (I.ok.hd hc) pl.isList (by simpa using ints_of rv) (by unfold scanBound; omega) fun h2 tk c hs hc2 hk => ?_
  have hn : H s.heap.objs.size = none := I.hok.fresh (Nat.le_refl _)
  have J : Inv X pins σ (upd H s.heap.objs.size (SetO X.w s.heap.objs.size (fun j => decide (j ∈ ns)) c)) { s with heap := h2, toks := tk } :=
    I.call (ch := []) (Un.laid hk (Nat.le_refl _) hn) (I.hok.laid hk (Nat.le_refl _) (setO_new hs)) I.bare (fun _ z => nomatch z)
  refine ⟨.ref s.heap.objs.size, _, J, rfl, q _ _ hn fun ms hm => ?_⟩
  obtain ⟨o, es, ep, t, _, _, _, _, nd, mem, _, _, sz, _⟩ := hs
  have z := nd.length_le_of_subset (l₂ := ms) fun k hk' => hm k (by simpa using (mem k).mpr hk')
  rw [List.length_map, Array.length_toList] at z
  omega
theorem sorted_one : ∀ {as bs : List Int}, as.Pairwise (· < ·) → bs.Pairwise (· < ·) → (∀ k, k ∈ as ↔ k ∈ bs) → as = bs
  | [], [], _, _, _ => rfl
  | [], b :: bs, _, _, h => nomatch (h b).mpr (List.mem_cons_self ..)
  | a :: as, [], _, _, h => nomatch (h a).mp (List.mem_cons_self ..)
  | a :: as, b :: bs, ha, hb, h => by
    rw [List.pairwise_cons] at ha hb
    have e : a = b := by
      rcases List.mem_cons.mp ((h a).mp (List.mem_cons_self ..)) with x | x
      · exact x
      · rcases List.mem_cons.mp ((h b).mpr (List.mem_cons_self ..)) with y | y
        · exact y.symm
        · have := hb.1 _ x; have := ha.1 _ y; omega
    subst e
    congr 1
    refine sorted_one ha.2 hb.2 fun k => ⟨fun x => ?_, fun x => ?_⟩
    · rcases List.mem_cons.mp ((h k).mp (List.mem_cons_of_mem _ x)) with y | y
      · have := ha.1 _ x; omega
      · exact y
    · rcases List.mem_cons.mp ((h k).mpr (List.mem_cons_of_mem _ x)) with y | y
      · have := hb.1 _ x; omega
      · exact y
end Sl
set_option Elab.async false
set_option linter.all false
set_option maxRecDepth 100000
set_option maxHeartbeats 4000000
namespace Wo
open PySem PySem.Spec PyProof.Rows L2 Evl Vr En
/-- set(xs), xs a list of ints: as many as they are, if no one stands twice -/
def rSetN (K : PySem.W.Frag) (w : World) : List V → Hp → VK → Prop := fun xs H Q => ∃ (l : Addr) (ns : List Int), xs = [.ref l] ∧ SqL K H l (ns.map V.int) ∧ ns.length ≤ 1000 ∧ ns.Nodup ∧ ∀ a, H a = none → Q (.ref a) (upd H a (SetO w a (fun j => decide (j ∈ ns)) ns.length))
theorem c_setN {X : Cx} (hc : X.calm = true) : CallR X (.type "set") (rSetN X.K X.w) := by
  intro pins s σ H xs us Q I r h
  obtain ⟨l, ns, rfl, hq, hl, hnd, q⟩ := h
  rw [Vals.ref1 r]
  obtain ⟨its, rv, pl, hz⟩ := I.list hq
  refine Sl.made (I.ok.hd hc) pl.isList (by simpa using Sl.ints_of rv) (by unfold scanBound; omega) fun h2 tk c hs hc2 hk => ?_
  have hn : H s.heap.objs.size = none := I.hok.fresh (Nat.le_refl _)
  have hc3 : c = ns.length := by
    obtain ⟨o, es, ep, t, _, _, _, _, nd, mem, _, _, sz, _⟩ := id hs
    have z : ns.length ≤ es.size := by
      have z0 := hnd.length_le_of_subset (l₂ := es.toList.map keyOf) fun k hk' => (mem k).mp (decide_eq_true hk')
      simpa using z0
    omega
  subst hc3
  have J : Inv X pins σ (upd H s.heap.objs.size (SetO X.w s.heap.objs.size (fun j => decide (j ∈ ns)) ns.length)) { s with heap := h2, toks := tk } :=
    I.call (ch := []) (Un.laid hk (Nat.le_refl _) hn) (I.hok.laid hk (Nat.le_refl _) (setO_new hs)) I.bare (fun _ z => nomatch z)
  exact ⟨.ref s.heap.objs.size, _, J, rfl, q _ hn⟩
/-- len of such a set -/
def rLenN (w : World) : List V → Hp → VK → Prop := fun xs H Q => ∃ (a : Addr) (S : Int → Bool) (n : Nat), xs = [.ref a] ∧ H a = some (SetO w a S n) ∧ Q (.int n) H
theorem c_lenN {X : Cx} : CallR X (.builtin "len") (rLenN X.w) := by
  intro pins s σ H xs us Q I r h
  obtain ⟨a, S, n, rfl, ha, q⟩ := h
  rw [Vals.ref1 r]
  obtain ⟨o, es, ep, t, ho, ex, hd, _, _, _, hlt, hf, sz, _⟩ := setO_get I ha
  subst sz
  exact call_len_set (o := o) (es := es) (ep := ep) (t := t) ho ex hd hf (by unfold scanBound at hlt; omega) ⟨.int es.size, H, I.tok _, ⟨_, rfl⟩, q⟩
end Wo
set_option Elab.async false
set_option linter.all false
set_option maxRecDepth 100000
set_option maxHeartbeats 4000000
namespace Tx
open PySem PySem.Spec PyProof.Rows L2 Evl Vr En Wo
/-- list(text) -/
def rListStr : List V → Hp → VK → Prop := fun xs H Q => ∃ z, xs = [.str z] ∧ z.length ≤ sizeLine ∧ ∀ p, H p = none → Q (.ref p) (upd H p (.lst (z.cps.toList.map fun c => V.str (S [c]))))
theorem vals_of : ∀ (xs : List V) (us : List Value), xs.length = us.length → (∀ (i : Nat) (x : V) (u : Value), xs[i]? = some x → us[i]? = some u → RelV x u) → Vals xs us
  | [], [], _, _ => .nil
  | [], _ :: _, h, _ => by cases h
  | _ :: _, [], h, _ => by cases h
  | x :: xs, u :: us, h, k => .cons (k 0 x u rfl rfl) (vals_of xs us (by simpa using h) fun i y v a b => k (i + 1) y v a b)
theorem c_listStr {X : Cx} (hc : X.calm = true) : CallR X (.type "list") rListStr := by
  intro pins s σ H xs us Q I r h
  obtain ⟨z, rfl, hz, q⟩ := h
  obtain ⟨u, rfl, t, rfl⟩ := vals1 r
  refine call_list_str (hn := hz) (I.ok.hd hc) z t fun h' tk acc' c' kp e hi => ?_
  have hv : Vals (z.cps.toList.map fun c => V.str (S [c])) acc'.toList := by
    refine vals_of _ _ (by rw [List.length_map, Array.length_toList, Array.length_toList]; exact hi.1.symm) fun i x u hx hu => ?_
    rw [List.getElem?_map] at hx
    rw [Array.getElem?_toList] at hu
    obtain ⟨c, w, h1, rfl⟩ := hi.2 i u hu
    rw [Array.getElem?_toList, h1] at hx
    cases hx
    exact ⟨w, rfl⟩
  exact ⟨.ref s.heap.objs.size, _, I.laid (t' := tk) kp (Nat.le_refl _) (show ObjOk X.prog X.w _ h' _ (.lst (z.cps.toList.map fun c => V.str (S [c]))) from ⟨by rw [List.length_map, Array.length_toList]; exact hz, acc'.toList, c', hv, by rw [e]⟩), rfl, q _ (I.hok.fresh (Nat.le_refl _))⟩
abbrev vS (l : List Nat) : V := .str (S l)
section
variable {σ : L2.St} {H H' : Hp} {te ta tb tc tn to tl tk tv td ty tx : TE} {t : TT} {tr ts : TA} {tz tu : TS} {D : Ends} {K : PySem.W.Frag} {w : World} {x y z v : V} {g : TG} {l m : List Nat}
theorem el_split {c : Nat} (hc : c < 256) (h : Ev to σ H (vS l)) (h2 : ∀ H1, Ex H H1 → Ev te σ H1 (vS [c])) (hl : l.length ≤ 100000) : EvL (tM1 (fun x xs H Q => ∃ a b, x = .str a ∧ xs = [.str b] ∧ (b.length == 0) = false ∧ a.length + 2 ≤ sizeLine ∧ rNewStrs (Txt.split a b) H Q) to te) σ H ((splitL c l).map vS) := fun H1 e Q q =>
  h H1 e _ fun H2 e2 => ⟨⟨_, rfl⟩, h2 H2 (e.trans e2) H2 (Ex.refl H2) _ fun H3 e3 => ⟨_, _, rfl, rfl, rfl, by rw [S_len]; exact Nat.le_trans (Nat.add_le_add_right hl 2) (by decide), fun p hp => by
    have e4 : (Txt.split (S l) (S [c])).map V.str = (splitL c l).map vS := by rw [split_S hc, List.map_map]; rfl
    rw [e4]
    exact q p _ (fresh_back (e2.trans e3) hp) ((e2.trans e3).trans (Ex.new hp)) upd_same⟩⟩
def lenAll (ps : List (List Nat)) : Nat := (ps.map List.length).sum + ps.length
theorem joinL_le (c : Nat) : ∀ ps : List (List Nat), (joinL c ps).length ≤ lenAll ps
  | [] => Nat.le_refl _
  | [p] => by simp [joinL, lenAll]
  | p :: q :: r => by
    have := joinL_le c (q :: r)
    show (p ++ c :: joinL c (q :: r)).length ≤ _
    simp only [lenAll, List.map_cons, List.sum_cons, List.length_cons, List.length_append] at this ⊢
    omega
theorem sum_len (ps : List (List Nat)) : ((ps.map S).map (·.length)).sum = (ps.map List.length).sum := by
  rw [List.map_map]
  exact congrArg List.sum (List.map_congr_left fun p _ => S_len p)
/-- sep.join(a new list) -/
theorem ev_joinN {c : Nat} {ps : List (List Nat)} (h : Ev to σ H (vS [c])) (h2 : ∀ H1, Ex H H1 → EvL te σ H1 (ps.map vS)) (hl : lenAll ps ≤ 100000) : Ev (tM1 (fun x xs H Q => ∃ a p, ∃ ys : List Str, x = .str a ∧ xs = [.ref p] ∧ (SqL K H p (ys.map V.str) ∨ SqT K H p (ys.map V.str)) ∧ (ys.map (·.length)).sum + ys.length * a.length ≤ 16777216 ∧ Q (.str (Txt.join a ys)) H) to te) σ H (vS (joinL c ps)) := fun H1 e Q q =>
  h H1 e _ fun H2 e2 => ⟨⟨_, rfl⟩, h2 H2 (e.trans e2) H2 (Ex.refl H2) _ fun p H3 hp e3 h3 => ⟨_, p, ps.map S, rfl, rfl, .inl (sq_of (by rw [List.map_map]; exact h3)), by
    rw [sum_len, List.length_map, S_len]
    unfold lenAll at hl
    show _ + ps.length * 1 ≤ _
    omega, by rw [join_S]; exact q H3 (e2.trans e3)⟩⟩
theorem ev_joinV {c : Nat} {ps : List (List Nat)} {p : Addr} (h : Ev to σ H (vS [c])) (h2 : ∀ H1, Ex H H1 → Ev te σ H1 (.ref p)) (hp : SqL K H p (ps.map vS)) (hl : lenAll ps ≤ 100000) : Ev (tM1 (fun x xs H Q => ∃ a p, ∃ ys : List Str, x = .str a ∧ xs = [.ref p] ∧ (SqL K H p (ys.map V.str) ∨ SqT K H p (ys.map V.str)) ∧ (ys.map (·.length)).sum + ys.length * a.length ≤ 16777216 ∧ Q (.str (Txt.join a ys)) H) to te) σ H (vS (joinL c ps)) := fun H1 e Q q =>
  h H1 e _ fun H2 e2 => ⟨⟨_, rfl⟩, h2 H2 (e.trans e2) H2 (Ex.refl H2) _ fun H3 e3 => ⟨_, p, ps.map S, rfl, rfl, .inl (by rw [List.map_map]; exact ex_l ((e.trans e2).trans e3) hp), by
    rw [sum_len, List.length_map, S_len]
    unfold lenAll at hl
    show _ + ps.length * 1 ≤ _
    omega, by rw [join_S]; exact q H3 (e2.trans e3)⟩⟩
theorem ev_m1 {r : V → List V → Hp → VK → Prop} {a b : Str} (h : Ev to σ H (.str a)) (h2 : ∀ H1, Ex H H1 → Ev te σ H1 (.str b)) (hr : ∀ H1 Q, Q z H1 → r (.str a) [.str b] H1 Q) : Ev (tM1 r to te) σ H z := fun H1 e Q q =>
  h H1 e _ fun H2 e2 => ⟨⟨_, rfl⟩, h2 H2 (e.trans e2) H2 (Ex.refl H2) _ fun H3 e3 => hr H3 Q (q H3 (e2.trans e3))⟩
theorem ev_m0 {r : V → List V → Hp → VK → Prop} {a : Str} (h : Ev to σ H (.str a)) (hr : ∀ H1 Q, Q z H1 → r (.str a) [] H1 Q) : Ev (tM0 r to) σ H z := fun H1 e Q q =>
  h H1 e _ fun H2 e2 => ⟨⟨_, rfl⟩, hr H2 Q (q H2 e2)⟩
def rIntS : List V → Hp → VK → Prop := fun xs H Q => ∃ a n, xs = [.str a] ∧ PySem.intText? a = some n ∧ a.length ≤ 640 ∧ Q (.int n) H
theorem c_intS {X : Cx} : CallR X (.type "int") rIntS := call_int_str
theorem rc_intS {n : Int} (h : PySem.intText? (S l) = some n) (hl : l.length ≤ 640) : RC rIntS [vS l] H (.int n) := fun H1 _ _ q => ⟨_, n, rfl, h, by rw [S_len]; exact hl, q H1 (Ex.refl H1)⟩
def rStrI : List V → Hp → VK → Prop := fun xs H Q => ∃ i, xs = [.int i] ∧ i.natAbs.log2 < 1920 ∧ Q (.str (toString i)) H
theorem c_strI {X : Cx} : CallR X (.type "str") rStrI := call_str_int
theorem rc_strI {i : Int} (h : i.natAbs.log2 < 1920) : RC rStrI [.int i] H (.str (toString i)) := fun H1 _ _ q => ⟨i, rfl, h, q H1 (Ex.refl H1)⟩
theorem ev_slS {lo hi : Option Int} {t1 t2 : TO} (h : Ev te σ H (vS l)) (h1 : ∀ H1, Ex H H1 → EvO t1 σ H1 lo) (h2 : ∀ H1, Ex H H1 → EvO t2 σ H1 hi) (hl : l.length ≤ 100000) : Ev (L2.tSl rSlS te t1 t2) σ H (vS ((l.drop (HT.sIx l.length 0 lo)).take (HT.sIx l.length l.length hi - HT.sIx l.length 0 lo))) := fun H1 e Q q =>
  h H1 e _ fun H2 e2 => h1 H2 (e.trans e2) H2 (Ex.refl H2) _ fun H3 e3 => h2 H3 ((e.trans e2).trans e3) H3 (Ex.refl H3) _ fun H4 e4 => ⟨S l, rfl, by rw [S_len]; exact sz_of hl, by
    have e5 : cutS (S l) lo hi = S ((l.drop (HT.sIx l.length 0 lo)).take (HT.sIx l.length l.length hi - HT.sIx l.length 0 lo)) := by
      unfold cutS
      rw [S_len]
    rw [e5]
    exact q H4 ((e2.trans e3).trans e4)⟩
/-- [e for sign in text if t] -/
theorem el_lcS {j : Nat} {vs : List Nat} (f : Nat → Bool) (v : Nat → V) (h : Ev tl σ H (vS l)) (hz : l.length ≤ 40000) (hw : ∀ x, wipe ((wipe σ vs).set j (some x)) vs = wipe σ vs)
    (ht : ∀ (i c : Nat) H1, Ex H H1 → l[i]? = some c → EvT t ((wipe σ vs).set j (some (vS [c]))) H1 (f i)) (he : ∀ (i c : Nat) H1, Ex H H1 → l[i]? = some c → f i = true → Ev te ((wipe σ vs).set j (some (vS [c]))) H1 (v i)) :
    EvL (tLc (iStr tl) (gName j) t te vs) σ H (given l.length f v) := fun H0 e Q q => h H0 e _ fun H1 e1 => ⟨S l, rfl, fun Dl hD =>
  lc_it (n := l.length) (by have := walk_str (z := S l); simpa using this) (Cw H1 f v Dl) ⟨hD, Ex.new hD, upd_same⟩ (fun i H' _ p => trivial) (fun i x H' H'' hi p y => by
    obtain ⟨rfl, c, hc, rfl⟩ := y
    have hc' : l[i]? = some c := by simpa using hc
    exact ⟨hw _, cw_turn p (by omega) (ht i c H1 (e.trans e1) hc') (fun hf => he i c H1 (e.trans e1) hc' hf)⟩)
    (fun H' p => q Dl H' (fresh_back e1 p.1) (e1.trans p.2.1) p.2.2)⟩
theorem el_listS (h : Ev te σ H (vS l)) (hl : l.length ≤ 100000) : EvL (tCB rListStr (tCons te tNil)) σ H (l.map fun c => vS [c]) := fun H1 e Q q =>
  h H1 e _ fun H2 e2 => ⟨_, rfl, by rw [S_len]; exact sz_of hl, fun p hp => q p _ (fresh_back e2 hp) (e2.trans (Ex.new hp)) upd_same⟩
theorem ev_maxN {ns : List Int} {m : Int} (ha : EvL ta σ H (ns.map V.int)) (hm : m ∈ ns) (hl : ∀ y ∈ ns, y ≤ m) : Ev (tCB (rMax K) (tCons ta tNil)) σ H (.int m) := fun H1 e Q q =>
  ha H1 e _ fun p H2 _ e2 h2 => ⟨p, ns, rfl, sq_of h2, List.length_pos_of_mem hm, fun m' h1 h3 => by
    have e4 : m' = m := Int.le_antisymm (hl m' h1) (h3 m hm)
    rw [e4]
    exact q H2 e2⟩
theorem el_rev {xs : List V} (h : EvL te σ H xs) : EvL (tRevL K te) σ H xs.reverse := fun H1 e Q q =>
  h H1 e _ fun p H2 hp e2 h2 => ⟨p, xs, rfl, sq_of h2, fun r hr => q r _ (fresh_back e2 hr) (e2.trans (Ex.new hr)) upd_same⟩
theorem rv_cat {a b : Str} (h : (a ++ b).length ≤ sizeLine) {r : R2} (hr : ∀ H1 Q, Q (.str (a ++ b)) H1 → r (.str a) (.str b) H1 Q) : RV r (.str a) (.str b) H (.str (a ++ b)) := fun H1 _ Q q => hr H1 Q (q H1 (Ex.refl H1))
end
end Tx
set_option Elab.async false
set_option linter.all false
set_option maxRecDepth 100000
set_option maxHeartbeats 2000000
/-! own exceptions with their own __init__, over any base class of the kit's -/
namespace PySem
namespace Xi
open PySem.W PySem.Calls PyProof.Rows PySem.HandSPX Builtin Builtin.ObjectAttr
structure Bs (B ni ii : String) (tl : List Value) : Prop where
  F : ExcBaseFacts B ni ii tl
  pass : ∀ self, refuseLoop self "__setattr__" tl = pure ()
  ob : tl.contains (.type "object") = true
theorem bsIndex : Bs "IndexError" "IndexError.__new__" "IndexError.__init__" [.type "IndexError", .type "LookupError", .type "Exception", .type "BaseException", .type "object"] := ⟨F.excBase_IndexError, F.store_IndexError.passes, by decide +kernel⟩
variable {prog : Program} {w : World} {R : Result → Shared → Prop} {hp : Heap} {g : Array GenState} {d : Drawn} {t : Nat} {os : OsState} {A : Around}
theorem osaG {B ni ii : String} {tl : List Value} (b : Bs B ni ii tl) {K : W.Frag} {nm : Str} {tk : Tok} {y : Value} {e C : Addr} {fv : Array Value} {cd : ClassData} (kin : K.In hp)
    (at_ : hp.get? e = some { cls := .ref C, data := .fields fv }) (cl : W.clsIn K C = some cd) (mr : cd.mro = .ref C :: tl) (hd : cd.hasDict = true) (no : W.findIn K (.ref C) nm = some none)
    (fin : ∀ h' tk' dx, (∀ b o, b ≠ e → hp.get? b = some o → h'.get? b = some o) → hp.objs.size ≤ dx → dx ≠ e → h'.get? e = some { cls := .ref C, dict := some dx, data := .fields fv } → h'.Ns1 dx (fun z => if z = nm then some y else none) → R (.ok (.ret .none)) ⟨h', g, d, tk', os⟩) :
    codeAny (model prog w) A (.call (.builtin "object.__setattr__") ⟨[.ref e, .str nm tk, y], []⟩) R ⟨hp, g, d, t, os⟩ := by
  have J : W.InstAt hp e { cls := .ref C, data := .fields fv } C none := ⟨at_, rfl, rfl, trivial⟩
  have S := F.store_object; have isOb : cd.mro.contains (.type "object") = true := by rw [mr, List.contains_cons, b.ob, Bool.or_true]
  have notEmpty : cd.mro.isEmpty = false := by rw [mr]; rfl
  have far : e ≠ hp.objs.size := Nat.ne_of_lt (Heap.lt_size at_)
  have isSub : W.Looks (model prog w) hp (isInstance (.ref e) (.type "object")) true := J.type.andThen (W.looks_mroIn kin (by unfold W.mroIn; rw [cl, Option.bind_some, if_neg (by rw [notEmpty]; decide), isOb]))
  refine codeAny_call_builtin S.slot.plain S.entry (@W.check_slot (model prog w) _ _ ⟨hp, g, d, t, os⟩ "object.__setattr__" "object" "__setattr__" (.ref e) [.str nm tk, y] [] _ S.kind S.split isSub (S.args (.ref e) (.str nm tk) y) ?_)
  have lm : W.Looks (model prog w) hp (mroOf (.ref C)) cd.mro := (W.looks_clsIn kin cl).andThen .now
  have lt : W.Looks (model prog w) hp (storeTaker? none) none := .now
  have lc : W.Looks (model prog w) hp (classData C) cd := W.looks_clsIn kin cl
  rw [W.osa_eq, refuse_eq]; refine wpAny_bind (wpAny_bind (J.type.at (wpAny_bind (lm.at ?_))))
  rw [mr, refuseLoop_ref, b.pass]; refine wpAny_pure (wpAny_bind (J.type.at (wpAny_bind ((W.looks_findIn kin no).at (wpAny_bind (lt.at ?_))))))
  show wpAny _ _ (storeInOwnDict (.ref e) (.ref C) (.str nm tk) nm y false) _ _ _
  obtain ⟨_, _, _, _, _, hd', _, _, _, _, _⟩ := cd; dsimp only at hd; subst hd; unfold storeInOwnDict ownDictForStores
  repeat (first | with_reducible refine store_in_new ?_ ?_ | with_reducible refine wpAny_loadPart_at at_ ?_ | with_reducible refine lc.at ?_ | wp_step)
  · exact ⟨_, #[], _, (Heap.get?_update_ne _ _ _ _ far.symm).trans (Heap.get?_push_at rfl rfl), rfl, fun _ z => absurd z (by simp), fun _ => rfl⟩
  · intro h' tk' ns' sb
    have at2 : (hp.push { cls := .type "dict", data := .dict #[] }).get? e = some { cls := .ref C, data := .fields fv } := Heap.get?_push_of_some _ at_
    refine fin h' tk' hp.objs.size (fun b o nb ho => ?_) (Nat.le_refl _) far.symm ((sb.2 e far).trans (Heap.get?_update_self _ at2 rfl)) ns'
    exact (sb.2 b (Nat.ne_of_lt (Heap.lt_size ho))).trans ((Heap.get?_update_ne _ _ _ _ nb).trans (Heap.get?_push_of_some _ ho))
end Xi
end PySem
namespace L2
open PySem PySem.Spec PyProof.Rows
/-- what the written part says of such a class -/
structure OxG (K : PySem.W.Frag) (C : Addr) (ni : String) (tl : List Value) : Prop where
  cls : ∃ nm q N bs sn sub ab col dd k0 k1 k2 k3 k5, K.lookup C = some (excClassObj nm q C N bs tl true sn sub ab col dd k0 k1 k2 k3 k5 ni)
  sa : PySem.W.findIn K (.ref C) "__setattr__" = some (some (.builtin "object.__setattr__"))
  exC : PySem.W.subIn K (.ref C) (.type "BaseException") = some true
  tyC : PySem.W.typeIn K (.ref C) = some (.type "type")
  kC : PySem.W.keepIn K (.ref C) = true
section
variable {X : Cx} {pins : List (Addr × Obj)} {σ : St} {H : Hp} {s : Shared} {a C : Addr} {f : Str} {y : V} {u : Value} {Q : Unit → Shared → Prop} {E : Value → Shared → Prop} {A : Around} {B ni ii : String} {tl : List Value}
theorem osG_new (b : PySem.Xi.Bs B ni ii tl) (T : OxG X.K C ni tl) (I : Inv X pins σ H s) (e : H a = some (exo a C none)) (hno : PySem.W.findIn X.K (.ref C) f = some none) (ry : RelV y u)
    (h : ∀ dx s', H dx = none → dx ≠ a → Inv X pins σ (upd (upd H dx (exd dx [(f, y)])) a (exo a C (some dx))) s' → Q () s') : wpAny (model X.prog X.w) A (setAttr (.ref a) f u) Q E s := by
  obtain ⟨nm, q, N, bs, sn, sub, ab, col, dd, k0, k1, k2, k3, k5, hC⟩ := T.cls
  have cl : PySem.W.clsIn X.K C = some { name := nm, bases := bs, mro := .ref C :: tl, ns := N, qualname := q, hasDict := true, slotNames := sn, subclasses := sub, abstract := ab, collection := col, hasDel := false } := by unfold PySem.W.clsIn; rw [hC] <;> rfl
  obtain ⟨t1, at_⟩ := exo_at I.hok e; obtain ⟨hp, g, d, t, os⟩ := s
  refine PySem.W.set_plain I.kIn (ox := { cls := .ref C, dict := none, data := .fields #[.ref t1, .none, .none, .none, .bool false, .none] }) (od := none) ⟨at_, rfl, rfl, trivial⟩ T.sa ?_
  refine PySem.Xi.osaG b I.kIn at_ cl rfl rfl hno (fun h' tk' dx kp big ne there ns' => ?_)
  have fr : H dx = none := I.hok.fresh big
  have n1 : ∀ {b : Addr} {o : Obj}, hp.get? b = some o → b ≠ dx := fun {b o} z => Nat.ne_of_lt (Nat.lt_of_lt_of_le (Heap.lt_size z) big)
  have n2 : ∀ {b : Addr}, H b = none → b ≠ a := fun {b} n z => by rw [z, e] at n; cases n
  have un : Un X.fs [] H (upd (upd H dx (exd dx [(f, y)])) a (exo a C (some dx))) hp h' := {
    keep := fun b o z n _ _ => kp b o (n2 n) z
    slot := fun b o z n _ _ => ⟨o.slots, kp b o (n2 n) z⟩
    free := fun b o z n _ => by rw [upd_ne (n2 n), upd_ne (n1 z)]; exact n
    there := fun b o z _ => by
      by_cases hb : b = a
      · rw [hb]; exact ⟨_, there⟩
      · exact ⟨o, kp b o hb z⟩
    tups := fun b xs z => by rw [upd_ne (at_ne e z exo_tup), upd_ne (ne_of_none z fr)]; exact z
    frzs := fun b o v z => by rw [upd_ne (at_ne e z exo_frz), upd_ne (ne_of_none z fr)]; exact z
    tbls := fun b ps z => ⟨#[], by rw [upd_ne (at_ne e z exo_tbl), upd_ne (ne_of_none z fr), z]; simp⟩ }
  refine h dx _ fr ne (I.un (t' := tk') un fun b o z => ?_)
  by_cases hb : b = a
  · subst hb; rw [upd_same] at z; cases z; exact exo_ok there
  · rw [upd_ne hb] at z
    by_cases hd : b = dx
    · subst hd; rw [upd_same] at z; cases z; exact exd_ok ns' (relO_put (fs := []) ry fun _ => True.intro)
    · rw [upd_ne hd] at z
      refine (I.hok b o z).stay (fun c v hc p => kp c v ?_ p) (fun c hc => by rw [upd_ne (at_ne e hc exo_own), upd_ne (ne_of_none hc fr)]; exact hc) (fun c xs hc => by rw [upd_ne (at_ne e hc exo_tup), upd_ne (ne_of_none hc fr)]; exact hc)
      rcases hc with hc | hc
      · rw [hc]; exact hb
      · exact at_ne e hc exo_own
/-- self.f = e, the first field of an exception in the making -/
def tOsG (K : PySem.W.Frag) (ni : String) (tl : List Value) (f : Str) (to te : TE) : TS := fun D σ H => te σ H fun y H1 => to σ H1 fun x H2 => ∃ a C : Addr, x = .ref a ∧ OxG K C ni tl ∧ PySem.W.findIn K (.ref C) f = some none ∧
  H2 a = some (exo a C none) ∧ ∀ dx, H2 dx = none → dx ≠ a → D.nx σ (upd (upd H2 dx (exd dx [(f, y)])) a (exo a C (some dx)))
theorem ps_osG {o e : Expr} {to te : TE} {p' pos : Pos} (b : PySem.Xi.Bs B ni ii tl) (ho : PE X o to) (he : PE X e te) (hs : swapsWith e (some (.Attribute o f p')) pos.line X.env = pure false := by rfl) : PS X (.Assign [.Attribute o f p'] e pos) (tOsG X.K ni tl f to te) := by
  refine ⟨fun pins s σ H D I h => plainObj_wpAny_Assign_Attribute (thn (he.run pins s σ H _ I h) fun v s1 ⟨y, H1, I1, r1, q1⟩ => thn (ho.run pins s1 σ H1 _ I1 q1) fun u s2 ⟨x, H2, I2, r2, a, C, ex, T, hno, ea, q⟩ => ?_) hs⟩
  subst ex; obtain rfl : u = Value.ref a := r2
  exact osG_new b T I2 ea hno r1 fun dx s' n ne J => ⟨σ, _, J, q dx n ne⟩
/-- C(e, ..), C's own __init__ keeping sp, over a base class b -/
theorem pmk_oxG {e : Expr} {es : List Expr} {ta : TA} {p pos : Pos} {CX : CXT} {x : Str} {fI : Addr} {k : Nat} {fd : FuncData} {ps : List Str} {sp : Sp} {ds : List Value} {dvs : List V} (b : PySem.Xi.Bs B ni ii tl) (T : OxG X.K C ni tl)
    (iC : PySem.W.findIn X.K (.ref C) "__init__" = some (some (.ref fI))) (tI : PySem.W.typeIn X.K (.ref fI) = some (.type "function")) (F1 : FnOk X.prog X.w X.K X.mg X.base CX k fI fd ps sp) (hr : Room (k + 1) X.A) (hb : Binds X.K fd ps ds) (hd : Vals dvs ds)
    (hx : Passes CX X (fun _ _ _ => False)) (hg : Gl X x) (hm : X.mg x = some (.ref C)) (ha : PA X (e :: es) ta) (hdb : (x == ("__debug__" : Str)) = false := by decide) (he : starEach (e :: es) X.env = (false, eval e X.env) :: starEach es X.env := by rfl)
    (hpl : (backTo pos (starEach es X.env)).any (·.1) = false := by rfl) : PMk X (.Call (.Name x p) (e :: es) [] pos) (tMkO C sp dvs ta) := by
  intro pins s σ H Q I h
  obtain ⟨nm, q, N, bs, sn, sub, ab, col, dd, k0, k1, k2, k3, k5, hC⟩ := T.cls
  refine wpAny_Call_Name_kw (ld_glob I hg hm (PySem.W.callWith_K (h₀ := X.base) I.ok.mod.kin T.kC (thn (ha.run pos pins s σ H _ I h) fun us s1 ⟨vs, H1, I1, r1, hz, q1⟩ => ⟨I1.kIn, ?_⟩) he hpl) hdb)
  show wpAny _ _ (call (.ref C) us) _ _ _
  obtain ⟨hp, g, dr, tk, os⟩ := s1
  have big : hp.objs.size ≤ hp.objs.size + 1 := Nat.le_succ _
  have fr : H1 (hp.objs.size + 1) = none := I1.hok.fresh big
  have q2 := q1 (hp.objs.size + 1) fr
  have keep : ∀ b o, hp.get? b = some o → ((hp.push (PySem.W.kdv_tup us)).push (PySem.HandSPX.excO C hp.objs.size)).get? b = some o := fun b o z => Heap.get?_push_of_some _ (Heap.get?_push_of_some _ z)
  have there : ((hp.push (PySem.W.kdv_tup us)).push (PySem.HandSPX.excO C hp.objs.size)).get? (hp.objs.size + 1) = some (PySem.HandSPX.excO C hp.objs.size) := by heap_get
  have J : Inv X pins σ (upd H1 (hp.objs.size + 1) (exo (hp.objs.size + 1) C none)) ⟨(hp.push (PySem.W.kdv_tup us)).push (PySem.HandSPX.excO C hp.objs.size), g, dr, tk, os⟩ :=
    I1.laid (t' := tk) (o := exo (hp.objs.size + 1) C none) keep big (exo_ok there)
  have rr : Vals (V.ref (hp.objs.size + 1) :: (vs ++ dvs)) (Value.ref (hp.objs.size + 1) :: (us ++ ds)) := .cons rfl (r1.append hd)
  have len : (Value.ref (hp.objs.size + 1) :: us ++ ds).length = ps.length := by have z := rr.length; rw [F1.len _ _ _ _ q2] at z; exact z.symm
  have short : us.length ≤ sizeLine := by rw [← Paired.length r1, sizeLine_eq]; omega
  refine wpAny_call (PySem.HandSPX.call_own b.F (fun _ => rfl) (I1.kIn _ _ hC) (PySem.W.looks_findIn I1.kIn iC) (fun self => PySem.W.bind_fn I1.kIn self tI) short
    (codeAny_mono (F1.run _ X.stack _ _ ⟨Value.ref (hp.objs.size + 1) :: us, []⟩ (Value.ref (hp.objs.size + 1) :: (us ++ ds)) _ _ (fun _ _ _ => False) (hr.make C us []) (J.env0.make C us []) (hb _ (Value.ref (hp.objs.size + 1) :: us) J.kIn len) rr q2) fun r s' z => ?_))
  cases r with
  | error er => exact hx pins σ _ _ er s' J z
  | ok fl =>
    cases fl with
    | ret u =>
      obtain ⟨v, H2, os2, bare2, un2, hok2, rv, ev, d, fs, ea, ed, hd1, q3⟩ := z
      subst ev; obtain ⟨h2, g2, d2, t2, os'⟩ := s'
      exact ⟨rv, mk_end (raises_own T.exC T.tyC) I1 big keep un2 hok2 os2 bare2 ea ed hd1 q3⟩
    | next | brk | cont => exact z.elim
end
end L2
set_option Elab.async false
set_option linter.all false
set_option maxRecDepth 100000
set_option maxHeartbeats 2000000
/-! several except clauses, with and without names -/
namespace L2
open PySem PySem.Spec PyProof.Rows
structure Cl where
  c : Value
  nm : Option Nat
  ts : Addr → Value → Option Addr → TS
def endsC : Option Nat → Ends → Ends
  | none, D => D
  | some i, D => { nx := fun σ' H' => D.nx (σ'.set i none) H', rt := D.rt, bk := fun σ' H' => D.bk (σ'.set i none) H', ct := fun σ' H' => D.ct (σ'.set i none) H' }
def intoC : Option Nat → Addr → St → St
  | none, _, σ => σ
  | some i, a, σ => σ.set i (some (.ref a))
/-- what the clauses wish of an exception of the body, one behind the other -/
def wCls (K : PySem.W.Frag) (n : Nat) (Wout : WX) (D : Ends) : List Cl → WX
  | [] => Wout
  | k :: r => fun cls d σ H => ∃ b, PySem.W.exmOne K cls k.c = some b ∧ (b = true → ∀ a, H a = none → σ.length = n → k.ts a cls d (endsC k.nm D) (intoC k.nm a σ) H) ∧ (b = false → wCls K n Wout D r cls d σ H)
inductive HdsC (X : Cx) : List ExceptHandler → List Cl → Prop
  | nil : HdsC X [] []
  | plain {x : Str} {c : Value} {ts : Addr → Value → Option Addr → TS} {b₀ : Stmt} {suite : List Stmt} {np pos' : Pos} {hds : List ExceptHandler} {l : List Cl} (hc : Names X x c)
      (su : ∀ (a : Addr) (oe : Obj) (cls : Value) (d : Option Addr) (pn : List (Addr × Obj)), Zc cls d oe → (∃ vs, oe.data = .fields vs) → PSs (X.suite a ((a, oe) :: pn)) (b₀ :: suite) (ts a cls d)) (r : HdsC X hds l) :
      HdsC X (.ExceptHandler (some (.Name x np)) none (b₀ :: suite) pos' :: hds) (⟨c, none, ts⟩ :: l)
  | named {x n : Str} {i : Nat} {c : Value} {ts : Addr → Value → Option Addr → TS} {b₀ : Stmt} {suite : List Stmt} {np pos' : Pos} {hds : List ExceptHandler} {l : List Cl} (hc : Names X x c) (hN : X.N.Nodup) (hi : X.N[i]? = some n) (hl : X.env.kindOf n = some .local)
      (su : ∀ (a : Addr) (oe : Obj) (cls : Value) (d : Option Addr) (pn : List (Addr × Obj)), Zc cls d oe → (∃ vs, oe.data = .fields vs) → PSs (X.suite a ((a, oe) :: pn)) (b₀ :: suite) (ts a cls d)) (r : HdsC X hds l) :
      HdsC X (.ExceptHandler (some (.Name x np)) (some n) (b₀ :: suite) pos' :: hds) (⟨c, some i, ts⟩ :: l)
section
variable {X : Cx} {body : List Stmt} {h₀ : ExceptHandler} {hds : List ExceptHandler} {l : List Cl} {pos : Pos} {tb : WX → TS} {Wout : WX}
theorem ps_try_cls (hs : X.stack = X.env :: X.outer) (hf : X.env.frame = some X.env.locals) (tk : Takes X Wout)
    (bd : ∀ (W : WX) (pn : List (Addr × Obj)) (xe : Value → Shared → Prop), Takes (X.tr pn xe) W → PassesOwn (model X.prog X.w) X.A X.env xe → PSs (X.tr pn xe) body (tb W)) (hh : HdsC X (h₀ :: hds) l) :
    PS X (.Try body (h₀ :: hds) [] [] pos) (fun D σ H => tb (wCls X.K X.N.length Wout D l) D σ H) := by
  refine ⟨fun pins s σ H D I h => ?_⟩
  have ok := I.ok; have fr0 : X.A.frames = some (X.env :: X.outer) := by rw [ok.frames, hs]
  refine wpAny_Try_except (wpAny_mono ((bd (wCls X.K X.N.length Wout D l) (X.pn ++ pins) (fun e t1 => wpAny (model X.prog X.w) X.A (noteFrame e X.env) (fun _ t2 => wpAny (model X.prog X.w) X.A (setFlight e none) (fun _ t3 => wpAny (model X.prog X.w) X.A (handleBy e X.env (h₀ :: hds)) (SP X pins D) X.xe t3) X.xe t2) X.xe t1)
    (fun u s' xx => ?_) PassesOwn.looking).run [] s σ H D (I.toTry _) h) (fun f s1 e1 => ?_) (fun e s1 z => z))
  · obtain ⟨a, B, sI, pins', σ', H', cls, d, rfl, J', nb, up, sky, na, os, ag, wish⟩ := xx
    have J : Inv X pins σ' H' sI := J'.ofTry ok
    have sk : Sky B (X.env :: X.outer) a (Zc cls d) X.env.locals s'.heap := by rw [← hs]; exact sky
    show wpAny (model X.prog X.w) X.A (noteFrame (.ref a) X.env) _ _ _
    refine Sky.land Zc.steady fr0 hf sk fun h3 fl3 up3 => ?_
    have J3 : Inv X pins σ' H' { s' with heap := h3 } := J.landed nb fl3.1 (up.trans up3) os ag
    obtain ⟨oe3, vs3, he3, hz3, hd3⟩ := fl3.there
    have apart : a ∉ frs (X.env :: X.outer) := fun m => by obtain ⟨_, o', e', q⟩ := fl3.2.2.1.mem m; rw [he3] at e'; cases e'; exact q _ hd3
    have nL : a ≠ X.env.locals := fun z => apart (List.mem_filterMap.mpr ⟨X.env, List.mem_cons_self, by rw [hf, z]⟩)
    have nF : a ∉ X.fs := fun m => by obtain ⟨e, he, q⟩ := List.mem_filterMap.mp m; exact apart (List.mem_filterMap.mpr ⟨e, List.mem_cons_of_mem _ he, q⟩)
    have S3 := J3.suite he3 hd3 na nL nF
    have LT : PySem.W.Looks (model X.prog X.w) h3 (typeOf (.ref a)) cls := fun A Q E s k q => wpAny_typeOf_ref (k _ _ he3) (by rw [hz3.1]; exact q)
    have asked : ∀ {x : Str} {c : Value} {np : Pos}, Names X x c → ∀ {Q : Value → Shared → Prop} {E : Value → Shared → Prop}, Q c { s' with heap := h3 } → wpAny (model X.prog X.w) (X.A.mark (some (.ref a))) (eval (.Name x np) X.env) Q E { s' with heap := h3 } := fun {x c np} hc {Q E} q => by
      obtain ⟨hg, db, hm | ⟨hm, hv, hn⟩⟩ := hc
      · exact ld_glob (X := X.suite a ((a, oe3) :: (X.pn ++ pins))) S3 hg hm q db
      · exact ld_blt (X := X.suite a ((a, oe3) :: (X.pn ++ pins))) S3 hg hm hv q hn db
    have go : ∀ {hd2 : List ExceptHandler} {l2 : List Cl}, HdsC X hd2 l2 → wCls X.K X.N.length Wout D l2 cls d σ' H' → wpAny (model X.prog X.w) X.A (handleBy (.ref a) X.env hd2) (SP X pins D) X.xe { s' with heap := h3 } := by
      intro hd2 l2 hk
      induction hk with
      | nil =>
        intro wz
        refine wpAny_handleBy_nil ?_
        obtain ⟨k1, k2, k3, oe, vs, T, oT, ts', he, hz, hd, h1, hr⟩ := id fl3
        unfold PySem.passOn
        refine wpAny_bind (wpAny_field he hd h1 ?_)
        rw [if_neg (show ¬ ((Value.ref T == Value.none) = true) from by simp)]
        have out : wpAny (model X.prog X.w) X.A (setFlight (.ref a) X.env.frame) (fun _ s4 => wpAny (model X.prog X.w) X.A (throw (.ref a) : Sem Flow) (SP X pins D) X.xe s4) X.xe { s' with heap := h3 } := by
          rw [hf]
          exact HandSPX.setFlight_upZ fl3 fun h4 hh4 up4 => wpAny_throw (tk _ _ ⟨a, B, sI, pins, σ', H', cls, d, rfl, J, nb, (up.trans up3).trans up4, .inr (.inr (by rw [hs]; exact hh4)), na, os, ag, wz⟩)
        first
          | exact wpAny_bind (wpAny_pure (wpAny_bind out))
          | exact wpAny_bind out
      | @plain x c ts b₀ suite np pos' hd3' l3 hc su r ih =>
        intro wz
        obtain ⟨b, hb1, yes, no⟩ := wz
        refine wpAny_handleBy_cons (codeAny_handlers_test ?_) (by intro q; cases q)
        refine asked hc ((PySem.W.exm_one (M := model X.prog X.w) (J3.kIn) LT hb1).here ?_)
        cases b with
        | false => exact ih (no rfl)
        | true =>
          refine codeAny_handlers_suite (HandSPX.lands_againZ fl3 fun h4 fl4 up4 => ?_)
          have J4 : Inv X pins σ' H' { s' with heap := h4 } := J.landed nb fl4.1 ((up.trans up3).trans up4) os ag
          obtain ⟨oe4, vs4, he4, hz4, hd4⟩ := fl4.there
          refine wpAny_mono ((su a oe4 cls d (X.pn ++ pins) hz4 ⟨_, hd4⟩).run [] _ _ H' _ (J4.suite he4 hd4 na nL nF) (yes rfl a na J.len)) (fun f s6 z => ?_) (fun _ _ z => z.elim)
          cases f with
          | next | brk | cont => obtain ⟨σ6, H6, S6, q6⟩ := z; exact ⟨_, _, S6.unsuite ok, q6⟩
          | ret u => obtain ⟨v6, σ6, H6, S6, r6, q6⟩ := z; exact ⟨_, _, _, S6.unsuite ok, r6, q6⟩
      | @named x n i c ts b₀ suite np pos' hd3' l3 hc hN hi hln su r ih =>
        intro wz
        obtain ⟨b, hb1, yes, no⟩ := wz
        refine wpAny_handleBy_cons (codeAny_handlers_test ?_) (by intro q; cases q)
        refine asked hc ((PySem.W.exm_one (M := model X.prog X.w) (J3.kIn) LT hb1).here ?_)
        cases b with
        | false => exact ih (no rfl)
        | true =>
          refine codeAny_handlers_suite_as (HandSPX.lands_againZ fl3 fun h4 fl4 up4 => ?_)
          have J4 : Inv X pins σ' H' { s' with heap := h4 } := J.landed nb fl4.1 ((up.trans up3).trans up4) os ag
          obtain ⟨oe4, vs4, he4, hz4, hd4⟩ := fl4.there
          refine store_ok (X := X.suite a ((a, oe4) :: (X.pn ++ pins))) (v := .ref a) (J4.suite he4 hd4 na nL nF) hN hi (.inl hln) rfl (fun s5 S5 => ?_) (.inr hln)
          refine wpAny_mono ((su a oe4 cls d (X.pn ++ pins) hz4 ⟨_, hd4⟩).run [] s5 _ H' _ S5 (yes rfl a na J.len)) (fun f s6 z => ?_) (fun _ _ z => z.elim)
          have off : ∀ {σ6 : St} {H6 : Hp} {Q : Shared → Prop}, Inv (X.suite a ((a, oe4) :: (X.pn ++ pins))) [] σ6 H6 s6 → (∀ s7, Inv X pins (σ6.set i none) H6 s7 → Q s7) → wpAny (model X.prog X.w) X.A (do bindName X.env n .none; unbindBehindTheSuite X.env n pos') (fun _ s7 => Q s7) X.xe s6 :=
            fun {σ6 H6 Q} S6 hq => gone_ok (S6.unsuite ok) hN hi hln hq
          cases f with
          | next | brk | cont => obtain ⟨σ6, H6, S6, q6⟩ := z; exact off S6 fun s7 J7 => ⟨_, _, J7, q6⟩
          | ret u => obtain ⟨v6, σ6, H6, S6, r6, q6⟩ := z; exact off S6 fun s7 J7 => ⟨_, _, _, J7, r6, q6⟩
    exact go hh wish
  · cases f with
    | next => obtain ⟨σ', H', J', q⟩ := e1; exact wpAny_execs_nil ⟨σ', H', J'.ofTry ok, q⟩
    | brk | cont => obtain ⟨σ', H', J', q⟩ := e1; exact ⟨σ', H', J'.ofTry ok, q⟩
    | ret u => obtain ⟨v, σ', H', J', r, q⟩ := e1; exact ⟨v, σ', H', J'.ofTry ok, r, q⟩
end
end L2
set_option Elab.async false
set_option linter.all false
set_option maxRecDepth 100000
set_option maxHeartbeats 2000000
/-! promises that are kept where no repr is under way (the guards are known to be none); repr of data -/
namespace L2
open PySem PySem.Spec PyProof.Rows
structure FnG (P : Program) (w : World) (K : PySem.W.Frag) (mg : Str → Option Value) (base : Heap) (CX : CXT) (k : Nat) (f : Addr) (fd : FuncData) (ps : List Str) (sp : Sp) : Prop where
  len : ∀ vs H Q E, sp vs H Q E → vs.length = ps.length
  go : ∀ (A : Around) (outer : List Env) (s : Shared) (H : Hp) (args : Args) (us : List Value) (vs : List V) (Q : VK) (E : XK), Room k A → A.guards = some [] → Env0 P w K mg base A outer s H → BindsTo s fd args (ps.zip us) → Vals vs us → sp vs H Q E →
    codeAny (model P w) A (.call (.ref f) args) (CR CX outer P w H s Q E) s
section
variable {P : Program} {w : World} {K : PySem.W.Frag} {mg : Str → Option Value} {base : Heap} {CX : CXT} {f : Addr} {fd : FuncData} {ps : List Str} {sp : Sp}
theorem FnG.of {k : Nat} (F : FnOk P w K mg base CX k f fd ps sp) : FnG P w K mg base CX k f fd ps sp := ⟨F.len, fun A outer s H args us vs Q E hr _ e0 hb r h => F.run A outer s H args us vs Q E hr e0 hb r h⟩
theorem Fun.okG {x qual : Str} {st : Stmt} {N : List Str} {k : Nat} (F : Fun K x qual st f fd) (S : FnScope N ps (defScope st)) (len : ∀ vs H Q E, sp vs H Q E → vs.length = ps.length)
    (hbody : ∀ (cdv : Value) (A : Around) (outer : List Env) (s : Shared) (H : Hp) (vs : List V) (Q : VK) (E : XK), Room k (A.deeper (envOfC qual (defScope st) s.heap.objs.size f cdv)) → A.guards = some [] → PySem.W.codeIn K cdv qual = true → sp vs H Q E →
      ∃ t, PSs (cxOf CX P w K mg base N qual (defScope st) f cdv A outer s H E) (defBody st) t ∧ t { nx := fun _ H' => Q .non H', rt := Q } (start N vs) H) : FnG P w K mg base CX (k + 1) f fd ps sp := by
  obtain ⟨oc, od, kV, doc, pm, an, cdv, ct, osl, rfl, lk, hcd⟩ := F.ex
  exact ⟨len, fun A outer s H args us vs Q E hr hg e0 hb r h => LamX.run_ofS lk hcd S hr e0 hb r (len _ _ _ _ h) fun hr2 => hbody cdv A outer s H vs Q E hr2 hg hcd h⟩
end
section
variable {X : Cx} {CX : CXT} {k : Nat} {f : Addr} {fd : FuncData} {ps : List Str} {sp : Sp} {dvs : List V} {ds : List Value} {E : XK} {x : Str} {p pos : Pos} {e : Expr} {es : List Expr} {t : TA}
theorem pe_callG (F : FnG X.prog X.w X.K X.mg X.base CX k f fd ps sp) (hr : Room k X.A) (gd : X.A.guards = some []) (hg : Gl X x) (hm : X.mg x = some (.ref f)) (hk : PySem.W.keepIn X.K (.ref f) = true) (hb : Binds X.K fd ps ds) (hd : Vals dvs ds) (hx : Passes CX X E) (ha : PA X (e :: es) t)
    (hdb : (x == ("__debug__" : Str)) = false := by decide) (he : starEach (e :: es) X.env = (false, eval e X.env) :: starEach es X.env := by rfl) (hpl : (backTo pos (starEach es X.env)).any (·.1) = false := by rfl) : PE X (.Call (.Name x p) (e :: es) [] pos) (tCall sp dvs E t) := by
  refine ⟨fun pins s σ H Q I h => wpAny_Call_Name_kw (ld_glob I hg hm ?_ hdb)⟩
  refine PySem.W.callWith_K (h₀ := X.base) I.ok.mod.kin hk (thn (ha.run pos pins s σ H _ I h) fun us s1 ⟨vs, H1, I1, r, q⟩ => ⟨I1.kIn, ?_⟩) he hpl
  have rr : Vals (vs ++ dvs) (us ++ ds) := r.append hd
  refine wpAny_call (codeAny_mono (F.go X.A X.stack s1 H1 ⟨us, []⟩ (us ++ ds) (vs ++ dvs) Q E hr gd I1.env0 (hb s1 us I1.kIn (by rw [← rr.length]; exact F.len _ _ _ _ q)) rr q) fun r' s' z => ?_)
  cases r' with
  | error e => exact hx pins σ H1 s1 e s' I1 z
  | ok fl =>
    cases fl with
    | ret u => exact I1.after z
    | next | brk | cont => exact z.elim
end
mutual
/-- what is read has no dict -/
theorem Dp.noDict {K : PySem.W.Frag} {H : Hp} : ∀ (d : PyData) (v : V), Dp K H v d → d.hasDict = false
  | .none, _, _ => by simp only [PyData.hasDict]
  | .bool _, _, _ => by simp only [PyData.hasDict]
  | .int _, _, _ => by simp only [PyData.hasDict]
  | .str _, _, _ => by simp only [PyData.hasDict]
  | .list ds, _, h => by cases h with | lst _ h2 => simp only [PyData.hasDict]; exact DpAll.noDict ds _ h2
  | .tuple ds, _, h => by cases h with | tup _ h2 => simp only [PyData.hasDict]; exact DpAll.noDict ds _ h2
  | .dict _, _, h => by cases h
theorem DpAll.noDict {K : PySem.W.Frag} {H : Hp} : ∀ (ds : List PyData) (vs : List V), DpAll K H vs ds → PyData.hasDictAll ds = false
  | [], _, _ => by simp only [PyData.hasDictAll]
  | d :: ds, _, h => by cases h with | cons h1 h2 => simp only [PyData.hasDictAll]; rw [Dp.noDict d _ h1, DpAll.noDict ds _ h2]; rfl
end
/-- repr(e) of data -/
def rReprD (K : PySem.W.Frag) : List V → Hp → VK → Prop := fun xs H Q => ∃ (v : V) (d : PyData), xs = [v] ∧ Dp K H v d ∧ d.showable = true ∧ d.depth ≤ 60 ∧ d.shown.length ≤ sizeLine ∧ Q (.str d.shown) H
theorem c_reprD {X : Cx} (gd : X.A.guards = some []) (hu : X.A.units + 64 < cLine) : CallR X (.builtin "repr") (rReprD X.K) := by
  intro pins s σ H xs us Q I r ⟨v, d, e, hd, hs, hdep, hz, q⟩
  subst e
  cases r with
  | @cons _ u _ _ r1 r2 =>
    cases r2
    obtain ⟨as, hr⟩ := Dp.reads I d v u hd r1
    have nd := Dp.noDict d v hd
    cases d with
    | none => cases hd; obtain rfl : u = Value.none := r1; exact PySem.P.repr_of_none ⟨.str _, H, I.tok _, ⟨_, rfl⟩, q⟩
    | bool b => cases hd; obtain rfl : u = Value.bool b := r1; exact PySem.P.repr_of_bool ⟨.str _, H, I.tok _, ⟨_, rfl⟩, q⟩
    | int i => cases hd; obtain ⟨t, rfl⟩ := r1; exact PySem.P.repr_of_int (by simpa [PyData.showable] using hs) ⟨.str _, H, I.tok _, ⟨_, rfl⟩, q⟩
    | str x => cases hd; obtain ⟨t, rfl⟩ := r1; exact PySem.P.repr_of_str ⟨.str _, H, I.tok _, ⟨_, rfl⟩, q⟩ hz
    | dict kvs => cases hd
    | list ds =>
      cases hd with | lst k1 k2 => obtain rfl : u = Value.ref _ := r1; exact repr_of_reads' hr hs (fun z => absurd z (by rw [nd]; decide)) gd (by omega) (fun _ _ z => z) (fun h' u tk kp => ⟨.str _, H, I.kept kp, ⟨_, rfl⟩, q⟩) hz
    | tuple ds =>
      cases hd with | tup k1 k2 => obtain rfl : u = Value.ref _ := r1; exact repr_of_reads' hr hs (fun z => absurd z (by rw [nd]; decide)) gd (by omega) (fun _ _ z => z) (fun h' u tk kp => ⟨.str _, H, I.kept kp, ⟨_, rfl⟩, q⟩) hz
end L2
set_option Elab.async false
set_option linter.all false
set_option maxRecDepth 100000
set_option maxHeartbeats 2000000
/-! exceptions whose context is None: defs that raise such, own classes with their own __init__, and raise C('..') from None in an except suite -/
namespace L2
open PySem PySem.Spec PyProof.Rows
section
variable {P : Program} {w : World} {K : PySem.W.Frag} {mg : Str → Option Value} {base : Heap}
theorem Fun.okN {x qual : Str} {st : Stmt} {f : Addr} {fd : FuncData} {N ps : List Str} {k : Nat} {sp : Sp} (F : Fun K x qual st f fd) (S : FnScope N ps (defScope st)) (len : ∀ vs H Q E, sp vs H Q E → vs.length = ps.length)
    (hb : ∀ (cdv : Value) (A : Around) (outer : List Env) (s : Shared) (H : Hp) (vs : List V) (Q : VK) (E : XK), Room k (A.deeper (envOfC qual (defScope st) s.heap.objs.size f cdv)) → sp vs H Q E →
      ∃ t, PSs (cxOf (L2N.CX P w) P w K mg base N qual (defScope st) f cdv A outer s H E) (defBody st) t ∧ t { nx := fun _ H' => Q .non H', rt := Q } (start N vs) H) : FnOk P w K mg base (L2N.CX P w) (k + 1) f fd ps sp := by
  obtain ⟨o1, o2, k1, k2, k3, k4, c1, c2, o3, rfl, lk, hcd⟩ := F.ex
  exact fn_of lk hcd S len fun A outer s H vs Q E r z => hb c1 A outer s H vs Q E r z
end
section
variable {X : Cx} {o e : Expr} {es : List Expr} {to te : TE} {ta : TA} {f : Str} {p p' p1 p2 pos : Pos}
theorem pmk_oexN {CX : CXT} {x : Str} {C fI : Addr} {k : Nat} {fd : FuncData} {ps : List Str} {sp : Sp} {ds : List Value} {dvs : List V} (T : OexC X.K C) (iC : PySem.W.findIn X.K (.ref C) "__init__" = some (some (.ref fI))) (tI : PySem.W.typeIn X.K (.ref fI) = some (.type "function"))
    (Fi : FnOk X.prog X.w X.K X.mg X.base CX k fI fd ps sp) (hr : Room (k + 1) X.A) (hb : Binds X.K fd ps ds) (hd : Vals dvs ds) (hx : Passes CX X (fun _ _ _ => False)) (hg : Gl X x) (gm : X.mg x = some (.ref C)) (ha : PA X (e :: es) ta)
    (db : (x == ("__debug__" : Str)) = false := by decide) (hs : starEach (e :: es) X.env = (false, eval e X.env) :: starEach es X.env := by rfl) (pl : (backTo pos (starEach es X.env)).any (·.1) = false := by rfl) :
    L2N.PMk X (.Call (.Name x p) (e :: es) [] pos) (tMkO C sp dvs ta) := by
  intro pins s σ H Q I h
  obtain ⟨n0, q, N, bs, bm, sn, sub, ab, col, dd, k0, k1, k2, k3, k5, lC, cb⟩ := T.cls
  refine wpAny_Call_Name_kw (ld_glob I hg gm ?_ db)
  refine PySem.W.callWith_K (h₀ := X.base) I.ok.mod.kin T.kC (thn (ha.run pos pins s σ H _ I h) fun us sa ⟨vs, Ha, Ia, ra, hz, qa⟩ => ⟨Ia.kIn, ?_⟩) hs pl
  show wpAny _ _ (call (.ref C) us) _ _ _
  obtain ⟨hp, g, dw, tt, os⟩ := sa
  have bg : hp.objs.size ≤ hp.objs.size + 1 := Nat.le_succ _
  have fr : Ha (hp.objs.size + 1) = none := Ia.hok.fresh bg
  have wq := qa (hp.objs.size + 1) fr
  have kp : ∀ b o, hp.get? b = some o → ((hp.push (PySem.W.kdv_tup us)).push (PySem.HandSPX.excO C hp.objs.size)).get? b = some o := fun b o e => Heap.get?_push_of_some _ (Heap.get?_push_of_some _ e)
  have gt : ((hp.push (PySem.W.kdv_tup us)).push (PySem.HandSPX.excO C hp.objs.size)).get? (hp.objs.size + 1) = some (PySem.HandSPX.excO C hp.objs.size) := by heap_get
  have J2 : Inv X pins σ (upd Ha (hp.objs.size + 1) (exo (hp.objs.size + 1) C none)) ⟨(hp.push (PySem.W.kdv_tup us)).push (PySem.HandSPX.excO C hp.objs.size), g, dw, tt, os⟩ :=
    Ia.laid (t' := tt) (a := hp.objs.size + 1) (o := exo (hp.objs.size + 1) C none) (h' := (hp.push (PySem.W.kdv_tup us)).push (PySem.HandSPX.excO C hp.objs.size)) kp bg (exo_ok gt)
  have rr : Vals (V.ref (hp.objs.size + 1) :: (vs ++ dvs)) (Value.ref (hp.objs.size + 1) :: (us ++ ds)) := .cons rfl (ra.append hd)
  have ln : (Value.ref (hp.objs.size + 1) :: us ++ ds).length = ps.length := by
    have e := rr.length
    rw [Fi.len _ _ _ _ wq] at e
    exact e.symm
  have sh : us.length ≤ sizeLine := by
    rw [← Paired.length ra, sizeLine_eq]
    omega
  refine wpAny_call (PySem.HandSPX.call_own F.excBase_ValueError (fun Y => PySem.HandSPX.refsVE_contains Y bm cb) (Ia.kIn _ _ lC) (PySem.W.looks_findIn Ia.kIn iC) (fun self => PySem.W.bind_fn Ia.kIn self tI) sh
    (codeAny_mono (Fi.run _ X.stack _ _ ⟨Value.ref (hp.objs.size + 1) :: us, []⟩ (Value.ref (hp.objs.size + 1) :: (us ++ ds)) _ _ (fun _ _ _ => False) (hr.make C us []) (J2.env0.make C us []) (hb _ (Value.ref (hp.objs.size + 1) :: us) J2.kIn ln) rr wq) fun r s' z => ?_))
  cases r with
  | error er => exact hx pins σ _ _ er s' J2 z
  | ok fl =>
    cases fl with
    | ret u =>
      obtain ⟨v, Hb, os2, bare2, un2, hok2, rv, ev, d, fs, ea, ed, hd1, qb⟩ := z
      subst ev
      obtain ⟨hb2, g2, d2, t2, os'⟩ := s'
      obtain ⟨t0, G, J, kG, ge, hoe, na⟩ := mk_end0 (d2 := d2) (t2 := t2) Ia bg kp un2 hok2 os2 bare2 ea ed hd1
      exact ⟨rv, hp.objs.size + 1, _, _, ⟨G, g2, d2, t2, os'⟩, _, .ref C, some d, rfl, J, kG, ge, hoe, ⟨rfl, rfl, fun vs hv => (by cases hv; rfl)⟩, rfl, rfl, na, rfl, bare2, raises_own T.exC T.tyC, qb⟩
    | next => exact False.elim z
    | brk => exact False.elim z
    | cont => exact False.elim z
end
end L2
namespace L2H
open PySem PySem.Spec PyProof.Rows L2 HotX
section
variable {X : Cx} {C : Addr} {bmB : List Value} {B newId initId : String}
/-- C('m'), its six fields told -/
theorem pmk5_own {x m : Str} {j : Nat} {p p2 pos : Pos} (F : ExcBaseFacts B newId initId bmB) (q : PySem.W.excIn X.K C bmB newId = true) (gC : X.mg x = some (.ref C)) (kC : PySem.W.keepIn X.K (.ref C) = true) (r : Raises X (.ref C)) (hg : Gl X x)
    (hdb : (x == ("__debug__" : Str)) = false := by decide) : PMk5 X (.Call (.Name x p) [.Constant (.str m) j p2] [] pos) (fun _ H Q => Q (.ref C) none H) := by
  intro pins s σ H Q I h
  have ha : PA X [.Constant (.str m) j p2] (tCons (tC (.str m)) tNil) := pa_cons pe_str pa_nil
  refine wpAny_Call_Name_kw (ld_glob I hg gC (PySem.W.callWith_K (h₀ := X.base) I.ok.mod.kin kC (thn (ha.run pos pins s σ H (fun vs H1 => vs = [V.str m] ∧ H = H1) I ⟨rfl, rfl⟩) fun us s1 hh => ?_)) hdb)
  obtain ⟨vs, H1, I1, r1, ev, eH⟩ := hh
  subst ev
  rw [← eH] at I1
  refine ⟨I1.kIn, ?_⟩
  cases r1 with
  | cons ru rn =>
    rename_i u us'
    cases rn
    show wpAny _ _ (call (.ref C) [u]) _ _ _
    obtain ⟨bm, N, nm, qn, bs, hdct, sn, sub, ab, col, dd, k0, k1, k2, k3, k5, mN, hC, hN, hni, T⟩ := exc_obj I1.kIn q
    exact wpAny_call_exc_subT F T hC hN hni (fun h' e hm => mk_of5 I1 hm r h (I1.hok.gone hm.new)) (by show 1 ≤ sizeLine; rw [sizeLine_eq]; omega)
end
end L2H
set_option Elab.async false
set_option linter.all false
set_option maxRecDepth 100000
set_option maxHeartbeats 4000000
/-! lambdas handed to a def that meets them: what stays where the tables of code objects grow -/
namespace L2
open PySem PySem.Spec PyProof.Rows Evl Vr LamX
section
variable {K : PySem.W.Frag} {H H' : Hp}
theorem xn_t {a : Addr} {xs : List V} (e : ExtN H H') (h : SqT K H a xs) : SqT K H' a xs := by
  rcases h with (h | ⟨o, h⟩) | h
  · exact .inl (.inl (e _ _ h fun _ z => by cases z))
  · exact .inl (.inr ⟨o, e _ _ h fun _ z => by cases z⟩)
  · exact .inr h
theorem xn_l {a : Addr} {xs : List V} (e : ExtN H H') (h : SqL K H a xs) : SqL K H' a xs := by
  rcases h with (h | ⟨o, h⟩) | h
  · exact .inl (.inl (e _ _ h fun _ z => by cases z))
  · exact .inl (.inr ⟨o, e _ _ h fun _ z => by cases z⟩)
  · exact .inr h
theorem xn_ty {x : V} {u : Value} (e : ExtN H H') (h : TyX K H x u) : TyX K H' x u := by
  cases h with
  | base b =>
    cases b with
    | non => exact .base .non
    | bl y => exact .base (.bl y)
    | int y => exact .base (.int y)
    | str y => exact .base (.str y)
    | flt y => exact .base (.flt y)
    | lst h => exact .base (.lst (e _ _ h fun _ z => by cases z))
    | frz h => exact .base (.frz (e _ _ h fun _ z => by cases z))
    | tup h => exact .base (.tup (e _ _ h fun _ z => by cases z))
    | dK h => exact .base (.dK (e _ _ h fun _ z => by cases z))
    | dT h => exact .base (.dT (e _ _ h fun _ z => by cases z))
    | ins h a b c d f => exact .base (.ins (e _ _ h fun _ z => by cases z) a b c d f)
  | byt b => exact .byt b
  | set h => exact .set (e _ _ h fun _ z => by cases z)
  | kList h c => exact .kList h c
  | kTuple h c => exact .kTuple h c
  | kDict h c => exact .kDict h c
  | fTuple h => exact .fTuple (e _ _ h fun _ z => by cases z)
  | fDict h => exact .fDict (e _ _ h fun _ z => by cases z)
theorem Plain.xn {x : V} (e : ExtN H H') (h : Plain K H x) : Plain K H' x := by
  obtain ⟨n, h⟩ := h
  exact ⟨n, xn_ty e h⟩
mutual
theorem Dp.xn (e : ExtN H H') : ∀ (d : PyData) (v : V), Dp K H v d → Dp K H' v d
  | .none, _, h => by cases h; exact .non
  | .bool b, _, h => by cases h; exact .bl b
  | .int i, _, h => by cases h; exact .int i
  | .str z, _, h => by cases h; exact .str z
  | .list ds, _, h => by cases h with | lst h1 h2 => exact .lst (xn_l e h1) (DpAll.xn e ds _ h2)
  | .tuple ds, _, h => by cases h with | tup h1 h2 => exact .tup (xn_t e h1) (DpAll.xn e ds _ h2)
  | .dict _, _, h => by cases h
theorem DpAll.xn (e : ExtN H H') : ∀ (ds : List PyData) (vs : List V), DpAll K H vs ds → DpAll K H' vs ds
  | [], _, h => by cases h; exact .nil
  | d :: ds, _, h => by cases h with | cons h1 h2 => exact .cons (Dp.xn e d _ h1) (DpAll.xn e ds _ h2)
end
theorem xn_ex (e : Ex H H') : ExtN H H' := fun b o h _ => e b o h
/-- what repr tells of it -/
def Rp (K : PySem.W.Frag) (H : Hp) (v : V) (y : PyData) : Prop := Dp K H v y ∧ y.showable = true ∧ y.depth ≤ 60 ∧ y.shown.length ≤ sizeLine
theorem Rp.xn {v : V} {y : PyData} (e : ExtN H H') (h : Rp K H v y) : Rp K H' v y := ⟨Dp.xn e _ _ h.1, h.2⟩
end
/-! ### defs that make lambdas: their code object is told -/
structure FunL (K : PySem.W.Frag) (x qual : Str) (st : Stmt) (c f : Addr) (fd : FuncData) : Prop where
  ex : ∃ (oc : Value) (od : Option Addr) (kV doc pm : Value) (an : Option Addr) (ct : Value) (osl : Array (Option Value)), fd = PySem.W.fnOf x qual (defArgs st) (defBody st) (defScope st) .none kV doc pm an (.ref c) ct ∧ K.lookup f = some ⟨oc, od, .func fd, osl⟩ ∧ PySem.W.codeIn K (.ref c) qual = true
  kp : PySem.W.keepIn K (.ref f) = true
section
variable {P : Program} {w : World} {K : PySem.W.Frag} {mg : Str → Option Value} {base : Heap} {CX : CXT} {f c : Addr} {fd : FuncData} {ps : List Str} {sp : Sp}
theorem FunL.okG {x qual : Str} {st : Stmt} {N : List Str} {k : Nat} (F : FunL K x qual st c f fd) (S : FnScope N ps (defScope st)) (len : ∀ vs H Q E, sp vs H Q E → vs.length = ps.length)
    (hbody : ∀ (A : Around) (outer : List Env) (s : Shared) (H : Hp) (vs : List V) (Q : VK) (E : XK), Room k (A.deeper (envOfC qual (defScope st) s.heap.objs.size f (.ref c))) → A.guards = some [] → sp vs H Q E →
      ∃ t, PSs (cxOf CX P w K mg base N qual (defScope st) f (.ref c) A outer s H E).nox (defBody st) t ∧ t { nx := fun _ H' => Q .non H', rt := Q } (start N vs) H) : FnG P w K mg base CX (k + 1) f fd ps sp := by
  obtain ⟨oc, od, kV, doc, pm, an, ct, osl, rfl, lk, hcd⟩ := F.ex
  exact ⟨len, fun A outer s H args us vs Q E hr hg e0 hb r h => LamX.run_ofS lk hcd S hr e0 hb r (len _ _ _ _ h) fun hr2 => let ⟨t, h1, h2⟩ := hbody A outer s H vs Q E hr2 hg h; ⟨t, h1.nox, h2⟩⟩
end
/-! ### a call of a slot that holds one of several defs, which may raise -/
structure HeldX (P : Program) (w : World) (K : PySem.W.Frag) (mg : Str → Option Value) (base : Heap) (k : Nat) (f : Addr) (sp : Sp) : Prop where
  ex : ∃ (fd : FuncData) (ps : List Str), FnOk P w K mg base (L2.CX P w) k f fd ps sp ∧ PySem.W.keepIn K (.ref f) = true ∧ Binds K fd ps []
def tCallX (i : Nat) (S : Addr → Sp → Prop) (E : XK) (t : TA) : TE := fun σ H Q => ∃ f sp, σ[i]? = some (some (.ref f)) ∧ S f sp ∧ t σ H fun vs H1 => sp vs H1 Q E
theorem pe_callX {X : Cx} {k i : Nat} {E : XK} {x : Str} {p pos : Pos} {e : Expr} {es : List Expr} {t : TA} {S : Addr → Sp → Prop} (hS : ∀ f sp, S f sp → HeldX X.prog X.w X.K X.mg X.base k f sp) (hr : Room k X.A) (hN : X.N[i]? = some x) (hv : Vis X.env.scope x) (hx : Passes (L2.CX X.prog X.w) X E) (ha : PA X (e :: es) t)
    (hdb : (x == ("__debug__" : Str)) = false := by decide) (hcd : (x == ("__classdict__" : Str)) = false := by decide)
    (he : starEach (e :: es) X.env = (false, eval e X.env) :: starEach es X.env := by rfl) (hpl : (backTo pos (starEach es X.env)).any (·.1) = false := by rfl) : PE X (.Call (.Name x p) (e :: es) [] pos) (tCallX i S E t) := by
  refine ⟨fun pins s σ H Q I h => ?_⟩
  obtain ⟨f, sp, hs, hf, ht⟩ := h
  obtain ⟨fd, ps, F, hk, hb⟩ := (hS f sp hf).ex
  refine (pe_callL (i := i) (f := f) (sp := sp) (dvs := []) (E := E) F hr hN hv hk hb .nil hx ha hdb hcd he hpl).run pins s σ H Q I ⟨hs, ?_⟩
  have z : (fun (vs : List V) (H1 : Hp) => sp (vs ++ []) H1 Q E) = fun vs H1 => sp vs H1 Q E := by
    funext vs H1
    rw [List.append_nil]
  show t σ H (fun vs H1 => sp (vs ++ []) H1 Q E)
  rw [z]
  exact ht
end L2
set_option Elab.async false
set_option linter.all false
set_option maxRecDepth 100000
set_option maxHeartbeats 2000000
/-! a dict is no tuple -/
namespace L2
open PySem PySem.Spec PyProof.Rows
theorem dictNe_lets (l b : Addr) (es : Array DictEntry) (xs : Array Value) (k m : Nat) (d1 d2 : Option Addr) (s1 s2 : Array (Option Value)) :
    Meets (Builtin.«dict.__ne__» ⟨[.ref l, .ref b], []⟩) (fun _ R s => s.heap.get? l = some { cls := .type "dict", dict := d1, data := .dict es k, slots := s1 } ∧ s.heap.get? b = some { cls := .type "tuple", dict := d2, data := .seq xs m, slots := s2 } ∧ R (.ok (.ret .notImplemented)) s) :=
  .of_wp fun prog w A R s z => by obtain ⟨hp, g, d, tk, os⟩ := s; obtain ⟨zl, zb, z⟩ := z; have f1 := F.sub_tuple_dict; wp_walk using wpAny_loadPart' zl, wpAny_loadPart' zb; exact ⟨_, rfl, z⟩
theorem tupNe_lets (l b : Addr) (es : Array DictEntry) (xs : Array Value) (k m : Nat) (d1 d2 : Option Addr) (s1 s2 : Array (Option Value)) :
    Meets (Builtin.«tuple.__ne__» ⟨[.ref b, .ref l], []⟩) (fun _ R s => s.heap.get? b = some { cls := .type "tuple", dict := d2, data := .seq xs m, slots := s2 } ∧ s.heap.get? l = some { cls := .type "dict", dict := d1, data := .dict es k, slots := s1 } ∧ R (.ok (.ret .notImplemented)) s) :=
  .of_wp fun prog w A R s z => by obtain ⟨hp, g, d, tk, os⟩ := s; obtain ⟨zb, zl, z⟩ := z; have f1 := F.sub_dict_tuple; wp_walk using wpAny_loadPart' zl, wpAny_loadPart' zb; exact ⟨_, rfl, z⟩
def rNeDT (K : PySem.W.Frag) : R2 := fun x y H Q => ∃ a b ks ys, x = .ref a ∧ y = .ref b ∧ H a = some (.dK ks) ∧ SqT K H b ys ∧ Q (.bl true) H
theorem op_neDT {X : Cx} (hu : X.A.units < cLine) : OpR X (compareOp .NotEq) (rNeDT X.K) := by
  intro pins s σ H x y v u Q I rx ry z
  obtain ⟨a, b, ks, ys, rfl, rfl, ea, eb, q⟩ := z
  obtain rfl : v = Value.ref a := rx
  obtain rfl : u = Value.ref b := ry
  obtain ⟨_, _, va, ra, da⟩ := (show ObjOk X.prog X.w H s.heap a (.dK ks) from I.hok a _ ea)
  obtain ⟨its, rb, ⟨o2, e2, c2, n2, t2⟩, _⟩ := I.tuple eb
  obtain ⟨o1, es, ep, e1, x1, t1, _⟩ := da
  have far : a ≠ b := fun y => by
    subst y
    rw [e1] at e2
    cases e2
    rw [t1] at t2
    cases t2
  have c1 : o1.cls = .type "dict" := x1.1
  obtain ⟨k1, d1, b1, l1⟩ := o1
  obtain ⟨k2, d2, b2, l2⟩ := o2
  simp only at c1 t1 c2 t2
  subst c1 t1 c2 t2
  show wpAny _ _ (richCompare .NotEq (.ref a) (.ref b)) _ _ _
  exact SeqAt.rc_ne_decline_or (k := false) ⟨_, e1, rfl⟩ ⟨_, e2, rfl⟩ (by decide) F.sub_tuple_dict F.slot_dict_ne F.slot_tuple_ne_refl
    (fun _ z => call_meets F.slot_dict_ne ⟨_, e1, rfl⟩ F.entry_dict_ne (F.args_dict_ne_2 _ _) (dictNe_lets a b es its.toArray ep n2 d1 d2 l1 l2) ⟨e1, e2, z⟩)
    (fun _ z => call_meets F.slot_tuple_ne_refl ⟨_, e2, rfl⟩ F.entry_tuple_ne (F.args_tuple_ne_2 _ _) (tupNe_lets a b es its.toArray ep n2 d1 d2 l1 l2) ⟨e2, e1, z⟩)
    (fun _ z => wpAny_isSame_ref_other far e1 e2 (by simp) z) (.inr hu) ⟨.bl true, H, I, rfl, q⟩
end L2
set_option Elab.async false
set_option linter.all false
set_option maxRecDepth 100000
set_option maxHeartbeats 4000000
set_option exponentiation.threshold 500
namespace Kz
open PySem PySem.Spec PyProof.Rows L2 Evl Vr
def top (i : Nat) : Stmt := PySem.Challenge.pw_settledplay_k44_errors_of_letters_and_ba.main.body.getD i (.Pass ⟨0, 0, 0, 0⟩)
abbrev s_ParseError___init__ : Stmt := inClass (top 5) 0
theorem sc_ParseError___init__ : FnScope ["self", "spot"] ["self", "spot"] (defScope s_ParseError___init__) := ⟨rfl, rfl, rfl, by decide +kernel, rfl, by decide +kernel, by decide +kernel⟩
abbrev s_InvalidNumber___init__ : Stmt := inClass (top 6) 0
theorem sc_InvalidNumber___init__ : FnScope ["self", "given"] ["self", "given"] (defScope s_InvalidNumber___init__) := ⟨rfl, rfl, rfl, by decide +kernel, rfl, by decide +kernel, by decide +kernel⟩
abbrev s_TooMany___init__ : Stmt := inClass (top 7) 0
theorem sc_TooMany___init__ : FnScope ["self", "limit"] ["self", "limit"] (defScope s_TooMany___init__) := ⟨rfl, rfl, rfl, by decide +kernel, rfl, by decide +kernel, by decide +kernel⟩
abbrev s_is_integer : Stmt := top 9
theorem sc_is_integer : FnScope ["value"] ["value"] (defScope s_is_integer) := ⟨rfl, rfl, rfl, by decide +kernel, rfl, by decide +kernel, by decide +kernel⟩
abbrev s_is_within : Stmt := top 10
theorem sc_is_within : FnScope ["value", "low", "high"] ["value", "low", "high"] (defScope s_is_within) := ⟨rfl, rfl, rfl, by decide +kernel, rfl, by decide +kernel, by decide +kernel⟩
abbrev s_is_whole : Stmt := top 11
theorem sc_is_whole : FnScope ["value"] ["value"] (defScope s_is_whole) := ⟨rfl, rfl, rfl, by decide +kernel, rfl, by decide +kernel, by decide +kernel⟩
abbrev s_has_signs : Stmt := top 16
theorem sc_has_signs : FnScope ["value", "least", "most"] ["value", "least", "most"] (defScope s_has_signs) := ⟨rfl, rfl, rfl, by decide +kernel, rfl, by decide +kernel, by decide +kernel⟩
abbrev s_need_text : Stmt := top 17
theorem sc_need_text : FnScope ["value"] ["value"] (defScope s_need_text) := ⟨rfl, rfl, rfl, by decide +kernel, rfl, by decide +kernel, by decide +kernel⟩
abbrev s_need_short : Stmt := top 18
theorem sc_need_short : FnScope ["text"] ["text"] (defScope s_need_short) := ⟨rfl, rfl, rfl, by decide +kernel, rfl, by decide +kernel, by decide +kernel⟩
abbrev s_is_plain : Stmt := top 19
theorem sc_is_plain : FnScope ["value", "level", "_", "part", "member"] ["value"] (defScope s_is_plain) := ⟨rfl, rfl, rfl, by decide +kernel, rfl, by decide +kernel, by decide +kernel⟩
abbrev s_is_leaf : Stmt := top 20
theorem sc_is_leaf : FnScope ["value"] ["value"] (defScope s_is_leaf) := ⟨rfl, rfl, rfl, by decide +kernel, rfl, by decide +kernel, by decide +kernel⟩
abbrev s_is_short_tuple : Stmt := top 21
theorem sc_is_short_tuple : FnScope ["value"] ["value"] (defScope s_is_short_tuple) := ⟨rfl, rfl, rfl, by decide +kernel, rfl, by decide +kernel, by decide +kernel⟩
abbrev s_text_of : Stmt := top 22
theorem sc_text_of : FnScope ["value", "parts", "waiting", "part", "text"] ["value"] (defScope s_text_of) := ⟨rfl, rfl, rfl, by decide +kernel, rfl, by decide +kernel, by decide +kernel⟩
abbrev s_text_of_leaf : Stmt := top 23
theorem sc_text_of_leaf : FnScope ["value"] ["value"] (defScope s_text_of_leaf) := ⟨rfl, rfl, rfl, by decide +kernel, rfl, by decide +kernel, by decide +kernel⟩
abbrev s_value_of : Stmt := top 24
theorem sc_value_of : FnScope ["text", "lengths", "members", "at", "many", "leaf", "whole"] ["text"] (defScope s_value_of) := ⟨rfl, rfl, rfl, by decide +kernel, rfl, by decide +kernel, by decide +kernel⟩
abbrev s_leaf_at : Stmt := top 25
theorem sc_leaf_at : FnScope ["text", "at", "word"] ["text", "at"] (defScope s_leaf_at) := ⟨rfl, rfl, rfl, by decide +kernel, rfl, by decide +kernel, by decide +kernel⟩
abbrev s_integer_at : Stmt := top 26
theorem sc_integer_at : FnScope ["text", "at", "most", "count", "behind"] ["text", "at"] (defScope s_integer_at) := ⟨rfl, rfl, rfl, by decide +kernel, rfl, by decide +kernel, by decide +kernel⟩
abbrev s_string_at : Stmt := top 27
theorem sc_string_at : FnScope ["text", "at", "many", "begin"] ["text", "at"] (defScope s_string_at) := ⟨rfl, rfl, rfl, by decide +kernel, rfl, by decide +kernel, by decide +kernel⟩
abbrev s_count_at : Stmt := top 28
theorem sc_count_at : FnScope ["text", "at", "most", "mark", "count", "end"] ["text", "at", "most", "mark"] (defScope s_count_at) := ⟨rfl, rfl, rfl, by decide +kernel, rfl, by decide +kernel, by decide +kernel⟩
abbrev s_is_entry_of_seat : Stmt := top 32
theorem sc_is_entry_of_seat : FnScope ["value"] ["value"] (defScope s_is_entry_of_seat) := ⟨rfl, rfl, rfl, by decide +kernel, rfl, by decide +kernel, by decide +kernel⟩
abbrev s_is_joint_of_some : Stmt := top 33
theorem sc_is_joint_of_some : FnScope ["value", "entry"] ["value"] (defScope s_is_joint_of_some) := ⟨rfl, rfl, rfl, by decide +kernel, rfl, by decide +kernel, by decide +kernel⟩
abbrev s_is_print : Stmt := top 36
theorem sc_is_print : FnScope ["value"] ["value"] (defScope s_is_print) := ⟨rfl, rfl, rfl, by decide +kernel, rfl, by decide +kernel, by decide +kernel⟩
abbrev s_is_word : Stmt := top 39
theorem sc_is_word : FnScope ["value"] ["value"] (defScope s_is_word) := ⟨rfl, rfl, rfl, by decide +kernel, rfl, by decide +kernel, by decide +kernel⟩
abbrev s_is_keys_letter : Stmt := top 49
theorem sc_is_keys_letter : FnScope ["value", "_", "first", "words", "print_of_world", "word"] ["value"] (defScope s_is_keys_letter) := ⟨rfl, rfl, rfl, by decide +kernel, rfl, by decide +kernel, by decide +kernel⟩
abbrev s_is_rows_letter : Stmt := top 50
theorem sc_is_rows_letter : FnScope ["value", "_", "first", "entries", "joint"] ["value"] (defScope s_is_rows_letter) := ⟨rfl, rfl, rfl, by decide +kernel, rfl, by decide +kernel, by decide +kernel⟩
abbrev s_is_piece_letter : Stmt := top 51
theorem sc_is_piece_letter : FnScope ["value", "_", "tick", "index", "many", "text"] ["value"] (defScope s_is_piece_letter) := ⟨rfl, rfl, rfl, by decide +kernel, rfl, by decide +kernel, by decide +kernel⟩
abbrev s_is_word_letter : Stmt := top 52
theorem sc_is_word_letter : FnScope ["value"] ["value"] (defScope s_is_word_letter) := ⟨rfl, rfl, rfl, by decide +kernel, rfl, by decide +kernel, by decide +kernel⟩
abbrev s_is_letter : Stmt := top 54
theorem sc_is_letter : FnScope ["value", "action"] ["value"] (defScope s_is_letter) := ⟨rfl, rfl, rfl, by decide +kernel, rfl, by decide +kernel, by decide +kernel⟩
abbrev s_need_letter : Stmt := top 55
theorem sc_need_letter : FnScope ["value"] ["value"] (defScope s_need_letter) := ⟨rfl, rfl, rfl, by decide +kernel, rfl, by decide +kernel, by decide +kernel⟩
abbrev s_goal : Stmt := top 56
theorem sc_goal : FnScope ["letter"] ["letter"] (defScope s_goal) := ⟨rfl, rfl, rfl, by decide +kernel, rfl, by decide +kernel, by decide +kernel⟩
abbrev s_goal_of : Stmt := top 57
theorem sc_goal_of : FnScope ["letter"] ["letter"] (defScope s_goal_of) := ⟨rfl, rfl, rfl, by decide +kernel, rfl, by decide +kernel, by decide +kernel⟩
abbrev s_letter_text : Stmt := top 58
theorem sc_letter_text : FnScope ["letter"] ["letter"] (defScope s_letter_text) := ⟨rfl, rfl, rfl, by decide +kernel, rfl, by decide +kernel, by decide +kernel⟩
abbrev s_read_letter : Stmt := top 59
theorem sc_read_letter : FnScope ["text", "letter"] ["text"] (defScope s_read_letter) := ⟨rfl, rfl, rfl, by decide +kernel, rfl, by decide +kernel, by decide +kernel⟩
abbrev s_Bag___init__ : Stmt := inClass (top 61) 0
theorem sc_Bag___init__ : FnScope ["self", "letters"] ["self", "letters"] (defScope s_Bag___init__) := ⟨rfl, rfl, rfl, by decide +kernel, rfl, by decide +kernel, by decide +kernel⟩
abbrev s_Bag__fill : Stmt := inClass (top 61) 1
theorem sc_Bag__fill : FnScope ["self", "letters"] ["self", "letters"] (defScope s_Bag__fill) := ⟨rfl, rfl, rfl, by decide +kernel, rfl, by decide +kernel, by decide +kernel⟩
abbrev s_Bag_sent : Stmt := inClass (top 61) 2
theorem sc_Bag_sent : FnScope ["self", "letter"] ["self", "letter"] (defScope s_Bag_sent) := ⟨rfl, rfl, rfl, by decide +kernel, rfl, by decide +kernel, by decide +kernel⟩
abbrev s_Bag_sent_all : Stmt := inClass (top 61) 3
theorem sc_Bag_sent_all : FnScope ["self", "letters"] ["self", "letters"] (defScope s_Bag_sent_all) := ⟨rfl, rfl, rfl, by decide +kernel, rfl, by decide +kernel, by decide +kernel⟩
abbrev s_Bag_letter : Stmt := inClass (top 61) 4
theorem sc_Bag_letter : FnScope ["self", "number"] ["self", "number"] (defScope s_Bag_letter) := ⟨rfl, rfl, rfl, by decide +kernel, rfl, by decide +kernel, by decide +kernel⟩
abbrev s_Bag_to : Stmt := inClass (top 61) 5
theorem sc_Bag_to : FnScope ["self", "goal", "number", "letter"] ["self", "goal"] (defScope s_Bag_to) := ⟨rfl, rfl, rfl, by decide +kernel, rfl, by decide +kernel, by decide +kernel⟩
abbrev s_Bag___len__ : Stmt := inClass (top 61) 6
theorem sc_Bag___len__ : FnScope ["self"] ["self"] (defScope s_Bag___len__) := ⟨rfl, rfl, rfl, by decide +kernel, rfl, by decide +kernel, by decide +kernel⟩
abbrev s_Bag___eq__ : Stmt := inClass (top 61) 7
theorem sc_Bag___eq__ : FnScope ["self", "other"] ["self", "other"] (defScope s_Bag___eq__) := ⟨rfl, rfl, rfl, by decide +kernel, rfl, by decide +kernel, by decide +kernel⟩
abbrev s_Bag___str__ : Stmt := inClass (top 61) 8
theorem sc_Bag___str__ : FnScope ["self"] ["self"] (defScope s_Bag___str__) := ⟨rfl, rfl, rfl, by decide +kernel, rfl, by decide +kernel, by decide +kernel⟩
abbrev s_bag_of : Stmt := top 62
theorem sc_bag_of : FnScope ["letters", "bag"] ["letters"] (defScope s_bag_of) := ⟨rfl, rfl, rfl, by decide +kernel, rfl, by decide +kernel, by decide +kernel⟩
abbrev s_need_letters : Stmt := top 63
theorem sc_need_letters : FnScope ["value", "letter"] ["value"] (defScope s_need_letters) := ⟨rfl, rfl, rfl, by decide +kernel, rfl, by decide +kernel, by decide +kernel⟩
abbrev s_is_number_of : Stmt := top 64
theorem sc_is_number_of : FnScope ["bag", "value"] ["bag", "value"] (defScope s_is_number_of) := ⟨rfl, rfl, rfl, by decide +kernel, rfl, by decide +kernel, by decide +kernel⟩
abbrev s_judged_handing : Stmt := top 65
theorem sc_judged_handing : FnScope ["bag", "handing", "number", "times", "greatest", "overtaken", "goal", "lost", "doubled", "_", "count"] ["bag", "handing"] (defScope s_judged_handing) := ⟨rfl, rfl, rfl, by decide +kernel, rfl, by decide +kernel, by decide +kernel⟩
abbrev s_law_dice : Stmt := top 67
theorem sc_law_dice : FnScope ["script", "spot", "cell", "left"] ["script", "spot"] (defScope s_law_dice) := ⟨rfl, rfl, rfl, by decide +kernel, rfl, by decide +kernel, by decide +kernel⟩
abbrev s_law_roll : Stmt := top 68
theorem sc_law_roll : FnScope ["dice", "total", "found", "one", "two"] ["dice", "total"] (defScope s_law_roll) := ⟨rfl, rfl, rfl, by decide +kernel, rfl, by decide +kernel, by decide +kernel⟩
abbrev s_law_pick : Stmt := top 69
theorem sc_law_pick : FnScope ["dice", "items"] ["dice", "items"] (defScope s_law_pick) := ⟨rfl, rfl, rfl, by decide +kernel, rfl, by decide +kernel, by decide +kernel⟩
abbrev s_law_met : Stmt := top 70
theorem sc_law_met : FnScope ["call", "error"] ["call"] (defScope s_law_met) := ⟨rfl, rfl, rfl, by decide +kernel, rfl, by decide +kernel, by decide +kernel⟩
abbrev s_law_odd_letters : Stmt := top 71
theorem sc_law_odd_letters : FnScope ["found"] [] (defScope s_law_odd_letters) := ⟨rfl, rfl, rfl, by decide +kernel, rfl, by decide +kernel, by decide +kernel⟩
abbrev s_law_right : Stmt := top 72
theorem sc_law_right : FnScope ["dice", "told", "due", "bag", "handing", "none", "number", "odd", "place", "right", "text"] ["dice"] (defScope s_law_right) := ⟨rfl, rfl, rfl, by decide +kernel, rfl, by decide +kernel, by decide +kernel⟩
abbrev s_law : Stmt := top 73
theorem sc_law : FnScope ["script", "spot", "told", "text"] ["script"] (defScope s_law) := ⟨rfl, rfl, rfl, by decide +kernel, rfl, by decide +kernel, by decide +kernel⟩
structure Txt (K : PySem.W.Frag) (mg : Str → Option Value) (w : World) where
  C_Bag : Addr
  cl_Bag : Cls K C_Bag
  g_Bag : mg "Bag" = some (.ref C_Bag)
  n_Bag_letters : NoAttr K C_Bag "letters"
  a_is_integer : Addr
  fd_is_integer : FuncData
  F_is_integer : Fun K "is_integer" "is_integer" s_is_integer a_is_integer fd_is_integer
  g_is_integer : mg "is_integer" = some (.ref a_is_integer)
  b_is_integer : Binds K fd_is_integer ["value"] []
  a_is_within : Addr
  fd_is_within : FuncData
  F_is_within : Fun K "is_within" "is_within" s_is_within a_is_within fd_is_within
  g_is_within : mg "is_within" = some (.ref a_is_within)
  b_is_within : Binds K fd_is_within ["value", "low", "high"] []
  a_is_whole : Addr
  fd_is_whole : FuncData
  F_is_whole : Fun K "is_whole" "is_whole" s_is_whole a_is_whole fd_is_whole
  g_is_whole : mg "is_whole" = some (.ref a_is_whole)
  b_is_whole : Binds K fd_is_whole ["value"] []
  a_has_signs : Addr
  fd_has_signs : FuncData
  F_has_signs : Fun K "has_signs" "has_signs" s_has_signs a_has_signs fd_has_signs
  g_has_signs : mg "has_signs" = some (.ref a_has_signs)
  b_has_signs : Binds K fd_has_signs ["value", "least", "most"] []
  a_need_text : Addr
  fd_need_text : FuncData
  F_need_text : Fun K "need_text" "need_text" s_need_text a_need_text fd_need_text
  g_need_text : mg "need_text" = some (.ref a_need_text)
  b_need_text : Binds K fd_need_text ["value"] []
  a_need_short : Addr
  fd_need_short : FuncData
  F_need_short : Fun K "need_short" "need_short" s_need_short a_need_short fd_need_short
  g_need_short : mg "need_short" = some (.ref a_need_short)
  b_need_short : Binds K fd_need_short ["text"] []
  a_is_plain : Addr
  fd_is_plain : FuncData
  F_is_plain : Fun K "is_plain" "is_plain" s_is_plain a_is_plain fd_is_plain
  g_is_plain : mg "is_plain" = some (.ref a_is_plain)
  b_is_plain : Binds K fd_is_plain ["value"] []
  a_is_leaf : Addr
  fd_is_leaf : FuncData
  F_is_leaf : Fun K "is_leaf" "is_leaf" s_is_leaf a_is_leaf fd_is_leaf
  g_is_leaf : mg "is_leaf" = some (.ref a_is_leaf)
  b_is_leaf : Binds K fd_is_leaf ["value"] []
  a_is_short_tuple : Addr
  fd_is_short_tuple : FuncData
  F_is_short_tuple : Fun K "is_short_tuple" "is_short_tuple" s_is_short_tuple a_is_short_tuple fd_is_short_tuple
  g_is_short_tuple : mg "is_short_tuple" = some (.ref a_is_short_tuple)
  b_is_short_tuple : Binds K fd_is_short_tuple ["value"] []
  a_text_of : Addr
  fd_text_of : FuncData
  F_text_of : Fun K "text_of" "text_of" s_text_of a_text_of fd_text_of
  g_text_of : mg "text_of" = some (.ref a_text_of)
  b_text_of : Binds K fd_text_of ["value"] []
  a_text_of_leaf : Addr
  fd_text_of_leaf : FuncData
  F_text_of_leaf : Fun K "text_of_leaf" "text_of_leaf" s_text_of_leaf a_text_of_leaf fd_text_of_leaf
  g_text_of_leaf : mg "text_of_leaf" = some (.ref a_text_of_leaf)
  b_text_of_leaf : Binds K fd_text_of_leaf ["value"] []
  a_value_of : Addr
  fd_value_of : FuncData
  F_value_of : Fun K "value_of" "value_of" s_value_of a_value_of fd_value_of
  g_value_of : mg "value_of" = some (.ref a_value_of)
  b_value_of : Binds K fd_value_of ["text"] []
  a_leaf_at : Addr
  fd_leaf_at : FuncData
  F_leaf_at : Fun K "leaf_at" "leaf_at" s_leaf_at a_leaf_at fd_leaf_at
  g_leaf_at : mg "leaf_at" = some (.ref a_leaf_at)
  b_leaf_at : Binds K fd_leaf_at ["text", "at"] []
  a_integer_at : Addr
  fd_integer_at : FuncData
  F_integer_at : Fun K "integer_at" "integer_at" s_integer_at a_integer_at fd_integer_at
  g_integer_at : mg "integer_at" = some (.ref a_integer_at)
  b_integer_at : Binds K fd_integer_at ["text", "at"] []
  a_string_at : Addr
  fd_string_at : FuncData
  F_string_at : Fun K "string_at" "string_at" s_string_at a_string_at fd_string_at
  g_string_at : mg "string_at" = some (.ref a_string_at)
  b_string_at : Binds K fd_string_at ["text", "at"] []
  a_count_at : Addr
  fd_count_at : FuncData
  F_count_at : Fun K "count_at" "count_at" s_count_at a_count_at fd_count_at
  g_count_at : mg "count_at" = some (.ref a_count_at)
  b_count_at : Binds K fd_count_at ["text", "at", "most", "mark"] []
  a_is_entry_of_seat : Addr
  fd_is_entry_of_seat : FuncData
  F_is_entry_of_seat : Fun K "is_entry_of_seat" "is_entry_of_seat" s_is_entry_of_seat a_is_entry_of_seat fd_is_entry_of_seat
  g_is_entry_of_seat : mg "is_entry_of_seat" = some (.ref a_is_entry_of_seat)
  b_is_entry_of_seat : Binds K fd_is_entry_of_seat ["value"] []
  a_is_joint_of_some : Addr
  fd_is_joint_of_some : FuncData
  F_is_joint_of_some : Fun K "is_joint_of_some" "is_joint_of_some" s_is_joint_of_some a_is_joint_of_some fd_is_joint_of_some
  g_is_joint_of_some : mg "is_joint_of_some" = some (.ref a_is_joint_of_some)
  b_is_joint_of_some : Binds K fd_is_joint_of_some ["value"] []
  a_is_print : Addr
  fd_is_print : FuncData
  F_is_print : Fun K "is_print" "is_print" s_is_print a_is_print fd_is_print
  g_is_print : mg "is_print" = some (.ref a_is_print)
  b_is_print : Binds K fd_is_print ["value"] []
  a_is_word : Addr
  fd_is_word : FuncData
  F_is_word : Fun K "is_word" "is_word" s_is_word a_is_word fd_is_word
  g_is_word : mg "is_word" = some (.ref a_is_word)
  b_is_word : Binds K fd_is_word ["value"] []
  a_is_keys_letter : Addr
  fd_is_keys_letter : FuncData
  F_is_keys_letter : Fun K "is_keys_letter" "is_keys_letter" s_is_keys_letter a_is_keys_letter fd_is_keys_letter
  g_is_keys_letter : mg "is_keys_letter" = some (.ref a_is_keys_letter)
  b_is_keys_letter : Binds K fd_is_keys_letter ["value"] []
  a_is_rows_letter : Addr
  fd_is_rows_letter : FuncData
  F_is_rows_letter : Fun K "is_rows_letter" "is_rows_letter" s_is_rows_letter a_is_rows_letter fd_is_rows_letter
  g_is_rows_letter : mg "is_rows_letter" = some (.ref a_is_rows_letter)
  b_is_rows_letter : Binds K fd_is_rows_letter ["value"] []
  a_is_piece_letter : Addr
  fd_is_piece_letter : FuncData
  F_is_piece_letter : Fun K "is_piece_letter" "is_piece_letter" s_is_piece_letter a_is_piece_letter fd_is_piece_letter
  g_is_piece_letter : mg "is_piece_letter" = some (.ref a_is_piece_letter)
  b_is_piece_letter : Binds K fd_is_piece_letter ["value"] []
  a_is_word_letter : Addr
  fd_is_word_letter : FuncData
  F_is_word_letter : Fun K "is_word_letter" "is_word_letter" s_is_word_letter a_is_word_letter fd_is_word_letter
  g_is_word_letter : mg "is_word_letter" = some (.ref a_is_word_letter)
  b_is_word_letter : Binds K fd_is_word_letter ["value"] []
  a_is_letter : Addr
  fd_is_letter : FuncData
  F_is_letter : Fun K "is_letter" "is_letter" s_is_letter a_is_letter fd_is_letter
  g_is_letter : mg "is_letter" = some (.ref a_is_letter)
  b_is_letter : Binds K fd_is_letter ["value"] []
  a_need_letter : Addr
  fd_need_letter : FuncData
  F_need_letter : Fun K "need_letter" "need_letter" s_need_letter a_need_letter fd_need_letter
  g_need_letter : mg "need_letter" = some (.ref a_need_letter)
  b_need_letter : Binds K fd_need_letter ["value"] []
  a_goal : Addr
  fd_goal : FuncData
  F_goal : Fun K "goal" "goal" s_goal a_goal fd_goal
  g_goal : mg "goal" = some (.ref a_goal)
  b_goal : Binds K fd_goal ["letter"] []
  a_goal_of : Addr
  fd_goal_of : FuncData
  F_goal_of : Fun K "goal_of" "goal_of" s_goal_of a_goal_of fd_goal_of
  g_goal_of : mg "goal_of" = some (.ref a_goal_of)
  b_goal_of : Binds K fd_goal_of ["letter"] []
  a_letter_text : Addr
  fd_letter_text : FuncData
  F_letter_text : Fun K "letter_text" "letter_text" s_letter_text a_letter_text fd_letter_text
  g_letter_text : mg "letter_text" = some (.ref a_letter_text)
  b_letter_text : Binds K fd_letter_text ["letter"] []
  a_read_letter : Addr
  fd_read_letter : FuncData
  F_read_letter : Fun K "read_letter" "read_letter" s_read_letter a_read_letter fd_read_letter
  g_read_letter : mg "read_letter" = some (.ref a_read_letter)
  b_read_letter : Binds K fd_read_letter ["text"] []
  a_Bag___init__ : Addr
  fd_Bag___init__ : FuncData
  e_Bag___init__ : Addr
  oe_Bag___init__ : ∀ H, SqT K H e_Bag___init__ []
  F_Bag___init__ : FunD K "__init__" "Bag.__init__" (defArgs s_Bag___init__) (defBody s_Bag___init__) (defScope s_Bag___init__) [V.ref e_Bag___init__] [] a_Bag___init__ fd_Bag___init__
  bd_Bag___init__ : Binds K fd_Bag___init__ ["self", "letters"] [Value.ref e_Bag___init__]
  m_Bag___init__ : Meth K C_Bag "__init__" a_Bag___init__
  b_Bag___init__ : Binds K fd_Bag___init__ ["self", "letters"] []
  a_Bag__fill : Addr
  fd_Bag__fill : FuncData
  F_Bag__fill : Fun K "_fill" "Bag._fill" s_Bag__fill a_Bag__fill fd_Bag__fill
  m_Bag__fill : Meth K C_Bag "_fill" a_Bag__fill
  b_Bag__fill : Binds K fd_Bag__fill ["self", "letters"] []
  a_Bag_sent : Addr
  fd_Bag_sent : FuncData
  F_Bag_sent : Fun K "sent" "Bag.sent" s_Bag_sent a_Bag_sent fd_Bag_sent
  m_Bag_sent : Meth K C_Bag "sent" a_Bag_sent
  b_Bag_sent : Binds K fd_Bag_sent ["self", "letter"] []
  a_Bag_sent_all : Addr
  fd_Bag_sent_all : FuncData
  F_Bag_sent_all : Fun K "sent_all" "Bag.sent_all" s_Bag_sent_all a_Bag_sent_all fd_Bag_sent_all
  m_Bag_sent_all : Meth K C_Bag "sent_all" a_Bag_sent_all
  b_Bag_sent_all : Binds K fd_Bag_sent_all ["self", "letters"] []
  a_Bag_letter : Addr
  fd_Bag_letter : FuncData
  F_Bag_letter : Fun K "letter" "Bag.letter" s_Bag_letter a_Bag_letter fd_Bag_letter
  m_Bag_letter : Meth K C_Bag "letter" a_Bag_letter
  b_Bag_letter : Binds K fd_Bag_letter ["self", "number"] []
  a_Bag_to : Addr
  fd_Bag_to : FuncData
  F_Bag_to : Fun K "to" "Bag.to" s_Bag_to a_Bag_to fd_Bag_to
  m_Bag_to : Meth K C_Bag "to" a_Bag_to
  b_Bag_to : Binds K fd_Bag_to ["self", "goal"] []
  a_Bag___len__ : Addr
  fd_Bag___len__ : FuncData
  F_Bag___len__ : Fun K "__len__" "Bag.__len__" s_Bag___len__ a_Bag___len__ fd_Bag___len__
  m_Bag___len__ : Meth K C_Bag "__len__" a_Bag___len__
  b_Bag___len__ : Binds K fd_Bag___len__ ["self"] []
  a_Bag___eq__ : Addr
  fd_Bag___eq__ : FuncData
  F_Bag___eq__ : Fun K "__eq__" "Bag.__eq__" s_Bag___eq__ a_Bag___eq__ fd_Bag___eq__
  m_Bag___eq__ : Meth K C_Bag "__eq__" a_Bag___eq__
  b_Bag___eq__ : Binds K fd_Bag___eq__ ["self", "other"] []
  a_Bag___str__ : Addr
  fd_Bag___str__ : FuncData
  F_Bag___str__ : Fun K "__str__" "Bag.__str__" s_Bag___str__ a_Bag___str__ fd_Bag___str__
  m_Bag___str__ : Meth K C_Bag "__str__" a_Bag___str__
  b_Bag___str__ : Binds K fd_Bag___str__ ["self"] []
  a_bag_of : Addr
  fd_bag_of : FuncData
  F_bag_of : Fun K "bag_of" "bag_of" s_bag_of a_bag_of fd_bag_of
  g_bag_of : mg "bag_of" = some (.ref a_bag_of)
  b_bag_of : Binds K fd_bag_of ["letters"] []
  a_need_letters : Addr
  fd_need_letters : FuncData
  F_need_letters : Fun K "need_letters" "need_letters" s_need_letters a_need_letters fd_need_letters
  g_need_letters : mg "need_letters" = some (.ref a_need_letters)
  b_need_letters : Binds K fd_need_letters ["value"] []
  a_is_number_of : Addr
  fd_is_number_of : FuncData
  F_is_number_of : Fun K "is_number_of" "is_number_of" s_is_number_of a_is_number_of fd_is_number_of
  g_is_number_of : mg "is_number_of" = some (.ref a_is_number_of)
  b_is_number_of : Binds K fd_is_number_of ["bag", "value"] []
  a_judged_handing : Addr
  fd_judged_handing : FuncData
  F_judged_handing : Fun K "judged_handing" "judged_handing" s_judged_handing a_judged_handing fd_judged_handing
  g_judged_handing : mg "judged_handing" = some (.ref a_judged_handing)
  b_judged_handing : Binds K fd_judged_handing ["bag", "handing"] []
  a_law_dice : Addr
  fd_law_dice : FuncData
  F_law_dice : Fun K "_law_dice" "_law_dice" s_law_dice a_law_dice fd_law_dice
  g_law_dice : mg "_law_dice" = some (.ref a_law_dice)
  b_law_dice : Binds K fd_law_dice ["script", "spot"] []
  a_law_roll : Addr
  fd_law_roll : FuncData
  F_law_roll : Fun K "_law_roll" "_law_roll" s_law_roll a_law_roll fd_law_roll
  g_law_roll : mg "_law_roll" = some (.ref a_law_roll)
  b_law_roll : Binds K fd_law_roll ["dice", "total"] []
  a_law_pick : Addr
  fd_law_pick : FuncData
  F_law_pick : Fun K "_law_pick" "_law_pick" s_law_pick a_law_pick fd_law_pick
  g_law_pick : mg "_law_pick" = some (.ref a_law_pick)
  b_law_pick : Binds K fd_law_pick ["dice", "items"] []
  a_law_met : Addr
  fd_law_met : FuncData
  F_law_met : Fun K "_law_met" "_law_met" s_law_met a_law_met fd_law_met
  g_law_met : mg "_law_met" = some (.ref a_law_met)
  b_law_met : Binds K fd_law_met ["call"] []
  a_law_odd_letters : Addr
  fd_law_odd_letters : FuncData
  F_law_odd_letters : Fun K "_law_odd_letters" "_law_odd_letters" s_law_odd_letters a_law_odd_letters fd_law_odd_letters
  g_law_odd_letters : mg "_law_odd_letters" = some (.ref a_law_odd_letters)
  b_law_odd_letters : Binds K fd_law_odd_letters [] []
  a_law_right : Addr
  fd_law_right : FuncData
  F_law_right : Fun K "_law_right" "_law_right" s_law_right a_law_right fd_law_right
  g_law_right : mg "_law_right" = some (.ref a_law_right)
  b_law_right : Binds K fd_law_right ["dice"] []
  mk_Bag : Mk K C_Bag a_Bag___init__
  z_abs : mg "abs" = none
  z_max : mg "max" = none
  z_min : mg "min" = none
  z_int : mg "int" = none
  z_len : mg "len" = none
  z_range : mg "range" = none
  z_repr : mg "repr" = none
  z_isinstance : mg "isinstance" = none
  z_sorted : mg "sorted" = none
  z_str : mg "str" = none
  z_bool : mg "bool" = none
  z_tuple : mg "tuple" = none
  z_list : mg "list" = none
  z_all : mg "all" = none
  z_enumerate : mg "enumerate" = none
  z_reversed : mg "reversed" = none
  t_MAX_SEATS : Tok
  g_MAX_SEATS : mg "MAX_SEATS" = some (.int 4 t_MAX_SEATS)
  t_MOST_ENTRY : Tok
  g_MOST_ENTRY : mg "MOST_ENTRY" = some (.int 127 t_MOST_ENTRY)
  t_PRINT_MODULUS : Tok
  g_PRINT_MODULUS : mg "PRINT_MODULUS" = some (.int 999999937 t_PRINT_MODULUS)
  t_MOST_WORD : Tok
  g_MOST_WORD : mg "MOST_WORD" = some (.int 63 t_MOST_WORD)
  t_HOST : Tok
  g_HOST : mg "HOST" = some (.int (-1) t_HOST)
  t_MOST_SEAT : Tok
  g_MOST_SEAT : mg "MOST_SEAT" = some (.int 5 t_MOST_SEAT)
  t_MOST_WORDS : Tok
  g_MOST_WORDS : mg "MOST_WORDS" = some (.int 20 t_MOST_WORDS)
  t_MOST_STRETCH : Tok
  g_MOST_STRETCH : mg "MOST_STRETCH" = some (.int 32 t_MOST_STRETCH)
  t_MOST_PIECES : Tok
  g_MOST_PIECES : mg "MOST_PIECES" = some (.int 100 t_MOST_PIECES)
  t_MOST_PIECE : Tok
  g_MOST_PIECE : mg "MOST_PIECE" = some (.int 200 t_MOST_PIECE)
  a_FORMS : Addr
  g_FORMS : mg "FORMS" = some (.ref a_FORMS)
  es_FORMS : Array DictEntry
  n_FORMS : Nat
  d_FORMS : KDict K w a_FORMS es_FORMS n_FORMS
  k_keys : PySem.W.nsIn K a_FORMS "keys" = some (some (.ref a_is_keys_letter))
  k_rows : PySem.W.nsIn K a_FORMS "rows" = some (some (.ref a_is_rows_letter))
  k_piece : PySem.W.nsIn K a_FORMS "piece" = some (some (.ref a_is_piece_letter))
  k_word : PySem.W.nsIn K a_FORMS "word" = some (some (.ref a_is_word_letter))
  k_print : PySem.W.nsIn K a_FORMS "print" = some none
  a_TO_HOST : Addr
  g_TO_HOST : mg "TO_HOST" = some (.ref a_TO_HOST)
  o_TO_HOST : ∀ H, SqT K H a_TO_HOST [.str "keys", .str "word"]
  a_WISHES : Addr
  g_WISHES : mg "WISHES" = some (.ref a_WISHES)
  o_WISHES : ∀ H, SqT K H a_WISHES [.str "come", .str "go"]
  ha_Bag : PySem.W.findIn K (.ref C_Bag) "__class__" = some (some (.builtin "object.__class__"))
  hn_Bag : PySem.W.specialIn K (.builtin "object.__class__") "__get__" = some (some (.builtin "getset_descriptor.__get__"))
  ht_Bag : PySem.W.takesIn K (.builtin "object.__class__") = some true
  hm_Bag : PySem.W.mroIn K C_Bag (.type "object") = some true
  hc_Bag : (PySem.W.clsIn K C_Bag).isSome = true
  hy_Bag : PySem.W.typeIn K (.ref C_Bag) = some (.type "type")
  hs_Bag_tuple : PySem.W.subIn K (.type "tuple") (.ref C_Bag) = some false
  ne_Bag : PySem.W.findIn K (.ref C_Bag) "__ne__" = some (some (.builtin "object.__ne__"))
  ob_Bag : PySem.W.subIn K (.ref C_Bag) (.type "object") = some true
  hs_Bag_list : PySem.W.subIn K (.type "list") (.ref C_Bag) = some false
  hs_Bag_NoneType : PySem.W.subIn K (.type "NoneType") (.ref C_Bag) = some false
  hs_Bag_int : PySem.W.subIn K (.type "int") (.ref C_Bag) = some false
  hs_Bag_str : PySem.W.subIn K (.type "str") (.ref C_Bag) = some false
  C_LE : Addr
  g_InvalidLetter : mg "InvalidLetter" = some (.ref C_LE)
  x_LE : PySem.W.excIn K C_LE [.type "ValueError", .type "Exception", .type "BaseException", .type "object"] "ValueError.__new__" = true
  k_LE : PySem.W.keepIn K (.ref C_LE) = true
  e_LE : PySem.W.subIn K (.ref C_LE) (.type "BaseException") = some true
  y_LE : PySem.W.typeIn K (.ref C_LE) = some (.type "type")
  C_TE : Addr
  g_InvalidText : mg "InvalidText" = some (.ref C_TE)
  x_TE : PySem.W.excIn K C_TE [.type "ValueError", .type "Exception", .type "BaseException", .type "object"] "ValueError.__new__" = true
  k_TE : PySem.W.keepIn K (.ref C_TE) = true
  e_TE : PySem.W.subIn K (.ref C_TE) (.type "BaseException") = some true
  y_TE : PySem.W.typeIn K (.ref C_TE) = some (.type "type")
  C_OE : Addr
  g_InvalidOperation : mg "InvalidOperation" = some (.ref C_OE)
  x_OE : PySem.W.excIn K C_OE [.type "ValueError", .type "Exception", .type "BaseException", .type "object"] "ValueError.__new__" = true
  k_OE : PySem.W.keepIn K (.ref C_OE) = true
  e_OE : PySem.W.subIn K (.ref C_OE) (.type "BaseException") = some true
  y_OE : PySem.W.typeIn K (.ref C_OE) = some (.type "type")
  C_IN : Addr
  g_InvalidNumber : mg "InvalidNumber" = some (.ref C_IN)
  o_IN : OxG K C_IN "IndexError.__new__" [.type "IndexError", .type "LookupError", .type "Exception", .type "BaseException", .type "object"]
  a_InvalidNumber___init__ : Addr
  fd_InvalidNumber___init__ : FuncData
  F_InvalidNumber___init__ : Fun K "__init__" "InvalidNumber.__init__" s_InvalidNumber___init__ a_InvalidNumber___init__ fd_InvalidNumber___init__
  b_InvalidNumber___init__ : Binds K fd_InvalidNumber___init__ ["self", "given"] []
  i_IN : PySem.W.findIn K (.ref C_IN) "__init__" = some (some (.ref a_InvalidNumber___init__))
  t_IN : PySem.W.typeIn K (.ref a_InvalidNumber___init__) = some (.type "function")
  f_IN : PySem.W.findIn K (.ref C_IN) "given" = some none
  x_IN : XfC K C_IN
  C_PE : Addr
  g_ParseError : mg "ParseError" = some (.ref C_PE)
  o_PE : OexC K C_PE
  a_ParseError___init__ : Addr
  fd_ParseError___init__ : FuncData
  F_ParseError___init__ : Fun K "__init__" "ParseError.__init__" s_ParseError___init__ a_ParseError___init__ fd_ParseError___init__
  b_ParseError___init__ : Binds K fd_ParseError___init__ ["self", "spot"] []
  i_PE : PySem.W.findIn K (.ref C_PE) "__init__" = some (some (.ref a_ParseError___init__))
  t_PE : PySem.W.typeIn K (.ref a_ParseError___init__) = some (.type "function")
  f_PE : PySem.W.findIn K (.ref C_PE) "spot" = some none
  x_PE : XfC K C_PE
  m_LE_LE : PySem.W.exmOne K (.ref C_LE) (.ref C_LE) = some true
  m_TE_LE : PySem.W.exmOne K (.ref C_TE) (.ref C_LE) = some false
  m_TE_TE : PySem.W.exmOne K (.ref C_TE) (.ref C_TE) = some true
  m_IN_LE : PySem.W.exmOne K (.ref C_IN) (.ref C_LE) = some false
  m_IN_TE : PySem.W.exmOne K (.ref C_IN) (.ref C_TE) = some false
  m_IN_IN : PySem.W.exmOne K (.ref C_IN) (.ref C_IN) = some true
  m_OE_LE : PySem.W.exmOne K (.ref C_OE) (.ref C_LE) = some false
  m_OE_TE : PySem.W.exmOne K (.ref C_OE) (.ref C_TE) = some false
  m_OE_IN : PySem.W.exmOne K (.ref C_OE) (.ref C_IN) = some false
  m_OE_OE : PySem.W.exmOne K (.ref C_OE) (.ref C_OE) = some true
  m_PE_PE : PySem.W.exmOne K (.ref C_PE) (.ref C_PE) = some true
  m_TE_PE : PySem.W.exmOne K (.ref C_TE) (.ref C_PE) = some false
  t_MOST_TEXT : Tok
  g_MOST_TEXT : mg "MOST_TEXT" = some (.int 20000 t_MOST_TEXT)
  t_MOST_LONG : Tok
  g_MOST_LONG : mg "MOST_LONG" = some (.int 2000 t_MOST_LONG)
  t_MOST_DEEP : Tok
  g_MOST_DEEP : mg "MOST_DEEP" = some (.int 200 t_MOST_DEEP)
end Kz
set_option Elab.async false
set_option linter.all false
set_option maxRecDepth 100000
set_option maxHeartbeats 4000000
set_option exponentiation.threshold 500
namespace Kz
open PySem PySem.Spec PyProof.Rows L2 Evl Vr
local macro_rules | `(tactic| walk_at "sc") => `(tactic| first | (with_reducible assumption) | (with_reducible exact sc_mul (by omega)) | (with_reducible exact sc_mulr (by omega)) | (with_reducible exact sc_div (by omega) (by decide)) | (show (0 : Int) < _; omega) | (show _ ≠ (0 : Int); omega) | (with_reducible rfl) | decide)
local macro_rules | `(tactic| walk_at "sq") => `(tactic| first | assumption | exact sq_of (by assumption) | exact st_of (by assumption))
local macro_rules | `(tactic| walk_at "pl") => `(tactic| first | assumption | exact pl_int | exact pl_bl | exact pl_str | exact pl_non | exact pl_lst (by assumption) | exact pl_tup (by assumption) | exact pl_dK (by assumption))
local macro_rules | `(tactic| walk_at "rv") => `(tactic| first
  | with_reducible exact rv_I0
  | with_reducible exact ru_neg
  | ((with_reducible apply rv_I); walk_at "sc")
  | ((with_reducible apply rv_ixL); walk_at "sq"; first | rfl | assumption)
  | ((with_reducible apply rv_ixT); walk_at "sq"; first | rfl | assumption)
  | ((with_reducible apply rv_eq); rfl) | ((with_reducible apply rv_ne); rfl))
local macro_rules | `(tactic| walk_at "rc") => `(tactic| first
  | with_reducible exact rc_I1 | with_reducible exact rc_B1 | with_reducible exact rc_I2 | ((with_reducible apply rc_repr); walk_at "sc") | ((with_reducible apply rc_lenL); walk_at "sq")
  | ((with_reducible apply rc_isiInt); walk_at "pl") | ((with_reducible apply rc_isiBool); walk_at "pl"))
local macro_rules | `(tactic| walk_at "ea") => `(tactic| first
  | with_reducible exact ea_nil | ((with_reducible apply ea_cons); walk_at "ev"; walk_at "ea"))
local macro_rules | `(tactic| walk_at "pow") => `(tactic| first
  | with_reducible exact ev_pow (a := 10) (b := 9) (c := 1000000000) (by decide +kernel) (by decide +kernel)
  | with_reducible exact ev_pow (a := 10) (b := 10) (c := 10000000000) (by decide +kernel) (by decide +kernel)
  | with_reducible exact ev_pow (a := 10) (b := 12) (c := 1000000000000) (by decide +kernel) (by decide +kernel)
  | with_reducible exact ev_pow (a := 10) (b := 17) (c := 100000000000000000) (by decide +kernel) (by decide +kernel)
  | with_reducible exact ev_pow (a := 10) (b := 20) (c := 100000000000000000000) (by decide +kernel) (by decide +kernel)
  | with_reducible exact ev_pow (a := 10) (b := 29) (c := 100000000000000000000000000000) (by decide +kernel) (by decide +kernel)
  | with_reducible exact ev_pow (a := 10) (b := 30) (c := 1000000000000000000000000000000) (by decide +kernel) (by decide +kernel)
  | with_reducible exact ev_pow (a := 10) (b := 40) (c := 10000000000000000000000000000000000000000) (by decide +kernel) (by decide +kernel)
  | with_reducible exact ev_pow (a := 10) (b := 57) (c := 1000000000000000000000000000000000000000000000000000000000) (by decide +kernel) (by decide +kernel)
  | with_reducible exact ev_pow (a := 10) (b := 58) (c := 10000000000000000000000000000000000000000000000000000000000) (by decide +kernel) (by decide +kernel)
  | with_reducible exact ev_pow (a := 10) (b := 59) (c := 100000000000000000000000000000000000000000000000000000000000) (by decide +kernel) (by decide +kernel)
  | with_reducible exact ev_pow (a := 10) (b := 60) (c := 1000000000000000000000000000000000000000000000000000000000000) (by decide +kernel) (by decide +kernel))
local macro_rules | `(tactic| walk_at "call") => `(tactic| (intro H9 e9; first | exact ⟨_, rfl, rfl⟩ | exact ⟨_, _, rfl, rfl⟩ | exact ⟨_, _, _, rfl, rfl⟩ | exact ⟨_, rfl, by walk_at "pl", rfl⟩ | (refine ⟨_, _, _, rfl, ?_, rfl⟩; first | exact Plain.ex e9 (by assumption) | walk_at "pl") | (refine ⟨_, rfl, ?_, rfl⟩; first | exact Plain.ex e9 (by assumption) | walk_at "pl")))
local macro_rules | `(tactic| walk_at "ev") => `(tactic| first
  | with_reducible exact ev_c
  | exact ev_var rfl
  | walk_at "pow"
  | ((with_reducible apply ev_op); walk_at "ev"; walk_at "ev"; walk_at "rv")
  | ((with_reducible apply ev_un); walk_at "ev"; walk_at "rv")
  | ((with_reducible apply ev_cb); walk_at "ea"; walk_at "rc")
  | ((with_reducible apply ev_callP); walk_at "ea"; walk_at "call")
  | ((with_reducible apply ev_chain); walk_at "ev"; walk_at "ev"; walk_at "rv"; walk_at "ev"; walk_at "rv")
  | ((with_reducible apply ev_andV); walk_at "ev"; intro _; walk_at "ev")
  | ((with_reducible apply ev_orV); walk_at "ev"; intro _; walk_at "ev")
  | ((with_reducible apply ev_ite); walk_at "et"; intro _; walk_at "ev"; intro _; walk_at "ev")
  | ((with_reducible apply ev_notV); walk_at "ev"))
local macro_rules | `(tactic| walk_at "et") => `(tactic| first
  | ((with_reducible apply et_test); walk_at "ev")
  | ((with_reducible apply et_B); walk_at "ev")
  | ((with_reducible apply et_and); walk_at "et"; intro _; walk_at "et")
  | ((with_reducible apply et_or); walk_at "et"; intro _; walk_at "et")
  | ((with_reducible apply et_not); walk_at "et"))
section
variable {P : Program} {w : World} {K : PySem.W.Frag} {mg : Str → Option Value} {base : Heap}
def kIsInteger (K : PySem.W.Frag) (vs : List V) (H : Hp) (z : V) : Prop := ∃ x, vs = [x] ∧ Plain K H x ∧ z = .bl (isIntV x)
theorem ok_is_integer (T : Txt K mg w) : FnOk P w K mg base CX0 1 T.a_is_integer T.fd_is_integer ["value"] (Pure (kIsInteger K)) := by
  refine T.F_is_integer.ok sc_is_integer (fun vs H Q E h => ?_) (fun cdv A outer s H vs Q E hr h => ?_)
  · obtain ⟨_, ⟨a, rfl, _⟩, _⟩ := h; rfl
  · obtain ⟨_, ⟨x, rfl, hp, rfl⟩, q⟩ := h
    refine ⟨_, (pss_one (ps_ret (pe_and (pe_callB call_isi (by rfl) T.z_isinstance (by decide +kernel) (pa_cons (pv 0) (pa_cons (pe_bltn (v := .ty "int") (by rfl) T.z_int (by decide +kernel) rfl) pa_nil))) (pe_and (pe_not (pe_callB call_isi (by rfl) T.z_isinstance (by decide +kernel) (pa_cons (pv 0) (pa_cons (pe_bltn (v := .ty "bool") (by rfl) T.z_bool (by decide +kernel) rfl) pa_nil)))) (pe_one (pe_chain op_lt op_lt (pe_un un_neg (pe_op op_pow pe_int pe_int)) (pv 0) (pe_op op_pow pe_int pe_int))))))), ?_⟩
    refine s_ret (v := .bl (isIntV x)) ?_ q
    cases x with
    | int i =>
      apply ev_is
      walk_at "ev"
      show V.bl (true && (!false && (decide (-1000000000000000000000000000000000000000000000000000000000000 < i) && decide (i < 1000000000000000000000000000000000000000000000000000000000000)))) = _
      rfl
    | bl b =>
      refine ev_andV (a := true) (b := false) (by apply ev_is; walk_at "ev"; rfl) fun _ => ?_
      exact ev_andV (a := false) (b := false) (by apply ev_is; walk_at "ev"; rfl) (fun h => by cases h)
    | non => exact ev_andV (a := false) (b := false) (by apply ev_is; walk_at "ev"; rfl) (fun h => by cases h)
    | str _ => exact ev_andV (a := false) (b := false) (by apply ev_is; walk_at "ev"; rfl) (fun h => by cases h)
    | byt _ => exact ev_andV (a := false) (b := false) (by apply ev_is; walk_at "ev"; rfl) (fun h => by cases h)
    | flt _ => exact ev_andV (a := false) (b := false) (by apply ev_is; walk_at "ev"; rfl) (fun h => by cases h)
    | ref _ => exact ev_andV (a := false) (b := false) (by apply ev_is; walk_at "ev"; rfl) (fun h => by cases h)
    | ty _ => exact ev_andV (a := false) (b := false) (by apply ev_is; walk_at "ev"; rfl) (fun h => by cases h)
def kIsWithin (K : PySem.W.Frag) (vs : List V) (H : Hp) (z : V) : Prop := ∃ x lo hi, vs = [x, .int lo, .int hi] ∧ Plain K H x ∧ z = .bl (isWithin lo hi x)
theorem ok_is_within (T : Txt K mg w) : FnOk P w K mg base CX0 2 T.a_is_within T.fd_is_within ["value", "low", "high"] (Pure (kIsWithin K)) := by
  have G_is_integer := ok_is_integer (P := P) (w := w) (base := base) T
  refine T.F_is_within.ok sc_is_within (fun vs H Q E h => ?_) (fun cdv A outer s H vs Q E hr h => ?_)
  · obtain ⟨_, ⟨a, _, _, rfl, _⟩, _⟩ := h; rfl
  · obtain ⟨_, ⟨x, lo, hi, rfl, hp, rfl⟩, q⟩ := h
    refine ⟨_, (pss_one (ps_ret (pe_and (pe_call G_is_integer (hr.mono (by decide)) (by rfl) T.g_is_integer T.F_is_integer.kp T.b_is_integer .nil pass0 (pa_cons (pv 0) pa_nil)) (pe_one (pe_chain op_le op_le (pv 1) (pv 0) (pv 2)))))), ?_⟩
    refine s_ret (v := .bl (isWithin lo hi x)) ?_ q
    cases x with
    | int i => apply ev_is; walk_at "ev"; rfl
    | bl b => exact ev_andV (a := false) (b := false) (by apply ev_is; walk_at "ev"; rfl) (fun h => by cases h)
    | non => exact ev_andV (a := false) (b := false) (by apply ev_is; walk_at "ev"; rfl) (fun h => by cases h)
    | str _ => exact ev_andV (a := false) (b := false) (by apply ev_is; walk_at "ev"; rfl) (fun h => by cases h)
    | byt _ => exact ev_andV (a := false) (b := false) (by apply ev_is; walk_at "ev"; rfl) (fun h => by cases h)
    | flt _ => exact ev_andV (a := false) (b := false) (by apply ev_is; walk_at "ev"; rfl) (fun h => by cases h)
    | ref _ => exact ev_andV (a := false) (b := false) (by apply ev_is; walk_at "ev"; rfl) (fun h => by cases h)
    | ty _ => exact ev_andV (a := false) (b := false) (by apply ev_is; walk_at "ev"; rfl) (fun h => by cases h)
def kRoll (vs : List V) (_ : Hp) (p : Addr) (R : V → Prop) : Prop := ∃ t : Int, vs = [.ref p, .int t] ∧ 0 < t ∧ t.natAbs < 2 ^ 400 ∧ R = fun v => ∃ r : Int, v = .int r ∧ 0 ≤ r ∧ r < t
theorem ok_roll (T : Txt K mg w) : FnOk P w K mg base CX0 1 T.a_law_roll T.fd_law_roll ["dice", "total"] (Draws kRoll) := by
  refine T.F_law_roll.ok sc_law_roll (fun vs H Q E h => ?_) (fun cdv A outer s H vs Q E hr h => ?_)
  · obtain ⟨p, _, ⟨t, rfl, _⟩, _⟩ := h; rfl
  · obtain ⟨p, _, ⟨t, rfl, h0, h1, rfl⟩, ⟨a, b, c, hp⟩, q0⟩ := h
    have q : ∀ (r : Int) H', 0 ≤ r → r < t → Exd p H H' → Dice p H' → Q (.int r) H' := fun r H' a b => q0 _ H' ⟨r, rfl, a, b⟩
    refine ⟨_, (pss_cons (ps_if (pt_cmpR op_gt (pe_ix ix_list (pv 0) pe_int (fun _ _ => rfl)) pe_int (nomark _)) (pss_cons (ps_set (i := 2) sc_law_roll.nd rfl (.inl rfl) (pe_op op_mod (pe_callTy c_int (by rfl) T.z_int (by decide +kernel) (pa_cons (pe_ix ix_list (pv 0) pe_int (fun _ _ => rfl)) pa_nil)) (pv 1)))
  (pss_cons (ps_asg (pe_op op_fdivW (pe_ix ix_list (pv 0) pe_int (fun _ _ => rfl)) (pv 1)) (pg_sub (pv 0) pe_int set_list))
  (pss_one (ps_ret (pv 2))))) pss_nil)
  (pss_cons (ps_asg (pe_op op_add (pe_ix ix_list (pv 0) pe_int (fun _ _ => rfl)) pe_int) (pg_sub (pv 0) pe_int set_list))
  (pss_cons (ps_set (i := 3) sc_law_roll.nd rfl (.inl rfl) (pe_op op_mod (pe_callTy c_int (by rfl) T.z_int (by decide +kernel) (pa_cons (pe_op op_add (pe_ix ix_list (pv 0) pe_int (fun _ _ => rfl)) (pe_op op_mul pe_int (pe_ix ix_list (pv 0) pe_int (fun _ _ => rfl)))) pa_nil)) pe_int))
  (pss_cons (ps_set (i := 4) sc_law_roll.nd rfl (.inl rfl) (pe_op op_add (pe_op op_mul (pe_op op_mod (pe_callTy c_int (by rfl) T.z_int (by decide +kernel) (pa_cons (pe_op op_add (pe_op op_mul (pv 3) (pv 3)) (pe_op op_mul pe_int (pe_ix ix_list (pv 0) pe_int (fun _ _ => rfl)))) pa_nil)) pe_int) pe_int) (pv 3)))
  (pss_one (ps_ret (pe_op op_mod (pe_callTy c_int (by rfl) T.z_int (by decide +kernel) (pa_cons (pe_op op_fdivW (pv 4) pe_int) pa_nil)) (pv 1)))))))), ?_⟩
    have cd : CDivW a t := wide_div h0 h1 (by decide) (by decide)
    apply q_when
    case h => walk_at "et"
    · intro hb H1 e1
      have hp := e1 _ _ hp
      apply q_asg
      case h => walk_at "ev"
      intro H2 e2
      have hp := e2 _ _ hp
      refine q_setL (j := 0) hp (v := .int (a / t)) (by walk_at "ev") (ev_var rfl) ev_c (by show 0 < 3; decide) fun H3 e3 => ?_
      refine ⟨_, rfl, q _ _ (Int.emod_nonneg _ (by omega)) (Int.emod_lt_of_pos _ h0) ?_ ⟨_, _, _, upd_same⟩⟩
      exact (Exd.of (e1.trans (e2.trans e3))).trans Exd.upd
    · intro hb H1 e1
      have hp := e1 _ _ hp
      refine q_setL (j := 2) hp (v := .int (c + 1)) (by walk_at "ev") (ev_var rfl) ev_c (by show 2 < 3; decide) fun H3 e3 => ?_
      have hq : (upd H3 p (.lst ([.int a, .int b, .int c].set 2 (.int (c + 1))))) p = some (.lst [.int a, .int b, .int (c + 1)]) := upd_same
      have ex := (Exd.of (e1.trans e3)).trans (Exd.upd (p := p) (o := .lst ([.int a, .int b, .int c].set 2 (.int (c + 1)))))
      generalize upd H3 p (.lst ([.int a, .int b, .int c].set 2 (.int (c + 1)))) = H4 at hq ex
      apply q_asg
      case h => walk_at "ev"
      intro H5 e5
      have hq := e5 _ _ hq
      generalize ho : (b + 67867979 * (c + 1)) % 2305843009213693723 = one
      have ho1 : 0 ≤ one := by rw [← ho]; exact Int.emod_nonneg _ (by omega)
      have ho2 : one < 2305843009213693723 := by rw [← ho]; exact Int.emod_lt_of_pos _ (by omega)
      have cm : CMul one one := .inl (by constructor <;> omega)
      apply q_asg
      case h => walk_at "ev"
      intro H6 e6
      have hq := e6 _ _ hq
      apply s_ret
      case h => walk_at "ev"
      intro H7 e7
      exact q _ _ (Int.emod_nonneg _ (by omega)) (Int.emod_lt_of_pos _ h0) (ex.trans (Exd.of (e5.trans (e6.trans e7)))) ⟨_, _, _, e7 _ _ hq⟩
def spDice (K : PySem.W.Frag) : Sp := fun vs H Q _ => ∃ (a : Addr) (ns : List Int) (sp : Nat), vs = [.ref a, .int sp] ∧ SqL K H a (ns.map V.int) ∧ ∀ p H', H p = none → Ex H H' → Dice p H' → Q (.ref p) H'
theorem ok_dice (T : Txt K mg w) : FnOk P w K mg base CX0 1 T.a_law_dice T.fd_law_dice ["script", "spot"] (spDice K) := by
  refine T.F_law_dice.ok sc_law_dice (fun vs H Q E h => ?_) (fun cdv A outer s H vs Q E hr h => ?_)
  · obtain ⟨_, _, _, rfl, _⟩ := h; rfl
  · obtain ⟨a, ns, sp, rfl, hS, q⟩ := h
    refine ⟨_, (pss_cons (ps_set (i := 2) sc_law_dice.nd rfl (.inl rfl) (pe_ifExp (pt_cmpR op_lt (pv 1) (pe_callB c_len (by rfl) T.z_len PySem.boot_len (pa_cons (pv 0) pa_nil)) (nomark _)) (pe_callTy c_int (by rfl) T.z_int (by decide +kernel) (pa_cons (pe_ix ix_list (pv 0) (pv 1) (fun _ _ => rfl)) pa_nil)) (pe_op op_add (pe_op op_mul pe_int (pv 1)) pe_int)))
  (pss_cons (ps_set (i := 3) sc_law_dice.nd rfl (.inl rfl) (pe_op op_mod (pe_callB (c_max rfl) (by rfl) T.z_max (by decide +kernel) (pa_cons pe_int (pa_cons (pe_op op_sub (pe_callB c_abs (by rfl) T.z_abs (by decide +kernel) (pa_cons (pv 2) pa_nil)) (pe_op op_pow pe_int pe_int)) pa_nil))) (pe_op op_mulW (pe_op op_pow pe_int pe_int) (pe_op op_pow pe_int pe_int))))
  (pss_one (ps_ret (pe_lst (pa_cons (pv 3) (pa_cons (pe_op op_add (pe_op op_add (pe_op op_add (pe_op op_mul (pe_op op_mod (pe_callB c_abs (by rfl) T.z_abs (by decide +kernel) (pa_cons (pv 2) pa_nil)) pe_int) pe_int) (pe_op op_mul pe_int (pv 1))) (pe_op op_mul pe_int (pe_callTy c_intB (by rfl) T.z_int (by decide +kernel) (pa_cons (pe_cmpR op_lt (pv 2) pe_int (nomark _)) pa_nil)))) pe_int) (pa_cons pe_int pa_nil)))))))), ?_⟩
    refine q_asgI ?_ fun cell H1 e1 => ?_
    · by_cases hs : sp < ns.length
      · have hx : (ns.map V.int)[sp]? = some (.int ns[sp]) := by rw [List.getElem?_map, List.getElem?_eq_getElem hs]; rfl
        have hi : atI (ns.map V.int) (sp : Int) = some (.int ns[sp]) := atI_nat hx
        refine ⟨ns[sp], ev_if (b := true) ?_ (fun _ => by walk_at "ev") (fun h => by cases h)⟩
        apply et_is
        walk_at "et"
        rw [List.length_map]
        exact decide_eq_true (by omega)
      · refine ⟨_, ev_if (b := false) ?_ (fun h => by cases h) (fun _ => by walk_at "ev")⟩
        apply et_is
        walk_at "et"
        rw [List.length_map]
        exact decide_eq_false (by omega)
    refine q_asgI ⟨_, ev_op (y := .int 1000000000000000000000000000000000000000000000000000000000000000000000000000000000000000000000000000000000000000000000) (by walk_at "ev") (ev_is (ev_op (by walk_at "pow") (by walk_at "pow") (rv_I (by unfold CMulW; decide +kernel))) (by decide +kernel)) (rv_I (by decide))⟩ fun left H2 e2 => ?_
    have hm : ∀ n : Int, CMul (n % 1152921504606846817) 83 := fun n => .inr (by omega)
    have hm2 := hm (if cell < 0 then -cell else cell)
    refine s_retL (el_lst (by walk_at "ea") (by show 3 ≤ 100000; decide)) fun p H3 hp e3 h3 => ?_
    exact q p H3 (fresh_back (e1.trans e2) hp) ((e1.trans e2).trans e3) ⟨_, _, _, h3⟩
def kPick (K : PySem.W.Frag) (vs : List V) (H : Hp) (p : Addr) (R : V → Prop) : Prop := ∃ (a : Addr) (xs : List V), vs = [.ref p, .ref a] ∧ a ≠ p ∧ SqL K H a xs ∧ 0 < xs.length ∧ xs.length < 1000000 ∧ R = fun v => v ∈ xs
theorem ok_pick (T : Txt K mg w) : FnOk P w K mg base CX0 2 T.a_law_pick T.fd_law_pick ["dice", "items"] (Draws (kPick K)) := by
  have G_law_roll := ok_roll (P := P) (w := w) (base := base) T
  refine T.F_law_pick.ok sc_law_pick (fun vs H Q E h => ?_) (fun cdv A outer s H vs Q E hr h => ?_)
  · obtain ⟨p, _, ⟨_, _, rfl, _⟩, _⟩ := h; rfl
  · obtain ⟨p, _, ⟨a, xs, rfl, hne, hS, hl, hl2, rfl⟩, hd, q⟩ := h
    refine ⟨_, (pss_one (ps_ret (pe_ix ix_list (pv 1) (pe_call G_law_roll (hr.mono (by decide)) (by rfl) T.g_law_roll T.F_law_roll.kp T.b_law_roll .nil pass0 (pa_cons (pv 0) (pa_cons (pe_callB c_len (by rfl) T.z_len PySem.boot_len (pa_cons (pv 1) pa_nil)) pa_nil))) (fun _ _ => rfl)))), ?_⟩
    refine ⟨.ref a, rfl, ?_⟩
    refine goA (vs := [.ref p, .int xs.length]) (by walk_at "ea") fun H1 e1 => ?_
    refine ⟨p, _, ⟨(xs.length : Int), rfl, by omega, by rw [Int.natAbs_natCast]; exact Nat.lt_trans hl2 (by decide), rfl⟩, hd.ex e1, ?_⟩
    rintro v H2 ⟨r, rfl, hr0, hr1⟩ e2 d2
    obtain ⟨n, rfl⟩ := Int.eq_ofNat_of_zero_le hr0
    have hn : n < xs.length := by omega
    refine ⟨a, xs, n, xs[n], rfl, rfl, e2.l hne (ex_l e1 hS), atI_nat (List.getElem?_eq_getElem hn), ?_⟩
    exact q _ H2 (List.getElem_mem hn) ((Exd.of e1).trans e2) d2
end
end Kz
set_option Elab.async false
set_option linter.all false
set_option maxRecDepth 100000
set_option maxHeartbeats 4000000
set_option exponentiation.threshold 500
namespace Kz
open PySem PySem.Spec PyProof.Rows L2 Evl Vr
local macro_rules | `(tactic| walk_at "sc") => `(tactic| first | (with_reducible assumption) | (with_reducible exact sc_mul (by omega)) | (with_reducible exact sc_mulr (by omega)) | (with_reducible exact sc_div (by omega) (by decide)) | (show (0 : Int) < _; omega) | (show _ ≠ (0 : Int); omega) | (with_reducible rfl) | decide)
local macro_rules | `(tactic| walk_at "sq") => `(tactic| first | assumption | exact sq_of (by assumption) | exact st_of (by assumption))
local macro_rules | `(tactic| walk_at "pl") => `(tactic| first | assumption | exact pl_int | exact pl_bl | exact pl_str | exact pl_non | exact pl_lst (by assumption) | exact pl_tup (by assumption) | exact pl_dK (by assumption))
local macro_rules | `(tactic| walk_at "rv") => `(tactic| first
  | with_reducible exact rv_I0
  | with_reducible exact ru_neg
  | ((with_reducible apply rv_I); walk_at "sc")
  | ((with_reducible apply rv_ixL); walk_at "sq"; first | rfl | assumption)
  | ((with_reducible apply rv_ixT); walk_at "sq"; first | rfl | assumption)
  | ((with_reducible apply rv_eq); rfl) | ((with_reducible apply rv_ne); rfl))
local macro_rules | `(tactic| walk_at "rc") => `(tactic| first
  | with_reducible exact rc_I1 | with_reducible exact rc_B1 | with_reducible exact rc_I2 | ((with_reducible apply rc_repr); walk_at "sc") | ((with_reducible apply rc_lenL); walk_at "sq")
  | ((with_reducible apply rc_isiInt); walk_at "pl") | ((with_reducible apply rc_isiBool); walk_at "pl"))
local macro_rules | `(tactic| walk_at "ea") => `(tactic| first
  | with_reducible exact ea_nil | ((with_reducible apply ea_cons); walk_at "ev"; walk_at "ea"))
local macro_rules | `(tactic| walk_at "pow") => `(tactic| first
  | with_reducible exact ev_pow (a := 10) (b := 9) (c := 1000000000) (by decide +kernel) (by decide +kernel)
  | with_reducible exact ev_pow (a := 10) (b := 10) (c := 10000000000) (by decide +kernel) (by decide +kernel)
  | with_reducible exact ev_pow (a := 10) (b := 12) (c := 1000000000000) (by decide +kernel) (by decide +kernel)
  | with_reducible exact ev_pow (a := 10) (b := 17) (c := 100000000000000000) (by decide +kernel) (by decide +kernel)
  | with_reducible exact ev_pow (a := 10) (b := 20) (c := 100000000000000000000) (by decide +kernel) (by decide +kernel)
  | with_reducible exact ev_pow (a := 10) (b := 29) (c := 100000000000000000000000000000) (by decide +kernel) (by decide +kernel)
  | with_reducible exact ev_pow (a := 10) (b := 30) (c := 1000000000000000000000000000000) (by decide +kernel) (by decide +kernel)
  | with_reducible exact ev_pow (a := 10) (b := 40) (c := 10000000000000000000000000000000000000000) (by decide +kernel) (by decide +kernel)
  | with_reducible exact ev_pow (a := 10) (b := 57) (c := 1000000000000000000000000000000000000000000000000000000000) (by decide +kernel) (by decide +kernel)
  | with_reducible exact ev_pow (a := 10) (b := 58) (c := 10000000000000000000000000000000000000000000000000000000000) (by decide +kernel) (by decide +kernel)
  | with_reducible exact ev_pow (a := 10) (b := 59) (c := 100000000000000000000000000000000000000000000000000000000000) (by decide +kernel) (by decide +kernel)
  | with_reducible exact ev_pow (a := 10) (b := 60) (c := 1000000000000000000000000000000000000000000000000000000000000) (by decide +kernel) (by decide +kernel))
local macro_rules | `(tactic| walk_at "call") => `(tactic| (intro H9 e9; first | exact ⟨_, rfl, rfl⟩ | exact ⟨_, _, rfl, rfl⟩ | exact ⟨_, _, _, rfl, rfl⟩ | exact ⟨_, rfl, by walk_at "pl", rfl⟩ | (refine ⟨_, _, _, rfl, ?_, rfl⟩; first | exact Plain.ex e9 (by assumption) | walk_at "pl") | (refine ⟨_, rfl, ?_, rfl⟩; first | exact Plain.ex e9 (by assumption) | walk_at "pl")))
local macro_rules | `(tactic| walk_at "ev") => `(tactic| first
  | with_reducible exact ev_c
  | exact ev_var rfl
  | walk_at "pow"
  | ((with_reducible apply ev_op); walk_at "ev"; walk_at "ev"; walk_at "rv")
  | ((with_reducible apply ev_un); walk_at "ev"; walk_at "rv")
  | ((with_reducible apply ev_cb); walk_at "ea"; walk_at "rc")
  | ((with_reducible apply ev_callP); walk_at "ea"; walk_at "call")
  | ((with_reducible apply ev_chain); walk_at "ev"; walk_at "ev"; walk_at "rv"; walk_at "ev"; walk_at "rv")
  | ((with_reducible apply ev_andV); walk_at "ev"; intro _; walk_at "ev")
  | ((with_reducible apply ev_orV); walk_at "ev"; intro _; walk_at "ev")
  | ((with_reducible apply ev_ite); walk_at "et"; intro _; walk_at "ev"; intro _; walk_at "ev")
  | ((with_reducible apply ev_notV); walk_at "ev"))
local macro_rules | `(tactic| walk_at "et") => `(tactic| first
  | ((with_reducible apply et_test); walk_at "ev")
  | ((with_reducible apply et_B); walk_at "ev")
  | ((with_reducible apply et_and); walk_at "et"; intro _; walk_at "et")
  | ((with_reducible apply et_or); walk_at "et"; intro _; walk_at "et")
  | ((with_reducible apply et_not); walk_at "et"))
open Tx
/-! ### the reader of texts -/
def dg (c : Nat) : Bool := decide (48 ≤ c) && decide (c ≤ 57)
/-- the sign at an index, as a text -/
def sg (z : List Nat) (e : Nat) : List Nat := (z.drop e).take 1
theorem sg_some {z : List Nat} {e c : Nat} (h : z[e]? = some c) : sg z e = [c] := by
  unfold sg
  obtain ⟨hl, rfl⟩ := List.getElem?_eq_some_iff.mp h
  rw [List.drop_eq_getElem_cons hl]
  rfl
theorem sg_none {z : List Nat} {e : Nat} (h : z[e]? = none) : sg z e = [] := by
  unfold sg
  rw [List.drop_eq_nil_of_le (List.getElem?_eq_none_iff.mp h)]
  rfl
def cntL (z : List Nat) (at_ most : Nat) : Nat → Nat → Nat → Nat × Nat
  | 0, c, e => (c, e)
  | k + 1, c, e => match z[e]? with
    | some d => if (dg d && ((decide (e = at_) || decide (0 < c)) && decide (c * 10 + (d - 48) ≤ most))) = true then cntL z at_ most k (c * 10 + (d - 48)) (e + 1) else (c, e)
    | none => (c, e)
def cnt (z : List Nat) (at_ most mark : Nat) : Except Nat (Nat × Nat) :=
  let r := cntL z at_ most (z.length + 1) 0 at_
  if r.2 = at_ ∨ sg z r.2 ≠ [mark] then .error r.2 else .ok (r.1, r.2 + 1)
def mostI : Nat := 999999999999999999999999999999999999999999999999999999999999
def intAt (z : List Nat) (a : Nat) : Except Nat (Int × Nat) :=
  if sg z a ≠ [45] then (match cnt z a mostI 59 with | .error e => .error e | .ok (c, b) => .ok ((c : Int), b))
  else if sg z (a + 1) = [48] then .error (a + 1)
  else match cnt z (a + 1) mostI 59 with | .error e => .error e | .ok (c, b) => .ok (-(c : Int), b)
def strAt (z : List Nat) (a : Nat) : Except Nat (List Nat × Nat) := match cnt z a 2000 58 with
  | .error e => .error e
  | .ok (m, b) => if z.length < b + m then .error z.length else .ok ((z.drop b).take m, b + m)
def leafAt (z : List Nat) (a : Nat) : Except Nat (PyData × Nat) :=
  if sg z a = [110] then .ok (.none, a + 1)
  else if sg z a = [105] then (match intAt z (a + 1) with | .error e => .error e | .ok (i, b) => .ok (.int i, b))
  else if sg z a = [115] then (match strAt z (a + 1) with | .error e => .error e | .ok (t, b) => .ok (.str (S t), b))
  else .error a
/-- what is begun: how many members each tuple has, the last one first, and those that are read -/
structure Ps where
  ls : List Nat
  ms : List (List PyData)
  at_ : Nat
def close : List Nat → List (List PyData) → List Nat × List (List PyData)
  | l :: l2 :: lt, m :: m2 :: mt => if m.length = l then close (l2 :: lt) ((m2 ++ [.tuple m]) :: mt) else (l :: l2 :: lt, m :: m2 :: mt)
  | ls, ms => (ls, ms)
def addLast (d : PyData) : List (List PyData) → List (List PyData)
  | [] => []
  | m :: mt => (m ++ [d]) :: mt
def stepP (z : List Nat) (p : Ps) : Except Nat Ps :=
  if sg z p.at_ = [116] ∧ p.ls.length ≤ 200 then
    match cnt z (p.at_ + 1) 2000 58 with
    | .error e => .error e
    | .ok (m, b) => let r := close (m :: p.ls) ([] :: p.ms); .ok ⟨r.1, r.2, b⟩
  else match leafAt z p.at_ with
    | .error e => .error e
    | .ok (d, b) => let r := close p.ls (addLast d p.ms); .ok ⟨r.1, r.2, b⟩
def isOpen (ms : List (List PyData)) : Bool := match ms.getLast? with
  | some [] => true
  | _ => false
def runP (z : List Nat) : Nat → Ps → Except Nat Ps
  | 0, p => .ok p
  | k + 1, p => if isOpen p.ms = true then (match stepP z p with | .error e => .error e | .ok p' => runP z k p') else .ok p
def vOf (z : List Nat) : Except Nat PyData := match runP z (z.length + 1) ⟨[1], [[]], 0⟩ with
  | .error e => .error e
  | .ok p => if p.at_ < z.length then .error p.at_ else match p.ms.getLast? with
    | some (d :: _) => .ok d
    | _ => .ok .none
/-! how far reading comes -/
theorem cntL_le (z : List Nat) (a m : Nat) : ∀ k c e, e ≤ z.length → e ≤ (cntL z a m k c e).2 ∧ (cntL z a m k c e).2 ≤ z.length
  | 0, c, e, h => ⟨Nat.le_refl _, h⟩
  | k + 1, c, e, h => by
    unfold cntL
    cases hz : z[e]? with
    | none => exact ⟨Nat.le_refl _, h⟩
    | some d =>
      obtain ⟨hl, _⟩ := List.getElem?_eq_some_iff.mp hz
      dsimp only
      split
      · have := cntL_le z a m k (c * 10 + (d - 48)) (e + 1) hl
        exact ⟨by omega, this.2⟩
      · exact ⟨Nat.le_refl _, h⟩
theorem sg_lt {z : List Nat} {e c : Nat} (h : sg z e = [c]) : e < z.length := by
  cases hz : z[e]? with
  | none => rw [sg_none hz] at h; cases h
  | some d => exact (List.getElem?_eq_some_iff.mp hz).1
theorem cnt_le {z : List Nat} {a m k c b : Nat} (ha : a ≤ z.length) (h : cnt z a m k = .ok (c, b)) : a < b ∧ b ≤ z.length := by
  unfold cnt at h
  dsimp only at h
  split at h
  · cases h
  · rename_i hn
    have h1 := cntL_le z a m (z.length + 1) 0 a ha
    have h2 : sg z (cntL z a m (z.length + 1) 0 a).2 = [k] := Classical.byContradiction fun z => hn (.inr z)
    have h3 := sg_lt h2
    injection h with h
    injection h with _ h
    omega
theorem intAt_le {z : List Nat} {a b : Nat} {i : Int} (ha : a ≤ z.length) (h : intAt z a = .ok (i, b)) : a < b ∧ b ≤ z.length := by
  unfold intAt at h
  split at h
  · split at h
    · cases h
    · rename_i c b' hc
      cases h
      exact cnt_le ha hc
  · rename_i hm
    have h1 := sg_lt (Classical.byContradiction hm : sg z a = [45])
    split at h
    · cases h
    · split at h
      · cases h
      · rename_i c b' hc
        cases h
        have := cnt_le (by omega) hc
        omega
theorem strAt_le {z t : List Nat} {a b : Nat} (ha : a ≤ z.length) (h : strAt z a = .ok (t, b)) : a < b ∧ b ≤ z.length := by
  unfold strAt at h
  split at h
  · cases h
  · rename_i m b' hc
    have := cnt_le ha hc
    split at h
    · cases h
    · cases h
      omega
theorem leafAt_le {z : List Nat} {a b : Nat} {d : PyData} (h : leafAt z a = .ok (d, b)) : a < b ∧ b ≤ z.length := by
  unfold leafAt at h
  split at h
  · rename_i h1
    have := sg_lt h1
    cases h
    omega
  · split at h
    · rename_i h1
      have := sg_lt h1
      split at h
      · cases h
      · rename_i i b' hc
        cases h
        have := intAt_le (by omega) hc
        omega
    · split at h
      · rename_i h1
        have := sg_lt h1
        split at h
        · cases h
        · rename_i t b' hc
          cases h
          have := strAt_le (by omega) hc
          omega
      · cases h
theorem stepP_le {z : List Nat} {p p' : Ps} (h : stepP z p = .ok p') : p.at_ < p'.at_ ∧ p'.at_ ≤ z.length := by
  unfold stepP at h
  split at h
  · rename_i h1
    have := sg_lt h1.1
    split at h
    · cases h
    · rename_i m b hc
      cases h
      have := cnt_le (by omega) hc
      show _ < b ∧ b ≤ _
      omega
  · split at h
    · cases h
    · rename_i d b hc
      cases h
      exact leafAt_le hc
example : vOf (Str.ofString "t3:s4:wordi1;s2:go").cps.toList = .ok (.tuple [.str "word", .int 1, .str "go"]) := by rfl
end Kz
set_option Elab.async false
set_option linter.all false
set_option maxRecDepth 100000
set_option maxHeartbeats 4000000
set_option exponentiation.threshold 500
namespace Kz
open PySem PySem.Spec PyProof.Rows L2 Evl Vr
local macro_rules | `(tactic| walk_at "sc") => `(tactic| first | (with_reducible assumption) | (with_reducible exact sc_mul (by omega)) | (with_reducible exact sc_mulr (by omega)) | (with_reducible exact sc_div (by omega) (by decide)) | (show (0 : Int) < _; omega) | (show _ ≠ (0 : Int); omega) | (with_reducible rfl) | decide)
local macro_rules | `(tactic| walk_at "sq") => `(tactic| first | assumption | exact sq_of (by assumption) | exact st_of (by assumption))
local macro_rules | `(tactic| walk_at "pl") => `(tactic| first | assumption | exact pl_int | exact pl_bl | exact pl_str | exact pl_non | exact pl_lst (by assumption) | exact pl_tup (by assumption) | exact pl_dK (by assumption))
local macro_rules | `(tactic| walk_at "rv") => `(tactic| first
  | with_reducible exact rv_I0
  | with_reducible exact ru_neg
  | ((with_reducible apply rv_I); walk_at "sc")
  | ((with_reducible apply rv_ixL); walk_at "sq"; first | rfl | assumption)
  | ((with_reducible apply rv_ixT); walk_at "sq"; first | rfl | assumption)
  | ((with_reducible apply rv_eq); rfl) | ((with_reducible apply rv_ne); rfl))
local macro_rules | `(tactic| walk_at "rc") => `(tactic| first
  | with_reducible exact rc_I1 | with_reducible exact rc_B1 | with_reducible exact rc_I2 | ((with_reducible apply rc_repr); walk_at "sc") | ((with_reducible apply rc_lenL); walk_at "sq")
  | ((with_reducible apply rc_isiInt); walk_at "pl") | ((with_reducible apply rc_isiBool); walk_at "pl"))
local macro_rules | `(tactic| walk_at "ea") => `(tactic| first
  | with_reducible exact ea_nil | ((with_reducible apply ea_cons); walk_at "ev"; walk_at "ea"))
local macro_rules | `(tactic| walk_at "pow") => `(tactic| first
  | with_reducible exact ev_pow (a := 10) (b := 9) (c := 1000000000) (by decide +kernel) (by decide +kernel)
  | with_reducible exact ev_pow (a := 10) (b := 10) (c := 10000000000) (by decide +kernel) (by decide +kernel)
  | with_reducible exact ev_pow (a := 10) (b := 12) (c := 1000000000000) (by decide +kernel) (by decide +kernel)
  | with_reducible exact ev_pow (a := 10) (b := 17) (c := 100000000000000000) (by decide +kernel) (by decide +kernel)
  | with_reducible exact ev_pow (a := 10) (b := 20) (c := 100000000000000000000) (by decide +kernel) (by decide +kernel)
  | with_reducible exact ev_pow (a := 10) (b := 29) (c := 100000000000000000000000000000) (by decide +kernel) (by decide +kernel)
  | with_reducible exact ev_pow (a := 10) (b := 30) (c := 1000000000000000000000000000000) (by decide +kernel) (by decide +kernel)
  | with_reducible exact ev_pow (a := 10) (b := 40) (c := 10000000000000000000000000000000000000000) (by decide +kernel) (by decide +kernel)
  | with_reducible exact ev_pow (a := 10) (b := 57) (c := 1000000000000000000000000000000000000000000000000000000000) (by decide +kernel) (by decide +kernel)
  | with_reducible exact ev_pow (a := 10) (b := 58) (c := 10000000000000000000000000000000000000000000000000000000000) (by decide +kernel) (by decide +kernel)
  | with_reducible exact ev_pow (a := 10) (b := 59) (c := 100000000000000000000000000000000000000000000000000000000000) (by decide +kernel) (by decide +kernel)
  | with_reducible exact ev_pow (a := 10) (b := 60) (c := 1000000000000000000000000000000000000000000000000000000000000) (by decide +kernel) (by decide +kernel))
local macro_rules | `(tactic| walk_at "call") => `(tactic| (intro H9 e9; first | exact ⟨_, rfl, rfl⟩ | exact ⟨_, _, rfl, rfl⟩ | exact ⟨_, _, _, rfl, rfl⟩ | exact ⟨_, rfl, by walk_at "pl", rfl⟩ | (refine ⟨_, _, _, rfl, ?_, rfl⟩; first | exact Plain.ex e9 (by assumption) | walk_at "pl") | (refine ⟨_, rfl, ?_, rfl⟩; first | exact Plain.ex e9 (by assumption) | walk_at "pl")))
local macro_rules | `(tactic| walk_at "ev") => `(tactic| first
  | with_reducible exact ev_c
  | exact ev_var rfl
  | walk_at "pow"
  | ((with_reducible apply ev_op); walk_at "ev"; walk_at "ev"; walk_at "rv")
  | ((with_reducible apply ev_un); walk_at "ev"; walk_at "rv")
  | ((with_reducible apply ev_cb); walk_at "ea"; walk_at "rc")
  | ((with_reducible apply ev_callP); walk_at "ea"; walk_at "call")
  | ((with_reducible apply ev_chain); walk_at "ev"; walk_at "ev"; walk_at "rv"; walk_at "ev"; walk_at "rv")
  | ((with_reducible apply ev_andV); walk_at "ev"; intro _; walk_at "ev")
  | ((with_reducible apply ev_orV); walk_at "ev"; intro _; walk_at "ev")
  | ((with_reducible apply ev_ite); walk_at "et"; intro _; walk_at "ev"; intro _; walk_at "ev")
  | ((with_reducible apply ev_notV); walk_at "ev"))
local macro_rules | `(tactic| walk_at "et") => `(tactic| first
  | ((with_reducible apply et_test); walk_at "ev")
  | ((with_reducible apply et_B); walk_at "ev")
  | ((with_reducible apply et_and); walk_at "et"; intro _; walk_at "et")
  | ((with_reducible apply et_or); walk_at "et"; intro _; walk_at "et")
  | ((with_reducible apply et_not); walk_at "et"))
open Tx Wo
theorem isi_str' {K : PySem.W.Frag} {H : Hp} {x : V} {n : String} (h : TyX K H x (.type n)) : PySem.W.kitOne K (.type n) (.type "str") = some (isS x) := by
  cases h with
  | base b => cases b <;> first | exact kit_ty (r := false) (by decide +kernel) | exact kit_ty (r := true) (by decide +kernel)
  | byt _ => first | exact kit_ty (r := false) (by decide +kernel) | exact kit_ty (r := true) (by decide +kernel)
  | set _ => first | exact kit_ty (r := false) (by decide +kernel) | exact kit_ty (r := true) (by decide +kernel)
  | kList _ _ => first | exact kit_ty (r := false) (by decide +kernel) | exact kit_ty (r := true) (by decide +kernel)
  | kTuple _ _ => first | exact kit_ty (r := false) (by decide +kernel) | exact kit_ty (r := true) (by decide +kernel)
  | kDict _ _ => first | exact kit_ty (r := false) (by decide +kernel) | exact kit_ty (r := true) (by decide +kernel)
  | fTuple _ => first | exact kit_ty (r := false) (by decide +kernel) | exact kit_ty (r := true) (by decide +kernel)
  | fDict _ => first | exact kit_ty (r := false) (by decide +kernel) | exact kit_ty (r := true) (by decide +kernel)
theorem rc_isiStr {K : PySem.W.Frag} {H : Hp} {x : V} (h : Plain K H x) : RC (rIsi K) [x, .ty "str"] H (.bl (isS x)) := fun H1 e Q q => by
  obtain ⟨n, hn⟩ := h
  exact ⟨x, .ty "str", .type n, .type "str", isS x, rfl, .ty _, ty_ex e hn, isi_str' hn, q H1 (Ex.refl H1)⟩
/-- whether a value is a text of so many signs -/
def hasSigns (lo hi : Int) (v : V) : Bool := match v with
  | .str z => (decide (lo ≤ z.length) && decide ((z.length : Int) ≤ hi)) && (Txt.isascii z && Txt.isprintable z)
  | _ => false
theorem signs_of {lo hi : Int} {v : V} (h : hasSigns lo hi v = true) : ∃ z : List Nat, v = vS z ∧ lo ≤ z.length ∧ (z.length : Int) ≤ hi ∧ ∀ c ∈ z, c < 128 := by
  cases v with
  | str s =>
    unfold hasSigns at h
    simp only [Bool.and_eq_true, decide_eq_true_eq] at h
    obtain ⟨⟨h1, h2⟩, h3, _⟩ := h
    refine ⟨s.cps.toList, by show V.str s = .str (S s.cps.toList); rw [S_of], by simpa [Str.length] using h1, by simpa [Str.length] using h2, fun c hc => ?_⟩
    unfold Txt.isascii at h3
    simp only [Array.all_eq_true_iff_forall_mem] at h3
    have := h3 c (by simpa using hc)
    simpa using this
  | _ => cases h
section
variable {σ : L2.St} {H : Hp} {te ti tj : TE} {z : List Nat} {ts : TA} {K : PySem.W.Frag} {D : Ends} {tz : TS}
theorem ev_sg {e : Nat} (h : Ev te σ H (vS z)) (h1 : ∀ H1, Ex H H1 → Ev ti σ H1 (.int (e : Nat))) (h2 : ∀ H1, Ex H H1 → Ev tj σ H1 (.int ((e + 1 : Nat) : Int))) (hz : z.length ≤ 100000) : Ev (L2.tSl rSlS te (tPart ti) (tPart tj)) σ H (vS (sg z e)) :=
  ev_is (ev_slS (lo := some (e : Int)) (hi := some ((e + 1 : Nat) : Int)) h (fun H1 e1 => eo_some (h1 H1 e1)) (fun H1 e1 => eo_some (h2 H1 e1)) hz) (by
    rw [HT.sIx_nat, HT.sIx_nat]
    refine congrArg vS ?_
    unfold sg
    by_cases he : e < z.length
    · rw [Nat.min_eq_left (by omega), Nat.min_eq_left (by omega), show e + 1 - e = 1 by omega]
    · rw [Nat.min_eq_right (show z.length ≤ e + 1 by omega), Nat.min_eq_right (show z.length ≤ e by omega), List.drop_eq_nil_of_le (Nat.le_refl z.length), List.drop_eq_nil_of_le (show z.length ≤ e by omega)]
      simp)
theorem ev_succ {e : Nat} (h : Ev te σ H (.int (e : Nat))) : Ev (tOp (rI0 fun i j => .int (i + j)) te (tC (.int 1))) σ H (.int ((e + 1 : Nat) : Int)) := ev_is (ev_op h ev_c rv_I0) (by rw [Int.natCast_add]; rfl)
/-- the sign there is this one -/
theorem et_sg {e c : Nat} {s : Str} (hs : V.str s = vS [c]) (h : Ev te σ H (vS (sg z e))) : EvT (tTest (tOp rEq te (tC (.str s)))) σ H (decide (sg z e = [c])) :=
  et_is (et_test (ev_op h (ev_is ev_c hs) (rv_eq rfl))) (by
    by_cases h : sg z e = [c]
    · rw [h]; simp
    · rw [decide_eq_false h, decide_eq_false]
      exact fun y => h (S_inj (V.str.inj y)))
theorem et_sgn {e c : Nat} {s : Str} (hs : V.str s = vS [c]) (h : Ev te σ H (vS (sg z e))) : EvT (tTest (tOp rNe te (tC (.str s)))) σ H (!decide (sg z e = [c])) :=
  et_is (et_test (ev_op h (ev_is ev_c hs) (rv_ne rfl))) (by
    by_cases h : sg z e = [c]
    · rw [h]; simp
    · rw [decide_eq_false h, decide_eq_false]
      exact fun y => h (S_inj (V.str.inj y)))
theorem rv_ixS {e c : Nat} (h : z[e]? = some c) (hz : z.length ≤ 100000) : RV rIxS (vS z) (.int (e : Nat)) H (vS [c]) := fun H1 _ Q q => ⟨S z, e, c, rfl, rfl, by rw [S_len]; exact sz_of hz, atI_nat h, q H1 (Ex.refl H1)⟩
theorem rc_lenV (hz : z.length ≤ 100000) : RC (fun xs H Q => ∃ z, xs = [V.str z] ∧ z.length ≤ sizeLine ∧ Q (.int z.length) H) [vS z] H (.int (z.length : Nat)) := by
  have := rc_lenS (H := H) (z := S z) (by rw [S_len]; exact hz)
  rw [S_len] at this
  exact this
/-- a, b = a call that raises or answers with a new pair -/
theorem q_2call {i j : Nat} {sp : Sp} {E : XK} {vs : List V} (ha : EvA ts σ H vs) (h : ∀ H1, Ex H H1 → sp vs H1 (fun x H2 => gTup K 2 (gCons (gName i) (gCons (gName j) gNil)) x σ H2 (tz D)) E) : tSeq (tAsg (tCall sp [] E ts) (gTup K 2 (gCons (gName i) (gCons (gName j) gNil)))) tz D σ H :=
  ha H (Ex.refl H) _ fun H1 e1 => by
    show sp (vs ++ []) H1 _ E
    rw [List.append_nil]
    exact h H1 e1
theorem g2_of {i j : Nat} {p : Addr} {v1 v2 : V} (hp : H p = some (.tup [v1, v2])) (h : tz D ((σ.set i (some v1)).set j (some v2)) H) : gTup K 2 (gCons (gName i) (gCons (gName j) gNil)) (.ref p) σ H (tz D) := ⟨p, _, rfl, st_of hp, rfl, _, _, rfl, _, _, rfl, rfl, h⟩
/-- return of a call that raises or answers -/
theorem s_retCall {sp : Sp} {E : XK} {vs : List V} (ha : EvA ts σ H vs) (h : ∀ H1, Ex H H1 → sp vs H1 D.rt E) : tRet (tCall sp [] E ts) D σ H :=
  ha H (Ex.refl H) _ fun H1 e1 => by
    show sp (vs ++ []) H1 _ E
    rw [List.append_nil]
    exact h H1 e1
theorem s_retU2 {xs : List V} (h : EvU te σ H xs) (k : ∀ p H1, Ex H H1 → H1 p = some (.tup xs) → D.rt (.ref p) H1) : tRet te D σ H := h H (Ex.refl H) _ fun p H1 _ e1 h1 => k p H1 e1 h1
end
/-- what a text that tells nothing leaves -/
def PErr (CP : Addr) (n : Nat) (E : XK) (H : Hp) : Prop := ∀ d H', Ex H H' → H' d = some (.xd [("spot", .int (n : Nat))]) → E (.ref CP) (some d) H'
theorem PErr.ex {CP : Addr} {n : Nat} {E : XK} {H H1 : Hp} (e : Ex H H1) (h : PErr CP n E H) : PErr CP n E H1 := fun d H' e' hd => h d H' (e.trans e') hd
def spSpot (CP : Addr) : Sp := fun vs H Q _ => ∃ (a : Addr) (v : V), vs = [.ref a, v] ∧ H a = some (exo a CP none) ∧ ∀ d, H d = none → d ≠ a → Q .non (upd (upd H d (exd d [("spot", v)])) a (exo a CP (some d)))
theorem mk_spot {σ : L2.St} {H : Hp} {CP : Addr} {n : Nat} {ts : TA} {Q : XK} (ha : EvA ts σ H [.int (n : Nat)]) (h : PErr CP n Q H) : tMkO CP (spSpot CP) [] ts σ H Q := by
  refine ha H (Ex.refl H) _ fun H1 e1 => ⟨by show 1 ≤ 1000; decide, fun a ha => ⟨a, .int (n : Nat), rfl, upd_same, fun d hd hne => ⟨rfl, d, [("spot", .int (n : Nat))], upd_same, by rw [upd_ne hne, upd_same], by rw [upd_ne hne] at hd; exact hd, ?_⟩⟩⟩
  rw [upd_ne hne] at hd
  refine h d _ (e1.trans fun b o hb => ?_) upd_same
  have h1 : b ≠ d := fun z => by rw [z, hd] at hb; cases hb
  have h2 : b ≠ a := fun z => by rw [z, ha] at hb; cases hb
  rw [upd_ne h1, del_ne h2, upd_ne h2, upd_ne h1, upd_ne h2]
  exact hb
def TxtOk (z : List Nat) : Prop := z.length ≤ 20000 ∧ ∀ c ∈ z, c < 128
def spCnt (CP : Addr) : Sp := fun vs H Q E => ∃ (z : List Nat) (a m k : Nat), vs = [vS z, .int (a : Nat), .int (m : Nat), vS [k]] ∧ TxtOk z ∧ a ≤ z.length ∧ match cnt z a m k with
  | .error e => PErr CP e E H
  | .ok (c, b) => ∀ p H', Ex H H' → H' p = some (.tup [.int (c : Nat), .int (b : Nat)]) → Q (.ref p) H'
def spInt (CP : Addr) : Sp := fun vs H Q E => ∃ (z : List Nat) (a : Nat), vs = [vS z, .int (a : Nat)] ∧ TxtOk z ∧ a ≤ z.length ∧ match intAt z a with
  | .error e => PErr CP e E H
  | .ok (c, b) => ∀ p H', Ex H H' → H' p = some (.tup [.int c, .int (b : Nat)]) → Q (.ref p) H'
def spStr (CP : Addr) : Sp := fun vs H Q E => ∃ (z : List Nat) (a : Nat), vs = [vS z, .int (a : Nat)] ∧ TxtOk z ∧ a ≤ z.length ∧ match strAt z a with
  | .error e => PErr CP e E H
  | .ok (t, b) => ∀ p H', Ex H H' → H' p = some (.tup [vS t, .int (b : Nat)]) → Q (.ref p) H'
/-- the value of a leaf -/
def leafV : PyData → V
  | .int i => .int i
  | .str z => .str z
  | _ => .non
def spLeaf (CP : Addr) : Sp := fun vs H Q E => ∃ (z : List Nat) (a : Nat), vs = [vS z, .int (a : Nat)] ∧ TxtOk z ∧ a ≤ z.length ∧ match leafAt z a with
  | .error e => PErr CP e E H
  | .ok (d, b) => ∀ p H', Ex H H' → H' p = some (.tup [leafV d, .int (b : Nat)]) → Q (.ref p) H'
theorem dig_is {c : Nat} (h : c < 128) : Txt.isdigit (S [c]) = dg c := by
  have : ∀ c : Fin 128, Txt.isdigit (S [c.val]) = dg c.val := by decide +kernel
  exact this ⟨c, h⟩
theorem dig_int {c : Nat} (h : dg c = true) : PySem.intText? (S [c]) = some ((c - 48 : Nat) : Int) := by
  unfold dg at h
  simp only [Bool.and_eq_true, decide_eq_true_eq] at h
  have : ∀ c : Fin 10, PySem.intText? (S [c.val + 48]) = some ((c.val : Nat) : Int) := by decide +kernel
  have := this ⟨c - 48, by omega⟩
  rw [show (⟨c - 48, by omega⟩ : Fin 10).val + 48 = c from by show c - 48 + 48 = c; omega] at this
  exact this
section
variable {P : Program} {w : World} {K : PySem.W.Frag} {mg : Str → Option Value} {base : Heap}
theorem ok_has_signs (T : Txt K mg w) : FnOk P w K mg base CX0 1 T.a_has_signs T.fd_has_signs ["value", "least", "most"] (Pure fun vs H z => ∃ (v : V) (lo hi : Int), vs = [v, .int lo, .int hi] ∧ Plain K H v ∧ (∀ s, v = .str s → s.length ≤ 100000) ∧ z = .bl (hasSigns lo hi v)) := by
  refine T.F_has_signs.ok sc_has_signs (fun vs H Q E h => ?_) (fun cdv A outer s H vs Q E hr h => ?_)
  · obtain ⟨_, ⟨_, _, _, rfl, _⟩, _⟩ := h; rfl
  · obtain ⟨_, ⟨v, lo, hi, rfl, hp, hl, rfl⟩, q⟩ := h
    refine ⟨_, (pss_one (ps_ret (pe_and (pe_callB call_isi (by rfl) T.z_isinstance (by decide +kernel) (pa_cons (pv 0) (pa_cons (pe_bltn (v := .ty "str") (by rfl) T.z_str (by decide +kernel) rfl) pa_nil))) (pe_and (pe_chain op_le op_le (pv 1) (pe_callB call_len_str (by rfl) T.z_len PySem.boot_len (pa_cons (pv 0) pa_nil)) (pv 2)) (pe_and (pe_m0 PySem.F.slot_str_isascii PySem.F.type_str_isascii mt_isascii (pv 0)) (pe_one (pe_m0 PySem.F.slot_str_isprintable PySem.F.type_str_isprintable mt_isprintable (pv 0)))))))), ?_⟩
    refine s_ret (v := .bl (hasSigns lo hi v)) ?_ q
    cases hv : isS v with
    | false =>
      refine ev_is (ev_andV (a := false) (b := false) (ev_is (ev_cb (vs := [v, .ty "str"]) (by walk_at "ea") (rc_isiStr hp)) (by rw [hv])) (fun h => by cases h)) ?_
      cases v <;> first | rfl | cases hv
    | true =>
      cases v with
      | str z =>
        have hz := hl z rfl
        refine ev_is (ev_andV (a := true) (b := (decide (lo ≤ z.length) && decide ((z.length : Int) ≤ hi)) && (Txt.isascii z && Txt.isprintable z)) (ev_is (ev_cb (vs := [.str z, .ty "str"]) (by walk_at "ea") (rc_isiStr hp)) rfl) fun _ => ?_) rfl
        exact ev_andV (ev_chain (ev_var rfl) (ev_cb (vs := [.str z]) (by walk_at "ea") (rc_lenS hz)) rv_I0 (ev_var rfl) rv_I0) fun _ => ev_andV (ev_strM (ev_var rfl)) fun _ => ev_strM (ev_var rfl)
      | _ => cases hv
def textErr (v : V) : Bool := !hasSigns 0 20000 v
def spText (K : PySem.W.Frag) (CT : Addr) : Sp := fun vs H Q E => ∃ v, vs = [v] ∧ Plain K H v ∧ (∀ s, v = .str s → s.length ≤ 100000) ∧ (textErr v = false → ∀ H', Ex H H' → Q .non H') ∧ (textErr v = true → ∀ H', Ex H H' → E (.ref CT) none H')
theorem ok_need_text (T : Txt K mg w) : FnOk P w K mg base (L2N.CX P w) 2 T.a_need_text T.fd_need_text ["value"] (spText K T.C_TE) := by
  have G_has_signs := ok_has_signs (P := P) (w := w) (base := base) T
  refine T.F_need_text.okN sc_need_text (fun vs H Q E h => ?_) (fun cdv A outer s H vs Q E hr h => ?_)
  · obtain ⟨_, rfl, _⟩ := h; rfl
  · obtain ⟨v, rfl, hp, hl, q1, q2⟩ := h
    refine ⟨_, (pss_one (ps_if (pt_not (pt_val (pe_call G_has_signs (hr.mono (by decide)) (by rfl) T.g_has_signs T.F_has_signs.kp T.b_has_signs .nil pass0 (pa_cons (pv 0) (pa_cons pe_int (pa_cons (pe_glob (v := .int (20000)) rfl T.g_MOST_TEXT ⟨_, rfl⟩) pa_nil)))))) (pss_one (L2N.ps_raise (W := fun cls d _ H => E cls d H) rfl (L2N.takes_of rfl rfl rfl rfl) (L2N.pmk_own PySem.F.excBase_ValueError T.x_TE T.g_InvalidText T.k_TE (raises_own T.e_TE T.y_TE) (by rfl)))) pss_nil)), ?_⟩
    refine s_when (b := textErr v) (et_not (et_B (ev_callP (vs := [v, .int 0, .int 20000]) (by walk_at "ea") fun H1 e1 => ⟨v, 0, 20000, rfl, hp.ex e1, hl, rfl⟩))) (fun hb H1 e1 => ?_) (fun hb H1 e1 => q1 hb H1 e1)
    exact q2 hb H1 e1
theorem ok_spot (T : Txt K mg w) : FnOk P w K mg base CX0 1 T.a_ParseError___init__ T.fd_ParseError___init__ ["self", "spot"] (spSpot T.C_PE) := by
  refine T.F_ParseError___init__.ok sc_ParseError___init__ (fun vs H Q E h => ?_) (fun cdv A outer s H vs Q E hr h => ?_)
  · obtain ⟨_, _, rfl, _⟩ := h; rfl
  · obtain ⟨a, v, rfl, ha, q⟩ := h
    refine ⟨_, (pss_one (ps_ost (pv 0) (pv 1))), ?_⟩
    exact ⟨v, rfl, .ref a, rfl, a, T.C_PE, rfl, T.o_PE, T.f_PE, .inl ⟨ha, fun d hd hne => q d hd hne⟩⟩
end
end Kz
set_option Elab.async false
set_option linter.all false
set_option maxRecDepth 100000
set_option maxHeartbeats 4000000
set_option exponentiation.threshold 500
namespace Kz
open PySem PySem.Spec PyProof.Rows L2 Evl Vr
local macro_rules | `(tactic| walk_at "sc") => `(tactic| first | (with_reducible assumption) | (with_reducible exact sc_mul (by omega)) | (with_reducible exact sc_mulr (by omega)) | (with_reducible exact sc_div (by omega) (by decide)) | (show (0 : Int) < _; omega) | (show _ ≠ (0 : Int); omega) | (with_reducible rfl) | decide)
local macro_rules | `(tactic| walk_at "sq") => `(tactic| first | assumption | exact sq_of (by assumption) | exact st_of (by assumption))
local macro_rules | `(tactic| walk_at "pl") => `(tactic| first | assumption | exact pl_int | exact pl_bl | exact pl_str | exact pl_non | exact pl_lst (by assumption) | exact pl_tup (by assumption) | exact pl_dK (by assumption))
local macro_rules | `(tactic| walk_at "rv") => `(tactic| first
  | with_reducible exact rv_I0
  | with_reducible exact ru_neg
  | ((with_reducible apply rv_I); walk_at "sc")
  | ((with_reducible apply rv_ixL); walk_at "sq"; first | rfl | assumption)
  | ((with_reducible apply rv_ixT); walk_at "sq"; first | rfl | assumption)
  | ((with_reducible apply rv_eq); rfl) | ((with_reducible apply rv_ne); rfl))
local macro_rules | `(tactic| walk_at "rc") => `(tactic| first
  | with_reducible exact rc_I1 | with_reducible exact rc_B1 | with_reducible exact rc_I2 | ((with_reducible apply rc_repr); walk_at "sc") | ((with_reducible apply rc_lenL); walk_at "sq")
  | ((with_reducible apply rc_isiInt); walk_at "pl") | ((with_reducible apply rc_isiBool); walk_at "pl"))
local macro_rules | `(tactic| walk_at "ea") => `(tactic| first
  | with_reducible exact ea_nil | ((with_reducible apply ea_cons); walk_at "ev"; walk_at "ea"))
local macro_rules | `(tactic| walk_at "pow") => `(tactic| first
  | with_reducible exact ev_pow (a := 10) (b := 9) (c := 1000000000) (by decide +kernel) (by decide +kernel)
  | with_reducible exact ev_pow (a := 10) (b := 10) (c := 10000000000) (by decide +kernel) (by decide +kernel)
  | with_reducible exact ev_pow (a := 10) (b := 12) (c := 1000000000000) (by decide +kernel) (by decide +kernel)
  | with_reducible exact ev_pow (a := 10) (b := 17) (c := 100000000000000000) (by decide +kernel) (by decide +kernel)
  | with_reducible exact ev_pow (a := 10) (b := 20) (c := 100000000000000000000) (by decide +kernel) (by decide +kernel)
  | with_reducible exact ev_pow (a := 10) (b := 29) (c := 100000000000000000000000000000) (by decide +kernel) (by decide +kernel)
  | with_reducible exact ev_pow (a := 10) (b := 30) (c := 1000000000000000000000000000000) (by decide +kernel) (by decide +kernel)
  | with_reducible exact ev_pow (a := 10) (b := 40) (c := 10000000000000000000000000000000000000000) (by decide +kernel) (by decide +kernel)
  | with_reducible exact ev_pow (a := 10) (b := 57) (c := 1000000000000000000000000000000000000000000000000000000000) (by decide +kernel) (by decide +kernel)
  | with_reducible exact ev_pow (a := 10) (b := 58) (c := 10000000000000000000000000000000000000000000000000000000000) (by decide +kernel) (by decide +kernel)
  | with_reducible exact ev_pow (a := 10) (b := 59) (c := 100000000000000000000000000000000000000000000000000000000000) (by decide +kernel) (by decide +kernel)
  | with_reducible exact ev_pow (a := 10) (b := 60) (c := 1000000000000000000000000000000000000000000000000000000000000) (by decide +kernel) (by decide +kernel))
local macro_rules | `(tactic| walk_at "call") => `(tactic| (intro H9 e9; first | exact ⟨_, rfl, rfl⟩ | exact ⟨_, _, rfl, rfl⟩ | exact ⟨_, _, _, rfl, rfl⟩ | exact ⟨_, rfl, by walk_at "pl", rfl⟩ | (refine ⟨_, _, _, rfl, ?_, rfl⟩; first | exact Plain.ex e9 (by assumption) | walk_at "pl") | (refine ⟨_, rfl, ?_, rfl⟩; first | exact Plain.ex e9 (by assumption) | walk_at "pl")))
local macro_rules | `(tactic| walk_at "ev") => `(tactic| first
  | with_reducible exact ev_c
  | exact ev_var rfl
  | walk_at "pow"
  | ((with_reducible apply ev_op); walk_at "ev"; walk_at "ev"; walk_at "rv")
  | ((with_reducible apply ev_un); walk_at "ev"; walk_at "rv")
  | ((with_reducible apply ev_cb); walk_at "ea"; walk_at "rc")
  | ((with_reducible apply ev_callP); walk_at "ea"; walk_at "call")
  | ((with_reducible apply ev_chain); walk_at "ev"; walk_at "ev"; walk_at "rv"; walk_at "ev"; walk_at "rv")
  | ((with_reducible apply ev_andV); walk_at "ev"; intro _; walk_at "ev")
  | ((with_reducible apply ev_orV); walk_at "ev"; intro _; walk_at "ev")
  | ((with_reducible apply ev_ite); walk_at "et"; intro _; walk_at "ev"; intro _; walk_at "ev")
  | ((with_reducible apply ev_notV); walk_at "ev"))
local macro_rules | `(tactic| walk_at "et") => `(tactic| first
  | ((with_reducible apply et_test); walk_at "ev")
  | ((with_reducible apply et_B); walk_at "ev")
  | ((with_reducible apply et_and); walk_at "et"; intro _; walk_at "et")
  | ((with_reducible apply et_or); walk_at "et"; intro _; walk_at "et")
  | ((with_reducible apply et_not); walk_at "et"))
open Tx Wo
theorem dec_nat {a b : Nat} : decide (V.int (a : Int) = V.int (b : Int)) = decide (a = b) := by
  by_cases h : a = b
  · subst h; simp
  · rw [decide_eq_false h, decide_eq_false]
    exact fun y => h (Int.ofNat.inj (V.int.inj y))
def cnd (z : List Nat) (a m c e : Nat) : Bool := match z[e]? with
  | some d => dg d && ((decide (e = a) || decide (0 < c)) && decide (c * 10 + (d - 48) ≤ m))
  | none => false
theorem cnd_no {z : List Nat} {a m c e : Nat} (h : cnd z a m c e = false) (n : Nat) : cntL z a m n c e = (c, e) := by
  cases n with
  | zero => rfl
  | succ n =>
    unfold cntL
    unfold cnd at h
    cases hd : z[e]? with
    | none => rfl
    | some d =>
      rw [hd] at h
      have h : (dg d && ((decide (e = a) || decide (0 < c)) && decide (c * 10 + (d - 48) ≤ m))) = false := h
      show (if (dg d && ((decide (e = a) || decide (0 < c)) && decide (c * 10 + (d - 48) ≤ m))) = true then _ else _) = _
      rw [h]
      rfl
theorem sg_len (z : List Nat) (e : Nat) : (sg z e).length ≤ 1 := by unfold sg; rw [List.length_take]; omega
section
variable {P : Program} {w : World} {K : PySem.W.Frag} {mg : Str → Option Value} {base : Heap}
theorem ok_count (T : Txt K mg w) : FnOk P w K mg base (L2N.CX P w) 3 T.a_count_at T.fd_count_at ["text", "at", "most", "mark"] (spCnt T.C_PE) := by
  have G_ParseError___init__ := ok_spot (P := P) (w := w) (base := base) T
  refine T.F_count_at.okN sc_count_at (fun vs H Q E h => ?_) (fun cdv A outer s H vs Q E hr h => ?_)
  · obtain ⟨_, _, _, _, rfl, _⟩ := h; rfl
  obtain ⟨z, a, m, k, rfl, ⟨hz, hlow⟩, ha, h⟩ := h
  refine ⟨_, (pss_cons (ps_set (i := 4) sc_count_at.nd rfl (.inl rfl) pe_int)
  (pss_cons (ps_set (i := 5) sc_count_at.nd rfl (.inl rfl) (pv 1))
  (pss_cons (ps_while (passes_of rfl) (PW.pt (pw_and (pt_val (pe_m0 PySem.F.slot_str_isdigit PySem.F.type_str_isdigit mt_isdigit (pe_slice sl_str (pv 0) (po_some (pv 5)) (po_some (pe_op op_add (pv 5) pe_int))))) (pw_and (PW.pt (pw_or (pt_cmpR op_eq (pv 5) (pv 1) (nomark _)) (pw_or1 (pt_cmpR op_gt (pv 4) pe_int (nomark _))))) (pw_and1 (pt_cmpR op_le (pe_op op_add (pe_op op_mul (pv 4) pe_int) (pe_callTy Tx.c_intS (by rfl) T.z_int (by decide +kernel) (pa_cons (pe_ix ix_str (pv 0) (pv 5) (fun _ _ => rfl)) pa_nil))) (pv 2) (nomark _)))))) (pss_cons (ps_set (i := 4) sc_count_at.nd rfl (.inl rfl) (pe_op op_add (pe_op op_mul (pv 4) pe_int) (pe_callTy Tx.c_intS (by rfl) T.z_int (by decide +kernel) (pa_cons (pe_ix ix_str (pv 0) (pv 5) (fun _ _ => rfl)) pa_nil))))
  (pss_one (ps_set (i := 5) sc_count_at.nd rfl (.inl rfl) (pe_op op_add (pv 5) pe_int)))))
  (pss_cons (ps_if (PW.pt (pw_or (pt_cmpR op_eq (pv 5) (pv 1) (nomark _)) (pw_or1 (pt_cmpR op_ne (pe_slice sl_str (pv 0) (po_some (pv 5)) (po_some (pe_op op_add (pv 5) pe_int))) (pv 3) (nomark _))))) (pss_one (L2N.ps_raise (W := fun cls d _ H => E cls d H) rfl (L2N.takes_of rfl rfl rfl rfl) (pmk_oexN T.o_PE T.i_PE T.t_PE G_ParseError___init__ (hr.mono (by decide)) T.b_ParseError___init__ .nil pass0 (by rfl) T.g_ParseError (pa_cons (pv 5) pa_nil)))) pss_nil)
  (pss_one (ps_ret (pe_tup (pa_cons (pv 4) (pa_cons (pe_op op_add (pv 5) pe_int) pa_nil))))))))), ?_⟩
  refine q_asg (v := .int ((0 : Nat) : Int)) (ev_is ev_c rfl) fun H1 e1 => ?_
  refine q_asg (v := .int (a : Nat)) (ev_var rfl) fun H2 e2 => ?_
  have e12 := e1.trans e2
  refine q_while (fun n σ' H' => ∃ c e : Nat, σ' = [some (vS z), some (.int (a : Nat)), some (.int (m : Nat)), some (vS [k]), some (.int (c : Nat)), some (.int (e : Nat))] ∧ Ex H H' ∧ a ≤ e ∧ e ≤ z.length ∧ z.length ≤ e + n ∧ cntL z a m n c e = cntL z a m (z.length + 1) 0 a) (z.length + 1) ⟨0, a, rfl, e12, Nat.le_refl _, ha, by omega, rfl⟩ ?_
  rintro n σ' H' ⟨c, e, rfl, eh, h1, h2, h3, h4⟩
  have hz1 : z.length ≤ 100000 := by omega
  have tsg : ∀ {H3 : Hp}, Ev (L2.tSl rSlS (tVar 0) (tPart (tVar 5)) (tPart (tOp (rI0 fun i j => V.int (i + j)) (tVar 5) (tC (.int 1))))) [some (vS z), some (.int (a : Nat)), some (.int (m : Nat)), some (vS [k]), some (.int (c : Nat)), some (.int (e : Nat))] H3 (vS (sg z e)) := fun {H3} => ev_sg (ev_var rfl) (fun _ _ => ev_var rfl) (fun _ _ => ev_succ (ev_var rfl)) hz1
  have tnum : ∀ {H3 : Hp} {d : Nat}, z[e]? = some d → dg d = true → Ev (tOp (rI0 fun i j => V.int (i + j)) (tOp (rI CMul fun i j => V.int (i * j)) (tVar 4) (tC (V.int 10))) (tCB rIntS (tCons (tOp rIxS (tVar 0) (tVar 5)) tNil))) [some (vS z), some (.int (a : Nat)), some (.int (m : Nat)), some (vS [k]), some (.int (c : Nat)), some (.int (e : Nat))] H3 (.int ((c * 10 + (d - 48) : Nat) : Int)) := fun {H3 d} hd hdg =>
    ev_is (ev_op (ev_op (ev_var rfl) ev_c (rv_I (sc_mulr ⟨by decide, by decide⟩))) (ev_cb (vs := [vS [d]]) (ea_cons (ev_op (ev_var rfl) (ev_var rfl) (rv_ixS hd hz1)) ea_nil) (rc_intS (dig_int hdg) (by show 1 ≤ 640; decide))) rv_I0) (by rw [Int.natCast_add, Int.natCast_mul]; rfl)
  refine ⟨cnd z a m c e, ?_, fun hb H3 e3 => ?_, fun hb H3 e3 => ?_⟩
  · cases hd : z[e]? with
    | none =>
      refine et_is (et_and (a := false) (b := false) (et_is (et_B (ev_m0 tsg fun H4 Q q => ⟨_, rfl, rfl, True.intro, q⟩)) (by rw [sg_none hd]; rfl)) (fun h => by cases h)) ?_
      unfold cnd
      rw [hd]
      rfl
    | some d =>
      have hdl : d < 128 := hlow d (List.mem_of_getElem? hd)
      refine et_is (et_and (a := dg d) (b := (decide (e = a) || decide (0 < c)) && decide (c * 10 + (d - 48) ≤ m)) (et_is (et_B (ev_m0 tsg fun H4 Q q => ⟨_, rfl, rfl, True.intro, q⟩)) (by rw [sg_some hd, dig_is hdl])) (fun hdg => ?_)) ?_
      · refine et_and (et_or (et_is (et_test (ev_op (ev_var rfl) (ev_var rfl) (rv_eq rfl))) dec_nat) fun _ => et_is (et_test (ev_op (ev_var rfl) ev_c rv_I0)) (by rw [decide_eq_decide]; omega)) fun _ => ?_
        exact et_is (et_test (ev_op (tnum hd hdg) (ev_var rfl) rv_I0)) (by rw [decide_eq_decide]; omega)
      · unfold cnd
        rw [hd]
  · cases hd : z[e]? with
    | none => unfold cnd at hb; rw [hd] at hb; cases hb
    | some d =>
      have hb' : (dg d && ((decide (e = a) || decide (0 < c)) && decide (c * 10 + (d - 48) ≤ m))) = true := by
        unfold cnd at hb
        rw [hd] at hb
        exact hb
      have hdg : dg d = true := by
        simp only [Bool.and_eq_true] at hb'
        exact hb'.1
      have hel := (List.getElem?_eq_some_iff.mp hd).1
      obtain ⟨n', rfl⟩ : ∃ n', n = n' + 1 := ⟨n - 1, by omega⟩
      refine ⟨fun σ2 H2 => ∃ m', m' < n' + 1 ∧ ∃ c e : Nat, σ2 = [some (vS z), some (.int (a : Nat)), some (.int (m : Nat)), some (vS [k]), some (.int (c : Nat)), some (.int (e : Nat))] ∧ Ex H H2 ∧ a ≤ e ∧ e ≤ z.length ∧ z.length ≤ e + m' ∧ cntL z a m m' c e = cntL z a m (z.length + 1) 0 a, fun _ _ h => h, ?_⟩
      refine q_asg (v := .int ((c * 10 + (d - 48) : Nat) : Int)) (tnum hd hdg) fun H4 e4 => ?_
      refine s_asg (v := .int ((e + 1 : Nat) : Int)) (ev_succ (ev_var rfl)) fun H5 e5 => ?_
      refine ⟨n', by omega, c * 10 + (d - 48), e + 1, rfl, ((eh.trans e3).trans e4).trans e5, by omega, by omega, by omega, ?_⟩
      rw [← h4]
      show _ = (match z[e]? with | some d => if (dg d && ((decide (e = a) || decide (0 < c)) && decide (c * 10 + (d - 48) ≤ m))) = true then cntL z a m n' (c * 10 + (d - 48)) (e + 1) else (c, e) | none => (c, e))
      rw [hd]
      show _ = if (dg d && ((decide (e = a) || decide (0 < c)) && decide (c * 10 + (d - 48) ≤ m))) = true then cntL z a m n' (c * 10 + (d - 48)) (e + 1) else (c, e)
      rw [if_pos hb']
  · have hr : cntL z a m (z.length + 1) 0 a = (c, e) := by
      rw [← h4]
      exact cnd_no hb n
    have hc : cnt z a m k = if e = a ∨ sg z e ≠ [k] then .error e else .ok (c, e + 1) := by
      unfold cnt
      rw [hr]
    rw [hc] at h
    refine q_when (b := decide (e = a) || !decide (sg z e = [k])) (et_or (et_is (et_test (ev_op (ev_var rfl) (ev_var rfl) (rv_eq rfl))) dec_nat) fun _ => et_is (et_test (ev_op tsg (ev_var rfl) (rv_ne rfl))) ?_) (fun hb2 H4 e4 => ?_) fun hb2 H4 e4 => ?_
    · by_cases hs : sg z e = [k]
      · rw [hs]; simp
      · rw [decide_eq_false hs, decide_eq_false]
        exact fun y => hs (S_inj (V.str.inj y))
    · rw [if_pos (by simpa using hb2)] at h
      exact mk_spot (n := e) (ea_cons (ev_var rfl) ea_nil) (PErr.ex ((eh.trans e3).trans e4) h)
    · rw [if_neg (by simpa using hb2)] at h
      exact s_retU2 (xs := [.int (c : Nat), .int ((e + 1 : Nat) : Int)]) (eu_tup (ea_cons (ev_var rfl) (ea_cons (ev_succ (ev_var rfl)) ea_nil)) (by show 2 ≤ 100000; decide)) fun p H5 e5 hp => h p H5 (((eh.trans e3).trans e4).trans e5) hp
end
end Kz
set_option Elab.async false
set_option linter.all false
set_option maxRecDepth 100000
set_option maxHeartbeats 4000000
set_option exponentiation.threshold 500
namespace Kz
open PySem PySem.Spec PyProof.Rows L2 Evl Vr
local macro_rules | `(tactic| walk_at "sc") => `(tactic| first | (with_reducible assumption) | (with_reducible exact sc_mul (by omega)) | (with_reducible exact sc_mulr (by omega)) | (with_reducible exact sc_div (by omega) (by decide)) | (show (0 : Int) < _; omega) | (show _ ≠ (0 : Int); omega) | (with_reducible rfl) | decide)
local macro_rules | `(tactic| walk_at "sq") => `(tactic| first | assumption | exact sq_of (by assumption) | exact st_of (by assumption))
local macro_rules | `(tactic| walk_at "pl") => `(tactic| first | assumption | exact pl_int | exact pl_bl | exact pl_str | exact pl_non | exact pl_lst (by assumption) | exact pl_tup (by assumption) | exact pl_dK (by assumption))
local macro_rules | `(tactic| walk_at "rv") => `(tactic| first
  | with_reducible exact rv_I0
  | with_reducible exact ru_neg
  | ((with_reducible apply rv_I); walk_at "sc")
  | ((with_reducible apply rv_ixL); walk_at "sq"; first | rfl | assumption)
  | ((with_reducible apply rv_ixT); walk_at "sq"; first | rfl | assumption)
  | ((with_reducible apply rv_eq); rfl) | ((with_reducible apply rv_ne); rfl))
local macro_rules | `(tactic| walk_at "rc") => `(tactic| first
  | with_reducible exact rc_I1 | with_reducible exact rc_B1 | with_reducible exact rc_I2 | ((with_reducible apply rc_repr); walk_at "sc") | ((with_reducible apply rc_lenL); walk_at "sq")
  | ((with_reducible apply rc_isiInt); walk_at "pl") | ((with_reducible apply rc_isiBool); walk_at "pl"))
local macro_rules | `(tactic| walk_at "ea") => `(tactic| first
  | with_reducible exact ea_nil | ((with_reducible apply ea_cons); walk_at "ev"; walk_at "ea"))
local macro_rules | `(tactic| walk_at "pow") => `(tactic| first
  | with_reducible exact ev_pow (a := 10) (b := 9) (c := 1000000000) (by decide +kernel) (by decide +kernel)
  | with_reducible exact ev_pow (a := 10) (b := 10) (c := 10000000000) (by decide +kernel) (by decide +kernel)
  | with_reducible exact ev_pow (a := 10) (b := 12) (c := 1000000000000) (by decide +kernel) (by decide +kernel)
  | with_reducible exact ev_pow (a := 10) (b := 17) (c := 100000000000000000) (by decide +kernel) (by decide +kernel)
  | with_reducible exact ev_pow (a := 10) (b := 20) (c := 100000000000000000000) (by decide +kernel) (by decide +kernel)
  | with_reducible exact ev_pow (a := 10) (b := 29) (c := 100000000000000000000000000000) (by decide +kernel) (by decide +kernel)
  | with_reducible exact ev_pow (a := 10) (b := 30) (c := 1000000000000000000000000000000) (by decide +kernel) (by decide +kernel)
  | with_reducible exact ev_pow (a := 10) (b := 40) (c := 10000000000000000000000000000000000000000) (by decide +kernel) (by decide +kernel)
  | with_reducible exact ev_pow (a := 10) (b := 57) (c := 1000000000000000000000000000000000000000000000000000000000) (by decide +kernel) (by decide +kernel)
  | with_reducible exact ev_pow (a := 10) (b := 58) (c := 10000000000000000000000000000000000000000000000000000000000) (by decide +kernel) (by decide +kernel)
  | with_reducible exact ev_pow (a := 10) (b := 59) (c := 100000000000000000000000000000000000000000000000000000000000) (by decide +kernel) (by decide +kernel)
  | with_reducible exact ev_pow (a := 10) (b := 60) (c := 1000000000000000000000000000000000000000000000000000000000000) (by decide +kernel) (by decide +kernel))
local macro_rules | `(tactic| walk_at "call") => `(tactic| (intro H9 e9; first | exact ⟨_, rfl, rfl⟩ | exact ⟨_, _, rfl, rfl⟩ | exact ⟨_, _, _, rfl, rfl⟩ | exact ⟨_, rfl, by walk_at "pl", rfl⟩ | (refine ⟨_, _, _, rfl, ?_, rfl⟩; first | exact Plain.ex e9 (by assumption) | walk_at "pl") | (refine ⟨_, rfl, ?_, rfl⟩; first | exact Plain.ex e9 (by assumption) | walk_at "pl")))
local macro_rules | `(tactic| walk_at "ev") => `(tactic| first
  | with_reducible exact ev_c
  | exact ev_var rfl
  | walk_at "pow"
  | ((with_reducible apply ev_op); walk_at "ev"; walk_at "ev"; walk_at "rv")
  | ((with_reducible apply ev_un); walk_at "ev"; walk_at "rv")
  | ((with_reducible apply ev_cb); walk_at "ea"; walk_at "rc")
  | ((with_reducible apply ev_callP); walk_at "ea"; walk_at "call")
  | ((with_reducible apply ev_chain); walk_at "ev"; walk_at "ev"; walk_at "rv"; walk_at "ev"; walk_at "rv")
  | ((with_reducible apply ev_andV); walk_at "ev"; intro _; walk_at "ev")
  | ((with_reducible apply ev_orV); walk_at "ev"; intro _; walk_at "ev")
  | ((with_reducible apply ev_ite); walk_at "et"; intro _; walk_at "ev"; intro _; walk_at "ev")
  | ((with_reducible apply ev_notV); walk_at "ev"))
local macro_rules | `(tactic| walk_at "et") => `(tactic| first
  | ((with_reducible apply et_test); walk_at "ev")
  | ((with_reducible apply et_B); walk_at "ev")
  | ((with_reducible apply et_and); walk_at "et"; intro _; walk_at "et")
  | ((with_reducible apply et_or); walk_at "et"; intro _; walk_at "et")
  | ((with_reducible apply et_not); walk_at "et"))
open Tx Wo
theorem s_minus : V.str "-" = vS [45] := by decide +kernel
theorem s_zero : V.str "0" = vS [48] := by decide +kernel
theorem s_semi : V.str ";" = vS [59] := by decide +kernel
theorem s_colon : V.str ":" = vS [58] := by decide +kernel
theorem s_n : V.str "n" = vS [110] := by decide +kernel
theorem s_i : V.str "i" = vS [105] := by decide +kernel
theorem s_s : V.str "s" = vS [115] := by decide +kernel
theorem s_t : V.str "t" = vS [116] := by decide +kernel
theorem ev_succ2 {σ : L2.St} {H : Hp} {te : TE} {e : Nat} (h : Ev te σ H (.int (e : Nat))) : Ev (tOp (rI0 fun i j => .int (i + j)) te (tC (.int 2))) σ H (.int ((e + 1 + 1 : Nat) : Int)) := ev_is (ev_op h ev_c rv_I0) (by refine congrArg V.int ?_; omega)
section
variable {P : Program} {w : World} {K : PySem.W.Frag} {mg : Str → Option Value} {base : Heap}
theorem ok_int_at (T : Txt K mg w) : FnOk P w K mg base (L2N.CX P w) 4 T.a_integer_at T.fd_integer_at ["text", "at"] (spInt T.C_PE) := by
  have G_ParseError___init__ := ok_spot (P := P) (w := w) (base := base) T
  have G_count_at := ok_count (P := P) (w := w) (base := base) T
  refine T.F_integer_at.okN sc_integer_at (fun vs H Q E h => ?_) (fun cdv A outer s H vs Q E hr h => ?_)
  · obtain ⟨_, _, rfl, _⟩ := h; rfl
  obtain ⟨z, a, rfl, ⟨hz, hlow⟩, ha, h⟩ := h
  have hz1 : z.length ≤ 100000 := by omega
  refine ⟨_, (pss_cons (ps_set (i := 2) sc_integer_at.nd rfl (.inl rfl) (pe_op op_sub (pe_op op_pow pe_int pe_int) pe_int))
  (pss_cons (ps_if (pt_cmpR op_ne (pe_slice sl_str (pv 0) (po_some (pv 1)) (po_some (pe_op op_add (pv 1) pe_int))) pe_str (nomark _)) (pss_one (ps_ret (pe_call G_count_at (hr.mono (by decide)) (by rfl) T.g_count_at T.F_count_at.kp T.b_count_at .nil (L2N.passes_call (W := fun cls d _ H => E cls d H) (L2N.takes_of rfl rfl rfl rfl) (fun _ _ _ _ h => h)) (pa_cons (pv 0) (pa_cons (pv 1) (pa_cons (pv 2) (pa_cons pe_str pa_nil))))))) pss_nil)
  (pss_cons (ps_if (pt_cmpR op_eq (pe_slice sl_str (pv 0) (po_some (pe_op op_add (pv 1) pe_int)) (po_some (pe_op op_add (pv 1) pe_int))) pe_str (nomark _)) (pss_one (L2N.ps_raise (W := fun cls d _ H => E cls d H) rfl (L2N.takes_of rfl rfl rfl rfl) (pmk_oexN T.o_PE T.i_PE T.t_PE G_ParseError___init__ (hr.mono (by decide)) T.b_ParseError___init__ .nil pass0 (by rfl) T.g_ParseError (pa_cons (pe_op op_add (pv 1) pe_int) pa_nil)))) pss_nil)
  (pss_cons (ps_asg (pe_call G_count_at (hr.mono (by decide)) (by rfl) T.g_count_at T.F_count_at.kp T.b_count_at .nil (L2N.passes_call (W := fun cls d _ H => E cls d H) (L2N.takes_of rfl rfl rfl rfl) (fun _ _ _ _ h => h)) (pa_cons (pv 0) (pa_cons (pe_op op_add (pv 1) pe_int) (pa_cons (pv 2) (pa_cons pe_str pa_nil))))) (pg_tup rfl (pgs_cons (pg_name (i := 3) sc_integer_at.nd rfl (.inl rfl)) (pgs_cons (pg_name (i := 4) sc_integer_at.nd rfl (.inl rfl)) pgs_nil))))
  (pss_one (ps_ret (pe_tup (pa_cons (pe_un un_neg (pv 3)) (pa_cons (pv 4) pa_nil))))))))), ?_⟩
  refine q_asg (v := .int ((mostI : Nat) : Int)) (ev_is (ev_op (by walk_at "pow") ev_c rv_I0) (by decide +kernel)) fun H1 e1 => ?_
  refine q_when (b := !decide (sg z a = [45])) (et_sgn s_minus (ev_sg (ev_var rfl) (fun _ _ => ev_var rfl) (fun _ _ => ev_succ (ev_var rfl)) hz1)) (fun hb H2 e2 => ?_) fun hb H2 e2 => ?_
  · have hs : sg z a ≠ [45] := by simpa using hb
    refine s_retCall (vs := [vS z, .int (a : Nat), .int ((mostI : Nat) : Int), vS [59]]) (ea_cons (ev_var rfl) (ea_cons (ev_var rfl) (ea_cons (ev_var rfl) (ea_cons (ev_is ev_c s_semi) ea_nil)))) fun H3 e3 => ⟨z, a, mostI, 59, rfl, ⟨hz, hlow⟩, ha, ?_⟩
    have e03 := (e1.trans e2).trans e3
    unfold intAt at h
    rw [if_pos hs] at h
    revert h
    cases hc : cnt z a mostI 59 with
    | error e => exact fun h => PErr.ex e03 h
    | ok r => exact fun h p H4 e4 hp => h p H4 (e03.trans e4) hp
  · have hs : sg z a = [45] := by simpa using hb
    have hal := sg_lt hs
    have e02 := e1.trans e2
    refine q_when (b := decide (sg z (a + 1) = [48])) (et_sg s_zero (ev_sg (ev_var rfl) (fun _ _ => ev_succ (ev_var rfl)) (fun _ _ => ev_succ2 (ev_var rfl)) hz1)) (fun hb2 H3 e3 => ?_) fun hb2 H3 e3 => ?_
    · unfold intAt at h
      rw [if_neg (by simpa using hs), if_pos (by simpa using hb2)] at h
      exact mk_spot (n := a + 1) (ea_cons (ev_succ (ev_var rfl)) ea_nil) (PErr.ex (e02.trans e3) h)
    · refine q_2call (vs := [vS z, .int ((a + 1 : Nat) : Int), .int ((mostI : Nat) : Int), vS [59]]) (ea_cons (ev_var rfl) (ea_cons (ev_succ (ev_var rfl)) (ea_cons (ev_var rfl) (ea_cons (ev_is ev_c s_semi) ea_nil)))) fun H4 e4 => ⟨z, a + 1, mostI, 59, rfl, ⟨hz, hlow⟩, by omega, ?_⟩
      have e04 := (e02.trans e3).trans e4
      unfold intAt at h
      rw [if_neg (by simpa using hs), if_neg (by simpa using hb2)] at h
      revert h
      cases hc : cnt z (a + 1) mostI 59 with
      | error e => exact fun h => PErr.ex e04 h
      | ok r =>
        refine fun h p H5 e5 hp => g2_of hp ?_
        exact s_retU2 (xs := [.int (-(r.1 : Int)), .int (r.2 : Nat)]) (eu_tup (ea_cons (ev_un (x := .int (r.1 : Nat)) (ev_var rfl) ru_neg) (ea_cons (ev_var rfl) ea_nil)) (by show 2 ≤ 100000; decide)) fun p H6 e6 hp => h p H6 ((e04.trans e5).trans e6) hp
theorem ok_str_at (T : Txt K mg w) : FnOk P w K mg base (L2N.CX P w) 4 T.a_string_at T.fd_string_at ["text", "at"] (spStr T.C_PE) := by
  have G_ParseError___init__ := ok_spot (P := P) (w := w) (base := base) T
  have G_count_at := ok_count (P := P) (w := w) (base := base) T
  refine T.F_string_at.okN sc_string_at (fun vs H Q E h => ?_) (fun cdv A outer s H vs Q E hr h => ?_)
  · obtain ⟨_, _, rfl, _⟩ := h; rfl
  obtain ⟨z, a, rfl, ⟨hz, hlow⟩, ha, h⟩ := h
  have hz1 : z.length ≤ 100000 := by omega
  refine ⟨_, (pss_cons (ps_asg (pe_call G_count_at (hr.mono (by decide)) (by rfl) T.g_count_at T.F_count_at.kp T.b_count_at .nil (L2N.passes_call (W := fun cls d _ H => E cls d H) (L2N.takes_of rfl rfl rfl rfl) (fun _ _ _ _ h => h)) (pa_cons (pv 0) (pa_cons (pv 1) (pa_cons (pe_glob (v := .int (2000)) rfl T.g_MOST_LONG ⟨_, rfl⟩) (pa_cons pe_str pa_nil))))) (pg_tup rfl (pgs_cons (pg_name (i := 2) sc_string_at.nd rfl (.inl rfl)) (pgs_cons (pg_name (i := 3) sc_string_at.nd rfl (.inl rfl)) pgs_nil))))
  (pss_cons (ps_if (pt_cmpR op_gt (pe_op op_add (pv 3) (pv 2)) (pe_callB call_len_str (by rfl) T.z_len PySem.boot_len (pa_cons (pv 0) pa_nil)) (nomark _)) (pss_one (L2N.ps_raise (W := fun cls d _ H => E cls d H) rfl (L2N.takes_of rfl rfl rfl rfl) (pmk_oexN T.o_PE T.i_PE T.t_PE G_ParseError___init__ (hr.mono (by decide)) T.b_ParseError___init__ .nil pass0 (by rfl) T.g_ParseError (pa_cons (pe_callB call_len_str (by rfl) T.z_len PySem.boot_len (pa_cons (pv 0) pa_nil)) pa_nil)))) pss_nil)
  (pss_one (ps_ret (pe_tup (pa_cons (pe_slice sl_str (pv 0) (po_some (pv 3)) (po_some (pe_op op_add (pv 3) (pv 2)))) (pa_cons (pe_op op_add (pv 3) (pv 2)) pa_nil))))))), ?_⟩
  refine q_2call (vs := [vS z, .int (a : Nat), .int ((2000 : Nat) : Int), vS [58]]) (ea_cons (ev_var rfl) (ea_cons (ev_var rfl) (ea_cons (ev_is ev_c rfl) (ea_cons (ev_is ev_c s_colon) ea_nil)))) fun H1 e1 => ⟨z, a, 2000, 58, rfl, ⟨hz, hlow⟩, ha, ?_⟩
  unfold strAt at h
  revert h
  cases hc : cnt z a 2000 58 with
  | error e => exact fun h => PErr.ex e1 h
  | ok r =>
    obtain ⟨m, b⟩ := r
    have hb := cnt_le ha hc
    refine fun h p H2 e2 hp => g2_of hp ?_
    have h : match (if z.length < b + m then .error z.length else .ok ((z.drop b).take m, b + m) : Except Nat (List Nat × Nat)) with | .error e => PErr T.C_PE e E H | .ok (t, b) => ∀ p H', Ex H H' → H' p = some (.tup [vS t, .int (b : Nat)]) → Q (.ref p) H' := h
    have e12 := e1.trans e2
    refine q_when (b := decide (z.length < b + m)) (et_is (et_test (ev_op (ev_op (ev_var rfl) (ev_var rfl) rv_I0) (ev_cb (vs := [vS z]) (by walk_at "ea") (rc_lenV hz1)) rv_I0)) (by rw [decide_eq_decide]; omega)) (fun hb2 H3 e3 => ?_) fun hb2 H3 e3 => ?_
    · rw [if_pos (of_decide_eq_true hb2)] at h
      exact mk_spot (n := z.length) (ea_cons (ev_cb (vs := [vS z]) (by walk_at "ea") (rc_lenV hz1)) ea_nil) (PErr.ex (e12.trans e3) h)
    · have hb3 : ¬ z.length < b + m := of_decide_eq_false hb2
      rw [if_neg hb3] at h
      have hsum : ∀ {H4 : Hp}, Ev (tOp (rI0 fun i j => V.int (i + j)) (tVar 3) (tVar 2)) [some (vS z), some (.int (a : Nat)), some (.int (m : Nat)), some (.int (b : Nat))] H4 (.int ((b + m : Nat) : Int)) := fun {H4} => ev_is (ev_op (ev_var rfl) (ev_var rfl) rv_I0) (by rw [Int.natCast_add])
      refine s_retU2 (xs := [vS ((z.drop b).take m), .int ((b + m : Nat) : Int)]) (eu_tup (ea_cons (ev_is (ev_slS (lo := some (b : Int)) (hi := some ((b + m : Nat) : Int)) (ev_var rfl) (fun _ _ => eo_some (ev_var rfl)) (fun _ _ => eo_some hsum) hz1) ?sl) (ea_cons hsum ea_nil)) (by show 2 ≤ 100000; decide)) fun p H4 e4 hp => h p H4 ((e12.trans e3).trans e4) hp
      rw [HT.sIx_nat, HT.sIx_nat, Nat.min_eq_left (show b ≤ z.length by omega), Nat.min_eq_left (show b + m ≤ z.length by omega), show b + m - b = m by omega]
theorem ok_leaf (T : Txt K mg w) : FnOk P w K mg base (L2N.CX P w) 5 T.a_leaf_at T.fd_leaf_at ["text", "at"] (spLeaf T.C_PE) := by
  have G_ParseError___init__ := ok_spot (P := P) (w := w) (base := base) T
  have G_integer_at := ok_int_at (P := P) (w := w) (base := base) T
  have G_string_at := ok_str_at (P := P) (w := w) (base := base) T
  refine T.F_leaf_at.okN sc_leaf_at (fun vs H Q E h => ?_) (fun cdv A outer s H vs Q E hr h => ?_)
  · obtain ⟨_, _, rfl, _⟩ := h; rfl
  obtain ⟨z, a, rfl, ⟨hz, hlow⟩, ha, h⟩ := h
  have hz1 : z.length ≤ 100000 := by omega
  refine ⟨_, (pss_cons (ps_set (i := 2) sc_leaf_at.nd rfl (.inl rfl) (pe_slice sl_str (pv 0) (po_some (pv 1)) (po_some (pe_op op_add (pv 1) pe_int))))
  (pss_cons (ps_if (pt_cmpR op_eq (pv 2) pe_str (nomark _)) (pss_one (ps_ret (pe_tup (pa_cons pe_non (pa_cons (pe_op op_add (pv 1) pe_int) pa_nil))))) pss_nil)
  (pss_cons (ps_if (pt_cmpR op_eq (pv 2) pe_str (nomark _)) (pss_one (ps_ret (pe_call G_integer_at (hr.mono (by decide)) (by rfl) T.g_integer_at T.F_integer_at.kp T.b_integer_at .nil (L2N.passes_call (W := fun cls d _ H => E cls d H) (L2N.takes_of rfl rfl rfl rfl) (fun _ _ _ _ h => h)) (pa_cons (pv 0) (pa_cons (pe_op op_add (pv 1) pe_int) pa_nil))))) pss_nil)
  (pss_cons (ps_if (pt_cmpR op_eq (pv 2) pe_str (nomark _)) (pss_one (ps_ret (pe_call G_string_at (hr.mono (by decide)) (by rfl) T.g_string_at T.F_string_at.kp T.b_string_at .nil (L2N.passes_call (W := fun cls d _ H => E cls d H) (L2N.takes_of rfl rfl rfl rfl) (fun _ _ _ _ h => h)) (pa_cons (pv 0) (pa_cons (pe_op op_add (pv 1) pe_int) pa_nil))))) pss_nil)
  (pss_one (L2N.ps_raise (W := fun cls d _ H => E cls d H) rfl (L2N.takes_of rfl rfl rfl rfl) (pmk_oexN T.o_PE T.i_PE T.t_PE G_ParseError___init__ (hr.mono (by decide)) T.b_ParseError___init__ .nil pass0 (by rfl) T.g_ParseError (pa_cons (pv 1) pa_nil)))))))), ?_⟩
  unfold leafAt at h
  refine q_asg (v := vS (sg z a)) (ev_sg (ev_var rfl) (fun _ _ => ev_var rfl) (fun _ _ => ev_succ (ev_var rfl)) hz1) fun H1 e1 => ?_
  refine q_when (b := decide (sg z a = [110])) (et_sg s_n (ev_var rfl)) (fun hb H2 e2 => ?_) fun hb H2 e2 => ?_
  · rw [if_pos (of_decide_eq_true hb)] at h
    exact s_retU2 (xs := [.non, .int ((a + 1 : Nat) : Int)]) (eu_tup (ea_cons ev_c (ea_cons (ev_succ (ev_var rfl)) ea_nil)) (by show 2 ≤ 100000; decide)) fun p H3 e3 hp => h p H3 ((e1.trans e2).trans e3) hp
  rw [if_neg (of_decide_eq_false hb)] at h
  have e12 := e1.trans e2
  refine q_when (b := decide (sg z a = [105])) (et_sg s_i (ev_var rfl)) (fun hb3 H3 e3 => ?_) fun hb3 H3 e3 => ?_
  · rw [if_pos (of_decide_eq_true hb3)] at h
    have hal := sg_lt (of_decide_eq_true hb3)
    refine s_retCall (vs := [vS z, .int ((a + 1 : Nat) : Int)]) (ea_cons (ev_var rfl) (ea_cons (ev_succ (ev_var rfl)) ea_nil)) fun H4 e4 => ⟨z, a + 1, rfl, ⟨hz, hlow⟩, by omega, ?_⟩
    have e14 := (e12.trans e3).trans e4
    revert h
    cases hc : intAt z (a + 1) with
    | error e => exact fun h => PErr.ex e14 h
    | ok r => exact fun h p H5 e5 hp => h p H5 (e14.trans e5) hp
  rw [if_neg (of_decide_eq_false hb3)] at h
  have e13 := e12.trans e3
  refine q_when (b := decide (sg z a = [115])) (et_sg s_s (ev_var rfl)) (fun hb4 H4 e4 => ?_) fun hb4 H4 e4 => ?_
  · rw [if_pos (of_decide_eq_true hb4)] at h
    have hal := sg_lt (of_decide_eq_true hb4)
    refine s_retCall (vs := [vS z, .int ((a + 1 : Nat) : Int)]) (ea_cons (ev_var rfl) (ea_cons (ev_succ (ev_var rfl)) ea_nil)) fun H5 e5 => ⟨z, a + 1, rfl, ⟨hz, hlow⟩, by omega, ?_⟩
    have e15 := (e13.trans e4).trans e5
    revert h
    cases hc : strAt z (a + 1) with
    | error e => exact fun h => PErr.ex e15 h
    | ok r => exact fun h p H6 e6 hp => h p H6 (e15.trans e6) hp
  rw [if_neg (of_decide_eq_false hb4)] at h
  exact mk_spot (n := a) (ea_cons (ev_var rfl) ea_nil) (PErr.ex (e13.trans e4) h)
end
end Kz
set_option Elab.async false
set_option linter.all false
set_option maxRecDepth 100000
set_option maxHeartbeats 4000000
set_option exponentiation.threshold 500
namespace Kz
open PySem PySem.Spec PyProof.Rows L2 Evl Vr
local macro_rules | `(tactic| walk_at "sc") => `(tactic| first | (with_reducible assumption) | (with_reducible exact sc_mul (by omega)) | (with_reducible exact sc_mulr (by omega)) | (with_reducible exact sc_div (by omega) (by decide)) | (show (0 : Int) < _; omega) | (show _ ≠ (0 : Int); omega) | (with_reducible rfl) | decide)
local macro_rules | `(tactic| walk_at "sq") => `(tactic| first | assumption | exact sq_of (by assumption) | exact st_of (by assumption))
local macro_rules | `(tactic| walk_at "pl") => `(tactic| first | assumption | exact pl_int | exact pl_bl | exact pl_str | exact pl_non | exact pl_lst (by assumption) | exact pl_tup (by assumption) | exact pl_dK (by assumption))
local macro_rules | `(tactic| walk_at "rv") => `(tactic| first
  | with_reducible exact rv_I0
  | with_reducible exact ru_neg
  | ((with_reducible apply rv_I); walk_at "sc")
  | ((with_reducible apply rv_ixL); walk_at "sq"; first | rfl | assumption)
  | ((with_reducible apply rv_ixT); walk_at "sq"; first | rfl | assumption)
  | ((with_reducible apply rv_eq); rfl) | ((with_reducible apply rv_ne); rfl))
local macro_rules | `(tactic| walk_at "rc") => `(tactic| first
  | with_reducible exact rc_I1 | with_reducible exact rc_B1 | with_reducible exact rc_I2 | ((with_reducible apply rc_repr); walk_at "sc") | ((with_reducible apply rc_lenL); walk_at "sq")
  | ((with_reducible apply rc_isiInt); walk_at "pl") | ((with_reducible apply rc_isiBool); walk_at "pl"))
local macro_rules | `(tactic| walk_at "ea") => `(tactic| first
  | with_reducible exact ea_nil | ((with_reducible apply ea_cons); walk_at "ev"; walk_at "ea"))
local macro_rules | `(tactic| walk_at "pow") => `(tactic| first
  | with_reducible exact ev_pow (a := 10) (b := 9) (c := 1000000000) (by decide +kernel) (by decide +kernel)
  | with_reducible exact ev_pow (a := 10) (b := 10) (c := 10000000000) (by decide +kernel) (by decide +kernel)
  | with_reducible exact ev_pow (a := 10) (b := 12) (c := 1000000000000) (by decide +kernel) (by decide +kernel)
  | with_reducible exact ev_pow (a := 10) (b := 17) (c := 100000000000000000) (by decide +kernel) (by decide +kernel)
  | with_reducible exact ev_pow (a := 10) (b := 20) (c := 100000000000000000000) (by decide +kernel) (by decide +kernel)
  | with_reducible exact ev_pow (a := 10) (b := 29) (c := 100000000000000000000000000000) (by decide +kernel) (by decide +kernel)
  | with_reducible exact ev_pow (a := 10) (b := 30) (c := 1000000000000000000000000000000) (by decide +kernel) (by decide +kernel)
  | with_reducible exact ev_pow (a := 10) (b := 40) (c := 10000000000000000000000000000000000000000) (by decide +kernel) (by decide +kernel)
  | with_reducible exact ev_pow (a := 10) (b := 57) (c := 1000000000000000000000000000000000000000000000000000000000) (by decide +kernel) (by decide +kernel)
  | with_reducible exact ev_pow (a := 10) (b := 58) (c := 10000000000000000000000000000000000000000000000000000000000) (by decide +kernel) (by decide +kernel)
  | with_reducible exact ev_pow (a := 10) (b := 59) (c := 100000000000000000000000000000000000000000000000000000000000) (by decide +kernel) (by decide +kernel)
  | with_reducible exact ev_pow (a := 10) (b := 60) (c := 1000000000000000000000000000000000000000000000000000000000000) (by decide +kernel) (by decide +kernel))
local macro_rules | `(tactic| walk_at "call") => `(tactic| (intro H9 e9; first | exact ⟨_, rfl, rfl⟩ | exact ⟨_, _, rfl, rfl⟩ | exact ⟨_, _, _, rfl, rfl⟩ | exact ⟨_, rfl, by walk_at "pl", rfl⟩ | (refine ⟨_, _, _, rfl, ?_, rfl⟩; first | exact Plain.ex e9 (by assumption) | walk_at "pl") | (refine ⟨_, rfl, ?_, rfl⟩; first | exact Plain.ex e9 (by assumption) | walk_at "pl")))
local macro_rules | `(tactic| walk_at "ev") => `(tactic| first
  | with_reducible exact ev_c
  | exact ev_var rfl
  | walk_at "pow"
  | ((with_reducible apply ev_op); walk_at "ev"; walk_at "ev"; walk_at "rv")
  | ((with_reducible apply ev_un); walk_at "ev"; walk_at "rv")
  | ((with_reducible apply ev_cb); walk_at "ea"; walk_at "rc")
  | ((with_reducible apply ev_callP); walk_at "ea"; walk_at "call")
  | ((with_reducible apply ev_chain); walk_at "ev"; walk_at "ev"; walk_at "rv"; walk_at "ev"; walk_at "rv")
  | ((with_reducible apply ev_andV); walk_at "ev"; intro _; walk_at "ev")
  | ((with_reducible apply ev_orV); walk_at "ev"; intro _; walk_at "ev")
  | ((with_reducible apply ev_ite); walk_at "et"; intro _; walk_at "ev"; intro _; walk_at "ev")
  | ((with_reducible apply ev_notV); walk_at "ev"))
local macro_rules | `(tactic| walk_at "et") => `(tactic| first
  | ((with_reducible apply et_test); walk_at "ev")
  | ((with_reducible apply et_B); walk_at "ev")
  | ((with_reducible apply et_and); walk_at "et"; intro _; walk_at "et")
  | ((with_reducible apply et_or); walk_at "et"; intro _; walk_at "et")
  | ((with_reducible apply et_not); walk_at "et"))
open Tx Wo
/-! ### what the reader has begun, in the heap -/
mutual
/-- data without lists -/
def nl : PyData → Bool
  | .list _ => false
  | .dict _ => false
  | .tuple ds => nls ds
  | _ => true
def nls : List PyData → Bool
  | [] => true
  | d :: ds => nl d && nls ds
end
theorem nls_app : ∀ {a b : List PyData}, nls (a ++ b) = (nls a && nls b)
  | [], b => by show nls b = (true && nls b); rw [Bool.true_and]
  | d :: a, b => by
    show (nl d && nls (a ++ b)) = ((nl d && nls a) && nls b)
    rw [nls_app, Bool.and_assoc]
section
variable {K : PySem.W.Frag} {H H' H0 : Hp}
theorem sqt_upL {b L : Addr} {xs ys : List V} {o : HO} (hL : H L = some (.lst ys)) (h : SqT K H b xs) : SqT K (upd H L o) b xs := by
  by_cases z : b = L
  · subst z
    rcases h with (h | ⟨o, h⟩) | h
    · rw [hL] at h; cases h
    · rw [hL] at h; cases h
    · exact .inr h
  · rcases h with (h | ⟨o, h⟩) | h
    · exact .inl (.inl (by rw [upd_ne z]; exact h))
    · exact .inl (.inr ⟨o, by rw [upd_ne z]; exact h⟩)
    · exact .inr h
mutual
theorem dp_up {L : Addr} {ys : List V} {o : HO} (hL : H L = some (.lst ys)) : ∀ (d : PyData) (v : V), nl d = true → Dp K H v d → Dp K (upd H L o) v d
  | .none, _, _, h => by cases h; exact .non
  | .bool b, _, _, h => by cases h; exact .bl b
  | .int i, _, _, h => by cases h; exact .int i
  | .str x, _, _, h => by cases h; exact .str x
  | .list _, _, n, _ => by cases n
  | .dict _, _, n, _ => by cases n
  | .tuple ds, _, n, h => by
    cases h with
    | tup h1 h2 => exact .tup (sqt_upL hL h1) (dpa_up hL ds _ n h2)
theorem dpa_up {L : Addr} {ys : List V} {o : HO} (hL : H L = some (.lst ys)) : ∀ (ds : List PyData) (vs : List V), nls ds = true → DpAll K H vs ds → DpAll K (upd H L o) vs ds
  | [], _, _, h => by cases h; exact .nil
  | d :: ds, _, n, h => by
    have n' : (nl d && nls ds) = true := n
    rw [Bool.and_eq_true] at n'
    cases h with
    | cons h1 h2 => exact .cons (dp_up hL d _ n'.1 h1) (dpa_up hL ds _ n'.2 h2)
end
inductive Stk (K : PySem.W.Frag) (H : Hp) : List Addr → List (List PyData) → Prop
  | nil : Stk K H [] []
  | cons {r : Addr} {vs : List V} {m : List PyData} {rs : List Addr} {ms : List (List PyData)} : H r = some (.lst vs) → DpAll K H vs m → nls m = true → Stk K H rs ms → Stk K H (r :: rs) (m :: ms)
theorem Stk.ex (e : Ex H H') {rs : List Addr} {ms : List (List PyData)} (h : Stk K H rs ms) : Stk K H' rs ms := by
  induction h with
  | nil => exact .nil
  | cons h1 h2 h3 _ ih => exact .cons (e _ _ h1) (dpa_ex e h2) h3 ih
theorem Stk.up {L : Addr} {ys : List V} {o : HO} (hL : H L = some (.lst ys)) {rs : List Addr} {ms : List (List PyData)} (n : L ∉ rs) (h : Stk K H rs ms) : Stk K (upd H L o) rs ms := by
  induction h with
  | nil => exact .nil
  | cons h1 h2 h3 _ ih =>
    rw [List.mem_cons, not_or] at n
    exact .cons (by rw [upd_ne (Ne.symm n.1)]; exact h1) (dpa_up hL _ _ h3 h2) h3 (ih n.2)
theorem Stk.len {rs : List Addr} {ms : List (List PyData)} (h : Stk K H rs ms) : rs.length = ms.length := by
  induction h with
  | nil => rfl
  | cons _ _ _ _ ih => rw [List.length_cons, List.length_cons, ih]
theorem Stk.last {rs : List Addr} {ms : List (List PyData)} (h : Stk K H rs ms) {m : List PyData} (hm : ms.getLast? = some m) : ∃ r vs, rs.getLast? = some r ∧ H r = some (.lst vs) ∧ DpAll K H vs m ∧ nls m = true := by
  induction h with
  | nil => cases hm
  | @cons r vs m' rs ms h1 h2 h3 hr ih =>
    cases hr with
    | nil =>
      cases hm
      exact ⟨r, vs, rfl, h1, h2, h3⟩
    | cons g1 g2 g3 g4 =>
      obtain ⟨r', vs', a, b, c, d⟩ := ih (by rw [List.getLast?_cons_cons] at hm; exact hm)
      exact ⟨r', vs', by rw [List.getLast?_cons_cons]; exact a, b, c, d⟩
abbrev natL (ls : List Nat) : List V := ls.reverse.map fun n : Nat => V.int (n : Int)
abbrev refL (rs : List Addr) : List V := rs.reverse.map V.ref
theorem natL_cons (l : Nat) (ls : List Nat) : natL (l :: ls) = natL ls ++ [.int (l : Nat)] := by simp [natL]
theorem refL_cons (r : Addr) (rs : List Addr) : refL (r :: rs) = refL rs ++ [.ref r] := by simp [refL]
structure PsAt (K : PySem.W.Frag) (H0 H : Hp) (Ln Mm : Addr) (rs : List Addr) (ls : List Nat) (ms : List (List PyData)) : Prop where
  ln : H Ln = some (.lst (natL ls))
  mm : H Mm = some (.lst (refL rs))
  st : Stk K H rs ms
  n1 : Ln ≠ Mm
  n2 : Ln ∉ rs
  n3 : Mm ∉ rs
  n4 : rs.Nodup
  ex : Ex H0 H
  f1 : H0 Ln = none
  f2 : H0 Mm = none
  f3 : ∀ r ∈ rs, H0 r = none
variable {Ln Mm r : Addr} {rs : List Addr} {ls ls' : List Nat} {ms : List (List PyData)} {m : List PyData}
theorem PsAt.ext (e : Ex H H') (h : PsAt K H0 H Ln Mm rs ls ms) : PsAt K H0 H' Ln Mm rs ls ms := ⟨e _ _ h.ln, e _ _ h.mm, h.st.ex e, h.n1, h.n2, h.n3, h.n4, h.ex.trans e, h.f1, h.f2, h.f3⟩
theorem PsAt.setLn (h : PsAt K H0 H Ln Mm rs ls ms) : PsAt K H0 (upd H Ln (.lst (natL ls'))) Ln Mm rs ls' ms :=
  ⟨upd_same, by rw [upd_ne (Ne.symm h.n1)]; exact h.mm, h.st.up h.ln h.n2, h.n1, h.n2, h.n3, h.n4, Ex.mut h.ex h.f1, h.f1, h.f2, h.f3⟩
theorem PsAt.push (h : PsAt K H0 H Ln Mm rs ls ms) (hn : H0 r = none) (hr : H r = some (.lst [])) (h1 : r ≠ Ln) (h2 : r ≠ Mm) (h3 : r ∉ rs) : PsAt K H0 (upd H Mm (.lst (refL (r :: rs)))) Ln Mm (r :: rs) ls ([] :: ms) :=
  ⟨by rw [upd_ne h.n1]; exact h.ln, upd_same, .cons (by rw [upd_ne h2]; exact hr) .nil rfl (h.st.up h.mm h.n3), h.n1, by rw [List.mem_cons, not_or]; exact ⟨Ne.symm h1, h.n2⟩, by rw [List.mem_cons, not_or]; exact ⟨Ne.symm h2, h.n3⟩, List.nodup_cons.mpr ⟨h3, h.n4⟩, Ex.mut h.ex h.f2, h.f1, h.f2, fun x hx => by
    rcases List.mem_cons.mp hx with rfl | hx
    · exact hn
    · exact h.f3 x hx⟩
theorem PsAt.pop (h : PsAt K H0 H Ln Mm (r :: rs) ls (m :: ms)) : PsAt K H0 (upd H Mm (.lst (refL rs))) Ln Mm rs ls ms := by
  have n2 := h.n2
  have n3 := h.n3
  rw [List.mem_cons, not_or] at n2 n3
  cases h.st with
  | cons _ _ _ g4 => exact ⟨by rw [upd_ne h.n1]; exact h.ln, upd_same, g4.up h.mm n3.2, h.n1, n2.2, n3.2, (List.nodup_cons.mp h.n4).2, Ex.mut h.ex h.f2, h.f1, h.f2, fun x hx => h.f3 x (List.mem_cons_of_mem _ hx)⟩
theorem PsAt.top (h : PsAt K H0 H Ln Mm (r :: rs) ls (m :: ms)) : ∃ vs, H r = some (.lst vs) ∧ DpAll K H vs m ∧ nls m = true ∧ vs.length = m.length := by
  cases h.st with
  | cons g1 g2 g3 g4 => exact ⟨_, g1, g2, g3, dpa_len g2⟩
theorem dpa_snoc : ∀ {m : List PyData} {vs : List V} {v : V} {d : PyData}, DpAll K H vs m → Dp K H v d → DpAll K H (vs ++ [v]) (m ++ [d])
  | [], _, _, _, h, g => by cases h; exact .cons g .nil
  | _ :: m, _, _, _, h, g => by
    cases h with
    | cons h1 h2 => exact .cons h1 (dpa_snoc h2 g)
theorem PsAt.add {vs : List V} {v : V} {d : PyData} (h : PsAt K H0 H Ln Mm (r :: rs) ls (m :: ms)) (hr : H r = some (.lst vs)) (hd : Dp K H v d) (hn : nl d = true) : PsAt K H0 (upd H r (.lst (vs ++ [v]))) Ln Mm (r :: rs) ls ((m ++ [d]) :: ms) := by
  have n2 := h.n2
  have n3 := h.n3
  rw [List.mem_cons, not_or] at n2 n3
  cases h.st with
  | @cons _ vs' _ _ _ g1 g2 g3 g4 =>
    rw [g1] at hr
    cases hr
    have hrs := (List.nodup_cons.mp h.n4).1
    refine ⟨by rw [upd_ne n2.1]; exact h.ln, by rw [upd_ne n3.1]; exact h.mm, .cons upd_same (dpa_snoc (dpa_up g1 _ _ g3 g2) (dp_up g1 _ _ hn hd)) ?_ (g4.up g1 hrs), h.n1, h.n2, h.n3, h.n4, Ex.mut h.ex (h.f3 r (List.mem_cons_self ..)), h.f1, h.f2, h.f3⟩
    rw [nls_app, g3]
    show (true && (nl d && true)) = true
    rw [hn]
    rfl
end
section
variable {σ : L2.St} {H : Hp} {ta : TE} {K : PySem.W.Frag} {tz : TS} {D : Ends}
theorem q_pop {l : Addr} {xs : List V} {y : V} (hl : H l = some (.lst (xs ++ [y]))) (ha : Ev ta σ H (.ref l)) (k : ∀ H1, Ex H H1 → tz D σ (upd H1 l (.lst xs))) : tSeq (tDrop (tBM0 K "list" rPop ta)) tz D σ H :=
  ha H (Ex.refl H) _ fun H1 e1 => ⟨.inl ⟨rfl, _, sq_of (e1 _ _ hl)⟩, l, _, y, rfl, rfl, e1 _ _ hl, by simp, by rw [List.dropLast_concat]; exact k H1 e1⟩
theorem q_tupPop {l r : Addr} {i : Nat} {xs ys : List V} (hl : H l = some (.lst (xs ++ [.ref r]))) (hr : H r = some (.lst ys)) (hn : r ≠ l) (ha : Ev ta σ H (.ref l)) (k : ∀ t H1, Ex H H1 → upd H1 l (.lst xs) t = none → tz D (σ.set i (some (.ref t))) (upd (upd H1 l (.lst xs)) t (.tup ys))) :
    tSeq (tAsg (tCB (rTupL K) (tCons (tBM0 K "list" rPop ta) tNil)) (gName i)) tz D σ H :=
  ha H (Ex.refl H) _ fun H1 e1 => ⟨.inl ⟨rfl, _, sq_of (e1 _ _ hl)⟩, l, _, .ref r, rfl, rfl, e1 _ _ hl, by simp, by
    rw [List.dropLast_concat]
    exact ⟨r, ys, rfl, sq_of (by rw [upd_ne hn]; exact e1 _ _ hr), fun t ht => k t H1 e1 ht⟩⟩
end
theorem pot_close : ∀ (ls : List Nat) (ms : List (List PyData)), (close ls ms).1.length + ((close ls ms).2.map List.length).sum ≤ ls.length + (ms.map List.length).sum
  | [], ms => Nat.le_refl _
  | [l], ms => Nat.le_refl _
  | l :: l2 :: lt, [] => Nat.le_refl _
  | l :: l2 :: lt, [m] => Nat.le_refl _
  | l :: l2 :: lt, m :: m2 :: mt => by
    unfold close
    split
    · have := pot_close (l2 :: lt) ((m2 ++ [.tuple m]) :: mt)
      simp only [List.map_cons, List.sum_cons, List.length_append, List.length_cons, List.length_nil] at this ⊢
      omega
    · exact Nat.le_refl _
theorem len_close : ∀ (ls : List Nat) (ms : List (List PyData)), ls.length = ms.length → 1 ≤ ls.length → (close ls ms).1.length = (close ls ms).2.length ∧ 1 ≤ (close ls ms).1.length
  | [], ms, h, g => by cases g
  | [l], ms, h, g => ⟨h, g⟩
  | l :: l2 :: lt, [], h, g => by cases h
  | l :: l2 :: lt, [m], h, g => by cases h
  | l :: l2 :: lt, m :: m2 :: mt, h, g => by
    unfold close
    split
    · exact len_close (l2 :: lt) ((m2 ++ [.tuple m]) :: mt) (by simpa using h) (by simp)
    · exact ⟨h, g⟩
end Kz
set_option Elab.async false
set_option linter.all false
set_option maxRecDepth 100000
set_option maxHeartbeats 4000000
set_option exponentiation.threshold 500
namespace Kz
open PySem PySem.Spec PyProof.Rows L2 Evl Vr
local macro_rules | `(tactic| walk_at "sc") => `(tactic| first | (with_reducible assumption) | (with_reducible exact sc_mul (by omega)) | (with_reducible exact sc_mulr (by omega)) | (with_reducible exact sc_div (by omega) (by decide)) | (show (0 : Int) < _; omega) | (show _ ≠ (0 : Int); omega) | (with_reducible rfl) | decide)
local macro_rules | `(tactic| walk_at "sq") => `(tactic| first | assumption | exact sq_of (by assumption) | exact st_of (by assumption))
local macro_rules | `(tactic| walk_at "pl") => `(tactic| first | assumption | exact pl_int | exact pl_bl | exact pl_str | exact pl_non | exact pl_lst (by assumption) | exact pl_tup (by assumption) | exact pl_dK (by assumption))
local macro_rules | `(tactic| walk_at "rv") => `(tactic| first
  | with_reducible exact rv_I0
  | with_reducible exact ru_neg
  | ((with_reducible apply rv_I); walk_at "sc")
  | ((with_reducible apply rv_ixL); walk_at "sq"; first | rfl | assumption)
  | ((with_reducible apply rv_ixT); walk_at "sq"; first | rfl | assumption)
  | ((with_reducible apply rv_eq); rfl) | ((with_reducible apply rv_ne); rfl))
local macro_rules | `(tactic| walk_at "rc") => `(tactic| first
  | with_reducible exact rc_I1 | with_reducible exact rc_B1 | with_reducible exact rc_I2 | ((with_reducible apply rc_repr); walk_at "sc") | ((with_reducible apply rc_lenL); walk_at "sq")
  | ((with_reducible apply rc_isiInt); walk_at "pl") | ((with_reducible apply rc_isiBool); walk_at "pl"))
local macro_rules | `(tactic| walk_at "ea") => `(tactic| first
  | with_reducible exact ea_nil | ((with_reducible apply ea_cons); walk_at "ev"; walk_at "ea"))
local macro_rules | `(tactic| walk_at "pow") => `(tactic| first
  | with_reducible exact ev_pow (a := 10) (b := 9) (c := 1000000000) (by decide +kernel) (by decide +kernel)
  | with_reducible exact ev_pow (a := 10) (b := 10) (c := 10000000000) (by decide +kernel) (by decide +kernel)
  | with_reducible exact ev_pow (a := 10) (b := 12) (c := 1000000000000) (by decide +kernel) (by decide +kernel)
  | with_reducible exact ev_pow (a := 10) (b := 17) (c := 100000000000000000) (by decide +kernel) (by decide +kernel)
  | with_reducible exact ev_pow (a := 10) (b := 20) (c := 100000000000000000000) (by decide +kernel) (by decide +kernel)
  | with_reducible exact ev_pow (a := 10) (b := 29) (c := 100000000000000000000000000000) (by decide +kernel) (by decide +kernel)
  | with_reducible exact ev_pow (a := 10) (b := 30) (c := 1000000000000000000000000000000) (by decide +kernel) (by decide +kernel)
  | with_reducible exact ev_pow (a := 10) (b := 40) (c := 10000000000000000000000000000000000000000) (by decide +kernel) (by decide +kernel)
  | with_reducible exact ev_pow (a := 10) (b := 57) (c := 1000000000000000000000000000000000000000000000000000000000) (by decide +kernel) (by decide +kernel)
  | with_reducible exact ev_pow (a := 10) (b := 58) (c := 10000000000000000000000000000000000000000000000000000000000) (by decide +kernel) (by decide +kernel)
  | with_reducible exact ev_pow (a := 10) (b := 59) (c := 100000000000000000000000000000000000000000000000000000000000) (by decide +kernel) (by decide +kernel)
  | with_reducible exact ev_pow (a := 10) (b := 60) (c := 1000000000000000000000000000000000000000000000000000000000000) (by decide +kernel) (by decide +kernel))
local macro_rules | `(tactic| walk_at "call") => `(tactic| (intro H9 e9; first | exact ⟨_, rfl, rfl⟩ | exact ⟨_, _, rfl, rfl⟩ | exact ⟨_, _, _, rfl, rfl⟩ | exact ⟨_, rfl, by walk_at "pl", rfl⟩ | (refine ⟨_, _, _, rfl, ?_, rfl⟩; first | exact Plain.ex e9 (by assumption) | walk_at "pl") | (refine ⟨_, rfl, ?_, rfl⟩; first | exact Plain.ex e9 (by assumption) | walk_at "pl")))
local macro_rules | `(tactic| walk_at "ev") => `(tactic| first
  | with_reducible exact ev_c
  | exact ev_var rfl
  | walk_at "pow"
  | ((with_reducible apply ev_op); walk_at "ev"; walk_at "ev"; walk_at "rv")
  | ((with_reducible apply ev_un); walk_at "ev"; walk_at "rv")
  | ((with_reducible apply ev_cb); walk_at "ea"; walk_at "rc")
  | ((with_reducible apply ev_callP); walk_at "ea"; walk_at "call")
  | ((with_reducible apply ev_chain); walk_at "ev"; walk_at "ev"; walk_at "rv"; walk_at "ev"; walk_at "rv")
  | ((with_reducible apply ev_andV); walk_at "ev"; intro _; walk_at "ev")
  | ((with_reducible apply ev_orV); walk_at "ev"; intro _; walk_at "ev")
  | ((with_reducible apply ev_ite); walk_at "et"; intro _; walk_at "ev"; intro _; walk_at "ev")
  | ((with_reducible apply ev_notV); walk_at "ev"))
local macro_rules | `(tactic| walk_at "et") => `(tactic| first
  | ((with_reducible apply et_test); walk_at "ev")
  | ((with_reducible apply et_B); walk_at "ev")
  | ((with_reducible apply et_and); walk_at "et"; intro _; walk_at "et")
  | ((with_reducible apply et_or); walk_at "et"; intro _; walk_at "et")
  | ((with_reducible apply et_not); walk_at "et"))
open Tx Wo
def cl : List Nat → List (List PyData) → Bool
  | l :: _ :: _, m :: _ :: _ => decide (m.length = l)
  | _, _ => false
theorem cl_no : ∀ {ls : List Nat} {ms : List (List PyData)}, cl ls ms = false → close ls ms = (ls, ms)
  | [], _, _ => rfl
  | [_], _, _ => rfl
  | _ :: _ :: _, [], _ => rfl
  | _ :: _ :: _, [_], _ => rfl
  | l :: l2 :: lt, m :: m2 :: mt, h => by
    have h : decide (m.length = l) = false := h
    unfold close
    rw [if_neg (of_decide_eq_false h)]
theorem cl_yes {l l2 : Nat} {lt : List Nat} {m m2 : List PyData} {mt : List (List PyData)} (h : m.length = l) : close (l :: l2 :: lt) (m :: m2 :: mt) = close (l2 :: lt) ((m2 ++ [.tuple m]) :: mt) := by
  rw [close.eq_def]
  show (if m.length = l then _ else _) = _
  rw [if_pos h]
def pot (ls : List Nat) (ms : List (List PyData)) : Nat := ls.length + (ms.map List.length).sum
section
variable {K : PySem.W.Frag} {H0 H : Hp} {D : Ends} {Ln Mm : Addr} {z : List Nat} {a : Nat} {s4 s5 s6 : Option V}
/-- members[-1] -/
theorem ev_top {σ : L2.St} {r : Addr} {rs : List Addr} (h2 : σ[2]? = some (some (.ref Mm))) (hm : H Mm = some (.lst (refL (r :: rs)))) : Ev (tOp (rIxL K) (tVar 2) (tUn (rU fun i => V.int (-i)) (tC (.int 1)))) σ H (.ref r) :=
  ev_op (ev_var h2) (ev_un ev_c ru_neg) (rv_ixL (sq_of hm) (by rw [refL_cons]; exact atI_last _ _))
theorem close_loop {rs : List Addr} {ls : List Nat} {ms : List (List PyData)} (hp : PsAt K H0 H Ln Mm rs ls ms) (hlen : ls.length = ms.length) (h1 : 1 ≤ ls.length) (hpot : pot ls ms ≤ 30000)
    (k : ∀ rs' s6' H', PsAt K H0 H' Ln Mm rs' (close ls ms).1 (close ls ms).2 → D.nx [some (vS z), some (.ref Ln), some (.ref Mm), some (.int (a : Nat)), s4, s5, s6'] H') :
    tWhile (tAnd (tTest (tOp (rI0 fun i j => V.bl (decide (j < i))) (tCB (rLenS K) (tCons (tVar 1) tNil)) (tC (.int 1)))) (tTest (tOp rEq (tCB (rLenS K) (tCons (tOp (rIxL K) (tVar 2) (tUn (rU fun i => V.int (-i)) (tC (.int 1)))) tNil)) (tOp (rIxL K) (tVar 1) (tUn (rU fun i => V.int (-i)) (tC (.int 1)))))))
      (tSeq (tDrop (tBM0 K "list" rPop (tVar 1))) (tSeq (tAsg (tCB (rTupL K) (tCons (tBM0 K "list" rPop (tVar 2)) tNil)) (gName 6)) (tDrop (tBM K "list" rAppend (tOp (rIxL K) (tVar 2) (tUn (rU fun i => V.int (-i)) (tC (.int 1)))) (tCons (tVar 6) tNil)))))
      D [some (vS z), some (.ref Ln), some (.ref Mm), some (.int (a : Nat)), s4, s5, s6] H := by
  refine s_while (fun n σ' H' => ∃ ls' ms' rs' s6', σ' = [some (vS z), some (.ref Ln), some (.ref Mm), some (.int (a : Nat)), s4, s5, s6'] ∧ PsAt K H0 H' Ln Mm rs' ls' ms' ∧ ls'.length = ms'.length ∧ 1 ≤ ls'.length ∧ pot ls' ms' ≤ 30000 ∧ ls'.length ≤ n ∧ close ls' ms' = close ls ms) ls.length ⟨ls, ms, rs, s6, rfl, hp, hlen, h1, hpot, Nat.le_refl _, rfl⟩ ?_
  rintro n σ' H' ⟨ls', ms', rs', s6', rfl, hp', hl', h1', hpot', hn, hc⟩
  refine ⟨cl ls' ms', ?_, fun hb H1 e1 => ?_, fun hb H1 e1 => ?_⟩
  · have t1 : EvT (tTest (tOp (rI0 fun i j => V.bl (decide (j < i))) (tCB (rLenS K) (tCons (tVar 1) tNil)) (tC (.int 1)))) [some (vS z), some (.ref Ln), some (.ref Mm), some (.int (a : Nat)), s4, s5, s6'] H' (decide (1 < ls'.length)) :=
      et_is (et_test (ev_op (ev_cb (vs := [.ref Ln]) (by walk_at "ea") (rc_lenL (sq_of hp'.ln))) ev_c rv_I0)) (by rw [decide_eq_decide]; simp; omega)
    match ls', ms', hl' with
    | [], _, _ => exact absurd h1' (by decide)
    | [l], [m], _ => exact et_is (et_and (a := false) (b := false) (et_is t1 rfl) (fun h => by cases h)) rfl
    | l :: l2 :: lt, m :: m2 :: mt, _ =>
      match rs', hp' with
      | [], hp' => cases hp'.st
      | r :: rt, hp' =>
        obtain ⟨vs, hr, hd, hnl, hvl⟩ := hp'.top
        refine et_is (et_and (a := true) (b := decide (m.length = l)) (et_is t1 (by simp)) fun _ => et_is (et_test (ev_op (ev_cb (vs := [.ref r]) (ea_cons (ev_top rfl hp'.mm) ea_nil) (rc_lenL (sq_of hr))) (ev_op (y := .int (-1)) (ev_var rfl) (ev_un ev_c ru_neg) (rv_ixL (sq_of hp'.ln) (by rw [natL_cons]; exact atI_last _ _))) (rv_eq rfl))) (by rw [dec_nat, hvl])) rfl
  · match ls', ms', rs', hl', hp' with
    | [], _, _, _, _ => cases hb
    | [_], _, _, _, _ => cases hb
    | _ :: _ :: _, [], _, hl', _ => cases hl'
    | _ :: _ :: _, [_], _, hl', _ => cases hl'
    | _ :: _ :: _, _ :: _ :: _, [], _, hp' => cases hp'.st
    | _ :: _ :: _, _ :: _ :: _, [_], _, hp' =>
      have := hp'.st.len
      simp at this
    | l :: l2 :: lt, m :: m2 :: mt, r :: r2 :: rt, hl', hp' =>
      have hml : m.length = l := of_decide_eq_true hb
      refine ⟨fun σ2 H2 => ∃ m', m' < n ∧ ∃ ls' ms' rs' s6', σ2 = [some (vS z), some (.ref Ln), some (.ref Mm), some (.int (a : Nat)), s4, s5, s6'] ∧ PsAt K H0 H2 Ln Mm rs' ls' ms' ∧ ls'.length = ms'.length ∧ 1 ≤ ls'.length ∧ pot ls' ms' ≤ 30000 ∧ ls'.length ≤ m' ∧ close ls' ms' = close ls ms, fun _ _ h => h, ?_⟩
      obtain ⟨vs, hr, hd, hnl, hvl⟩ := hp'.top
      have hrM : r ≠ Mm := by
        have := hp'.n3
        rw [List.mem_cons, not_or] at this
        exact Ne.symm this.1
      have hrL : r ≠ Ln := by
        have := hp'.n2
        rw [List.mem_cons, not_or] at this
        exact Ne.symm this.1
      refine q_pop (xs := natL (l2 :: lt)) (y := .int (l : Nat)) (by rw [← natL_cons]; exact e1 _ _ hp'.ln) (ev_var rfl) fun H2 e2 => ?_
      have e12 := e1.trans e2
      have p2 := (hp'.ext e12).setLn (ls' := l2 :: lt)
      have d2 := dpa_up (o := .lst (natL (l2 :: lt))) (hp'.ext e12).ln _ _ hnl (dpa_ex e12 hd)
      generalize hG2 : upd H2 Ln (.lst (natL (l2 :: lt))) = G2 at p2 d2 ⊢
      have hr2 : G2 r = some (.lst vs) := by rw [← hG2, upd_ne hrL]; exact e12 _ _ hr
      refine q_tupPop (l := Mm) (r := r) (xs := refL (r2 :: rt)) (ys := vs) (by rw [← refL_cons]; exact p2.mm) hr2 hrM (ev_var rfl) fun t H3 e3 ht => ?_
      have p3 := (p2.ext e3).pop
      have d3 := dpa_up (o := .lst (refL (r2 :: rt))) (p2.ext e3).mm _ _ hnl (dpa_ex e3 d2)
      have d4 : Dp K _ (.ref t) (.tuple m) := .tup (st_of upd_same) (dpa_ex (Ex.new ht) d3)
      have p4 := p3.ext (Ex.new (o := .tup vs) ht)
      generalize hG4 : upd (upd H3 Mm (.lst (refL (r2 :: rt)))) t (.tup vs) = G4 at d4 p4 ⊢
      obtain ⟨vs2, hr4, _, _, hvl2⟩ := p4.top
      have hsz : vs2.length ≤ 30000 := by
        rw [hvl2]
        unfold pot at hpot'
        simp only [List.map_cons, List.sum_cons] at hpot'
        omega
      refine s_app hr4 (ev_top rfl p4.mm) (ev_var rfl) (by omega) fun H5 e5 => ?_
      refine ⟨n - 1, by simp at hn; omega, l2 :: lt, (m2 ++ [.tuple m]) :: mt, r2 :: rt, _, rfl, (p4.ext e5).add (d := .tuple m) (e5 _ _ hr4) (dp_ex e5 d4) (show nl (.tuple m) = true from hnl), by simpa using hl', by simp, ?_, by simp at hn ⊢; omega, by rw [← hc, cl_yes hml]⟩
      unfold pot at hpot' ⊢
      simp only [List.map_cons, List.sum_cons, List.length_append, List.length_cons, List.length_nil] at hpot' ⊢
      omega
  · rw [← hc, cl_no hb] at k
    exact k rs' s6' H1 (hp'.ext e1)
end
end Kz
set_option Elab.async false
set_option linter.all false
set_option maxRecDepth 100000
set_option maxHeartbeats 4000000
set_option exponentiation.threshold 500
namespace Kz
open PySem PySem.Spec PyProof.Rows L2 Evl Vr
local macro_rules | `(tactic| walk_at "sc") => `(tactic| first | (with_reducible assumption) | (with_reducible exact sc_mul (by omega)) | (with_reducible exact sc_mulr (by omega)) | (with_reducible exact sc_div (by omega) (by decide)) | (show (0 : Int) < _; omega) | (show _ ≠ (0 : Int); omega) | (with_reducible rfl) | decide)
local macro_rules | `(tactic| walk_at "sq") => `(tactic| first | assumption | exact sq_of (by assumption) | exact st_of (by assumption))
local macro_rules | `(tactic| walk_at "pl") => `(tactic| first | assumption | exact pl_int | exact pl_bl | exact pl_str | exact pl_non | exact pl_lst (by assumption) | exact pl_tup (by assumption) | exact pl_dK (by assumption))
local macro_rules | `(tactic| walk_at "rv") => `(tactic| first
  | with_reducible exact rv_I0
  | with_reducible exact ru_neg
  | ((with_reducible apply rv_I); walk_at "sc")
  | ((with_reducible apply rv_ixL); walk_at "sq"; first | rfl | assumption)
  | ((with_reducible apply rv_ixT); walk_at "sq"; first | rfl | assumption)
  | ((with_reducible apply rv_eq); rfl) | ((with_reducible apply rv_ne); rfl))
local macro_rules | `(tactic| walk_at "rc") => `(tactic| first
  | with_reducible exact rc_I1 | with_reducible exact rc_B1 | with_reducible exact rc_I2 | ((with_reducible apply rc_repr); walk_at "sc") | ((with_reducible apply rc_lenL); walk_at "sq")
  | ((with_reducible apply rc_isiInt); walk_at "pl") | ((with_reducible apply rc_isiBool); walk_at "pl"))
local macro_rules | `(tactic| walk_at "ea") => `(tactic| first
  | with_reducible exact ea_nil | ((with_reducible apply ea_cons); walk_at "ev"; walk_at "ea"))
local macro_rules | `(tactic| walk_at "pow") => `(tactic| first
  | with_reducible exact ev_pow (a := 10) (b := 9) (c := 1000000000) (by decide +kernel) (by decide +kernel)
  | with_reducible exact ev_pow (a := 10) (b := 10) (c := 10000000000) (by decide +kernel) (by decide +kernel)
  | with_reducible exact ev_pow (a := 10) (b := 12) (c := 1000000000000) (by decide +kernel) (by decide +kernel)
  | with_reducible exact ev_pow (a := 10) (b := 17) (c := 100000000000000000) (by decide +kernel) (by decide +kernel)
  | with_reducible exact ev_pow (a := 10) (b := 20) (c := 100000000000000000000) (by decide +kernel) (by decide +kernel)
  | with_reducible exact ev_pow (a := 10) (b := 29) (c := 100000000000000000000000000000) (by decide +kernel) (by decide +kernel)
  | with_reducible exact ev_pow (a := 10) (b := 30) (c := 1000000000000000000000000000000) (by decide +kernel) (by decide +kernel)
  | with_reducible exact ev_pow (a := 10) (b := 40) (c := 10000000000000000000000000000000000000000) (by decide +kernel) (by decide +kernel)
  | with_reducible exact ev_pow (a := 10) (b := 57) (c := 1000000000000000000000000000000000000000000000000000000000) (by decide +kernel) (by decide +kernel)
  | with_reducible exact ev_pow (a := 10) (b := 58) (c := 10000000000000000000000000000000000000000000000000000000000) (by decide +kernel) (by decide +kernel)
  | with_reducible exact ev_pow (a := 10) (b := 59) (c := 100000000000000000000000000000000000000000000000000000000000) (by decide +kernel) (by decide +kernel)
  | with_reducible exact ev_pow (a := 10) (b := 60) (c := 1000000000000000000000000000000000000000000000000000000000000) (by decide +kernel) (by decide +kernel))
local macro_rules | `(tactic| walk_at "call") => `(tactic| (intro H9 e9; first | exact ⟨_, rfl, rfl⟩ | exact ⟨_, _, rfl, rfl⟩ | exact ⟨_, _, _, rfl, rfl⟩ | exact ⟨_, rfl, by walk_at "pl", rfl⟩ | (refine ⟨_, _, _, rfl, ?_, rfl⟩; first | exact Plain.ex e9 (by assumption) | walk_at "pl") | (refine ⟨_, rfl, ?_, rfl⟩; first | exact Plain.ex e9 (by assumption) | walk_at "pl")))
local macro_rules | `(tactic| walk_at "ev") => `(tactic| first
  | with_reducible exact ev_c
  | exact ev_var rfl
  | walk_at "pow"
  | ((with_reducible apply ev_op); walk_at "ev"; walk_at "ev"; walk_at "rv")
  | ((with_reducible apply ev_un); walk_at "ev"; walk_at "rv")
  | ((with_reducible apply ev_cb); walk_at "ea"; walk_at "rc")
  | ((with_reducible apply ev_callP); walk_at "ea"; walk_at "call")
  | ((with_reducible apply ev_chain); walk_at "ev"; walk_at "ev"; walk_at "rv"; walk_at "ev"; walk_at "rv")
  | ((with_reducible apply ev_andV); walk_at "ev"; intro _; walk_at "ev")
  | ((with_reducible apply ev_orV); walk_at "ev"; intro _; walk_at "ev")
  | ((with_reducible apply ev_ite); walk_at "et"; intro _; walk_at "ev"; intro _; walk_at "ev")
  | ((with_reducible apply ev_notV); walk_at "ev"))
local macro_rules | `(tactic| walk_at "et") => `(tactic| first
  | ((with_reducible apply et_test); walk_at "ev")
  | ((with_reducible apply et_B); walk_at "ev")
  | ((with_reducible apply et_and); walk_at "et"; intro _; walk_at "et")
  | ((with_reducible apply et_or); walk_at "et"; intro _; walk_at "et")
  | ((with_reducible apply et_not); walk_at "et"))
open Tx Wo
theorem runP_open {z : List Nat} {k : Nat} {p : Ps} (h : isOpen p.ms = true) : runP z (k + 1) p = match stepP z p with | .error e => .error e | .ok p' => runP z k p' := by
  rw [runP.eq_def]
  show (if isOpen p.ms = true then _ else _) = _
  rw [if_pos h]
  all_goals (cases stepP z p <;> rfl)
theorem Stk.some {K : PySem.W.Frag} {H : Hp} {r : Addr} {rs : List Addr} {ms : List (List PyData)} (h : Stk K H rs ms) (hr : r ∈ rs) : ∃ o, H r = some o := by
  induction h with
  | nil => cases hr
  | cons g1 _ _ _ ih =>
    rcases List.mem_cons.mp hr with rfl | hr
    · exact ⟨_, g1⟩
    · exact ih hr
theorem runP_shut {z : List Nat} {p : Ps} (h : isOpen p.ms = false) : ∀ k, runP z k p = .ok p
  | 0 => rfl
  | k + 1 => by
    rw [runP.eq_def]
    show (if isOpen p.ms = true then _ else _) = _
    rw [if_neg (by rw [h]; decide)]
theorem leafAt_leaf {z : List Nat} {a b : Nat} {d : PyData} (h : leafAt z a = .ok (d, b)) : (∀ (K : PySem.W.Frag) (H : Hp), Dp K H (leafV d) d) ∧ nl d = true := by
  unfold leafAt at h
  split at h
  · cases h
    exact ⟨fun _ _ => .non, rfl⟩
  · split at h
    · split at h
      · cases h
      · cases h
        exact ⟨fun _ _ => .int _, rfl⟩
    · split at h
      · split at h
        · cases h
        · cases h
          exact ⟨fun _ _ => .str _, rfl⟩
      · cases h
section
variable {σ : L2.St} {H : Hp} {ts : TA} {K : PySem.W.Frag} {D : Ends} {tz : TS}
theorem q_call {sp : Sp} {E : XK} {vs : List V} (ha : EvA ts σ H vs) (h : ∀ H1, Ex H H1 → sp vs H1 (fun _ H2 => tz D σ H2) E) : tSeq (tDrop (tCall sp [] E ts)) tz D σ H :=
  ha H (Ex.refl H) _ fun H1 e1 => by
    show sp (vs ++ []) H1 _ E
    rw [List.append_nil]
    exact h H1 e1
theorem q_asgLL {i : Nat} (k : ∀ r M, H r = none → upd H r (.lst []) M = none → tz D (σ.set i (some (.ref M))) (upd (upd H r (.lst [])) M (.lst [.ref r]))) : tSeq (tAsg (tLst (tCons (tLst tNil) tNil)) (gName i)) tz D σ H :=
  ⟨sz_of (by show 0 ≤ 100000; decide), fun r hr => ⟨sz_of (by show 1 ≤ 100000; decide), fun M hM => k r M hr hM⟩⟩
/-- members[0] -/
theorem ev_first {Mm r : Addr} {rs : List Addr} (h2 : σ[2]? = some (some (.ref Mm))) (hm : H Mm = some (.lst (refL rs))) (hl : rs.getLast? = some r) : Ev (tOp (rIxL K) (tVar 2) (tC (.int 0))) σ H (.ref r) :=
  ev_op (ev_var h2) (ev_is ev_c (show V.int 0 = V.int ((0 : Nat) : Int) from rfl)) (rv_ixL (sq_of hm) (atI_nat (j := 0) (by
    show (rs.reverse.map V.ref)[0]? = _
    rw [List.getElem?_map, ← List.head?_eq_getElem?, List.head?_reverse, hl]
    rfl)))
end
section
variable {P : Program} {w : World} {K : PySem.W.Frag} {mg : Str → Option Value} {base : Heap}
def spVal (K : PySem.W.Frag) (CT CP : Addr) : Sp := fun vs H Q E => ∃ v, vs = [v] ∧ Plain K H v ∧ (∀ s, v = .str s → s.length ≤ 100000) ∧ (textErr v = true → ∀ H', Ex H H' → E (.ref CT) none H') ∧ ∀ z, v = vS z → textErr v = false → match vOf z with
  | .error e => PErr CP e E H
  | .ok d => nl d = true → ∀ v H', Ex H H' → Dp K H' v d → Q v H'
theorem ok_value_of (T : Txt K mg w) : FnOk P w K mg base (L2N.CX P w) 6 T.a_value_of T.fd_value_of ["text"] (spVal K T.C_TE T.C_PE) := by
  have G_ParseError___init__ := ok_spot (P := P) (w := w) (base := base) T
  have G_need_text := ok_need_text (P := P) (w := w) (base := base) T
  have G_count_at := ok_count (P := P) (w := w) (base := base) T
  have G_leaf_at := ok_leaf (P := P) (w := w) (base := base) T
  refine T.F_value_of.okN sc_value_of (fun vs H Q E h => ?_) (fun cdv A outer s H vs Q E hr h => ?_)
  · obtain ⟨_, rfl, _⟩ := h; rfl
  obtain ⟨v, rfl, hp, hl, q2, h⟩ := h
  refine ⟨_, (pss_cons (ps_expr (pe_call G_need_text (hr.mono (by decide)) (by rfl) T.g_need_text T.F_need_text.kp T.b_need_text .nil (L2N.passes_call (W := fun cls d _ H => E cls d H) (L2N.takes_of rfl rfl rfl rfl) (fun _ _ _ _ h => h)) (pa_cons (pv 0) pa_nil)))
  (pss_cons (ps_set (i := 1) sc_value_of.nd rfl (.inl rfl) (pe_lst (pa_cons pe_int pa_nil)))
  (pss_cons (ps_set (i := 2) sc_value_of.nd rfl (.inl rfl) (pe_lst (pa_cons (pe_lst pa_nil) pa_nil)))
  (pss_cons (ps_set (i := 3) sc_value_of.nd rfl (.inl rfl) pe_int)
  (pss_cons (ps_while (passes_of rfl) (pt_cmpR op_eq (pe_callB c_len (by rfl) T.z_len PySem.boot_len (pa_cons (pe_ix ix_list (pv 2) pe_int (fun _ _ => rfl)) pa_nil)) pe_int (nomark _)) (pss_cons (ps_if (PW.pt (pw_and (pt_cmpR op_eq (pe_slice sl_str (pv 0) (po_some (pv 3)) (po_some (pe_op op_add (pv 3) pe_int))) pe_str (nomark _)) (pw_and1 (pt_cmpR op_le (pe_callB c_len (by rfl) T.z_len PySem.boot_len (pa_cons (pv 1) pa_nil)) (pe_glob (v := .int (200)) rfl T.g_MOST_DEEP ⟨_, rfl⟩) (nomark _))))) (pss_cons (ps_asg (pe_call G_count_at (hr.mono (by decide)) (by rfl) T.g_count_at T.F_count_at.kp T.b_count_at .nil (L2N.passes_call (W := fun cls d _ H => E cls d H) (L2N.takes_of rfl rfl rfl rfl) (fun _ _ _ _ h => h)) (pa_cons (pv 0) (pa_cons (pe_op op_add (pv 3) pe_int) (pa_cons (pe_glob (v := .int (2000)) rfl T.g_MOST_LONG ⟨_, rfl⟩) (pa_cons pe_str pa_nil))))) (pg_tup rfl (pgs_cons (pg_name (i := 4) sc_value_of.nd rfl (.inl rfl)) (pgs_cons (pg_name (i := 3) sc_value_of.nd rfl (.inl rfl)) pgs_nil))))
  (pss_cons (ps_expr (pe_bm PySem.F.plainAttrs_list PySem.F.slot_list_append PySem.F.type_list_append mt_append (pv 1) (pa_cons (pv 4) pa_nil)))
  (pss_one (ps_expr (pe_bm PySem.F.plainAttrs_list PySem.F.slot_list_append PySem.F.type_list_append mt_append (pv 2) (pa_cons (pe_lst pa_nil) pa_nil)))))) (pss_cons (ps_asg (pe_call G_leaf_at (hr.mono (by decide)) (by rfl) T.g_leaf_at T.F_leaf_at.kp T.b_leaf_at .nil (L2N.passes_call (W := fun cls d _ H => E cls d H) (L2N.takes_of rfl rfl rfl rfl) (fun _ _ _ _ h => h)) (pa_cons (pv 0) (pa_cons (pv 3) pa_nil))) (pg_tup rfl (pgs_cons (pg_name (i := 5) sc_value_of.nd rfl (.inl rfl)) (pgs_cons (pg_name (i := 3) sc_value_of.nd rfl (.inl rfl)) pgs_nil))))
  (pss_one (ps_expr (pe_bm PySem.F.plainAttrs_list PySem.F.slot_list_append PySem.F.type_list_append mt_append (pe_ix ix_list (pv 2) (pe_un un_neg pe_int) (fun _ _ => rfl)) (pa_cons (pv 5) pa_nil))))))
  (pss_one (ps_while (passes_of rfl) (PW.pt (pw_and (pt_cmpR op_gt (pe_callB c_len (by rfl) T.z_len PySem.boot_len (pa_cons (pv 1) pa_nil)) pe_int (nomark _)) (pw_and1 (pt_cmpR op_eq (pe_callB c_len (by rfl) T.z_len PySem.boot_len (pa_cons (pe_ix ix_list (pv 2) (pe_un un_neg pe_int) (fun _ _ => rfl)) pa_nil)) (pe_ix ix_list (pv 1) (pe_un un_neg pe_int) (fun _ _ => rfl)) (nomark _))))) (pss_cons (ps_expr (pe_bm0 PySem.F.plainAttrs_list PySem.F.slot_list_pop PySem.F.type_list_pop mt_pop (pv 1)))
  (pss_cons (ps_set (i := 6) sc_value_of.nd rfl (.inl rfl) (pe_callTy c_tupL (by rfl) T.z_tuple (by decide +kernel) (pa_cons (pe_bm0 PySem.F.plainAttrs_list PySem.F.slot_list_pop PySem.F.type_list_pop mt_pop (pv 2)) pa_nil)))
  (pss_one (ps_expr (pe_bm PySem.F.plainAttrs_list PySem.F.slot_list_append PySem.F.type_list_append mt_append (pe_ix ix_list (pv 2) (pe_un un_neg pe_int) (fun _ _ => rfl)) (pa_cons (pv 6) pa_nil))))))))))
  (pss_cons (ps_if (pt_cmpR op_lt (pv 3) (pe_callB call_len_str (by rfl) T.z_len PySem.boot_len (pa_cons (pv 0) pa_nil)) (nomark _)) (pss_one (L2N.ps_raise (W := fun cls d _ H => E cls d H) rfl (L2N.takes_of rfl rfl rfl rfl) (pmk_oexN T.o_PE T.i_PE T.t_PE G_ParseError___init__ (hr.mono (by decide)) T.b_ParseError___init__ .nil pass0 (by rfl) T.g_ParseError (pa_cons (pv 3) pa_nil)))) pss_nil)
  (pss_one (ps_ret (pe_ix ix_list (pe_ix ix_list (pv 2) pe_int (fun _ _ => rfl)) pe_int (fun _ _ => rfl)))))))))), ?_⟩
  cases ht : textErr v with
  | true => exact q_call (vs := [v]) (ea_cons (ev_var rfl) ea_nil) fun H1 e1 => ⟨v, rfl, hp.ex e1, hl, fun z => by (rw [ht] at z; cases z), fun _ H' e' => q2 ht H' (e1.trans e')⟩
  | false =>
  obtain ⟨z, rfl, _, hz, hlow⟩ := signs_of (v := v) (lo := 0) (hi := 20000) (by
    unfold textErr at ht
    simpa using ht)
  have hz : z.length ≤ 20000 := by omega
  have hz1 : z.length ≤ 100000 := by omega
  have h := h z rfl ht
  refine q_call (vs := [vS z]) (ea_cons (ev_var rfl) ea_nil) fun H0 e0 => ⟨vS z, rfl, pl_str, hl, fun _ H1 e1 => ?_, fun y => by (rw [ht] at y; cases y)⟩
  refine q_asgL (xs := [.int 1]) (el_lst (ea_cons ev_c ea_nil) (by show 1 ≤ 100000; decide)) fun Ln H2 hLn e2 hL2 => ?_
  refine q_asgLL fun r0 Mm hr0 hM => ?_
  have e02 := (e0.trans e1).trans e2
  have hrL : r0 ≠ Ln := fun y => by rw [y, hL2] at hr0; cases hr0
  have hML : Mm ≠ Ln := fun y => by rw [y, upd_ne (Ne.symm hrL), hL2] at hM; cases hM
  have hMr : Mm ≠ r0 := fun y => by rw [y, upd_same] at hM; cases hM
  have fr : ∀ {b : Addr}, H2 b = none → H b = none := fun {b} hb => by
    cases hH : H b with
    | none => rfl
    | some o => rw [e02 _ _ hH] at hb; cases hb
  have hL0 : H Ln = none := by
    cases hH : H Ln with
    | none => rfl
    | some o => rw [(e0.trans e1) _ _ hH] at hLn; cases hLn
  have p0 : PsAt K H (upd (upd H2 r0 (.lst [])) Mm (.lst [.ref r0])) Ln Mm [r0] [1] [[]] :=
    ⟨by rw [upd_ne (Ne.symm hML), upd_ne (Ne.symm hrL)]; exact hL2, upd_same, .cons (by rw [upd_ne (Ne.symm hMr)]; exact upd_same) .nil rfl .nil, Ne.symm hML, by simpa using Ne.symm hrL, by simpa using hMr, by simp, (e02.trans (Ex.new hr0)).trans (Ex.new hM), hL0, fr (by rw [upd_ne hMr] at hM; exact hM), fun x hx => by
      rw [List.mem_singleton.mp hx]
      exact fr hr0⟩
  generalize upd (upd H2 r0 (.lst [])) Mm (.lst [.ref r0]) = G0 at p0 ⊢
  refine q_asg (v := .int ((0 : Nat) : Int)) (ev_is ev_c rfl) fun H3 e3 => ?_
  refine q_while (fun n σ' H' => ∃ (ls : List Nat) (ms : List (List PyData)) (rs : List Addr) (a : Nat) (s4 s5 s6 : Option V), σ' = [some (vS z), some (.ref Ln), some (.ref Mm), some (.int (a : Nat)), s4, s5, s6] ∧ PsAt K H H' Ln Mm rs ls ms ∧ ls.length = ms.length ∧ 1 ≤ ls.length ∧ pot ls ms ≤ a + 1 ∧ a ≤ z.length ∧ z.length < a + n ∧ runP z n ⟨ls, ms, a⟩ = runP z (z.length + 1) ⟨[1], [[]], 0⟩) (z.length + 1) ⟨[1], [[]], [r0], 0, none, none, none, rfl, p0.ext e3, rfl, Nat.le_refl _, Nat.le_refl _, Nat.zero_le _, by omega, rfl⟩ ?_
  rintro n σ' H' ⟨ls, ms, rs, a, s4, s5, s6, rfl, hp', hlen, h1, hpot, ha, hn, hrun⟩
  obtain ⟨m0, hm0⟩ : ∃ m0, ms.getLast? = some m0 := by
    cases ms with
    | nil => rw [hlen] at h1; exact absurd h1 (by decide)
    | cons m mt => exact ⟨_, List.getLast?_eq_some_getLast (by simp)⟩
  obtain ⟨rf, vs0, hrl, hrf, hd0, hn0⟩ := hp'.st.last hm0
  have tsg : ∀ {H3 : Hp}, Ev (L2.tSl rSlS (tVar 0) (tPart (tVar 3)) (tPart (tOp (rI0 fun i j => V.int (i + j)) (tVar 3) (tC (.int 1))))) [some (vS z), some (.ref Ln), some (.ref Mm), some (.int (a : Nat)), s4, s5, s6] H3 (vS (sg z a)) := fun {H3} => ev_sg (ev_var rfl) (fun _ _ => ev_var rfl) (fun _ _ => ev_succ (ev_var rfl)) hz1
  refine ⟨isOpen ms, ?_, fun hb H4 e4 => ?_, fun hb H4 e4 => ?_⟩
  · refine et_is (et_test (ev_op (ev_cb (vs := [.ref rf]) (ea_cons (ev_first rfl hp'.mm hrl) ea_nil) (rc_lenL (sq_of hrf))) (ev_is ev_c (show V.int 0 = V.int ((0 : Nat) : Int) from rfl)) (rv_eq rfl))) ?_
    rw [dec_nat, dpa_len hd0]
    unfold isOpen
    rw [hm0]
    cases m0 with
    | nil => rfl
    | cons d ds => rfl
  · obtain ⟨n', rfl⟩ : ∃ n', n = n' + 1 := ⟨n - 1, by omega⟩
    rw [runP_open hb] at hrun
    refine ⟨fun σ2 H2 => ∃ m', m' < n' + 1 ∧ ∃ (ls : List Nat) (ms : List (List PyData)) (rs : List Addr) (a : Nat) (s4 s5 s6 : Option V), σ2 = [some (vS z), some (.ref Ln), some (.ref Mm), some (.int (a : Nat)), s4, s5, s6] ∧ PsAt K H H2 Ln Mm rs ls ms ∧ ls.length = ms.length ∧ 1 ≤ ls.length ∧ pot ls ms ≤ a + 1 ∧ a ≤ z.length ∧ z.length < a + m' ∧ runP z m' ⟨ls, ms, a⟩ = runP z (z.length + 1) ⟨[1], [[]], 0⟩, fun _ _ h => h, ?_⟩
    have hp4 := hp'.ext e4
    refine q_if (b := decide (sg z a = [116]) && decide (ls.length ≤ 200)) (et_and (et_sg s_t tsg) fun _ => et_is (et_test (ev_op (ev_cb (vs := [.ref Ln]) (by walk_at "ea") (rc_lenL (sq_of hp4.ln))) ev_c rv_I0)) (by rw [decide_eq_decide]; simp; omega)) (fun hb5 H5 e5 => ?_) fun hb5 H5 e5 => ?_
    · have hc5 : sg z a = [116] ∧ ls.length ≤ 200 := by simpa using hb5
      have hal := sg_lt hc5.1
      refine q_2call (vs := [vS z, .int ((a + 1 : Nat) : Int), .int ((2000 : Nat) : Int), vS [58]]) (ea_cons (ev_var rfl) (ea_cons (ev_succ (ev_var rfl)) (ea_cons (ev_is ev_c rfl) (ea_cons (ev_is ev_c s_colon) ea_nil)))) fun H6 e6 => ⟨z, a + 1, 2000, 58, rfl, ⟨hz, hlow⟩, by omega, ?_⟩
      have hp6 := hp4.ext (e5.trans e6)
      unfold stepP at hrun
      rw [if_pos hc5] at hrun
      cases hc : cnt z (a + 1) 2000 58 with
      | error e =>
        rw [hc] at hrun
        have hv : vOf z = .error e := by unfold vOf; rw [← hrun]
        rw [hv] at h
        exact PErr.ex hp6.ex h
      | ok rr =>
        obtain ⟨m, b⟩ := rr
        rw [hc] at hrun
        have hb6 := cnt_le (by omega) hc
        refine fun p H7 e7 hpp => g2_of hpp ?_
        have hp7 := hp6.ext e7
        refine Evl.q_app hp7.ln (ev_var rfl) (ev_var rfl) (by simp; unfold pot at hpot; omega) fun H8 e8 => ?_
        rw [← natL_cons]
        have hp8 := (hp7.ext e8).setLn (ls' := m :: ls)
        generalize upd H8 Ln (.lst (natL (m :: ls))) = G8 at hp8 ⊢
        refine s_appL hp8.mm (ev_var rfl) (el_lst ea_nil (by show 0 ≤ 100000; decide)) (by have := hp8.st.len; simp; unfold pot at hpot; omega) fun r H9 hr9 e9 h9 => ?_
        rw [← refL_cons]
        have nn : ∀ {b : Addr} {o : HO}, G8 b = some o → r ≠ b := fun {b o} hb y => by rw [y, hb] at hr9; cases hr9
        have hr0' : H r = none := by
          cases hH : H r with
          | none => rfl
          | some o => rw [hp8.ex _ _ hH] at hr9; cases hr9
        have nrs : r ∉ rs := fun hm => by
          obtain ⟨o, ho⟩ := hp8.st.some hm
          rw [ho] at hr9
          cases hr9
        have hp9 := (hp8.ext e9).push hr0' h9 (nn hp8.ln) (nn hp8.mm) nrs
        refine close_loop hp9 (by simpa using hlen) (by simp) (by unfold pot at hpot ⊢; simp; omega) fun rs' s6' H10 hp10 => ?_
        have hcl := len_close (m :: ls) ([] :: ms) (by simpa using hlen) (by simp)
        exact ⟨n', by omega, _, _, rs', b, _, _, _, rfl, hp10, hcl.1, hcl.2, by
          have := pot_close (m :: ls) ([] :: ms)
          unfold pot at hpot ⊢
          simp only [List.length_cons, List.map_cons, List.sum_cons, List.length_nil] at this
          omega, hb6.2, by omega, hrun⟩
    · have hc5 : ¬ (sg z a = [116] ∧ ls.length ≤ 200) := by simpa using hb5
      refine q_2call (vs := [vS z, .int (a : Nat)]) (ea_cons (ev_var rfl) (ea_cons (ev_var rfl) ea_nil)) fun H6 e6 => ⟨z, a, rfl, ⟨hz, hlow⟩, ha, ?_⟩
      have hp6 := hp4.ext (e5.trans e6)
      unfold stepP at hrun
      rw [if_neg hc5] at hrun
      cases hc : leafAt z a with
      | error e =>
        rw [hc] at hrun
        have hv : vOf z = .error e := by unfold vOf; rw [← hrun]
        rw [hv] at h
        exact PErr.ex hp6.ex h
      | ok rr =>
        obtain ⟨d, b⟩ := rr
        rw [hc] at hrun
        have hb6 := leafAt_le hc
        obtain ⟨hld, hln⟩ := leafAt_leaf hc
        refine fun p H7 e7 hpp => g2_of hpp ?_
        have hp7 := hp6.ext e7
        match ms, rs, hp7, hlen, hpot, hrun, h1 with
        | [], _, _, hlen, _, _, h1 => rw [hlen] at h1; exact absurd h1 (by decide)
        | _ :: _, [], hp7, _, _, _, _ => cases hp7.st
        | m :: mt, r :: rt, hp7, hlen, hpot, hrun, h1 =>
          obtain ⟨vs, hr7, _, _, hvl⟩ := hp7.top
          refine s_app hr7 (ev_top rfl hp7.mm) (ev_var rfl) (by
            rw [hvl]
            unfold pot at hpot
            simp only [List.map_cons, List.sum_cons] at hpot
            omega) fun H8 e8 => ?_
          have hp9 := (hp7.ext e8).add (d := d) (v := leafV d) (e8 _ _ hr7) (hld K _) hln
          refine close_loop hp9 (by simpa using hlen) h1 (by
            unfold pot at hpot ⊢
            simp only [List.map_cons, List.sum_cons, List.length_append, List.length_cons, List.length_nil] at hpot ⊢
            omega) fun rs' s6' H10 hp10 => ?_
          have hcl := len_close ls ((m ++ [d]) :: mt) (by simpa using hlen) h1
          exact ⟨n', by omega, _, _, rs', b, _, _, _, rfl, hp10, hcl.1, hcl.2, by
            have := pot_close ls ((m ++ [d]) :: mt)
            unfold pot at hpot ⊢
            simp only [List.length_cons, List.map_cons, List.sum_cons, List.length_append, List.length_nil] at this hpot
            omega, hb6.2, by omega, hrun⟩
  · have hR : runP z (z.length + 1) ⟨[1], [[]], 0⟩ = .ok ⟨ls, ms, a⟩ := by rw [← hrun]; exact runP_shut hb n
    have hv : vOf z = if a < z.length then .error a else match ms.getLast? with | some (d :: _) => .ok d | _ => .ok .none := by
      unfold vOf
      rw [hR]
      all_goals
        show (if a < z.length then _ else _) = _
        by_cases hq : a < z.length
        · rw [if_pos hq, if_pos hq]
        · rw [if_neg hq, if_neg hq]
          show (match ms.getLast? with | some (d :: _) => _ | _ => _) = _
          cases ms.getLast? with
          | none => rfl
          | some m => cases m <;> rfl
    rw [hv] at h
    have hp4 := hp'.ext e4
    refine q_when (b := decide (a < z.length)) (et_is (et_test (ev_op (ev_var rfl) (ev_cb (vs := [vS z]) (by walk_at "ea") (rc_lenV hz1)) rv_I0)) (by rw [decide_eq_decide]; omega)) (fun hb5 H5 e5 => ?_) fun hb5 H5 e5 => ?_
    · rw [if_pos (of_decide_eq_true hb5)] at h
      exact mk_spot (n := a) (ea_cons (ev_var rfl) ea_nil) (PErr.ex (hp4.ex.trans e5) h)
    · rw [if_neg (of_decide_eq_false hb5), hm0] at h
      have hp5 := hp4.ext e5
      cases m0 with
      | nil => unfold isOpen at hb; rw [hm0] at hb; cases hb
      | cons d ds =>
        cases hd0 with
        | @cons v0 vs1 _ _ g1 g2 =>
          exact s_ret (v := v0) (ev_op (ev_first rfl hp5.mm hrl) (ev_is ev_c (show V.int 0 = V.int ((0 : Nat) : Int) from rfl)) (rv_ixL (sq_of ((e4.trans e5) _ _ hrf)) (atI_nat (j := 0) rfl))) fun H6 e6 => h (by have hn0 : (nl d && nls ds) = true := hn0; rw [Bool.and_eq_true] at hn0; exact hn0.1) v0 H6 (hp5.ex.trans e6) (dp_ex ((e4.trans e5).trans e6) g1)
end
end Kz
set_option Elab.async false
set_option linter.all false
set_option maxRecDepth 100000
set_option maxHeartbeats 4000000
set_option exponentiation.threshold 500
namespace Kz
open PySem PySem.Spec PyProof.Rows L2 Evl Vr
local macro_rules | `(tactic| walk_at "sc") => `(tactic| first | (with_reducible assumption) | (with_reducible exact sc_mul (by omega)) | (with_reducible exact sc_mulr (by omega)) | (with_reducible exact sc_div (by omega) (by decide)) | (show (0 : Int) < _; omega) | (show _ ≠ (0 : Int); omega) | (with_reducible rfl) | decide)
local macro_rules | `(tactic| walk_at "sq") => `(tactic| first | assumption | exact sq_of (by assumption) | exact st_of (by assumption))
local macro_rules | `(tactic| walk_at "pl") => `(tactic| first | assumption | exact pl_int | exact pl_bl | exact pl_str | exact pl_non | exact pl_lst (by assumption) | exact pl_tup (by assumption) | exact pl_dK (by assumption))
local macro_rules | `(tactic| walk_at "rv") => `(tactic| first
  | with_reducible exact rv_I0
  | with_reducible exact ru_neg
  | ((with_reducible apply rv_I); walk_at "sc")
  | ((with_reducible apply rv_ixL); walk_at "sq"; first | rfl | assumption)
  | ((with_reducible apply rv_ixT); walk_at "sq"; first | rfl | assumption)
  | ((with_reducible apply rv_eq); rfl) | ((with_reducible apply rv_ne); rfl))
local macro_rules | `(tactic| walk_at "rc") => `(tactic| first
  | with_reducible exact rc_I1 | with_reducible exact rc_B1 | with_reducible exact rc_I2 | ((with_reducible apply rc_repr); walk_at "sc") | ((with_reducible apply rc_lenL); walk_at "sq")
  | ((with_reducible apply rc_isiInt); walk_at "pl") | ((with_reducible apply rc_isiBool); walk_at "pl"))
local macro_rules | `(tactic| walk_at "ea") => `(tactic| first
  | with_reducible exact ea_nil | ((with_reducible apply ea_cons); walk_at "ev"; walk_at "ea"))
local macro_rules | `(tactic| walk_at "pow") => `(tactic| first
  | with_reducible exact ev_pow (a := 10) (b := 9) (c := 1000000000) (by decide +kernel) (by decide +kernel)
  | with_reducible exact ev_pow (a := 10) (b := 10) (c := 10000000000) (by decide +kernel) (by decide +kernel)
  | with_reducible exact ev_pow (a := 10) (b := 12) (c := 1000000000000) (by decide +kernel) (by decide +kernel)
  | with_reducible exact ev_pow (a := 10) (b := 17) (c := 100000000000000000) (by decide +kernel) (by decide +kernel)
  | with_reducible exact ev_pow (a := 10) (b := 20) (c := 100000000000000000000) (by decide +kernel) (by decide +kernel)
  | with_reducible exact ev_pow (a := 10) (b := 29) (c := 100000000000000000000000000000) (by decide +kernel) (by decide +kernel)
  | with_reducible exact ev_pow (a := 10) (b := 30) (c := 1000000000000000000000000000000) (by decide +kernel) (by decide +kernel)
  | with_reducible exact ev_pow (a := 10) (b := 40) (c := 10000000000000000000000000000000000000000) (by decide +kernel) (by decide +kernel)
  | with_reducible exact ev_pow (a := 10) (b := 57) (c := 1000000000000000000000000000000000000000000000000000000000) (by decide +kernel) (by decide +kernel)
  | with_reducible exact ev_pow (a := 10) (b := 58) (c := 10000000000000000000000000000000000000000000000000000000000) (by decide +kernel) (by decide +kernel)
  | with_reducible exact ev_pow (a := 10) (b := 59) (c := 100000000000000000000000000000000000000000000000000000000000) (by decide +kernel) (by decide +kernel)
  | with_reducible exact ev_pow (a := 10) (b := 60) (c := 1000000000000000000000000000000000000000000000000000000000000) (by decide +kernel) (by decide +kernel))
local macro_rules | `(tactic| walk_at "call") => `(tactic| (intro H9 e9; first | exact ⟨_, rfl, rfl⟩ | exact ⟨_, _, rfl, rfl⟩ | exact ⟨_, _, _, rfl, rfl⟩ | exact ⟨_, rfl, by walk_at "pl", rfl⟩ | (refine ⟨_, _, _, rfl, ?_, rfl⟩; first | exact Plain.ex e9 (by assumption) | walk_at "pl") | (refine ⟨_, rfl, ?_, rfl⟩; first | exact Plain.ex e9 (by assumption) | walk_at "pl")))
local macro_rules | `(tactic| walk_at "ev") => `(tactic| first
  | with_reducible exact ev_c
  | exact ev_var rfl
  | walk_at "pow"
  | ((with_reducible apply ev_op); walk_at "ev"; walk_at "ev"; walk_at "rv")
  | ((with_reducible apply ev_un); walk_at "ev"; walk_at "rv")
  | ((with_reducible apply ev_cb); walk_at "ea"; walk_at "rc")
  | ((with_reducible apply ev_callP); walk_at "ea"; walk_at "call")
  | ((with_reducible apply ev_chain); walk_at "ev"; walk_at "ev"; walk_at "rv"; walk_at "ev"; walk_at "rv")
  | ((with_reducible apply ev_andV); walk_at "ev"; intro _; walk_at "ev")
  | ((with_reducible apply ev_orV); walk_at "ev"; intro _; walk_at "ev")
  | ((with_reducible apply ev_ite); walk_at "et"; intro _; walk_at "ev"; intro _; walk_at "ev")
  | ((with_reducible apply ev_notV); walk_at "ev"))
local macro_rules | `(tactic| walk_at "et") => `(tactic| first
  | ((with_reducible apply et_test); walk_at "ev")
  | ((with_reducible apply et_B); walk_at "ev")
  | ((with_reducible apply et_and); walk_at "et"; intro _; walk_at "et")
  | ((with_reducible apply et_or); walk_at "et"; intro _; walk_at "et")
  | ((with_reducible apply et_not); walk_at "et"))
open Tx Wo
/-! ### data of any kind -/
mutual
inductive Da (K : PySem.W.Frag) (H : Hp) : V → PyData → Prop
  | non : Da K H .non .none
  | bl (b : Bool) : Da K H (.bl b) (.bool b)
  | int (i : Int) : Da K H (.int i) (.int i)
  | str (x : Str) : Da K H (.str x) (.str x)
  | lst {a : Addr} {xs : List V} {ds : List PyData} : H a = some (.lst xs) → DaAll K H xs ds → Da K H (.ref a) (.list ds)
  | tup {a : Addr} {xs : List V} {ds : List PyData} : SqT K H a xs → DaAll K H xs ds → Da K H (.ref a) (.tuple ds)
  | dic {a : Addr} : H a = some (.dK []) → Da K H (.ref a) (.dict [])
inductive DaAll (K : PySem.W.Frag) (H : Hp) : List V → List PyData → Prop
  | nil : DaAll K H [] []
  | cons {v : V} {vs : List V} {d : PyData} {ds : List PyData} : Da K H v d → DaAll K H vs ds → DaAll K H (v :: vs) (d :: ds)
end
mutual
/-- data without dicts -/
def nd : PyData → Bool
  | .dict _ => false
  | .list ds => nds ds
  | .tuple ds => nds ds
  | _ => true
def nds : List PyData → Bool
  | [] => true
  | d :: ds => nd d && nds ds
end
def isTupD : PyData → Bool
  | .tuple _ => true
  | _ => false
section
variable {K : PySem.W.Frag} {H H' : Hp}
mutual
theorem da_ex (e : Ex H H') : ∀ (d : PyData) (x : V), Da K H x d → Da K H' x d
  | .none, _, h => by cases h; exact .non
  | .bool b, _, h => by cases h; exact .bl b
  | .int i, _, h => by cases h; exact .int i
  | .str x, _, h => by cases h; exact .str x
  | .list ds, _, h => by cases h with | lst h1 h2 => exact .lst (e _ _ h1) (daa_ex e ds _ h2)
  | .tuple ds, _, h => by cases h with | tup h1 h2 => exact .tup (ex_t e h1) (daa_ex e ds _ h2)
  | .dict _, _, h => by cases h with | dic h1 => exact .dic (e _ _ h1)
theorem daa_ex (e : Ex H H') : ∀ (ds : List PyData) (xs : List V), DaAll K H xs ds → DaAll K H' xs ds
  | [], _, h => by cases h; exact .nil
  | d :: ds, _, h => by cases h with | cons h1 h2 => exact .cons (da_ex e d _ h1) (daa_ex e ds _ h2)
end
mutual
theorem da_dp : ∀ (d : PyData) (x : V), nd d = true → Da K H x d → Dp K H x d
  | .none, _, _, h => by cases h; exact .non
  | .bool b, _, _, h => by cases h; exact .bl b
  | .int i, _, _, h => by cases h; exact .int i
  | .str x, _, _, h => by cases h; exact .str x
  | .list ds, _, n, h => by cases h with | lst h1 h2 => exact .lst (sq_of h1) (daa_dp ds _ n h2)
  | .tuple ds, _, n, h => by cases h with | tup h1 h2 => exact .tup h1 (daa_dp ds _ n h2)
  | .dict _, _, n, h => by cases n
theorem daa_dp : ∀ (ds : List PyData) (xs : List V), nds ds = true → DaAll K H xs ds → DpAll K H xs ds
  | [], _, _, h => by cases h; exact .nil
  | d :: ds, _, n, h => by
    have n : (nd d && nds ds) = true := n
    rw [Bool.and_eq_true] at n
    cases h with | cons h1 h2 => exact .cons (da_dp d _ n.1 h1) (daa_dp ds _ n.2 h2)
end
mutual
theorem dp_da : ∀ (d : PyData) (x : V), nl d = true → Dp K H x d → Da K H x d
  | .none, _, _, h => by cases h; exact .non
  | .bool b, _, _, h => by cases h; exact .bl b
  | .int i, _, _, h => by cases h; exact .int i
  | .str x, _, _, h => by cases h; exact .str x
  | .list ds, _, n, _ => by cases n
  | .tuple ds, _, n, h => by cases h with | tup h1 h2 => exact .tup h1 (dpa_daa ds _ n h2)
  | .dict _, _, n, _ => by cases n
theorem dpa_daa : ∀ (ds : List PyData) (xs : List V), nls ds = true → DpAll K H xs ds → DaAll K H xs ds
  | [], _, _, h => by cases h; exact .nil
  | d :: ds, _, n, h => by
    have n : (nl d && nls ds) = true := n
    rw [Bool.and_eq_true] at n
    cases h with | cons h1 h2 => exact .cons (dp_da d _ n.1 h1) (dpa_daa ds _ n.2 h2)
end
variable {v : V} {d : PyData}
theorem tyx_tup {a : Addr} {xs : List V} (h : SqT K H a xs) : TyX K H (.ref a) (.type "tuple") := by
  rcases h with h | ⟨o, its, n, h1, h2, _⟩
  · rcases h with h | ⟨d, h⟩
    · exact .base (.tup h)
    · exact .fTuple h
  · exact .kTuple h1 h2
theorem Da.pl (h : Da K H v d) : Plain K H v := by
  cases h with
  | non => exact pl_non
  | bl b => exact pl_bl
  | int i => exact pl_int
  | str x => exact pl_str
  | lst h _ => exact pl_lst h
  | tup h _ => exact ⟨_, tyx_tup h⟩
  | dic h => exact pl_dK h
theorem Da.isTup (h : Da K H v d) : RC (rIsi K) [v, .ty "tuple"] H (.bl (isTupD d)) := fun H1 e Q q => by
  have h0 := da_ex e _ _ h
  clear h
  cases h0 with
  | non => exact ⟨_, .ty "tuple", _, .type "tuple", false, rfl, .ty _, .base .non, kit_ty (r := false) (by decide +kernel), q H1 (Ex.refl H1)⟩
  | bl b => exact ⟨_, .ty "tuple", _, .type "tuple", false, rfl, .ty _, .base (.bl b), kit_ty (r := false) (by decide +kernel), q H1 (Ex.refl H1)⟩
  | int i => exact ⟨_, .ty "tuple", _, .type "tuple", false, rfl, .ty _, .base (.int i), kit_ty (r := false) (by decide +kernel), q H1 (Ex.refl H1)⟩
  | str x => exact ⟨_, .ty "tuple", _, .type "tuple", false, rfl, .ty _, .base (.str x), kit_ty (r := false) (by decide +kernel), q H1 (Ex.refl H1)⟩
  | lst h _ => exact ⟨_, .ty "tuple", _, .type "tuple", false, rfl, .ty _, .base (.lst h), kit_ty (r := false) (by decide +kernel), q H1 (Ex.refl H1)⟩
  | tup h _ => exact ⟨_, .ty "tuple", _, .type "tuple", true, rfl, .ty _, tyx_tup h, kit_ty (r := true) (by decide +kernel), q H1 (Ex.refl H1)⟩
  | dic h => exact ⟨_, .ty "tuple", _, .type "tuple", false, rfl, .ty _, .base (.dK h), kit_ty (r := false) (by decide +kernel), q H1 (Ex.refl H1)⟩
theorem DaAll.len : ∀ {xs : List V} {ds : List PyData}, DaAll K H xs ds → xs.length = ds.length
  | [], _, h => by cases h; rfl
  | _ :: _, _, h => by cases h with | cons _ h2 => rw [List.length_cons, List.length_cons, h2.len]
theorem DaAll.at : ∀ {xs : List V} {ds : List PyData}, DaAll K H xs ds → ∀ {i : Nat} {x : V}, xs[i]? = some x → ∃ d, ds[i]? = some d ∧ Da K H x d
  | [], _, _, i, x, hx => by cases hx
  | _ :: _, _, h, i, x, hx => by
    cases h with
    | cons h1 h2 =>
      cases i with
      | zero => cases hx; exact ⟨_, rfl, h1⟩
      | succ i => exact h2.at hx
end
section
variable {K : PySem.W.Frag} {H : Hp}
theorem DaAll.unc {x : V} {xs : List V} {ds : List PyData} (h : DaAll K H (x :: xs) ds) : ∃ d ds', ds = d :: ds' ∧ Da K H x d ∧ DaAll K H xs ds' := by
  cases h with
  | cons h1 h2 => exact ⟨_, _, rfl, h1, h2⟩
theorem DaAll.unn {ds : List PyData} (h : DaAll K H [] ds) : ds = [] := by cases h; rfl
end
theorem nt {a : Bool} (h : (!a) = true) : a = false := by cases a <;> first | rfl | cases h
theorem nf {a : Bool} (h : (!a) = false) : a = true := by cases a <;> first | rfl | cases h
theorem list4 {α : Type} {xs : List α} (h : xs.length = 4) : ∃ a b c d, xs = [a, b, c, d] := by
  match xs, h with
  | [a, b, c, d], _ => exact ⟨a, b, c, d, rfl⟩
theorem list5 {α : Type} {xs : List α} (h : xs.length = 5) : ∃ a b c d e, xs = [a, b, c, d, e] := by
  match xs, h with
  | [a, b, c, d, e], _ => exact ⟨a, b, c, d, e, rfl⟩
theorem list6 {α : Type} {xs : List α} (h : xs.length = 6) : ∃ a b c d e f, xs = [a, b, c, d, e, f] := by
  match xs, h with
  | [a, b, c, d, e, f], _ => exact ⟨a, b, c, d, e, f, rfl⟩
theorem list3 {α : Type} {xs : List α} (h : xs.length = 3) : ∃ a b c, xs = [a, b, c] := by
  match xs, h with
  | [a, b, c], _ => exact ⟨a, b, c, rfl⟩
/-! ### what is judged, of data -/
def isWholeV (v : V) : Bool := match v with
  | .int n => isIntV (.int n) && decide (0 ≤ n)
  | _ => false
def wholeD : PyData → Bool
  | .int n => isWholeV (.int n)
  | _ => false
def withinD (lo hi : Int) : PyData → Bool
  | .int n => isWithin lo hi (.int n)
  | _ => false
def signsD (lo hi : Int) : PyData → Bool
  | .str z => hasSigns lo hi (.str z)
  | _ => false
def tupD : PyData → List PyData
  | .tuple l => l
  | _ => []
def jointD (d : PyData) : Bool := isTupD d && ((decide (1 ≤ (tupD d).length) && decide ((tupD d).length ≤ 4)) && (tupD d).all (withinD (-1) 127))
def keysD : List PyData → Bool
  | [_, _, f, ws, pr] => (wholeD f && withinD 0 (999999937 - 1) pr) && (isTupD ws && (decide ((tupD ws).length ≤ 20) && (tupD ws).all (withinD 0 63)))
  | _ => false
def rowsD : List PyData → Bool
  | [_, _, f, es] => (wholeD f && (isTupD es && decide ((tupD es).length ≤ 32))) && (tupD es).all fun j => jointD j && decide ((tupD j).length = (tupD ((tupD es).getD 0 .none)).length)
  | _ => false
def intD : PyData → Int
  | .int m => m
  | _ => 0
def pieceD : List PyData → Bool
  | [_, _, t, i, m, z] => (wholeD t && (withinD 1 100 m && withinD 0 (intD m - 1) i)) && signsD 1 200 z
  | _ => false
def wordD : List PyData → Bool
  | [_, _, .str z] => inV (.str z) [.str "come", .str "go"]
  | _ => false
def formD (n : Str) (l : List PyData) : Bool := if n = "keys" then keysD l else if n = "rows" then rowsD l else if n = "piece" then pieceD l else if n = "word" then wordD l else false
def letD : PyData → Bool
  | .tuple (.str n :: s :: r) => withinD 1 5 s && formD n (.str n :: s :: r)
  | _ => false
/-- values that can be judged: their first member is a known name, what stands in rows has a length where it is asked for -/
def rowsSafe : List PyData → Bool
  | [_, _, _, .tuple (j :: l)] => isTupD j || (j :: l).all fun j => !jointD j
  | _ => true
def pieceSafe : List PyData → Bool
  | [_, _, _, _, _, .str z] => decide (z.length ≤ 100000)
  | _ => true
def safeD : PyData → Bool
  | .tuple (.str n :: s :: r) => (n == "keys" || (n == "rows" || (n == "piece" || (n == "word" || n == "print")))) && (rowsSafe (.str n :: s :: r) && pieceSafe (.str n :: s :: r)) && decide (r.length ≤ 1000)
  | .tuple l => decide (l.length ≤ 1000)
  | _ => true
section
variable {K : PySem.W.Frag} {H : Hp} {v : V} {d : PyData}
theorem Da.whole (h : Da K H v d) : isWholeV v = wholeD d := by cases h <;> rfl
theorem Da.within {lo hi : Int} (h : Da K H v d) : isWithin lo hi v = withinD lo hi d := by cases h <;> rfl
theorem Da.signs {lo hi : Int} (h : Da K H v d) : hasSigns lo hi v = signsD lo hi d := by cases h <;> rfl
theorem Da.tupE (h : Da K H v d) (ht : isTupD d = true) : ∃ r xs, v = .ref r ∧ SqT K H r xs ∧ DaAll K H xs (tupD d) := by
  cases h with
  | tup h1 h2 => exact ⟨_, _, rfl, h1, h2⟩
  | _ => cases ht
variable {σ : L2.St} {tl te : TE} {p : Addr}
/-- all([.. for x in tuple]) of data -/
theorem ev_allD {xs : List V} {ds : List PyData} {j : Nat} {vs : List Nat} (g : PyData → Bool) (h : Ev tl σ H (.ref p)) (hT : SqT K H p xs) (hd : DaAll K H xs ds) (hz : xs.length ≤ 40000) (hw : ∀ x, wipe ((wipe σ vs).set j (some x)) vs = wipe σ vs)
    (he : ∀ (i : Nat) (x : V) (d : PyData) H1, Ex H H1 → xs[i]? = some x → ds[i]? = some d → Da K H1 x d → Ev te ((wipe σ vs).set j (some x)) H1 (.bl (g d))) : Ev (tCB (rAll K) (tCons (tLc (iTup K tl) (gName j) tYes te vs) tNil)) σ H (.bl (ds.all g)) := by
  have hl := hd.len
  have key : EvL (tLc (iTup K tl) (gName j) tYes te vs) σ H ((ds.map g).map V.bl) := by
    have e : given xs.length (fun _ => true) (fun i => V.bl (g (ds.getD i .none))) = (ds.map g).map V.bl := by
      rw [hl, given_yes_map ds .none (fun d => V.bl (g d)), List.map_map]
      rfl
    rw [← e]
    refine el_lcT (fun _ => true) _ h hT hz hw (fun i x H1 e1 hx => et_yes) fun i x H1 e1 hx _ => ?_
    obtain ⟨d, hdi, hda⟩ := hd.at hx
    have : ds.getD i .none = d := by rw [List.getD_eq_getElem?_getD, hdi]; rfl
    rw [this]
    exact he i x d H1 e1 hx hdi (da_ex e1 _ _ hda)
  refine ev_is (ev_allN key) ?_
  rw [List.all_map]
  rfl
end
end Kz
set_option Elab.async false
set_option linter.all false
set_option maxRecDepth 100000
set_option maxHeartbeats 4000000
set_option exponentiation.threshold 500
namespace Kz
open PySem PySem.Spec PyProof.Rows L2 Evl Vr
local macro_rules | `(tactic| walk_at "sc") => `(tactic| first | (with_reducible assumption) | (with_reducible exact sc_mul (by omega)) | (with_reducible exact sc_mulr (by omega)) | (with_reducible exact sc_div (by omega) (by decide)) | (show (0 : Int) < _; omega) | (show _ ≠ (0 : Int); omega) | (with_reducible rfl) | decide)
local macro_rules | `(tactic| walk_at "sq") => `(tactic| first | assumption | exact sq_of (by assumption) | exact st_of (by assumption))
local macro_rules | `(tactic| walk_at "pl") => `(tactic| first | assumption | exact pl_int | exact pl_bl | exact pl_str | exact pl_non | exact pl_lst (by assumption) | exact pl_tup (by assumption) | exact pl_dK (by assumption))
local macro_rules | `(tactic| walk_at "rv") => `(tactic| first
  | with_reducible exact rv_I0
  | with_reducible exact ru_neg
  | ((with_reducible apply rv_I); walk_at "sc")
  | ((with_reducible apply rv_ixL); walk_at "sq"; first | rfl | assumption)
  | ((with_reducible apply rv_ixT); walk_at "sq"; first | rfl | assumption)
  | ((with_reducible apply rv_eq); rfl) | ((with_reducible apply rv_ne); rfl))
local macro_rules | `(tactic| walk_at "rc") => `(tactic| first
  | with_reducible exact rc_I1 | with_reducible exact rc_B1 | with_reducible exact rc_I2 | ((with_reducible apply rc_repr); walk_at "sc") | ((with_reducible apply rc_lenL); walk_at "sq")
  | ((with_reducible apply rc_isiInt); walk_at "pl") | ((with_reducible apply rc_isiBool); walk_at "pl"))
local macro_rules | `(tactic| walk_at "ea") => `(tactic| first
  | with_reducible exact ea_nil | ((with_reducible apply ea_cons); walk_at "ev"; walk_at "ea"))
local macro_rules | `(tactic| walk_at "pow") => `(tactic| first
  | with_reducible exact ev_pow (a := 10) (b := 9) (c := 1000000000) (by decide +kernel) (by decide +kernel)
  | with_reducible exact ev_pow (a := 10) (b := 10) (c := 10000000000) (by decide +kernel) (by decide +kernel)
  | with_reducible exact ev_pow (a := 10) (b := 12) (c := 1000000000000) (by decide +kernel) (by decide +kernel)
  | with_reducible exact ev_pow (a := 10) (b := 17) (c := 100000000000000000) (by decide +kernel) (by decide +kernel)
  | with_reducible exact ev_pow (a := 10) (b := 20) (c := 100000000000000000000) (by decide +kernel) (by decide +kernel)
  | with_reducible exact ev_pow (a := 10) (b := 29) (c := 100000000000000000000000000000) (by decide +kernel) (by decide +kernel)
  | with_reducible exact ev_pow (a := 10) (b := 30) (c := 1000000000000000000000000000000) (by decide +kernel) (by decide +kernel)
  | with_reducible exact ev_pow (a := 10) (b := 40) (c := 10000000000000000000000000000000000000000) (by decide +kernel) (by decide +kernel)
  | with_reducible exact ev_pow (a := 10) (b := 57) (c := 1000000000000000000000000000000000000000000000000000000000) (by decide +kernel) (by decide +kernel)
  | with_reducible exact ev_pow (a := 10) (b := 58) (c := 10000000000000000000000000000000000000000000000000000000000) (by decide +kernel) (by decide +kernel)
  | with_reducible exact ev_pow (a := 10) (b := 59) (c := 100000000000000000000000000000000000000000000000000000000000) (by decide +kernel) (by decide +kernel)
  | with_reducible exact ev_pow (a := 10) (b := 60) (c := 1000000000000000000000000000000000000000000000000000000000000) (by decide +kernel) (by decide +kernel))
local macro_rules | `(tactic| walk_at "call") => `(tactic| (intro H9 e9; first | exact ⟨_, rfl, rfl⟩ | exact ⟨_, _, rfl, rfl⟩ | exact ⟨_, _, _, rfl, rfl⟩ | exact ⟨_, rfl, by walk_at "pl", rfl⟩ | (refine ⟨_, _, _, rfl, ?_, rfl⟩; first | exact Plain.ex e9 (by assumption) | walk_at "pl") | (refine ⟨_, rfl, ?_, rfl⟩; first | exact Plain.ex e9 (by assumption) | walk_at "pl")))
local macro_rules | `(tactic| walk_at "ev") => `(tactic| first
  | with_reducible exact ev_c
  | exact ev_var rfl
  | walk_at "pow"
  | ((with_reducible apply ev_op); walk_at "ev"; walk_at "ev"; walk_at "rv")
  | ((with_reducible apply ev_un); walk_at "ev"; walk_at "rv")
  | ((with_reducible apply ev_cb); walk_at "ea"; walk_at "rc")
  | ((with_reducible apply ev_callP); walk_at "ea"; walk_at "call")
  | ((with_reducible apply ev_chain); walk_at "ev"; walk_at "ev"; walk_at "rv"; walk_at "ev"; walk_at "rv")
  | ((with_reducible apply ev_andV); walk_at "ev"; intro _; walk_at "ev")
  | ((with_reducible apply ev_orV); walk_at "ev"; intro _; walk_at "ev")
  | ((with_reducible apply ev_ite); walk_at "et"; intro _; walk_at "ev"; intro _; walk_at "ev")
  | ((with_reducible apply ev_notV); walk_at "ev"))
local macro_rules | `(tactic| walk_at "et") => `(tactic| first
  | ((with_reducible apply et_test); walk_at "ev")
  | ((with_reducible apply et_B); walk_at "ev")
  | ((with_reducible apply et_and); walk_at "et"; intro _; walk_at "et")
  | ((with_reducible apply et_or); walk_at "et"; intro _; walk_at "et")
  | ((with_reducible apply et_not); walk_at "et"))
open Tx Wo
section
variable {σ : L2.St} {H : Hp} {te tl : TE} {K : PySem.W.Frag} {tz : TS} {D : Ends} {p : Addr}
theorem q_asg5T {i1 i2 i3 i4 i5 : Nat} {v1 v2 v3 v4 v5 : V} (h : Ev te σ H (.ref p)) (hT : SqT K H p [v1, v2, v3, v4, v5]) (k : ∀ H1, Ex H H1 → tz D (((((σ.set i1 (some v1)).set i2 (some v2)).set i3 (some v3)).set i4 (some v4)).set i5 (some v5)) H1) : tSeq (tAsg te (gTup K 5 (gCons (gName i1) (gCons (gName i2) (gCons (gName i3) (gCons (gName i4) (gCons (gName i5) gNil))))))) tz D σ H :=
  h H (Ex.refl H) _ fun H1 e1 => ⟨p, _, rfl, ex_t e1 hT, rfl, _, _, rfl, _, _, rfl, _, _, rfl, _, _, rfl, _, _, rfl, rfl, k H1 e1⟩
theorem q_asg6T {i1 i2 i3 i4 i5 i6 : Nat} {v1 v2 v3 v4 v5 v6 : V} (h : Ev te σ H (.ref p)) (hT : SqT K H p [v1, v2, v3, v4, v5, v6]) (k : ∀ H1, Ex H H1 → tz D ((((((σ.set i1 (some v1)).set i2 (some v2)).set i3 (some v3)).set i4 (some v4)).set i5 (some v5)).set i6 (some v6)) H1) : tSeq (tAsg te (gTup K 6 (gCons (gName i1) (gCons (gName i2) (gCons (gName i3) (gCons (gName i4) (gCons (gName i5) (gCons (gName i6) gNil)))))))) tz D σ H :=
  h H (Ex.refl H) _ fun H1 e1 => ⟨p, _, rfl, ex_t e1 hT, rfl, _, _, rfl, _, _, rfl, _, _, rfl, _, _, rfl, _, _, rfl, _, _, rfl, rfl, k H1 e1⟩
end
theorem dec_len {n k : Nat} : (!decide (V.int (n : Int) = V.int (k : Int))) = !decide (n = k) := by
  by_cases h : n = k
  · subst h; simp
  · rw [decide_eq_false h, decide_eq_false]
    exact fun y => h (Int.ofNat.inj (V.int.inj y))
theorem keys_no {ds : List PyData} (h : ds.length ≠ 5) : keysD ds = false := by
  match ds, h with
  | [], _ => rfl
  | [_], _ => rfl
  | [_, _], _ => rfl
  | [_, _, _], _ => rfl
  | [_, _, _, _], _ => rfl
  | [_, _, _, _, _], h => exact absurd rfl h
  | _ :: _ :: _ :: _ :: _ :: _ :: _, _ => rfl
theorem rows_no {ds : List PyData} (h : ds.length ≠ 4) : rowsD ds = false := by
  match ds, h with
  | [], _ => rfl
  | [_], _ => rfl
  | [_, _], _ => rfl
  | [_, _, _], _ => rfl
  | [_, _, _, _], h => exact absurd rfl h
  | _ :: _ :: _ :: _ :: _ :: _, _ => rfl
theorem piece_no {ds : List PyData} (h : ds.length ≠ 6) : pieceD ds = false := by
  unfold pieceD
  split
  · exact absurd rfl h
  · rfl
theorem word_no {ds : List PyData} (h : ds.length ≠ 3) : wordD ds = false := by
  unfold wordD
  split
  · exact absurd rfl h
  · rfl
section
variable {P : Program} {w : World} {K : PySem.W.Frag} {mg : Str → Option Value} {base : Heap}
def kIsWholeV (K : PySem.W.Frag) (vs : List V) (H : Hp) (z : V) : Prop := ∃ x, vs = [x] ∧ Plain K H x ∧ z = .bl (isWholeV x)
theorem ok_is_whole (T : Txt K mg w) : FnOk P w K mg base CX0 2 T.a_is_whole T.fd_is_whole ["value"] (Pure (kIsWholeV K)) := by
  have G_is_integer := ok_is_integer (P := P) (w := w) (base := base) T
  refine T.F_is_whole.ok sc_is_whole (fun vs H Q E h => ?_) (fun cdv A outer s H vs Q E hr h => ?_)
  · obtain ⟨_, ⟨_, rfl, _⟩, _⟩ := h; rfl
  · obtain ⟨_, ⟨x, rfl, hp, rfl⟩, q⟩ := h
    refine ⟨_, (pss_one (ps_ret (pe_and (pe_call G_is_integer (hr.mono (by decide)) (by rfl) T.g_is_integer T.F_is_integer.kp T.b_is_integer .nil pass0 (pa_cons (pv 0) pa_nil)) (pe_one (pe_cmpR op_ge (pv 0) pe_int (nomark _)))))), ?_⟩
    refine s_ret (v := .bl (isWholeV x)) ?_ q
    cases x with
    | int n => apply ev_is; walk_at "ev"; rfl
    | bl b => exact ev_andV (a := false) (b := false) (by apply ev_is; walk_at "ev"; rfl) (fun h => by cases h)
    | non => exact ev_andV (a := false) (b := false) (by apply ev_is; walk_at "ev"; rfl) (fun h => by cases h)
    | str _ => exact ev_andV (a := false) (b := false) (by apply ev_is; walk_at "ev"; rfl) (fun h => by cases h)
    | byt _ => exact ev_andV (a := false) (b := false) (by apply ev_is; walk_at "ev"; rfl) (fun h => by cases h)
    | flt _ => exact ev_andV (a := false) (b := false) (by apply ev_is; walk_at "ev"; rfl) (fun h => by cases h)
    | ref _ => exact ev_andV (a := false) (b := false) (by apply ev_is; walk_at "ev"; rfl) (fun h => by cases h)
    | ty _ => exact ev_andV (a := false) (b := false) (by apply ev_is; walk_at "ev"; rfl) (fun h => by cases h)
def kWi (lo hi : Int) (K : PySem.W.Frag) (vs : List V) (H : Hp) (z : V) : Prop := ∃ x, vs = [x] ∧ Plain K H x ∧ z = .bl (isWithin lo hi x)
theorem ok_is_word (T : Txt K mg w) : FnOk P w K mg base CX0 3 T.a_is_word T.fd_is_word ["value"] (Pure (kWi 0 63 K)) := by
  have G_is_within := ok_is_within (P := P) (w := w) (base := base) T
  refine T.F_is_word.ok sc_is_word (fun vs H Q E h => ?_) (fun cdv A outer s H vs Q E hr h => ?_)
  · obtain ⟨_, ⟨_, rfl, _⟩, _⟩ := h; rfl
  · obtain ⟨_, ⟨x, rfl, hp, rfl⟩, q⟩ := h
    refine ⟨_, (pss_one (ps_ret (pe_call G_is_within (hr.mono (by decide)) (by rfl) T.g_is_within T.F_is_within.kp T.b_is_within .nil pass0 (pa_cons (pv 0) (pa_cons pe_int (pa_cons (pe_glob (v := .int (63)) rfl T.g_MOST_WORD ⟨_, rfl⟩) pa_nil)))))), ?_⟩
    exact s_ret (ev_callP (vs := [x, .int 0, .int 63]) (by walk_at "ea") fun H1 e1 => ⟨x, 0, 63, rfl, hp.ex e1, rfl⟩) q
theorem ok_is_print (T : Txt K mg w) : FnOk P w K mg base CX0 3 T.a_is_print T.fd_is_print ["value"] (Pure (kWi 0 (999999937 - 1) K)) := by
  have G_is_within := ok_is_within (P := P) (w := w) (base := base) T
  refine T.F_is_print.ok sc_is_print (fun vs H Q E h => ?_) (fun cdv A outer s H vs Q E hr h => ?_)
  · obtain ⟨_, ⟨_, rfl, _⟩, _⟩ := h; rfl
  · obtain ⟨_, ⟨x, rfl, hp, rfl⟩, q⟩ := h
    refine ⟨_, (pss_one (ps_ret (pe_call G_is_within (hr.mono (by decide)) (by rfl) T.g_is_within T.F_is_within.kp T.b_is_within .nil pass0 (pa_cons (pv 0) (pa_cons pe_int (pa_cons (pe_op op_sub (pe_glob (v := .int (999999937)) rfl T.g_PRINT_MODULUS ⟨_, rfl⟩) pe_int) pa_nil)))))), ?_⟩
    exact s_ret (ev_callP (vs := [x, .int 0, .int (999999937 - 1)]) (by walk_at "ea") fun H1 e1 => ⟨x, 0, _, rfl, hp.ex e1, rfl⟩) q
theorem ok_is_entry (T : Txt K mg w) : FnOk P w K mg base CX0 3 T.a_is_entry_of_seat T.fd_is_entry_of_seat ["value"] (Pure (kWi (-1) 127 K)) := by
  have G_is_within := ok_is_within (P := P) (w := w) (base := base) T
  refine T.F_is_entry_of_seat.ok sc_is_entry_of_seat (fun vs H Q E h => ?_) (fun cdv A outer s H vs Q E hr h => ?_)
  · obtain ⟨_, ⟨_, rfl, _⟩, _⟩ := h; rfl
  · obtain ⟨_, ⟨x, rfl, hp, rfl⟩, q⟩ := h
    refine ⟨_, (pss_one (ps_ret (pe_call G_is_within (hr.mono (by decide)) (by rfl) T.g_is_within T.F_is_within.kp T.b_is_within .nil pass0 (pa_cons (pv 0) (pa_cons (pe_un un_neg pe_int) (pa_cons (pe_glob (v := .int (127)) rfl T.g_MOST_ENTRY ⟨_, rfl⟩) pa_nil)))))), ?_⟩
    exact s_ret (ev_callP (vs := [x, .int (-1), .int 127]) (by walk_at "ea") fun H1 e1 => ⟨x, -1, 127, rfl, hp.ex e1, rfl⟩) q
theorem ok_is_joint (T : Txt K mg w) : FnOk P w K mg base CX0 4 T.a_is_joint_of_some T.fd_is_joint_of_some ["value"] (Pure fun vs H z => ∃ (v : V) (d : PyData), vs = [v] ∧ Da K H v d ∧ z = .bl (jointD d)) := by
  have G_is_entry_of_seat := ok_is_entry (P := P) (w := w) (base := base) T
  refine T.F_is_joint_of_some.ok sc_is_joint_of_some (fun vs H Q E h => ?_) (fun cdv A outer s H vs Q E hr h => ?_)
  · obtain ⟨_, ⟨_, _, rfl, _⟩, _⟩ := h; rfl
  · obtain ⟨_, ⟨v, d, rfl, hd, rfl⟩, q⟩ := h
    refine ⟨_, (pss_cons (ps_if (PW.pt (pw_or (pt_not (pt_val (pe_callB call_isi (by rfl) T.z_isinstance (by decide +kernel) (pa_cons (pv 0) (pa_cons (pe_bltn (v := .ty "tuple") (by rfl) T.z_tuple (by decide +kernel) rfl) pa_nil))))) (pw_or1 (pt_not (pt_chain op_le op_le pe_int (pe_callB c_len (by rfl) T.z_len PySem.boot_len (pa_cons (pv 0) pa_nil)) (pe_glob (v := .int (4)) rfl T.g_MAX_SEATS ⟨_, rfl⟩)))))) (pss_one (ps_ret pe_bl)) pss_nil)
  (pss_one (ps_ret (pe_callB (cr_all rfl) (by rfl) T.z_all (by decide +kernel) (pa_cons (pe_lc (own := [("entry", 1)]) (g := gName 1) (by rfl) sc_is_joint_of_some.nd (pi_tup (pv 0)) (blkOk_by (own := [("entry", 1)]) (N := ["value", "entry"]) (sc := defScope s_is_joint_of_some) (by decide +kernel)) (fun _ _ _ _ _ => pg_name (i := 1) sc_is_joint_of_some.nd rfl (by first | exact Or.inl rfl | exact Or.inr rfl)) (fun _ _ _ _ _ => pts_nil) (fun _ _ _ _ _ => (pe_call G_is_entry_of_seat (hr.mono (by decide)) (by rfl) T.g_is_entry_of_seat T.F_is_entry_of_seat.kp T.b_is_entry_of_seat .nil pass0 (pa_cons (pv 1) pa_nil)))) pa_nil))))), ?_⟩
    cases hT : isTupD d with
    | false =>
      refine q_when (b := true) (et_is (et_or (a := true) (b := true) (et_is (et_not (et_B (ev_cb (vs := [v, .ty "tuple"]) (by walk_at "ea") hd.isTup))) (by rw [hT]; rfl)) (fun h => by cases h)) rfl) (fun _ H1 e1 => ?_) (fun h => by cases h)
      exact s_ret (v := .bl false) ev_c fun H2 e2 => by
        have : jointD d = false := by unfold jointD; rw [hT]; rfl
        rw [this] at q
        exact q H2 (e1.trans e2)
    | true =>
      obtain ⟨r, xs, rfl, hX, hD⟩ := hd.tupE hT
      have hlen := hD.len
      refine q_when (b := !(decide (1 ≤ (tupD d).length) && decide ((tupD d).length ≤ 4))) (et_is (et_or (a := false) (b := !(decide (1 ≤ (tupD d).length) && decide ((tupD d).length ≤ 4))) (et_is (et_not (et_B (ev_cb (vs := [.ref r, .ty "tuple"]) (by walk_at "ea") hd.isTup))) (by rw [hT]; rfl)) fun _ => et_is (et_not (et_test (ev_chain ev_c (ev_cb (vs := [.ref r]) (by walk_at "ea") (rc_lenT hX)) rv_I0 ev_c rv_I0))) (by
        rw [hlen]
        refine congrArg (!·) (congr (congrArg _ ?_) ?_) <;> (rw [decide_eq_decide]; omega))) rfl) (fun hb H1 e1 => ?_) fun hb H1 e1 => ?_
      · exact s_ret (v := .bl false) ev_c fun H2 e2 => by
          have : jointD d = false := by
            unfold jointD
            rw [hT]
            have hb := nt hb
            rw [hb]
            rfl
          rw [this] at q
          exact q H2 (e1.trans e2)
      · have hb := nf hb
        have hb2 := hb
        simp only [Bool.and_eq_true, decide_eq_true_eq] at hb2
        have e : jointD d = (tupD d).all (withinD (-1) 127) := by
          unfold jointD
          rw [hT, hb]
          rfl
        rw [e] at q
        refine s_ret (v := .bl ((tupD d).all (withinD (-1) 127))) (ev_allD (withinD (-1) 127) (ev_var rfl) (ex_t e1 hX) (daa_ex e1 _ _ hD) (by omega) (fun _ => rfl) fun i x d' H2 e2 hx hd' hda => ?_) fun H2 e2 => q H2 (e1.trans e2)
        exact ev_callP (vs := [x]) (by walk_at "ea") fun H3 e3 => ⟨x, rfl, (da_ex e3 _ _ hda).pl, by rw [hda.within]⟩
def kPart (K : PySem.W.Frag) (f : List PyData → Bool) (ok : List PyData → Prop) (vs : List V) (H : Hp) (z : V) : Prop := ∃ (r : Addr) (xs : List V) (ds : List PyData), vs = [.ref r] ∧ SqT K H r xs ∧ DaAll K H xs ds ∧ ok ds ∧ z = .bl (f ds)
theorem ok_keys_letter (T : Txt K mg w) : FnOk P w K mg base CX0 4 T.a_is_keys_letter T.fd_is_keys_letter ["value"] (Pure (kPart K keysD fun _ => True)) := by
  have G_is_whole := ok_is_whole (P := P) (w := w) (base := base) T
  have G_is_print := ok_is_print (P := P) (w := w) (base := base) T
  have G_is_word := ok_is_word (P := P) (w := w) (base := base) T
  refine T.F_is_keys_letter.ok sc_is_keys_letter (fun vs H Q E h => ?_) (fun cdv A outer s H vs Q E hr h => ?_)
  · obtain ⟨_, ⟨_, _, _, rfl, _⟩, _⟩ := h; rfl
  · obtain ⟨_, ⟨r, xs, ds, rfl, hX, hD, _, rfl⟩, q⟩ := h
    refine ⟨_, (pss_cons (ps_if (pt_cmpR op_ne (pe_callB c_len (by rfl) T.z_len PySem.boot_len (pa_cons (pv 0) pa_nil)) pe_int (nomark _)) (pss_one (ps_ret pe_bl)) pss_nil)
  (pss_cons (ps_asg (pv 0) (pg_tup rfl (pgs_cons (pg_name (i := 1) sc_is_keys_letter.nd rfl (.inl rfl)) (pgs_cons (pg_name (i := 1) sc_is_keys_letter.nd rfl (.inl rfl)) (pgs_cons (pg_name (i := 2) sc_is_keys_letter.nd rfl (.inl rfl)) (pgs_cons (pg_name (i := 3) sc_is_keys_letter.nd rfl (.inl rfl)) (pgs_cons (pg_name (i := 4) sc_is_keys_letter.nd rfl (.inl rfl)) pgs_nil)))))))
  (pss_cons (ps_if (PW.pt (pw_or (pt_not (pt_val (pe_call G_is_whole (hr.mono (by decide)) (by rfl) T.g_is_whole T.F_is_whole.kp T.b_is_whole .nil pass0 (pa_cons (pv 2) pa_nil)))) (pw_or1 (pt_not (pt_val (pe_call G_is_print (hr.mono (by decide)) (by rfl) T.g_is_print T.F_is_print.kp T.b_is_print .nil pass0 (pa_cons (pv 4) pa_nil))))))) (pss_one (ps_ret pe_bl)) pss_nil)
  (pss_one (ps_ret (pe_and (pe_callB call_isi (by rfl) T.z_isinstance (by decide +kernel) (pa_cons (pv 3) (pa_cons (pe_bltn (v := .ty "tuple") (by rfl) T.z_tuple (by decide +kernel) rfl) pa_nil))) (pe_and (pe_cmpR op_le (pe_callB c_len (by rfl) T.z_len PySem.boot_len (pa_cons (pv 3) pa_nil)) (pe_glob (v := .int (20)) rfl T.g_MOST_WORDS ⟨_, rfl⟩) (nomark _)) (pe_one (pe_callB (cr_all rfl) (by rfl) T.z_all (by decide +kernel) (pa_cons (pe_lc (own := [("word", 5)]) (g := gName 5) (by rfl) sc_is_keys_letter.nd (pi_tup (pv 3)) (blkOk_by (own := [("word", 5)]) (N := ["value", "_", "first", "words", "print_of_world", "word"]) (sc := defScope s_is_keys_letter) (by decide +kernel)) (fun _ _ _ _ _ => pg_name (i := 5) sc_is_keys_letter.nd rfl (by first | exact Or.inl rfl | exact Or.inr rfl)) (fun _ _ _ _ _ => pts_nil) (fun _ _ _ _ _ => (pe_call G_is_word (hr.mono (by decide)) (by rfl) T.g_is_word T.F_is_word.kp T.b_is_word .nil pass0 (pa_cons (pv 5) pa_nil)))) pa_nil)))))))))), ?_⟩
    have hlen := hD.len
    refine q_when (b := !decide (xs.length = 5)) (et_is (et_test (ev_op (ev_cb (vs := [.ref r]) (by walk_at "ea") (rc_lenT hX)) (ev_is ev_c (show V.int 5 = V.int ((5 : Nat) : Int) from rfl)) (rv_ne rfl))) dec_len) (fun hb H1 e1 => ?_) fun hb H1 e1 => ?_
    · have hb := of_decide_eq_false (nt hb)
      rw [keys_no (by omega)] at q
      exact s_ret (v := .bl false) ev_c fun H2 e2 => q H2 (e1.trans e2)
    · have hb := of_decide_eq_true (nf hb)
      obtain ⟨x0, x1, x2, x3, x4, rfl⟩ := list5 hb
      obtain ⟨d0, _, rfl, h0, hD⟩ := hD.unc
      obtain ⟨d1, _, rfl, h1, hD⟩ := hD.unc
      obtain ⟨d2, _, rfl, h2, hD⟩ := hD.unc
      obtain ⟨d3, _, rfl, h3, hD⟩ := hD.unc
      obtain ⟨d4, _, rfl, h4, hD⟩ := hD.unc
      obtain rfl := hD.unn
      refine q_asg5T (ev_var rfl) (ex_t e1 hX) fun H2 e2 => ?_
      have e12 := e1.trans e2
      refine q_when (b := !(wholeD d2 && withinD 0 (999999937 - 1) d4)) (et_is (et_or (a := !wholeD d2) (b := !withinD 0 (999999937 - 1) d4) (et_not (et_B (ev_callP (vs := [x2]) (by walk_at "ea") fun H3 e3 => ⟨x2, rfl, h2.pl.ex (e12.trans e3), by rw [h2.whole]⟩))) fun _ => et_not (et_B (ev_callP (vs := [x4]) (by walk_at "ea") fun H3 e3 => ⟨x4, rfl, h4.pl.ex (e12.trans e3), by rw [h4.within]⟩))) (by rw [Bool.not_and])) (fun hb H3 e3 => ?_) fun hb H3 e3 => ?_
      · have hb := nt hb
        have e : keysD [d0, d1, d2, d3, d4] = false := by
          show ((wholeD d2 && withinD 0 (999999937 - 1) d4) && _) = false
          rw [hb]
          rfl
        rw [e] at q
        exact s_ret (v := .bl false) ev_c fun H4 e4 => q H4 ((e12.trans e3).trans e4)
      · have hb := nf hb
        have e : keysD [d0, d1, d2, d3, d4] = (isTupD d3 && (decide ((tupD d3).length ≤ 20) && (tupD d3).all (withinD 0 63))) := by
          show ((wholeD d2 && withinD 0 (999999937 - 1) d4) && _) = _
          rw [hb]
          rfl
        rw [e] at q
        have e13 := e12.trans e3
        have h3' := da_ex e13 _ _ h3
        refine s_ret (v := .bl (isTupD d3 && (decide ((tupD d3).length ≤ 20) && (tupD d3).all (withinD 0 63)))) (ev_andV (ev_cb (vs := [x3, .ty "tuple"]) (by walk_at "ea") h3'.isTup) fun ht => ?_) fun H4 e4 => q H4 (e13.trans e4)
        obtain ⟨rw, ws, rfl, hW, hWD⟩ := h3'.tupE ht
        have hwl := hWD.len
        refine ev_andV (ev_is (ev_op (ev_cb (vs := [.ref rw]) (by walk_at "ea") (rc_lenT hW)) ev_c rv_I0) (congrArg V.bl (by rw [decide_eq_decide]; omega))) fun hle => ?_
        have hle := of_decide_eq_true hle
        exact ev_allD (withinD 0 63) (ev_var rfl) hW hWD (by omega) (fun _ => rfl) fun i x d' H4 e4 hx hd' hda => ev_callP (vs := [x]) (by walk_at "ea") fun H5 e5 => ⟨x, rfl, (da_ex e5 _ _ hda).pl, by rw [hda.within]⟩
end
end Kz
set_option Elab.async false
set_option linter.all false
set_option maxRecDepth 100000
set_option maxHeartbeats 4000000
set_option exponentiation.threshold 500
namespace Kz
open PySem PySem.Spec PyProof.Rows L2 Evl Vr
local macro_rules | `(tactic| walk_at "sc") => `(tactic| first | (with_reducible assumption) | (with_reducible exact sc_mul (by omega)) | (with_reducible exact sc_mulr (by omega)) | (with_reducible exact sc_div (by omega) (by decide)) | (show (0 : Int) < _; omega) | (show _ ≠ (0 : Int); omega) | (with_reducible rfl) | decide)
local macro_rules | `(tactic| walk_at "sq") => `(tactic| first | assumption | exact sq_of (by assumption) | exact st_of (by assumption))
local macro_rules | `(tactic| walk_at "pl") => `(tactic| first | assumption | exact pl_int | exact pl_bl | exact pl_str | exact pl_non | exact pl_lst (by assumption) | exact pl_tup (by assumption) | exact pl_dK (by assumption))
local macro_rules | `(tactic| walk_at "rv") => `(tactic| first
  | with_reducible exact rv_I0
  | with_reducible exact ru_neg
  | ((with_reducible apply rv_I); walk_at "sc")
  | ((with_reducible apply rv_ixL); walk_at "sq"; first | rfl | assumption)
  | ((with_reducible apply rv_ixT); walk_at "sq"; first | rfl | assumption)
  | ((with_reducible apply rv_eq); rfl) | ((with_reducible apply rv_ne); rfl))
local macro_rules | `(tactic| walk_at "rc") => `(tactic| first
  | with_reducible exact rc_I1 | with_reducible exact rc_B1 | with_reducible exact rc_I2 | ((with_reducible apply rc_repr); walk_at "sc") | ((with_reducible apply rc_lenL); walk_at "sq")
  | ((with_reducible apply rc_isiInt); walk_at "pl") | ((with_reducible apply rc_isiBool); walk_at "pl"))
local macro_rules | `(tactic| walk_at "ea") => `(tactic| first
  | with_reducible exact ea_nil | ((with_reducible apply ea_cons); walk_at "ev"; walk_at "ea"))
local macro_rules | `(tactic| walk_at "pow") => `(tactic| first
  | with_reducible exact ev_pow (a := 10) (b := 9) (c := 1000000000) (by decide +kernel) (by decide +kernel)
  | with_reducible exact ev_pow (a := 10) (b := 10) (c := 10000000000) (by decide +kernel) (by decide +kernel)
  | with_reducible exact ev_pow (a := 10) (b := 12) (c := 1000000000000) (by decide +kernel) (by decide +kernel)
  | with_reducible exact ev_pow (a := 10) (b := 17) (c := 100000000000000000) (by decide +kernel) (by decide +kernel)
  | with_reducible exact ev_pow (a := 10) (b := 20) (c := 100000000000000000000) (by decide +kernel) (by decide +kernel)
  | with_reducible exact ev_pow (a := 10) (b := 29) (c := 100000000000000000000000000000) (by decide +kernel) (by decide +kernel)
  | with_reducible exact ev_pow (a := 10) (b := 30) (c := 1000000000000000000000000000000) (by decide +kernel) (by decide +kernel)
  | with_reducible exact ev_pow (a := 10) (b := 40) (c := 10000000000000000000000000000000000000000) (by decide +kernel) (by decide +kernel)
  | with_reducible exact ev_pow (a := 10) (b := 57) (c := 1000000000000000000000000000000000000000000000000000000000) (by decide +kernel) (by decide +kernel)
  | with_reducible exact ev_pow (a := 10) (b := 58) (c := 10000000000000000000000000000000000000000000000000000000000) (by decide +kernel) (by decide +kernel)
  | with_reducible exact ev_pow (a := 10) (b := 59) (c := 100000000000000000000000000000000000000000000000000000000000) (by decide +kernel) (by decide +kernel)
  | with_reducible exact ev_pow (a := 10) (b := 60) (c := 1000000000000000000000000000000000000000000000000000000000000) (by decide +kernel) (by decide +kernel))
local macro_rules | `(tactic| walk_at "call") => `(tactic| (intro H9 e9; first | exact ⟨_, rfl, rfl⟩ | exact ⟨_, _, rfl, rfl⟩ | exact ⟨_, _, _, rfl, rfl⟩ | exact ⟨_, rfl, by walk_at "pl", rfl⟩ | (refine ⟨_, _, _, rfl, ?_, rfl⟩; first | exact Plain.ex e9 (by assumption) | walk_at "pl") | (refine ⟨_, rfl, ?_, rfl⟩; first | exact Plain.ex e9 (by assumption) | walk_at "pl")))
local macro_rules | `(tactic| walk_at "ev") => `(tactic| first
  | with_reducible exact ev_c
  | exact ev_var rfl
  | walk_at "pow"
  | ((with_reducible apply ev_op); walk_at "ev"; walk_at "ev"; walk_at "rv")
  | ((with_reducible apply ev_un); walk_at "ev"; walk_at "rv")
  | ((with_reducible apply ev_cb); walk_at "ea"; walk_at "rc")
  | ((with_reducible apply ev_callP); walk_at "ea"; walk_at "call")
  | ((with_reducible apply ev_chain); walk_at "ev"; walk_at "ev"; walk_at "rv"; walk_at "ev"; walk_at "rv")
  | ((with_reducible apply ev_andV); walk_at "ev"; intro _; walk_at "ev")
  | ((with_reducible apply ev_orV); walk_at "ev"; intro _; walk_at "ev")
  | ((with_reducible apply ev_ite); walk_at "et"; intro _; walk_at "ev"; intro _; walk_at "ev")
  | ((with_reducible apply ev_notV); walk_at "ev"))
local macro_rules | `(tactic| walk_at "et") => `(tactic| first
  | ((with_reducible apply et_test); walk_at "ev")
  | ((with_reducible apply et_B); walk_at "ev")
  | ((with_reducible apply et_and); walk_at "et"; intro _; walk_at "et")
  | ((with_reducible apply et_or); walk_at "et"; intro _; walk_at "et")
  | ((with_reducible apply et_not); walk_at "et"))
open Tx Wo
theorem c_lenK {X : Cx} {K : PySem.W.Frag} (h : X.K = K) : CallR X (.builtin "len") (rLenS K) := by
  subst h
  exact c_len
theorem pi_tupK {X : Cx} {K : PySem.W.Frag} {tg l : Expr} {tl : TE} (h : X.K = K) (hl : PE X l tl) : PI X tg l (iTup K tl) := by
  subst h
  exact pi_tup hl
theorem pi_listK {X : Cx} {K : PySem.W.Frag} {tg l : Expr} {tl : TE} (h : X.K = K) (hl : PE X l tl) : PI X tg l (iList K tl) := by
  subst h
  exact pi_list hl
theorem op_in_seqK {X : Cx} {K : PySem.W.Frag} (h : X.K = K) : OpR X (compareOp .In) (rIn K false) := by
  subst h
  exact op_in_seq
theorem op_notIn_seqK {X : Cx} {K : PySem.W.Frag} (h : X.K = K) : OpR X (compareOp .NotIn) (rIn K true) := by
  subst h
  exact op_notIn_seq
theorem within_int {lo hi : Int} {d : PyData} (h : withinD lo hi d = true) : ∃ m, d = .int m := by
  cases d with
  | int m => exact ⟨m, rfl⟩
  | _ => cases h
theorem three {w t : Bool} {n k : Nat} : (!w || (!t || decide (k < n))) = !(w && (t && decide (n ≤ k))) := by
  by_cases h : n ≤ k
  · rw [decide_eq_true h, decide_eq_false (by omega)]
    cases w <;> cases t <;> rfl
  · rw [decide_eq_false h, decide_eq_true (by omega)]
    cases w <;> cases t <;> rfl
section
variable {P : Program} {w : World} {K : PySem.W.Frag} {mg : Str → Option Value} {base : Heap}
theorem ok_rows_letter (T : Txt K mg w) : FnOk P w K mg base CX0 5 T.a_is_rows_letter T.fd_is_rows_letter ["value"] (Pure (kPart K rowsD fun ds => rowsSafe ds = true)) := by
  have G_is_whole := ok_is_whole (P := P) (w := w) (base := base) T
  have G_is_joint_of_some := ok_is_joint (P := P) (w := w) (base := base) T
  refine T.F_is_rows_letter.ok sc_is_rows_letter (fun vs H Q E h => ?_) (fun cdv A outer s H vs Q E hr h => ?_)
  · obtain ⟨_, ⟨_, _, _, rfl, _⟩, _⟩ := h; rfl
  · obtain ⟨_, ⟨r, xs, ds, rfl, hX, hD, hsafe, rfl⟩, q⟩ := h
    refine ⟨_, (pss_cons (ps_if (pt_cmpR op_ne (pe_callB c_len (by rfl) T.z_len PySem.boot_len (pa_cons (pv 0) pa_nil)) pe_int (nomark _)) (pss_one (ps_ret pe_bl)) pss_nil)
  (pss_cons (ps_asg (pv 0) (pg_tup rfl (pgs_cons (pg_name (i := 1) sc_is_rows_letter.nd rfl (.inl rfl)) (pgs_cons (pg_name (i := 1) sc_is_rows_letter.nd rfl (.inl rfl)) (pgs_cons (pg_name (i := 2) sc_is_rows_letter.nd rfl (.inl rfl)) (pgs_cons (pg_name (i := 3) sc_is_rows_letter.nd rfl (.inr rfl)) pgs_nil))))))
  (pss_cons (ps_if (PW.pt (pw_or (pt_not (pt_val (pe_call G_is_whole (hr.mono (by decide)) (by rfl) T.g_is_whole T.F_is_whole.kp T.b_is_whole .nil pass0 (pa_cons (pv 2) pa_nil)))) (pw_or (pt_not (pt_val (pe_callB call_isi (by rfl) T.z_isinstance (by decide +kernel) (pa_cons (pv 3) (pa_cons (pe_bltn (v := .ty "tuple") (by rfl) T.z_tuple (by decide +kernel) rfl) pa_nil))))) (pw_or1 (pt_cmpR op_gt (pe_callB c_len (by rfl) T.z_len PySem.boot_len (pa_cons (pv 3) pa_nil)) (pe_glob (v := .int (32)) rfl T.g_MOST_STRETCH ⟨_, rfl⟩) (nomark _)))))) (pss_one (ps_ret pe_bl)) pss_nil)
  (pss_cons (ps_if (pt_not (pt_val (pe_callB (cr_all rfl) (by rfl) T.z_all (by decide +kernel) (pa_cons (pe_lc (own := [("joint", 4)]) (g := gName 4) (by rfl) sc_is_rows_letter.nd (pi_tup (pv 3)) (blkOk_by (own := [("joint", 4)]) (N := ["value", "_", "first", "entries", "joint"]) (sc := defScope s_is_rows_letter) (by decide +kernel)) (fun _ _ _ _ _ => pg_name (i := 4) sc_is_rows_letter.nd rfl (by first | exact Or.inl rfl | exact Or.inr rfl)) (fun _ _ _ _ _ => pts_nil) (fun _ _ _ _ _ => (pe_call G_is_joint_of_some (hr.mono (by decide)) (by rfl) T.g_is_joint_of_some T.F_is_joint_of_some.kp T.b_is_joint_of_some .nil pass0 (pa_cons (pv 4) pa_nil)))) pa_nil)))) (pss_one (ps_ret pe_bl)) pss_nil)
  (pss_one (ps_ret (pe_callB (cr_all rfl) (by rfl) T.z_all (by decide +kernel) (pa_cons (pe_lc (own := [("joint", 4)]) (g := gName 4) (by rfl) sc_is_rows_letter.nd (pi_tup (pv 3)) (blkOk_by (own := [("joint", 4)]) (N := ["value", "_", "first", "entries", "joint"]) (sc := defScope s_is_rows_letter) (by decide +kernel)) (fun _ _ _ _ _ => pg_name (i := 4) sc_is_rows_letter.nd rfl (by first | exact Or.inl rfl | exact Or.inr rfl)) (fun _ _ _ _ _ => pts_nil) (fun _ _ _ _ _ => (pe_cmpR op_eq (pe_callB (c_lenK (K := K) rfl) (by rfl) T.z_len PySem.boot_len (pa_cons (pv 4) pa_nil)) (pe_callB (c_lenK (K := K) rfl) (by rfl) T.z_len PySem.boot_len (pa_cons (pe_ix (ix_tupK (K := K) rfl) (pv 3) pe_int (fun _ _ => rfl)) pa_nil)) (nomark _)))) pa_nil)))))))), ?_⟩
    have hlen := hD.len
    refine q_when (b := !decide (xs.length = 4)) (et_is (et_test (ev_op (ev_cb (vs := [.ref r]) (by walk_at "ea") (rc_lenT hX)) (ev_is ev_c (show V.int 4 = V.int ((4 : Nat) : Int) from rfl)) (rv_ne rfl))) dec_len) (fun hb H1 e1 => ?_) fun hb H1 e1 => ?_
    · have hb := of_decide_eq_false (nt hb)
      rw [rows_no (by omega)] at q
      exact s_ret (v := .bl false) ev_c fun H2 e2 => q H2 (e1.trans e2)
    · have hb := of_decide_eq_true (nf hb)
      obtain ⟨x0, x1, x2, x3, rfl⟩ := list4 hb
      obtain ⟨d0, _, rfl, h0, hD⟩ := hD.unc
      obtain ⟨d1, _, rfl, h1, hD⟩ := hD.unc
      obtain ⟨d2, _, rfl, h2, hD⟩ := hD.unc
      obtain ⟨d3, _, rfl, h3, hD⟩ := hD.unc
      obtain rfl := hD.unn
      refine q_asg4T (ev_var rfl) (ex_t e1 hX) fun H2 e2 => ?_
      have e12 := e1.trans e2
      have h3' := da_ex e12 _ _ h3
      refine q_when (b := !(wholeD d2 && (isTupD d3 && decide ((tupD d3).length ≤ 32)))) (et_is (et_or (a := !wholeD d2) (et_not (et_B (ev_callP (vs := [x2]) (by walk_at "ea") fun H3 e3 => ⟨x2, rfl, h2.pl.ex (e12.trans e3), by rw [h2.whole]⟩))) fun _ => et_or (a := !isTupD d3) (b := decide (32 < (tupD d3).length)) (et_not (et_B (ev_cb (vs := [x3, .ty "tuple"]) (by walk_at "ea") h3'.isTup))) fun ht => ?len) three) (fun hb H3 e3 => ?_) fun hb H3 e3 => ?_
      case len =>
        obtain ⟨rw, ws, rfl, hW, hWD⟩ := h3'.tupE (nf ht)
        exact et_is (et_test (ev_op (ev_cb (vs := [.ref rw]) (by walk_at "ea") (rc_lenT hW)) ev_c rv_I0)) (by rw [← hWD.len, decide_eq_decide]; omega)
      · have hb := nt hb
        have e : rowsD [d0, d1, d2, d3] = false := by
          show ((wholeD d2 && (isTupD d3 && decide ((tupD d3).length ≤ 32))) && _) = false
          rw [hb]
          rfl
        rw [e] at q
        exact s_ret (v := .bl false) ev_c fun H4 e4 => q H4 ((e12.trans e3).trans e4)
      · have hb := nf hb
        have e : rowsD [d0, d1, d2, d3] = (tupD d3).all fun j => jointD j && decide ((tupD j).length = (tupD ((tupD d3).getD 0 .none)).length) := by
          show ((wholeD d2 && (isTupD d3 && decide ((tupD d3).length ≤ 32))) && _) = _
          rw [hb]
          rfl
        rw [e] at q
        simp only [Bool.and_eq_true, decide_eq_true_eq] at hb
        obtain ⟨_, ht, hle⟩ := hb
        have e13 := e12.trans e3
        obtain ⟨rw, ws, rfl, hW, hWD⟩ := (da_ex e13 _ _ h3).tupE ht
        have hwl := hWD.len
        have key : ((tupD d3).all fun j => jointD j && decide ((tupD j).length = (tupD ((tupD d3).getD 0 .none)).length)) = ((tupD d3).all jointD && (tupD d3).all fun j => decide ((tupD j).length = (tupD ((tupD d3).getD 0 .none)).length)) := by
          generalize (tupD ((tupD d3).getD 0 .none)).length = n
          generalize tupD d3 = l
          rw [Bool.eq_iff_iff]
          simp only [List.all_eq_true, Bool.and_eq_true, decide_eq_true_eq]
          exact ⟨fun h => ⟨fun j hj => (h j hj).1, fun j hj => (h j hj).2⟩, fun h j hj => ⟨h.1 j hj, h.2 j hj⟩⟩
        refine q_when (b := !(tupD d3).all jointD) (et_not (et_B (ev_allD jointD (ev_var rfl) hW hWD (by omega) (fun _ => rfl) fun i x d' H4 e4 hx hd' hda => ev_callP (vs := [x]) (by walk_at "ea") fun H5 e5 => ⟨x, d', rfl, da_ex e5 _ _ hda, rfl⟩))) (fun hb H4 e4 => ?_) fun hb H4 e4 => ?_
        · rw [key, nt hb, Bool.false_and] at q
          exact s_ret (v := .bl false) ev_c fun H5 e5 => q H5 ((e13.trans e4).trans e5)
        have hall := nf hb
        rw [key, hall, Bool.true_and] at q
        have hW4 := ex_t e4 hW
        have hWD4 := daa_ex e4 _ _ hWD
        refine s_ret (v := .bl _) (ev_allD (fun j => decide ((tupD j).length = (tupD ((tupD d3).getD 0 .none)).length)) (ev_var rfl) hW4 hWD4 (by omega) (fun _ => rfl) fun i x d' H5 e5 hx hd' hda => ?_) fun H5 e5 => q H5 ((e13.trans e4).trans e5)
        have tup : ∀ d'' ∈ tupD d3, isTupD d'' = true := fun d'' h => by
          have := List.all_eq_true.mp hall d'' h
          unfold jointD at this
          rw [Bool.and_eq_true] at this
          exact this.1
        obtain ⟨rj, js, rfl, hJ, hJD⟩ := hda.tupE (tup d' (List.mem_of_getElem? hd'))
        obtain ⟨y0, hy0⟩ : ∃ y0, ws[0]? = some y0 := by
          have := (List.getElem?_eq_some_iff.mp hx).1
          exact ⟨_, List.getElem?_eq_getElem (by omega)⟩
        obtain ⟨j0, hj0, hda0⟩ := hWD4.at hy0
        obtain ⟨r0, zs, rfl, hZ, hZD⟩ := hda0.tupE (tup j0 (List.mem_of_getElem? hj0))
        have hg : (tupD d3).getD 0 .none = j0 := by rw [List.getD_eq_getElem?_getD, hj0]; rfl
        exact ev_is (ev_op (ev_cb (vs := [.ref rj]) (by walk_at "ea") (rc_lenT hJ)) (ev_cb (vs := [.ref r0]) (ea_cons (ev_op (ev_var rfl) (ev_is ev_c (show V.int 0 = V.int ((0 : Nat) : Int) from rfl)) (rv_ixT (ex_t e5 hW4) (atI_nat (j := 0) hy0))) ea_nil) (rc_lenT (ex_t e5 hZ))) (rv_eq rfl)) (by rw [dec_nat, hg, hJD.len, hZD.len])
theorem ok_piece_letter (T : Txt K mg w) : FnOk P w K mg base CX0 4 T.a_is_piece_letter T.fd_is_piece_letter ["value"] (Pure (kPart K pieceD fun ds => pieceSafe ds = true)) := by
  have G_is_whole := ok_is_whole (P := P) (w := w) (base := base) T
  have G_is_within := ok_is_within (P := P) (w := w) (base := base) T
  have G_has_signs := ok_has_signs (P := P) (w := w) (base := base) T
  refine T.F_is_piece_letter.ok sc_is_piece_letter (fun vs H Q E h => ?_) (fun cdv A outer s H vs Q E hr h => ?_)
  · obtain ⟨_, ⟨_, _, _, rfl, _⟩, _⟩ := h; rfl
  · obtain ⟨_, ⟨r, xs, ds, rfl, hX, hD, hsafe, rfl⟩, q⟩ := h
    refine ⟨_, (pss_cons (ps_if (pt_cmpR op_ne (pe_callB c_len (by rfl) T.z_len PySem.boot_len (pa_cons (pv 0) pa_nil)) pe_int (nomark _)) (pss_one (ps_ret pe_bl)) pss_nil)
  (pss_cons (ps_asg (pv 0) (pg_tup rfl (pgs_cons (pg_name (i := 1) sc_is_piece_letter.nd rfl (.inl rfl)) (pgs_cons (pg_name (i := 1) sc_is_piece_letter.nd rfl (.inl rfl)) (pgs_cons (pg_name (i := 2) sc_is_piece_letter.nd rfl (.inl rfl)) (pgs_cons (pg_name (i := 3) sc_is_piece_letter.nd rfl (.inl rfl)) (pgs_cons (pg_name (i := 4) sc_is_piece_letter.nd rfl (.inl rfl)) (pgs_cons (pg_name (i := 5) sc_is_piece_letter.nd rfl (.inl rfl)) pgs_nil))))))))
  (pss_cons (ps_if (PW.pt (pw_or (pt_not (pt_val (pe_call G_is_whole (hr.mono (by decide)) (by rfl) T.g_is_whole T.F_is_whole.kp T.b_is_whole .nil pass0 (pa_cons (pv 2) pa_nil)))) (pw_or (pt_not (pt_val (pe_call G_is_within (hr.mono (by decide)) (by rfl) T.g_is_within T.F_is_within.kp T.b_is_within .nil pass0 (pa_cons (pv 4) (pa_cons pe_int (pa_cons (pe_glob (v := .int (100)) rfl T.g_MOST_PIECES ⟨_, rfl⟩) pa_nil)))))) (pw_or1 (pt_not (pt_val (pe_call G_is_within (hr.mono (by decide)) (by rfl) T.g_is_within T.F_is_within.kp T.b_is_within .nil pass0 (pa_cons (pv 3) (pa_cons pe_int (pa_cons (pe_op op_sub (pv 4) pe_int) pa_nil)))))))))) (pss_one (ps_ret pe_bl)) pss_nil)
  (pss_one (ps_ret (pe_call G_has_signs (hr.mono (by decide)) (by rfl) T.g_has_signs T.F_has_signs.kp T.b_has_signs .nil pass0 (pa_cons (pv 5) (pa_cons pe_int (pa_cons (pe_glob (v := .int (200)) rfl T.g_MOST_PIECE ⟨_, rfl⟩) pa_nil))))))))), ?_⟩
    have hlen := hD.len
    refine q_when (b := !decide (xs.length = 6)) (et_is (et_test (ev_op (ev_cb (vs := [.ref r]) (by walk_at "ea") (rc_lenT hX)) (ev_is ev_c (show V.int 6 = V.int ((6 : Nat) : Int) from rfl)) (rv_ne rfl))) dec_len) (fun hb H1 e1 => ?_) fun hb H1 e1 => ?_
    · have hb := of_decide_eq_false (nt hb)
      rw [piece_no (by omega)] at q
      exact s_ret (v := .bl false) ev_c fun H2 e2 => q H2 (e1.trans e2)
    · have hb := of_decide_eq_true (nf hb)
      obtain ⟨x0, x1, x2, x3, x4, x5, rfl⟩ := list6 hb
      obtain ⟨d0, _, rfl, h0, hD⟩ := hD.unc
      obtain ⟨d1, _, rfl, h1, hD⟩ := hD.unc
      obtain ⟨d2, _, rfl, h2, hD⟩ := hD.unc
      obtain ⟨d3, _, rfl, h3, hD⟩ := hD.unc
      obtain ⟨d4, _, rfl, h4, hD⟩ := hD.unc
      obtain ⟨d5, _, rfl, h5, hD⟩ := hD.unc
      obtain rfl := hD.unn
      refine q_asg6T (ev_var rfl) (ex_t e1 hX) fun H2 e2 => ?_
      have e12 := e1.trans e2
      refine q_when (b := !(wholeD d2 && (withinD 1 100 d4 && withinD 0 (intD d4 - 1) d3))) (et_is (et_or (a := !wholeD d2) (et_not (et_B (ev_callP (vs := [x2]) (by walk_at "ea") fun H3 e3 => ⟨x2, rfl, h2.pl.ex (e12.trans e3), by rw [h2.whole]⟩))) fun _ => et_or (a := !withinD 1 100 d4) (b := !withinD 0 (intD d4 - 1) d3) (et_not (et_B (ev_callP (vs := [x4, .int 1, .int 100]) (by walk_at "ea") fun H3 e3 => ⟨x4, 1, 100, rfl, h4.pl.ex (e12.trans e3), by rw [h4.within]⟩))) fun hm => ?ix) (by cases wholeD d2 <;> cases withinD 1 100 d4 <;> cases withinD 0 (intD d4 - 1) d3 <;> rfl)) (fun hb H3 e3 => ?_) fun hb H3 e3 => ?_
      case ix =>
        obtain ⟨m, rfl⟩ := within_int (nf hm)
        cases h4
        exact et_not (et_B (ev_callP (vs := [x3, .int 0, .int (m - 1)]) (by walk_at "ea") fun H3 e3 => ⟨x3, 0, m - 1, rfl, h3.pl.ex (e12.trans e3), by rw [h3.within]; rfl⟩))
      · have hb := nt hb
        have e : pieceD [d0, d1, d2, d3, d4, d5] = false := by
          show ((wholeD d2 && (withinD 1 100 d4 && withinD 0 (intD d4 - 1) d3)) && _) = false
          rw [hb]
          rfl
        rw [e] at q
        exact s_ret (v := .bl false) ev_c fun H4 e4 => q H4 ((e12.trans e3).trans e4)
      · have hb := nf hb
        have e : pieceD [d0, d1, d2, d3, d4, d5] = signsD 1 200 d5 := by
          show ((wholeD d2 && (withinD 1 100 d4 && withinD 0 (intD d4 - 1) d3)) && _) = _
          rw [hb]
          rfl
        rw [e] at q
        have e13 := e12.trans e3
        refine s_ret (v := .bl (signsD 1 200 d5)) (ev_callP (vs := [x5, .int 1, .int 200]) (by walk_at "ea") fun H4 e4 => ⟨x5, 1, 200, rfl, h5.pl.ex (e13.trans e4), fun s hs => ?_, by rw [h5.signs]⟩) fun H4 e4 => q H4 (e13.trans e4)
        subst hs
        cases h5
        exact of_decide_eq_true hsafe
theorem ok_word_letter (T : Txt K mg w) : FnOk P w K mg base CX0 1 T.a_is_word_letter T.fd_is_word_letter ["value"] (Pure (kPart K wordD fun _ => True)) := by
  refine T.F_is_word_letter.ok sc_is_word_letter (fun vs H Q E h => ?_) (fun cdv A outer s H vs Q E hr h => ?_)
  · obtain ⟨_, ⟨_, _, _, rfl, _⟩, _⟩ := h; rfl
  · obtain ⟨_, ⟨r, xs, ds, rfl, hX, hD, _, rfl⟩, q⟩ := h
    refine ⟨_, (pss_one (ps_ret (pe_and (pe_cmpR op_eq (pe_callB c_len (by rfl) T.z_len PySem.boot_len (pa_cons (pv 0) pa_nil)) pe_int (nomark _)) (pe_and (pe_callB call_isi (by rfl) T.z_isinstance (by decide +kernel) (pa_cons (pe_ix ix_tup (pv 0) pe_int (fun _ _ => rfl)) (pa_cons (pe_bltn (v := .ty "str") (by rfl) T.z_str (by decide +kernel) rfl) pa_nil))) (pe_one (pe_cmpR op_in_seq (pe_ix ix_tup (pv 0) pe_int (fun _ _ => rfl)) (pe_glob (v := .ref _) rfl T.g_WISHES rfl) (by rfl))))))), ?_⟩
    have hlen := hD.len
    have t1 : Ev (tOp rEq (tCB (rLenS K) (tCons (tVar 0) tNil)) (tC (.int 3))) [some (.ref r)] H (.bl (decide (xs.length = 3))) := ev_is (ev_op (ev_cb (vs := [.ref r]) (by walk_at "ea") (rc_lenT hX)) (ev_is ev_c (show V.int 3 = V.int ((3 : Nat) : Int) from rfl)) (rv_eq rfl)) (congrArg V.bl dec_nat)
    by_cases hb : xs.length = 3
    · obtain ⟨x0, x1, x2, rfl⟩ := list3 hb
      obtain ⟨d0, _, rfl, h0, hD⟩ := hD.unc
      obtain ⟨d1, _, rfl, h1, hD⟩ := hD.unc
      obtain ⟨d2, _, rfl, h2, hD⟩ := hD.unc
      obtain rfl := hD.unn
      have i2 : ∀ {H1 : Hp}, Ex H H1 → Ev (tOp (rIxT K) (tVar 0) (tC (.int 2))) [some (.ref r)] H1 x2 := fun {H1} e1 => ev_op (ev_var rfl) (ev_is ev_c (show V.int 2 = V.int ((2 : Nat) : Int) from rfl)) (rv_ixT (ex_t e1 hX) (atI_nat (j := 2) rfl))
      refine s_ret (v := .bl (wordD [d0, d1, d2])) (ev_is (ev_andV (a := true) (b := wordD [d0, d1, d2]) (ev_is t1 rfl) fun _ => ?_) rfl) q
      cases hs : isS x2 with
      | false =>
        refine ev_is (ev_andV (a := false) (b := false) (ev_is (ev_cb (vs := [x2, .ty "str"]) (ea_cons (i2 (Ex.refl H)) (ea_cons ev_c ea_nil)) (rc_isiStr h2.pl)) (by rw [hs])) (fun h => by cases h)) ?_
        cases h2 <;> first | rfl | cases hs
      | true =>
        cases h2 with
        | str y =>
          refine ev_is (ev_andV (a := true) (b := inV (.str y) [.str "come", .str "go"]) (ev_is (ev_cb (vs := [.str y, .ty "str"]) (ea_cons (i2 (Ex.refl H)) (ea_cons ev_c ea_nil)) (rc_isiStr pl_str)) rfl) fun _ => ?_) rfl
          exact ev_op (i2 (Ex.refl H)) ev_c (rv_isT (x := .str y) (T.o_WISHES H) rfl (by decide))
        | _ => cases hs
    · rw [word_no (by omega)] at q
      exact s_ret (v := .bl false) (ev_is (ev_andV (a := false) (b := false) (ev_is t1 (by rw [decide_eq_false hb])) (fun h => by cases h)) rfl) q
end
end Kz
set_option Elab.async false
set_option linter.all false
set_option maxRecDepth 100000
set_option maxHeartbeats 4000000
set_option exponentiation.threshold 500
namespace Kz
open PySem PySem.Spec PyProof.Rows L2 Evl Vr
local macro_rules | `(tactic| walk_at "sc") => `(tactic| first | (with_reducible assumption) | (with_reducible exact sc_mul (by omega)) | (with_reducible exact sc_mulr (by omega)) | (with_reducible exact sc_div (by omega) (by decide)) | (show (0 : Int) < _; omega) | (show _ ≠ (0 : Int); omega) | (with_reducible rfl) | decide)
local macro_rules | `(tactic| walk_at "sq") => `(tactic| first | assumption | exact sq_of (by assumption) | exact st_of (by assumption))
local macro_rules | `(tactic| walk_at "pl") => `(tactic| first | assumption | exact pl_int | exact pl_bl | exact pl_str | exact pl_non | exact pl_lst (by assumption) | exact pl_tup (by assumption) | exact pl_dK (by assumption))
local macro_rules | `(tactic| walk_at "rv") => `(tactic| first
  | with_reducible exact rv_I0
  | with_reducible exact ru_neg
  | ((with_reducible apply rv_I); walk_at "sc")
  | ((with_reducible apply rv_ixL); walk_at "sq"; first | rfl | assumption)
  | ((with_reducible apply rv_ixT); walk_at "sq"; first | rfl | assumption)
  | ((with_reducible apply rv_eq); rfl) | ((with_reducible apply rv_ne); rfl))
local macro_rules | `(tactic| walk_at "rc") => `(tactic| first
  | with_reducible exact rc_I1 | with_reducible exact rc_B1 | with_reducible exact rc_I2 | ((with_reducible apply rc_repr); walk_at "sc") | ((with_reducible apply rc_lenL); walk_at "sq")
  | ((with_reducible apply rc_isiInt); walk_at "pl") | ((with_reducible apply rc_isiBool); walk_at "pl"))
local macro_rules | `(tactic| walk_at "ea") => `(tactic| first
  | with_reducible exact ea_nil | ((with_reducible apply ea_cons); walk_at "ev"; walk_at "ea"))
local macro_rules | `(tactic| walk_at "pow") => `(tactic| first
  | with_reducible exact ev_pow (a := 10) (b := 9) (c := 1000000000) (by decide +kernel) (by decide +kernel)
  | with_reducible exact ev_pow (a := 10) (b := 10) (c := 10000000000) (by decide +kernel) (by decide +kernel)
  | with_reducible exact ev_pow (a := 10) (b := 12) (c := 1000000000000) (by decide +kernel) (by decide +kernel)
  | with_reducible exact ev_pow (a := 10) (b := 17) (c := 100000000000000000) (by decide +kernel) (by decide +kernel)
  | with_reducible exact ev_pow (a := 10) (b := 20) (c := 100000000000000000000) (by decide +kernel) (by decide +kernel)
  | with_reducible exact ev_pow (a := 10) (b := 29) (c := 100000000000000000000000000000) (by decide +kernel) (by decide +kernel)
  | with_reducible exact ev_pow (a := 10) (b := 30) (c := 1000000000000000000000000000000) (by decide +kernel) (by decide +kernel)
  | with_reducible exact ev_pow (a := 10) (b := 40) (c := 10000000000000000000000000000000000000000) (by decide +kernel) (by decide +kernel)
  | with_reducible exact ev_pow (a := 10) (b := 57) (c := 1000000000000000000000000000000000000000000000000000000000) (by decide +kernel) (by decide +kernel)
  | with_reducible exact ev_pow (a := 10) (b := 58) (c := 10000000000000000000000000000000000000000000000000000000000) (by decide +kernel) (by decide +kernel)
  | with_reducible exact ev_pow (a := 10) (b := 59) (c := 100000000000000000000000000000000000000000000000000000000000) (by decide +kernel) (by decide +kernel)
  | with_reducible exact ev_pow (a := 10) (b := 60) (c := 1000000000000000000000000000000000000000000000000000000000000) (by decide +kernel) (by decide +kernel))
local macro_rules | `(tactic| walk_at "call") => `(tactic| (intro H9 e9; first | exact ⟨_, rfl, rfl⟩ | exact ⟨_, _, rfl, rfl⟩ | exact ⟨_, _, _, rfl, rfl⟩ | exact ⟨_, rfl, by walk_at "pl", rfl⟩ | (refine ⟨_, _, _, rfl, ?_, rfl⟩; first | exact Plain.ex e9 (by assumption) | walk_at "pl") | (refine ⟨_, rfl, ?_, rfl⟩; first | exact Plain.ex e9 (by assumption) | walk_at "pl")))
local macro_rules | `(tactic| walk_at "ev") => `(tactic| first
  | with_reducible exact ev_c
  | exact ev_var rfl
  | walk_at "pow"
  | ((with_reducible apply ev_op); walk_at "ev"; walk_at "ev"; walk_at "rv")
  | ((with_reducible apply ev_un); walk_at "ev"; walk_at "rv")
  | ((with_reducible apply ev_cb); walk_at "ea"; walk_at "rc")
  | ((with_reducible apply ev_callP); walk_at "ea"; walk_at "call")
  | ((with_reducible apply ev_chain); walk_at "ev"; walk_at "ev"; walk_at "rv"; walk_at "ev"; walk_at "rv")
  | ((with_reducible apply ev_andV); walk_at "ev"; intro _; walk_at "ev")
  | ((with_reducible apply ev_orV); walk_at "ev"; intro _; walk_at "ev")
  | ((with_reducible apply ev_ite); walk_at "et"; intro _; walk_at "ev"; intro _; walk_at "ev")
  | ((with_reducible apply ev_notV); walk_at "ev"))
local macro_rules | `(tactic| walk_at "et") => `(tactic| first
  | ((with_reducible apply et_test); walk_at "ev")
  | ((with_reducible apply et_B); walk_at "ev")
  | ((with_reducible apply et_and); walk_at "et"; intro _; walk_at "et")
  | ((with_reducible apply et_or); walk_at "et"; intro _; walk_at "et")
  | ((with_reducible apply et_not); walk_at "et"))
open Tx Wo
theorem ev_callLP {σ : L2.St} {H : Hp} {z : V} {i : Nat} {f : Addr} {ok : List V → Hp → V → Prop} {E : XK} {ts : TA} {vs : List V} (hs : σ[i]? = some (some (.ref f))) (h : EvA ts σ H vs) (ho : ∀ H1, Ex H H1 → ok vs H1 z) : Ev (tCallL i f (Pure ok) [] E ts) σ H z := fun H1 e Q q => ⟨hs, h H1 e _ fun H2 e2 => by
  show Pure ok (vs ++ []) H2 Q E
  rw [List.append_nil]
  exact ⟨z, ho H2 (e.trans e2), fun H3 e3 => q H3 (e2.trans e3)⟩⟩
theorem ev_ixJ {K : PySem.W.Frag} {σ : L2.St} {H : Hp} {te : TE} {r : Addr} {xs : List V} {x : V} {j : Nat} {i : Int} (h : Ev te σ H (.ref r)) (hT : SqT K H r xs) (hj : xs[j]? = some x) (hi : V.int i = V.int ((j : Nat) : Int)) : Ev (tOp (rIxT K) te (tC (.int i))) σ H x := ev_op h (ev_is ev_c hi) (rv_ixT hT (atI_nat hj))
def pre : PyData → Bool
  | .tuple (.str _ :: _ :: _) => false
  | _ => true
theorem pre_no {d : PyData} (h : pre d = true) : letD d = false := by
  unfold letD
  split
  · cases h
  · rfl
theorem pre_yes {d : PyData} (h : pre d = false) : ∃ n s r, d = .tuple (.str n :: s :: r) := by
  unfold pre at h
  split at h
  · exact ⟨_, _, _, rfl⟩
  · cases h
section
variable {K : PySem.W.Frag} {H : Hp} {v : V} {d : PyData} {s1 : Option V}
theorem et_pre (hd : Da K H v d) : EvT (tOr (tNot (tB (tCB (rIsi K) (tCons (tVar 0) (tCons (tC (.ty "tuple")) tNil))))) (tOr (tTest (tOp (rI0 fun i j => .bl (decide (i < j))) (tCB (rLenS K) (tCons (tVar 0) tNil)) (tC (.int 2)))) (tNot (tB (tCB (rIsi K) (tCons (tOp (rIxT K) (tVar 0) (tC (.int 0))) (tCons (tC (.ty "str")) tNil))))))) [some v, s1] H (pre d) := by
  cases hT : isTupD d with
  | false =>
    refine et_is (et_or (a := true) (b := true) (et_is (et_not (et_B (ev_cb (vs := [v, .ty "tuple"]) (by walk_at "ea") hd.isTup))) (by rw [hT]; rfl)) (fun h => by cases h)) ?_
    cases d <;> first | rfl | cases hT
  | true =>
    obtain ⟨r, xs, rfl, hX, hD⟩ := hd.tupE hT
    obtain ⟨l, rfl⟩ : ∃ l, d = .tuple l := by
      cases d with
      | tuple l => exact ⟨l, rfl⟩
      | _ => cases hT
    have hlen := hD.len
    have t0 : EvT (tNot (tB (tCB (rIsi K) (tCons (tVar 0) (tCons (tC (.ty "tuple")) tNil))))) [some (.ref r), s1] H false := et_is (et_not (et_B (ev_cb (vs := [.ref r, .ty "tuple"]) (by walk_at "ea") hd.isTup))) rfl
    have t1 : EvT (tTest (tOp (rI0 fun i j => .bl (decide (i < j))) (tCB (rLenS K) (tCons (tVar 0) tNil)) (tC (.int 2)))) [some (.ref r), s1] H (decide (l.length < 2)) := et_is (et_test (ev_op (ev_cb (vs := [.ref r]) (by walk_at "ea") (rc_lenT hX)) ev_c rv_I0)) (by
      have : (tupD (.tuple l)).length = l.length := rfl
      rw [decide_eq_decide]
      omega)
    have hD : DaAll K H xs l := hD
    match l, hD, t1 with
    | [], hD, t1 => exact et_is (et_or (a := false) t0 fun _ => et_or (a := true) (b := true) (et_is t1 rfl) (fun h => by cases h)) rfl
    | [d0], hD, t1 => exact et_is (et_or (a := false) t0 fun _ => et_or (a := true) (b := true) (et_is t1 rfl) (fun h => by cases h)) (by cases d0 <;> rfl)
    | d0 :: d1 :: l, .cons (v := x0) h0 (.cons h1 h2), t1 =>
      refine et_is (et_or (a := false) t0 fun _ => et_or (a := false) (b := !isS x0) (et_is t1 (decide_eq_false (by simp))) fun _ => et_not (et_B (ev_cb (vs := [x0, .ty "str"]) (ea_cons (ev_op (ev_var rfl) (ev_is ev_c (show V.int 0 = V.int ((0 : Nat) : Int) from rfl)) (rv_ixT hX (atI_nat (j := 0) rfl))) (ea_cons ev_c ea_nil)) (rc_isiStr h0.pl)))) ?_
      cases h0 <;> rfl
end
section
variable {P : Program} {w : World} {K : PySem.W.Frag} {mg : Str → Option Value} {base : Heap}
def kLet (K : PySem.W.Frag) (vs : List V) (H : Hp) (z : V) : Prop := ∃ (v : V) (d : PyData), vs = [v] ∧ Da K H v d ∧ safeD d = true ∧ z = .bl (letD d)
theorem ok_is_letter (T : Txt K mg w) : FnOk P w K mg base CX0 6 T.a_is_letter T.fd_is_letter ["value"] (Pure (kLet K)) := by
  have G_is_within := ok_is_within (P := P) (w := w) (base := base) T
  have G_is_keys_letter := ok_keys_letter (P := P) (w := w) (base := base) T
  have G_is_rows_letter := ok_rows_letter (P := P) (w := w) (base := base) T
  have G_is_piece_letter := ok_piece_letter (P := P) (w := w) (base := base) T
  have G_is_word_letter := ok_word_letter (P := P) (w := w) (base := base) T
  refine T.F_is_letter.ok sc_is_letter (fun vs H Q E h => ?_) (fun cdv A outer s H vs Q E hr h => ?_)
  · obtain ⟨_, ⟨_, _, rfl, _⟩, _⟩ := h; rfl
  · obtain ⟨_, ⟨v, d, rfl, hd, hs, rfl⟩, q⟩ := h
    cases hp : pre d with
    | true =>
      rw [pre_no hp] at q
      refine ⟨_, (pss_cons (ps_if (PW.pt (pw_or (pt_not (pt_val (pe_callB call_isi (by rfl) T.z_isinstance (by decide +kernel) (pa_cons (pv 0) (pa_cons (pe_bltn (v := .ty "tuple") (by rfl) T.z_tuple (by decide +kernel) rfl) pa_nil))))) (pw_or (pt_cmpR op_lt (pe_callB c_len (by rfl) T.z_len PySem.boot_len (pa_cons (pv 0) pa_nil)) pe_int (nomark _)) (pw_or1 (pt_not (pt_val (pe_callB call_isi (by rfl) T.z_isinstance (by decide +kernel) (pa_cons (pe_ix ix_tup (pv 0) pe_int (fun _ _ => rfl)) (pa_cons (pe_bltn (v := .ty "str") (by rfl) T.z_str (by decide +kernel) rfl) pa_nil))))))))) (pss_one (ps_ret pe_bl)) pss_nil)
  (pss_cons (ps_if (PW.pt (pw_or (pt_cmpR (op_notIn_kd T.d_FORMS) (pe_ix ix_tup (pv 0) pe_int (fun _ _ => rfl)) (pe_glob (v := .ref _) rfl T.g_FORMS rfl) (by rfl)) (pw_or1 (pt_not (pt_val (pe_call G_is_within (hr.mono (by decide)) (by rfl) T.g_is_within T.F_is_within.kp T.b_is_within .nil pass0 (pa_cons (pe_ix ix_tup (pv 0) pe_int (fun _ _ => rfl)) (pa_cons pe_int (pa_cons (pe_glob (v := .int (5)) rfl T.g_MOST_SEAT ⟨_, rfl⟩) pa_nil))))))))) (pss_one (ps_ret pe_bl)) pss_nil)
  (pss_cons (ps_set (i := 1) sc_is_letter.nd rfl (.inl rfl) (pe_ix ix_kdict (pe_glob (v := .ref _) rfl T.g_FORMS rfl) (pe_ix ix_tup (pv 0) pe_int (fun _ _ => rfl)) (fun _ _ => rfl)))
  (pss_one (ps_ret (pe_callL (i := 1) G_is_keys_letter (hr.mono (by decide)) rfl (Or.inl rfl) T.F_is_keys_letter.kp T.b_is_keys_letter .nil pass0 (pa_cons (pv 0) pa_nil))))))), ?_⟩
      exact q_when (b := true) (et_is (et_pre hd) hp) (fun _ H1 e1 => s_ret (v := .bl false) ev_c fun H2 e2 => q H2 (e1.trans e2)) (fun h => by cases h)
    | false =>
    obtain ⟨n, d1, ds, rfl⟩ := pre_yes hp
    have hs : (((n == "keys" || (n == "rows" || (n == "piece" || (n == "word" || n == "print")))) && (rowsSafe (.str n :: d1 :: ds) && pieceSafe (.str n :: d1 :: ds))) && decide (ds.length ≤ 1000)) = true := hs
    simp only [Bool.and_eq_true, Bool.or_eq_true, beq_iff_eq] at hs
    obtain ⟨⟨hn, hrs, hps⟩, _⟩ := hs
    obtain ⟨r, xs, rfl, hT, hD⟩ := hd.tupE rfl
    have hD : DaAll K H xs (.str n :: d1 :: ds) := hD
    obtain ⟨x1, xr, rfl, h1, hD2⟩ : ∃ x1 xr, xs = .str n :: x1 :: xr ∧ Da K H x1 d1 ∧ DaAll K H xr ds := by
      cases hD with
      | cons g0 g1 =>
        cases g1 with
        | cons g2 g3 =>
          cases g0
          exact ⟨_, _, rfl, g2, g3⟩
    rcases hn with rfl | rfl | rfl | rfl | rfl
    · refine ⟨_, (pss_cons (ps_if (PW.pt (pw_or (pt_not (pt_val (pe_callB call_isi (by rfl) T.z_isinstance (by decide +kernel) (pa_cons (pv 0) (pa_cons (pe_bltn (v := .ty "tuple") (by rfl) T.z_tuple (by decide +kernel) rfl) pa_nil))))) (pw_or (pt_cmpR op_lt (pe_callB c_len (by rfl) T.z_len PySem.boot_len (pa_cons (pv 0) pa_nil)) pe_int (nomark _)) (pw_or1 (pt_not (pt_val (pe_callB call_isi (by rfl) T.z_isinstance (by decide +kernel) (pa_cons (pe_ix ix_tup (pv 0) pe_int (fun _ _ => rfl)) (pa_cons (pe_bltn (v := .ty "str") (by rfl) T.z_str (by decide +kernel) rfl) pa_nil))))))))) (pss_one (ps_ret pe_bl)) pss_nil)
  (pss_cons (ps_if (PW.pt (pw_or (pt_cmpR (op_notIn_kd T.d_FORMS) (pe_ix ix_tup (pv 0) pe_int (fun _ _ => rfl)) (pe_glob (v := .ref _) rfl T.g_FORMS rfl) (by rfl)) (pw_or1 (pt_not (pt_val (pe_call G_is_within (hr.mono (by decide)) (by rfl) T.g_is_within T.F_is_within.kp T.b_is_within .nil pass0 (pa_cons (pe_ix ix_tup (pv 0) pe_int (fun _ _ => rfl)) (pa_cons pe_int (pa_cons (pe_glob (v := .int (5)) rfl T.g_MOST_SEAT ⟨_, rfl⟩) pa_nil))))))))) (pss_one (ps_ret pe_bl)) pss_nil)
  (pss_cons (ps_set (i := 1) sc_is_letter.nd rfl (.inl rfl) (pe_ix ix_kdict (pe_glob (v := .ref _) rfl T.g_FORMS rfl) (pe_ix ix_tup (pv 0) pe_int (fun _ _ => rfl)) (fun _ _ => rfl)))
  (pss_one (ps_ret (pe_callL (i := 1) G_is_keys_letter (hr.mono (by decide)) rfl (Or.inl rfl) T.F_is_keys_letter.kp T.b_is_keys_letter .nil pass0 (pa_cons (pv 0) pa_nil))))))), ?_⟩
      refine q_when (b := false) (et_is (et_pre hd) rfl) (fun h => by cases h) fun _ H1 e1 => ?_
      have hT1 := ex_t e1 hT
      refine q_when (b := !withinD 1 5 d1) (et_is (et_or (a := false) (b := !withinD 1 5 d1) (et_test (ev_op (ev_ixJ (j := 0) (ev_var rfl) hT1 rfl rfl) ev_c fun H2 e2 Q2 q2 => ⟨_, _, rfl, rfl, T.k_keys, q2 H2 (Ex.refl H2)⟩)) fun _ => et_not (et_B (ev_callP (vs := [x1, .int 1, .int 5]) (ea_cons (ev_ixJ (j := 1) (ev_var rfl) hT1 rfl rfl) (ea_cons ev_c (ea_cons ev_c ea_nil))) fun H2 e2 => ⟨x1, 1, 5, rfl, h1.pl.ex (e1.trans e2), by rw [h1.within]⟩))) rfl) (fun hb H2 e2 => ?_) fun hb H2 e2 => ?_
      · have e : letD (.tuple (.str "keys" :: d1 :: ds)) = false := by
          show (withinD 1 5 d1 && _) = false
          rw [nt hb]
          rfl
        rw [e] at q
        exact s_ret (v := .bl false) ev_c fun H3 e3 => q H3 ((e1.trans e2).trans e3)
      · have e : letD (.tuple (.str "keys" :: d1 :: ds)) = keysD (.str "keys" :: d1 :: ds) := by
          show (withinD 1 5 d1 && formD "keys" _) = _
          rw [nf hb, Bool.true_and]
          unfold formD
          rw [if_pos rfl]
        rw [e] at q
        refine q_asg (v := .ref T.a_is_keys_letter) (ev_op ev_c (ev_ixJ (j := 0) (ev_var rfl) (ex_t e2 hT1) rfl rfl) fun H3 e3 Q3 q3 => ⟨_, _, V.ref T.a_is_keys_letter, rfl, rfl, ⟨_, _, _, T.d_FORMS.at_, T.d_FORMS.lit, T.k_keys, rfl⟩, q3 H3 (Ex.refl H3)⟩) fun H3 e3 => ?_
        have e13 := (e1.trans e2).trans e3
        exact s_ret (v := .bl (keysD (.str "keys" :: d1 :: ds))) (ev_callLP (vs := [.ref r]) rfl (by walk_at "ea") fun H4 e4 => ⟨r, _, _, rfl, ex_t (e13.trans e4) hT, daa_ex (e13.trans e4) _ _ hD, True.intro, rfl⟩) fun H4 e4 => q H4 (e13.trans e4)
    · refine ⟨_, (pss_cons (ps_if (PW.pt (pw_or (pt_not (pt_val (pe_callB call_isi (by rfl) T.z_isinstance (by decide +kernel) (pa_cons (pv 0) (pa_cons (pe_bltn (v := .ty "tuple") (by rfl) T.z_tuple (by decide +kernel) rfl) pa_nil))))) (pw_or (pt_cmpR op_lt (pe_callB c_len (by rfl) T.z_len PySem.boot_len (pa_cons (pv 0) pa_nil)) pe_int (nomark _)) (pw_or1 (pt_not (pt_val (pe_callB call_isi (by rfl) T.z_isinstance (by decide +kernel) (pa_cons (pe_ix ix_tup (pv 0) pe_int (fun _ _ => rfl)) (pa_cons (pe_bltn (v := .ty "str") (by rfl) T.z_str (by decide +kernel) rfl) pa_nil))))))))) (pss_one (ps_ret pe_bl)) pss_nil)
  (pss_cons (ps_if (PW.pt (pw_or (pt_cmpR (op_notIn_kd T.d_FORMS) (pe_ix ix_tup (pv 0) pe_int (fun _ _ => rfl)) (pe_glob (v := .ref _) rfl T.g_FORMS rfl) (by rfl)) (pw_or1 (pt_not (pt_val (pe_call G_is_within (hr.mono (by decide)) (by rfl) T.g_is_within T.F_is_within.kp T.b_is_within .nil pass0 (pa_cons (pe_ix ix_tup (pv 0) pe_int (fun _ _ => rfl)) (pa_cons pe_int (pa_cons (pe_glob (v := .int (5)) rfl T.g_MOST_SEAT ⟨_, rfl⟩) pa_nil))))))))) (pss_one (ps_ret pe_bl)) pss_nil)
  (pss_cons (ps_set (i := 1) sc_is_letter.nd rfl (.inl rfl) (pe_ix ix_kdict (pe_glob (v := .ref _) rfl T.g_FORMS rfl) (pe_ix ix_tup (pv 0) pe_int (fun _ _ => rfl)) (fun _ _ => rfl)))
  (pss_one (ps_ret (pe_callL (i := 1) G_is_rows_letter (hr.mono (by decide)) rfl (Or.inl rfl) T.F_is_rows_letter.kp T.b_is_rows_letter .nil pass0 (pa_cons (pv 0) pa_nil))))))), ?_⟩
      refine q_when (b := false) (et_is (et_pre hd) rfl) (fun h => by cases h) fun _ H1 e1 => ?_
      have hT1 := ex_t e1 hT
      refine q_when (b := !withinD 1 5 d1) (et_is (et_or (a := false) (b := !withinD 1 5 d1) (et_test (ev_op (ev_ixJ (j := 0) (ev_var rfl) hT1 rfl rfl) ev_c fun H2 e2 Q2 q2 => ⟨_, _, rfl, rfl, T.k_rows, q2 H2 (Ex.refl H2)⟩)) fun _ => et_not (et_B (ev_callP (vs := [x1, .int 1, .int 5]) (ea_cons (ev_ixJ (j := 1) (ev_var rfl) hT1 rfl rfl) (ea_cons ev_c (ea_cons ev_c ea_nil))) fun H2 e2 => ⟨x1, 1, 5, rfl, h1.pl.ex (e1.trans e2), by rw [h1.within]⟩))) rfl) (fun hb H2 e2 => ?_) fun hb H2 e2 => ?_
      · have e : letD (.tuple (.str "rows" :: d1 :: ds)) = false := by
          show (withinD 1 5 d1 && _) = false
          rw [nt hb]
          rfl
        rw [e] at q
        exact s_ret (v := .bl false) ev_c fun H3 e3 => q H3 ((e1.trans e2).trans e3)
      · have e : letD (.tuple (.str "rows" :: d1 :: ds)) = rowsD (.str "rows" :: d1 :: ds) := by
          show (withinD 1 5 d1 && formD "rows" _) = _
          rw [nf hb, Bool.true_and]
          unfold formD
          rw [if_neg (by decide), if_pos rfl]
        rw [e] at q
        refine q_asg (v := .ref T.a_is_rows_letter) (ev_op ev_c (ev_ixJ (j := 0) (ev_var rfl) (ex_t e2 hT1) rfl rfl) fun H3 e3 Q3 q3 => ⟨_, _, V.ref T.a_is_rows_letter, rfl, rfl, ⟨_, _, _, T.d_FORMS.at_, T.d_FORMS.lit, T.k_rows, rfl⟩, q3 H3 (Ex.refl H3)⟩) fun H3 e3 => ?_
        have e13 := (e1.trans e2).trans e3
        exact s_ret (v := .bl (rowsD (.str "rows" :: d1 :: ds))) (ev_callLP (vs := [.ref r]) rfl (by walk_at "ea") fun H4 e4 => ⟨r, _, _, rfl, ex_t (e13.trans e4) hT, daa_ex (e13.trans e4) _ _ hD, hrs, rfl⟩) fun H4 e4 => q H4 (e13.trans e4)
    · refine ⟨_, (pss_cons (ps_if (PW.pt (pw_or (pt_not (pt_val (pe_callB call_isi (by rfl) T.z_isinstance (by decide +kernel) (pa_cons (pv 0) (pa_cons (pe_bltn (v := .ty "tuple") (by rfl) T.z_tuple (by decide +kernel) rfl) pa_nil))))) (pw_or (pt_cmpR op_lt (pe_callB c_len (by rfl) T.z_len PySem.boot_len (pa_cons (pv 0) pa_nil)) pe_int (nomark _)) (pw_or1 (pt_not (pt_val (pe_callB call_isi (by rfl) T.z_isinstance (by decide +kernel) (pa_cons (pe_ix ix_tup (pv 0) pe_int (fun _ _ => rfl)) (pa_cons (pe_bltn (v := .ty "str") (by rfl) T.z_str (by decide +kernel) rfl) pa_nil))))))))) (pss_one (ps_ret pe_bl)) pss_nil)
  (pss_cons (ps_if (PW.pt (pw_or (pt_cmpR (op_notIn_kd T.d_FORMS) (pe_ix ix_tup (pv 0) pe_int (fun _ _ => rfl)) (pe_glob (v := .ref _) rfl T.g_FORMS rfl) (by rfl)) (pw_or1 (pt_not (pt_val (pe_call G_is_within (hr.mono (by decide)) (by rfl) T.g_is_within T.F_is_within.kp T.b_is_within .nil pass0 (pa_cons (pe_ix ix_tup (pv 0) pe_int (fun _ _ => rfl)) (pa_cons pe_int (pa_cons (pe_glob (v := .int (5)) rfl T.g_MOST_SEAT ⟨_, rfl⟩) pa_nil))))))))) (pss_one (ps_ret pe_bl)) pss_nil)
  (pss_cons (ps_set (i := 1) sc_is_letter.nd rfl (.inl rfl) (pe_ix ix_kdict (pe_glob (v := .ref _) rfl T.g_FORMS rfl) (pe_ix ix_tup (pv 0) pe_int (fun _ _ => rfl)) (fun _ _ => rfl)))
  (pss_one (ps_ret (pe_callL (i := 1) G_is_piece_letter (hr.mono (by decide)) rfl (Or.inl rfl) T.F_is_piece_letter.kp T.b_is_piece_letter .nil pass0 (pa_cons (pv 0) pa_nil))))))), ?_⟩
      refine q_when (b := false) (et_is (et_pre hd) rfl) (fun h => by cases h) fun _ H1 e1 => ?_
      have hT1 := ex_t e1 hT
      refine q_when (b := !withinD 1 5 d1) (et_is (et_or (a := false) (b := !withinD 1 5 d1) (et_test (ev_op (ev_ixJ (j := 0) (ev_var rfl) hT1 rfl rfl) ev_c fun H2 e2 Q2 q2 => ⟨_, _, rfl, rfl, T.k_piece, q2 H2 (Ex.refl H2)⟩)) fun _ => et_not (et_B (ev_callP (vs := [x1, .int 1, .int 5]) (ea_cons (ev_ixJ (j := 1) (ev_var rfl) hT1 rfl rfl) (ea_cons ev_c (ea_cons ev_c ea_nil))) fun H2 e2 => ⟨x1, 1, 5, rfl, h1.pl.ex (e1.trans e2), by rw [h1.within]⟩))) rfl) (fun hb H2 e2 => ?_) fun hb H2 e2 => ?_
      · have e : letD (.tuple (.str "piece" :: d1 :: ds)) = false := by
          show (withinD 1 5 d1 && _) = false
          rw [nt hb]
          rfl
        rw [e] at q
        exact s_ret (v := .bl false) ev_c fun H3 e3 => q H3 ((e1.trans e2).trans e3)
      · have e : letD (.tuple (.str "piece" :: d1 :: ds)) = pieceD (.str "piece" :: d1 :: ds) := by
          show (withinD 1 5 d1 && formD "piece" _) = _
          rw [nf hb, Bool.true_and]
          unfold formD
          rw [if_neg (by decide), if_neg (by decide), if_pos rfl]
        rw [e] at q
        refine q_asg (v := .ref T.a_is_piece_letter) (ev_op ev_c (ev_ixJ (j := 0) (ev_var rfl) (ex_t e2 hT1) rfl rfl) fun H3 e3 Q3 q3 => ⟨_, _, V.ref T.a_is_piece_letter, rfl, rfl, ⟨_, _, _, T.d_FORMS.at_, T.d_FORMS.lit, T.k_piece, rfl⟩, q3 H3 (Ex.refl H3)⟩) fun H3 e3 => ?_
        have e13 := (e1.trans e2).trans e3
        exact s_ret (v := .bl (pieceD (.str "piece" :: d1 :: ds))) (ev_callLP (vs := [.ref r]) rfl (by walk_at "ea") fun H4 e4 => ⟨r, _, _, rfl, ex_t (e13.trans e4) hT, daa_ex (e13.trans e4) _ _ hD, hps, rfl⟩) fun H4 e4 => q H4 (e13.trans e4)
    · refine ⟨_, (pss_cons (ps_if (PW.pt (pw_or (pt_not (pt_val (pe_callB call_isi (by rfl) T.z_isinstance (by decide +kernel) (pa_cons (pv 0) (pa_cons (pe_bltn (v := .ty "tuple") (by rfl) T.z_tuple (by decide +kernel) rfl) pa_nil))))) (pw_or (pt_cmpR op_lt (pe_callB c_len (by rfl) T.z_len PySem.boot_len (pa_cons (pv 0) pa_nil)) pe_int (nomark _)) (pw_or1 (pt_not (pt_val (pe_callB call_isi (by rfl) T.z_isinstance (by decide +kernel) (pa_cons (pe_ix ix_tup (pv 0) pe_int (fun _ _ => rfl)) (pa_cons (pe_bltn (v := .ty "str") (by rfl) T.z_str (by decide +kernel) rfl) pa_nil))))))))) (pss_one (ps_ret pe_bl)) pss_nil)
  (pss_cons (ps_if (PW.pt (pw_or (pt_cmpR (op_notIn_kd T.d_FORMS) (pe_ix ix_tup (pv 0) pe_int (fun _ _ => rfl)) (pe_glob (v := .ref _) rfl T.g_FORMS rfl) (by rfl)) (pw_or1 (pt_not (pt_val (pe_call G_is_within (hr.mono (by decide)) (by rfl) T.g_is_within T.F_is_within.kp T.b_is_within .nil pass0 (pa_cons (pe_ix ix_tup (pv 0) pe_int (fun _ _ => rfl)) (pa_cons pe_int (pa_cons (pe_glob (v := .int (5)) rfl T.g_MOST_SEAT ⟨_, rfl⟩) pa_nil))))))))) (pss_one (ps_ret pe_bl)) pss_nil)
  (pss_cons (ps_set (i := 1) sc_is_letter.nd rfl (.inl rfl) (pe_ix ix_kdict (pe_glob (v := .ref _) rfl T.g_FORMS rfl) (pe_ix ix_tup (pv 0) pe_int (fun _ _ => rfl)) (fun _ _ => rfl)))
  (pss_one (ps_ret (pe_callL (i := 1) G_is_word_letter (hr.mono (by decide)) rfl (Or.inl rfl) T.F_is_word_letter.kp T.b_is_word_letter .nil pass0 (pa_cons (pv 0) pa_nil))))))), ?_⟩
      refine q_when (b := false) (et_is (et_pre hd) rfl) (fun h => by cases h) fun _ H1 e1 => ?_
      have hT1 := ex_t e1 hT
      refine q_when (b := !withinD 1 5 d1) (et_is (et_or (a := false) (b := !withinD 1 5 d1) (et_test (ev_op (ev_ixJ (j := 0) (ev_var rfl) hT1 rfl rfl) ev_c fun H2 e2 Q2 q2 => ⟨_, _, rfl, rfl, T.k_word, q2 H2 (Ex.refl H2)⟩)) fun _ => et_not (et_B (ev_callP (vs := [x1, .int 1, .int 5]) (ea_cons (ev_ixJ (j := 1) (ev_var rfl) hT1 rfl rfl) (ea_cons ev_c (ea_cons ev_c ea_nil))) fun H2 e2 => ⟨x1, 1, 5, rfl, h1.pl.ex (e1.trans e2), by rw [h1.within]⟩))) rfl) (fun hb H2 e2 => ?_) fun hb H2 e2 => ?_
      · have e : letD (.tuple (.str "word" :: d1 :: ds)) = false := by
          show (withinD 1 5 d1 && _) = false
          rw [nt hb]
          rfl
        rw [e] at q
        exact s_ret (v := .bl false) ev_c fun H3 e3 => q H3 ((e1.trans e2).trans e3)
      · have e : letD (.tuple (.str "word" :: d1 :: ds)) = wordD (.str "word" :: d1 :: ds) := by
          show (withinD 1 5 d1 && formD "word" _) = _
          rw [nf hb, Bool.true_and]
          unfold formD
          rw [if_neg (by decide), if_neg (by decide), if_neg (by decide), if_pos rfl]
        rw [e] at q
        refine q_asg (v := .ref T.a_is_word_letter) (ev_op ev_c (ev_ixJ (j := 0) (ev_var rfl) (ex_t e2 hT1) rfl rfl) fun H3 e3 Q3 q3 => ⟨_, _, V.ref T.a_is_word_letter, rfl, rfl, ⟨_, _, _, T.d_FORMS.at_, T.d_FORMS.lit, T.k_word, rfl⟩, q3 H3 (Ex.refl H3)⟩) fun H3 e3 => ?_
        have e13 := (e1.trans e2).trans e3
        exact s_ret (v := .bl (wordD (.str "word" :: d1 :: ds))) (ev_callLP (vs := [.ref r]) rfl (by walk_at "ea") fun H4 e4 => ⟨r, _, _, rfl, ex_t (e13.trans e4) hT, daa_ex (e13.trans e4) _ _ hD, True.intro, rfl⟩) fun H4 e4 => q H4 (e13.trans e4)
    · refine ⟨_, (pss_cons (ps_if (PW.pt (pw_or (pt_not (pt_val (pe_callB call_isi (by rfl) T.z_isinstance (by decide +kernel) (pa_cons (pv 0) (pa_cons (pe_bltn (v := .ty "tuple") (by rfl) T.z_tuple (by decide +kernel) rfl) pa_nil))))) (pw_or (pt_cmpR op_lt (pe_callB c_len (by rfl) T.z_len PySem.boot_len (pa_cons (pv 0) pa_nil)) pe_int (nomark _)) (pw_or1 (pt_not (pt_val (pe_callB call_isi (by rfl) T.z_isinstance (by decide +kernel) (pa_cons (pe_ix ix_tup (pv 0) pe_int (fun _ _ => rfl)) (pa_cons (pe_bltn (v := .ty "str") (by rfl) T.z_str (by decide +kernel) rfl) pa_nil))))))))) (pss_one (ps_ret pe_bl)) pss_nil)
  (pss_cons (ps_if (PW.pt (pw_or (pt_cmpR (op_notIn_kd T.d_FORMS) (pe_ix ix_tup (pv 0) pe_int (fun _ _ => rfl)) (pe_glob (v := .ref _) rfl T.g_FORMS rfl) (by rfl)) (pw_or1 (pt_not (pt_val (pe_call G_is_within (hr.mono (by decide)) (by rfl) T.g_is_within T.F_is_within.kp T.b_is_within .nil pass0 (pa_cons (pe_ix ix_tup (pv 0) pe_int (fun _ _ => rfl)) (pa_cons pe_int (pa_cons (pe_glob (v := .int (5)) rfl T.g_MOST_SEAT ⟨_, rfl⟩) pa_nil))))))))) (pss_one (ps_ret pe_bl)) pss_nil)
  (pss_cons (ps_set (i := 1) sc_is_letter.nd rfl (.inl rfl) (pe_ix ix_kdict (pe_glob (v := .ref _) rfl T.g_FORMS rfl) (pe_ix ix_tup (pv 0) pe_int (fun _ _ => rfl)) (fun _ _ => rfl)))
  (pss_one (ps_ret (pe_callL (i := 1) G_is_keys_letter (hr.mono (by decide)) rfl (Or.inl rfl) T.F_is_keys_letter.kp T.b_is_keys_letter .nil pass0 (pa_cons (pv 0) pa_nil))))))), ?_⟩
      refine q_when (b := false) (et_is (et_pre hd) rfl) (fun h => by cases h) fun _ H1 e1 => ?_
      have hT1 := ex_t e1 hT
      have e : letD (.tuple (.str "print" :: d1 :: ds)) = false := by
        show (withinD 1 5 d1 && formD "print" _) = false
        unfold formD
        rw [if_neg (by decide), if_neg (by decide), if_neg (by decide), if_neg (by decide), Bool.and_false]
      rw [e] at q
      refine q_when (b := true) (et_is (et_or (a := true) (b := true) (et_test (ev_op (ev_ixJ (j := 0) (ev_var rfl) hT1 rfl rfl) ev_c fun H2 e2 Q2 q2 => ⟨_, _, rfl, rfl, T.k_print, q2 H2 (Ex.refl H2)⟩)) (fun h => by cases h)) rfl) (fun _ H2 e2 => ?_) (fun h => by cases h)
      exact s_ret (v := .bl false) ev_c fun H3 e3 => q H3 ((e1.trans e2).trans e3)
end
end Kz
set_option Elab.async false
set_option linter.all false
set_option maxRecDepth 100000
set_option maxHeartbeats 4000000
set_option exponentiation.threshold 500
namespace Kz
open PySem PySem.Spec PyProof.Rows L2 Evl Vr
local macro_rules | `(tactic| walk_at "sc") => `(tactic| first | (with_reducible assumption) | (with_reducible exact sc_mul (by omega)) | (with_reducible exact sc_mulr (by omega)) | (with_reducible exact sc_div (by omega) (by decide)) | (show (0 : Int) < _; omega) | (show _ ≠ (0 : Int); omega) | (with_reducible rfl) | decide)
local macro_rules | `(tactic| walk_at "sq") => `(tactic| first | assumption | exact sq_of (by assumption) | exact st_of (by assumption))
local macro_rules | `(tactic| walk_at "pl") => `(tactic| first | assumption | exact pl_int | exact pl_bl | exact pl_str | exact pl_non | exact pl_lst (by assumption) | exact pl_tup (by assumption) | exact pl_dK (by assumption))
local macro_rules | `(tactic| walk_at "rv") => `(tactic| first
  | with_reducible exact rv_I0
  | with_reducible exact ru_neg
  | ((with_reducible apply rv_I); walk_at "sc")
  | ((with_reducible apply rv_ixL); walk_at "sq"; first | rfl | assumption)
  | ((with_reducible apply rv_ixT); walk_at "sq"; first | rfl | assumption)
  | ((with_reducible apply rv_eq); rfl) | ((with_reducible apply rv_ne); rfl))
local macro_rules | `(tactic| walk_at "rc") => `(tactic| first
  | with_reducible exact rc_I1 | with_reducible exact rc_B1 | with_reducible exact rc_I2 | ((with_reducible apply rc_repr); walk_at "sc") | ((with_reducible apply rc_lenL); walk_at "sq")
  | ((with_reducible apply rc_isiInt); walk_at "pl") | ((with_reducible apply rc_isiBool); walk_at "pl"))
local macro_rules | `(tactic| walk_at "ea") => `(tactic| first
  | with_reducible exact ea_nil | ((with_reducible apply ea_cons); walk_at "ev"; walk_at "ea"))
local macro_rules | `(tactic| walk_at "pow") => `(tactic| first
  | with_reducible exact ev_pow (a := 10) (b := 9) (c := 1000000000) (by decide +kernel) (by decide +kernel)
  | with_reducible exact ev_pow (a := 10) (b := 10) (c := 10000000000) (by decide +kernel) (by decide +kernel)
  | with_reducible exact ev_pow (a := 10) (b := 12) (c := 1000000000000) (by decide +kernel) (by decide +kernel)
  | with_reducible exact ev_pow (a := 10) (b := 17) (c := 100000000000000000) (by decide +kernel) (by decide +kernel)
  | with_reducible exact ev_pow (a := 10) (b := 20) (c := 100000000000000000000) (by decide +kernel) (by decide +kernel)
  | with_reducible exact ev_pow (a := 10) (b := 29) (c := 100000000000000000000000000000) (by decide +kernel) (by decide +kernel)
  | with_reducible exact ev_pow (a := 10) (b := 30) (c := 1000000000000000000000000000000) (by decide +kernel) (by decide +kernel)
  | with_reducible exact ev_pow (a := 10) (b := 40) (c := 10000000000000000000000000000000000000000) (by decide +kernel) (by decide +kernel)
  | with_reducible exact ev_pow (a := 10) (b := 57) (c := 1000000000000000000000000000000000000000000000000000000000) (by decide +kernel) (by decide +kernel)
  | with_reducible exact ev_pow (a := 10) (b := 58) (c := 10000000000000000000000000000000000000000000000000000000000) (by decide +kernel) (by decide +kernel)
  | with_reducible exact ev_pow (a := 10) (b := 59) (c := 100000000000000000000000000000000000000000000000000000000000) (by decide +kernel) (by decide +kernel)
  | with_reducible exact ev_pow (a := 10) (b := 60) (c := 1000000000000000000000000000000000000000000000000000000000000) (by decide +kernel) (by decide +kernel))
local macro_rules | `(tactic| walk_at "call") => `(tactic| (intro H9 e9; first | exact ⟨_, rfl, rfl⟩ | exact ⟨_, _, rfl, rfl⟩ | exact ⟨_, _, _, rfl, rfl⟩ | exact ⟨_, rfl, by walk_at "pl", rfl⟩ | (refine ⟨_, _, _, rfl, ?_, rfl⟩; first | exact Plain.ex e9 (by assumption) | walk_at "pl") | (refine ⟨_, rfl, ?_, rfl⟩; first | exact Plain.ex e9 (by assumption) | walk_at "pl")))
local macro_rules | `(tactic| walk_at "ev") => `(tactic| first
  | with_reducible exact ev_c
  | exact ev_var rfl
  | walk_at "pow"
  | ((with_reducible apply ev_op); walk_at "ev"; walk_at "ev"; walk_at "rv")
  | ((with_reducible apply ev_un); walk_at "ev"; walk_at "rv")
  | ((with_reducible apply ev_cb); walk_at "ea"; walk_at "rc")
  | ((with_reducible apply ev_callP); walk_at "ea"; walk_at "call")
  | ((with_reducible apply ev_chain); walk_at "ev"; walk_at "ev"; walk_at "rv"; walk_at "ev"; walk_at "rv")
  | ((with_reducible apply ev_andV); walk_at "ev"; intro _; walk_at "ev")
  | ((with_reducible apply ev_orV); walk_at "ev"; intro _; walk_at "ev")
  | ((with_reducible apply ev_ite); walk_at "et"; intro _; walk_at "ev"; intro _; walk_at "ev")
  | ((with_reducible apply ev_notV); walk_at "ev"))
local macro_rules | `(tactic| walk_at "et") => `(tactic| first
  | ((with_reducible apply et_test); walk_at "ev")
  | ((with_reducible apply et_B); walk_at "ev")
  | ((with_reducible apply et_and); walk_at "et"; intro _; walk_at "et")
  | ((with_reducible apply et_or); walk_at "et"; intro _; walk_at "et")
  | ((with_reducible apply et_not); walk_at "et"))
open Tx Wo
/-- a text is the text of a letter -/
def readD (z : List Nat) : Bool := match vOf z with
  | .ok d => letD d
  | .error _ => false
def readSafe (z : List Nat) : Bool := match vOf z with
  | .ok d => safeD d
  | .error _ => true
theorem s_asgCall {σ : L2.St} {H : Hp} {ts : TA} {D : Ends} {i : Nat} {sp : Sp} {E : XK} {vs : List V} (ha : EvA ts σ H vs) (h : ∀ H1, Ex H H1 → sp vs H1 (fun x H2 => D.nx (σ.set i (some x)) H2) E) : tAsg (tCall sp [] E ts) (gName i) D σ H :=
  ha H (Ex.refl H) _ fun H1 e1 => by
    show sp (vs ++ []) H1 _ E
    rw [List.append_nil]
    exact h H1 e1
section
variable {P : Program} {w : World} {K : PySem.W.Frag} {mg : Str → Option Value} {base : Heap}
def spNeedL (K : PySem.W.Frag) (CL : Addr) : Sp := fun vs H Q E => ∃ (v : V) (d : PyData), vs = [v] ∧ Da K H v d ∧ safeD d = true ∧ (letD d = true → ∀ H', Ex H H' → Q .non H') ∧ (letD d = false → ∀ H', Ex H H' → E (.ref CL) none H')
theorem ok_need_letter (T : Txt K mg w) : FnOk P w K mg base (L2.CX P w) 7 T.a_need_letter T.fd_need_letter ["value"] (spNeedL K T.C_LE) := by
  have G_is_letter := ok_is_letter (P := P) (w := w) (base := base) T
  refine T.F_need_letter.okX sc_need_letter (fun vs H Q E h => ?_) (fun cdv A outer s H vs Q E hr h => ?_)
  · obtain ⟨_, _, rfl, _⟩ := h; rfl
  · obtain ⟨v, d, rfl, hd, hs, q1, q2⟩ := h
    refine ⟨_, (pss_one (ps_if (pt_not (pt_val (pe_call G_is_letter (hr.mono (by decide)) (by rfl) T.g_is_letter T.F_is_letter.kp T.b_is_letter .nil pass0 (pa_cons (pv 0) pa_nil)))) (pss_one (ps_raise (W := fun cls d _ H => E cls d H) rfl (takes_of rfl rfl rfl rfl) (pmk_own PySem.F.excBase_ValueError T.x_LE T.g_InvalidLetter T.k_LE (raises_own T.e_LE T.y_LE) (by rfl)))) pss_nil)), ?_⟩
    refine s_when (b := !letD d) (et_not (et_B (ev_callP (vs := [v]) (by walk_at "ea") fun H1 e1 => ⟨v, d, rfl, da_ex e1 _ _ hd, hs, rfl⟩))) (fun hb H1 e1 => ?_) (fun hb H1 e1 => q1 (nf hb) H1 e1)
    exact q2 (nt hb) H1 e1
/-- the call fails by InvalidLetter, or by InvalidText -/
def spRead (K : PySem.W.Frag) (CL CT : Addr) : Sp := fun vs H Q E => ∃ v, vs = [v] ∧ Plain K H v ∧ (∀ s, v = .str s → s.length ≤ 100000) ∧ (textErr v = true → ∀ H', Ex H H' → E (.ref CT) none H') ∧ ∀ z, v = vS z → textErr v = false → readSafe z = true ∧ readD z = false ∧ ∀ H', Ex H H' → E (.ref CL) none H'
theorem ok_read_letter (T : Txt K mg w) : FnOk P w K mg base (L2.CX P w) 8 T.a_read_letter T.fd_read_letter ["text"] (spRead K T.C_LE T.C_TE) := by
  have G_value_of := ok_value_of (P := P) (w := w) (base := base) T
  have G_need_letter := ok_need_letter (P := P) (w := w) (base := base) T
  refine T.F_read_letter.okX sc_read_letter (fun vs H Q E h => ?_) (fun cdv A outer s H vs Q E hr h => ?_)
  · obtain ⟨_, rfl, _⟩ := h; rfl
  · obtain ⟨v, rfl, hp, hl, q1, q2⟩ := h
    refine ⟨_, (pss_cons (L2H.ps_try_onlyX (Wout := fun cls d _ H => E cls d H) (ts := fun _ _ _ => fun _ σ H => E (.ref T.C_LE) none H) (tb := fun W => fun D σ H => ∃ Ech : XK, (∀ cls d σ' H', Ech cls d H' → W cls d σ' H') ∧ tAsg (tCall (spVal K T.C_TE T.C_PE) [] Ech (tCons (tVar 0) tNil)) (gName 1) D σ H) rfl rfl ⟨rfl, by decide, .inl T.g_ParseError⟩ (fun _ => by passes_own) (takes_of rfl rfl rfl rfl) (fun W pn xe tkN _ _ => ⟨fun pins s σ H D I ⟨Ech, hW, h⟩ => (pss_one (ps_set (i := 1) sc_read_letter.nd rfl (.inl rfl) (pe_call (E := Ech) G_value_of (hr.mono (by decide)) (by rfl) T.g_value_of T.F_value_of.kp T.b_value_of .nil (L2N.passes_call tkN hW) (pa_cons (pv 0) pa_nil)))).run pins s σ H D I h⟩) (fun a oe cls d pn hz hf tkS hot => pss_one (L2H.ps_raiseHN (W := fun cls d _ H => E cls d H) hot tkS (L2H.pmk5_own PySem.F.excBase_ValueError T.x_LE T.g_InvalidLetter T.k_LE (raises_own T.e_LE T.y_LE) (by rfl)))))
  (pss_cons (ps_expr (pe_call G_need_letter (hr.mono (by decide)) (by rfl) T.g_need_letter T.F_need_letter.kp T.b_need_letter .nil (passes_call (W := fun cls d _ H => E cls d H) (takes_of rfl rfl rfl rfl) (fun _ _ _ _ h => h)) (pa_cons (pv 1) pa_nil)))
  (pss_one (ps_ret (pv 1))))), ?_⟩
    refine ⟨fun cls d H' => (cls = .ref T.C_PE ∧ E (.ref T.C_LE) none H') ∨ (cls = .ref T.C_TE ∧ E cls d H'), fun cls d σ' H' hE => ?_, ?_⟩
    · rcases hE with ⟨rfl, hE⟩ | ⟨rfl, hE⟩
      · exact ⟨true, T.m_PE_PE, fun _ a ha => hE, fun z => by cases z⟩
      · exact ⟨false, T.m_TE_PE, (fun z => by cases z), fun _ => hE⟩
    · refine s_asgCall (vs := [v]) (ea_cons (ev_var rfl) ea_nil) fun H1 e1 => ⟨v, rfl, hp.ex e1, hl, fun ht H' e' => .inr ⟨rfl, q1 ht H' (e1.trans e')⟩, fun z hz ht => ?_⟩
      obtain ⟨h1, h2, h3⟩ := q2 z hz ht
      unfold readSafe at h1
      unfold readD at h2
      cases hv : vOf z with
      | error n => exact fun d H' e' hd => .inl ⟨rfl, h3 H' (e1.trans e')⟩
      | ok d =>
        rw [hv] at h1 h2
        refine fun hn v' H' e' hd => q_call (vs := [v']) (ea_cons (ev_var rfl) ea_nil) fun H2 e2 => ⟨v', d, rfl, dp_da _ _ hn (dp_ex e2 hd), h1, fun z => (by rw [show letD d = false from h2] at z; cases z), fun _ H3 e3 => h3 H3 (((e1.trans e').trans e2).trans e3)⟩
end
end Kz
set_option Elab.async false
set_option linter.all false
set_option maxRecDepth 100000
set_option maxHeartbeats 4000000
set_option exponentiation.threshold 500
namespace Kz
open PySem PySem.Spec PyProof.Rows L2 Evl Vr
local macro_rules | `(tactic| walk_at "sc") => `(tactic| first | (with_reducible assumption) | (with_reducible exact sc_mul (by omega)) | (with_reducible exact sc_mulr (by omega)) | (with_reducible exact sc_div (by omega) (by decide)) | (show (0 : Int) < _; omega) | (show _ ≠ (0 : Int); omega) | (with_reducible rfl) | decide)
local macro_rules | `(tactic| walk_at "sq") => `(tactic| first | assumption | exact sq_of (by assumption) | exact st_of (by assumption))
local macro_rules | `(tactic| walk_at "pl") => `(tactic| first | assumption | exact pl_int | exact pl_bl | exact pl_str | exact pl_non | exact pl_lst (by assumption) | exact pl_tup (by assumption) | exact pl_dK (by assumption))
local macro_rules | `(tactic| walk_at "rv") => `(tactic| first
  | with_reducible exact rv_I0
  | with_reducible exact ru_neg
  | ((with_reducible apply rv_I); walk_at "sc")
  | ((with_reducible apply rv_ixL); walk_at "sq"; first | rfl | assumption)
  | ((with_reducible apply rv_ixT); walk_at "sq"; first | rfl | assumption)
  | ((with_reducible apply rv_eq); rfl) | ((with_reducible apply rv_ne); rfl))
local macro_rules | `(tactic| walk_at "rc") => `(tactic| first
  | with_reducible exact rc_I1 | with_reducible exact rc_B1 | with_reducible exact rc_I2 | ((with_reducible apply rc_repr); walk_at "sc") | ((with_reducible apply rc_lenL); walk_at "sq")
  | ((with_reducible apply rc_isiInt); walk_at "pl") | ((with_reducible apply rc_isiBool); walk_at "pl"))
local macro_rules | `(tactic| walk_at "ea") => `(tactic| first
  | with_reducible exact ea_nil | ((with_reducible apply ea_cons); walk_at "ev"; walk_at "ea"))
local macro_rules | `(tactic| walk_at "pow") => `(tactic| first
  | with_reducible exact ev_pow (a := 10) (b := 9) (c := 1000000000) (by decide +kernel) (by decide +kernel)
  | with_reducible exact ev_pow (a := 10) (b := 10) (c := 10000000000) (by decide +kernel) (by decide +kernel)
  | with_reducible exact ev_pow (a := 10) (b := 12) (c := 1000000000000) (by decide +kernel) (by decide +kernel)
  | with_reducible exact ev_pow (a := 10) (b := 17) (c := 100000000000000000) (by decide +kernel) (by decide +kernel)
  | with_reducible exact ev_pow (a := 10) (b := 20) (c := 100000000000000000000) (by decide +kernel) (by decide +kernel)
  | with_reducible exact ev_pow (a := 10) (b := 29) (c := 100000000000000000000000000000) (by decide +kernel) (by decide +kernel)
  | with_reducible exact ev_pow (a := 10) (b := 30) (c := 1000000000000000000000000000000) (by decide +kernel) (by decide +kernel)
  | with_reducible exact ev_pow (a := 10) (b := 40) (c := 10000000000000000000000000000000000000000) (by decide +kernel) (by decide +kernel)
  | with_reducible exact ev_pow (a := 10) (b := 57) (c := 1000000000000000000000000000000000000000000000000000000000) (by decide +kernel) (by decide +kernel)
  | with_reducible exact ev_pow (a := 10) (b := 58) (c := 10000000000000000000000000000000000000000000000000000000000) (by decide +kernel) (by decide +kernel)
  | with_reducible exact ev_pow (a := 10) (b := 59) (c := 100000000000000000000000000000000000000000000000000000000000) (by decide +kernel) (by decide +kernel)
  | with_reducible exact ev_pow (a := 10) (b := 60) (c := 1000000000000000000000000000000000000000000000000000000000000) (by decide +kernel) (by decide +kernel))
local macro_rules | `(tactic| walk_at "call") => `(tactic| (intro H9 e9; first | exact ⟨_, rfl, rfl⟩ | exact ⟨_, _, rfl, rfl⟩ | exact ⟨_, _, _, rfl, rfl⟩ | exact ⟨_, rfl, by walk_at "pl", rfl⟩ | (refine ⟨_, _, _, rfl, ?_, rfl⟩; first | exact Plain.ex e9 (by assumption) | walk_at "pl") | (refine ⟨_, rfl, ?_, rfl⟩; first | exact Plain.ex e9 (by assumption) | walk_at "pl")))
local macro_rules | `(tactic| walk_at "ev") => `(tactic| first
  | with_reducible exact ev_c
  | exact ev_var rfl
  | walk_at "pow"
  | ((with_reducible apply ev_op); walk_at "ev"; walk_at "ev"; walk_at "rv")
  | ((with_reducible apply ev_un); walk_at "ev"; walk_at "rv")
  | ((with_reducible apply ev_cb); walk_at "ea"; walk_at "rc")
  | ((with_reducible apply ev_callP); walk_at "ea"; walk_at "call")
  | ((with_reducible apply ev_chain); walk_at "ev"; walk_at "ev"; walk_at "rv"; walk_at "ev"; walk_at "rv")
  | ((with_reducible apply ev_andV); walk_at "ev"; intro _; walk_at "ev")
  | ((with_reducible apply ev_orV); walk_at "ev"; intro _; walk_at "ev")
  | ((with_reducible apply ev_ite); walk_at "et"; intro _; walk_at "ev"; intro _; walk_at "ev")
  | ((with_reducible apply ev_notV); walk_at "ev"))
local macro_rules | `(tactic| walk_at "et") => `(tactic| first
  | ((with_reducible apply et_test); walk_at "ev")
  | ((with_reducible apply et_B); walk_at "ev")
  | ((with_reducible apply et_and); walk_at "et"; intro _; walk_at "et")
  | ((with_reducible apply et_or); walk_at "et"; intro _; walk_at "et")
  | ((with_reducible apply et_not); walk_at "et"))
open Tx Wo
def letsD (d : PyData) : Bool := isTupD d && (tupD d).all letD
def safesD (d : PyData) : Bool := (tupD d).all safeD && decide ((tupD d).length ≤ 40000)
abbrev bfs (v : V) : List (Str × V) := [("letters", v)]
/-- a bag of so many letters -/
def Bg (K : PySem.W.Frag) (C : Addr) (H : Hp) (p : Addr) (n : Nat) : Prop := ∃ dx a xs, H p = some (.ins C dx (bfs (.ref a))) ∧ SqT K H a xs ∧ xs.length = n
theorem Bg.ex {K : PySem.W.Frag} {C : Addr} {H H' : Hp} {p : Addr} {n : Nat} (e : Ex H H') (h : Bg K C H p n) : Bg K C H' p n := by
  obtain ⟨dx, a, xs, h1, h2, h3⟩ := h
  exact ⟨dx, a, xs, e _ _ h1, ex_t e h2, h3⟩
def handD (n : Nat) (d : PyData) : Bool := isTupD d && (tupD d).all (withinD 0 ((n : Int) - 1))
/-- no bag -/
def NoBag (K : PySem.W.Frag) (H : Hp) (v : V) : Prop := TyX K H v (.type "NoneType") ∨ TyX K H v (.type "int") ∨ TyX K H v (.type "str") ∨ TyX K H v (.type "tuple") ∨ TyX K H v (.type "list")
def spGiven (CN : Addr) : Sp := fun vs H Q _ => ∃ (a : Addr) (v : V), vs = [.ref a, v] ∧ H a = some (exo a CN none) ∧ ∀ d, H d = none → d ≠ a → Q .non (upd (upd H d (exd d [("given", v)])) a (exo a CN (some d)))
def NErr (CN : Addr) (v : V) (E : XK) (H : Hp) : Prop := ∀ d H', Ex H H' → H' d = some (.xd [("given", v)]) → E (.ref CN) (some d) H'
theorem NErr.ex {CN : Addr} {v : V} {E : XK} {H H1 : Hp} (e : Ex H H1) (h : NErr CN v E H) : NErr CN v E H1 := fun d H' e' hd => h d H' (e.trans e') hd
theorem mk_given {σ : L2.St} {H : Hp} {CN : Addr} {v : V} {i : Nat} {Q : XK} (hv : σ[i]? = some (some v)) (h : NErr CN v Q H) : tMkO CN (spGiven CN) [] (tCons (tVar i) tNil) σ H Q := by
  refine ⟨v, hv, by show 1 ≤ 1000; decide, fun a ha => ⟨a, v, rfl, upd_same, fun d hd hne => ⟨rfl, d, [("given", v)], upd_same, by rw [upd_ne hne, upd_same], by rw [upd_ne hne] at hd; exact hd, ?_⟩⟩⟩
  rw [upd_ne hne] at hd
  refine h d _ (fun b o hb => ?_) upd_same
  have h1 : b ≠ d := fun z => by rw [z, hd] at hb; cases hb
  have h2 : b ≠ a := fun z => by rw [z, ha] at hb; cases hb
  rw [upd_ne h1, del_ne h2, upd_ne h2, upd_ne h1, upd_ne h2]
  exact hb
theorem fn_false {P : Program} {w : World} {K : PySem.W.Frag} {mg : Str → Option Value} {base : Heap} {CX : CXT} {n : Nat} {f : Addr} {fd : FuncData} {ps : List Str} : FnOk P w K mg base CX n f fd ps (fun _ _ _ _ => False) := ⟨fun _ _ _ _ h => h.elim, fun _ _ _ _ _ _ _ _ _ _ _ _ _ h => h.elim⟩
theorem kitF {K : PySem.W.Frag} {C : Addr} {n : String} (c : (PySem.W.clsIn K C).isSome = true) (y : PySem.W.typeIn K (.ref C) = some (.type "type")) (h : PySem.W.subIn K (.type n) (.ref C) = some false) : PySem.W.kitOne K (.type n) (.ref C) = some false := by
  unfold PySem.W.kitOne PySem.W.kitCls
  rw [if_neg (by simp)]
  show (if ((PySem.W.clsIn K C).isSome && PySem.W.typeIn K (.ref C) == some (.type "type")) = true then PySem.W.subIn K (.type n) (.ref C) else none) = some false
  rw [c, y, h]
  simp
section
variable {P : Program} {w : World} {K : PySem.W.Frag} {mg : Str → Option Value} {base : Heap}
theorem rc_isiB (T : Txt K mg w) {H : Hp} {p dx : Addr} {fs : List (Str × V)} (h : H p = some (.ins T.C_Bag dx fs)) : RC (rIsi K) [.ref p, .ref T.C_Bag] H (.bl true) := fun H1 e Q q =>
  ⟨.ref p, .ref T.C_Bag, .ref T.C_Bag, .ref T.C_Bag, true, rfl, .own _, .base (.ins (e _ _ h) T.cl_Bag T.ha_Bag T.hn_Bag T.ht_Bag T.hm_Bag), by unfold PySem.W.kitOne; simp, q H1 (Ex.refl H1)⟩
theorem rc_noBag (T : Txt K mg w) {H : Hp} {v : V} (h : NoBag K H v) : RC (rIsi K) [v, .ref T.C_Bag] H (.bl false) := fun H1 e Q q => by
  rcases h with h | h | h | h | h
  · exact ⟨v, .ref T.C_Bag, .type "NoneType", .ref T.C_Bag, false, rfl, .own _, ty_ex e h, kitF T.hc_Bag T.hy_Bag T.hs_Bag_NoneType, q H1 (Ex.refl H1)⟩
  · exact ⟨v, .ref T.C_Bag, .type "int", .ref T.C_Bag, false, rfl, .own _, ty_ex e h, kitF T.hc_Bag T.hy_Bag T.hs_Bag_int, q H1 (Ex.refl H1)⟩
  · exact ⟨v, .ref T.C_Bag, .type "str", .ref T.C_Bag, false, rfl, .own _, ty_ex e h, kitF T.hc_Bag T.hy_Bag T.hs_Bag_str, q H1 (Ex.refl H1)⟩
  · exact ⟨v, .ref T.C_Bag, .type "tuple", .ref T.C_Bag, false, rfl, .own _, ty_ex e h, kitF T.hc_Bag T.hy_Bag T.hs_Bag_tuple, q H1 (Ex.refl H1)⟩
  · exact ⟨v, .ref T.C_Bag, .type "list", .ref T.C_Bag, false, rfl, .own _, ty_ex e h, kitF T.hc_Bag T.hy_Bag T.hs_Bag_list, q H1 (Ex.refl H1)⟩
theorem ok_given (T : Txt K mg w) : FnOk P w K mg base CX0 1 T.a_InvalidNumber___init__ T.fd_InvalidNumber___init__ ["self", "given"] (spGiven T.C_IN) := by
  refine T.F_InvalidNumber___init__.ok sc_InvalidNumber___init__ (fun vs H Q E h => ?_) (fun cdv A outer s H vs Q E hr h => ?_)
  · obtain ⟨_, _, rfl, _⟩ := h; rfl
  · obtain ⟨a, v, rfl, ha, q⟩ := h
    refine ⟨_, (pss_one (ps_osG PySem.Xi.bsIndex (pv 0) (pv 1))), ?_⟩
    exact ⟨v, rfl, .ref a, rfl, a, T.C_IN, rfl, T.o_IN, T.f_IN, ha, fun d hd hne => q d hd hne⟩
/-- a call with what is no letter -/
def spBad (K : PySem.W.Frag) (CL : Addr) : Sp := fun vs H _ E => ∃ (v : V) (d : PyData), vs = [v] ∧ Da K H v d ∧ safeD d = true ∧ letD d = false ∧ ∀ H', Ex H H' → E (.ref CL) none H'
theorem ok_goal (T : Txt K mg w) : FnOk P w K mg base (L2.CX P w) 8 T.a_goal T.fd_goal ["letter"] (spBad K T.C_LE) := by
  have G_need_letter := ok_need_letter (P := P) (w := w) (base := base) T
  have G_goal_of := fn_false (P := P) (w := w) (K := K) (mg := mg) (base := base) (CX := CX0) (n := 1) (f := T.a_goal_of) (fd := T.fd_goal_of) (ps := ["letter"])
  refine T.F_goal.okX sc_goal (fun vs H Q E h => ?_) (fun cdv A outer s H vs Q E hr h => ?_)
  · obtain ⟨_, _, rfl, _⟩ := h; rfl
  · obtain ⟨v, d, rfl, hd, hs, hl, q⟩ := h
    refine ⟨_, (pss_cons (ps_expr (pe_call G_need_letter (hr.mono (by decide)) (by rfl) T.g_need_letter T.F_need_letter.kp T.b_need_letter .nil (passes_call (W := fun cls d _ H => E cls d H) (takes_of rfl rfl rfl rfl) (fun _ _ _ _ h => h)) (pa_cons (pv 0) pa_nil)))
  (pss_one (ps_ret (pe_call G_goal_of (hr.mono (by decide)) (by rfl) T.g_goal_of T.F_goal_of.kp T.b_goal_of .nil pass0 (pa_cons (pv 0) pa_nil))))), ?_⟩
    exact q_call (vs := [v]) (ea_cons (ev_var rfl) ea_nil) fun H1 e1 => ⟨v, d, rfl, da_ex e1 _ _ hd, hs, fun z => (by rw [hl] at z; cases z), fun _ H2 e2 => q H2 (e1.trans e2)⟩
theorem ok_letter_text (T : Txt K mg w) : FnOk P w K mg base (L2.CX P w) 8 T.a_letter_text T.fd_letter_text ["letter"] (spBad K T.C_LE) := by
  have G_need_letter := ok_need_letter (P := P) (w := w) (base := base) T
  have G_text_of := fn_false (P := P) (w := w) (K := K) (mg := mg) (base := base) (CX := CX0) (n := 1) (f := T.a_text_of) (fd := T.fd_text_of) (ps := ["value"])
  refine T.F_letter_text.okX sc_letter_text (fun vs H Q E h => ?_) (fun cdv A outer s H vs Q E hr h => ?_)
  · obtain ⟨_, _, rfl, _⟩ := h; rfl
  · obtain ⟨v, d, rfl, hd, hs, hl, q⟩ := h
    refine ⟨_, (pss_cons (ps_expr (pe_call G_need_letter (hr.mono (by decide)) (by rfl) T.g_need_letter T.F_need_letter.kp T.b_need_letter .nil (passes_call (W := fun cls d _ H => E cls d H) (takes_of rfl rfl rfl rfl) (fun _ _ _ _ h => h)) (pa_cons (pv 0) pa_nil)))
  (pss_one (ps_ret (pe_call G_text_of (hr.mono (by decide)) (by rfl) T.g_text_of T.F_text_of.kp T.b_text_of .nil pass0 (pa_cons (pv 0) pa_nil))))), ?_⟩
    exact q_call (vs := [v]) (ea_cons (ev_var rfl) ea_nil) fun H1 e1 => ⟨v, d, rfl, da_ex e1 _ _ hd, hs, fun z => (by rw [hl] at z; cases z), fun _ H2 e2 => q H2 (e1.trans e2)⟩
def spNeedLs (K : PySem.W.Frag) (CL : Addr) : Sp := fun vs H Q E => ∃ (v : V) (d : PyData), vs = [v] ∧ Da K H v d ∧ safesD d = true ∧ (letsD d = true → ∀ H', Ex H H' → Q .non H') ∧ (letsD d = false → ∀ H', Ex H H' → E (.ref CL) none H')
theorem ok_need_letters (T : Txt K mg w) : FnOk P w K mg base (L2.CX P w) 7 T.a_need_letters T.fd_need_letters ["value"] (spNeedLs K T.C_LE) := by
  have G_is_letter := ok_is_letter (P := P) (w := w) (base := base) T
  refine T.F_need_letters.okX sc_need_letters (fun vs H Q E h => ?_) (fun cdv A outer s H vs Q E hr h => ?_)
  · obtain ⟨_, _, rfl, _⟩ := h; rfl
  · obtain ⟨v, d, rfl, hd, hs, q1, q2⟩ := h
    refine ⟨_, (pss_one (ps_if (PW.pt (pw_or (pt_not (pt_val (pe_callB call_isi (by rfl) T.z_isinstance (by decide +kernel) (pa_cons (pv 0) (pa_cons (pe_bltn (v := .ty "tuple") (by rfl) T.z_tuple (by decide +kernel) rfl) pa_nil))))) (pw_or1 (pt_not (pt_val (pe_callB (cr_all rfl) (by rfl) T.z_all (by decide +kernel) (pa_cons (pe_lc (own := [("letter", 1)]) (g := gName 1) (by rfl) sc_need_letters.nd (pi_tup (pv 0)) (blkOk_by (own := [("letter", 1)]) (N := ["value", "letter"]) (sc := defScope s_need_letters) (by decide +kernel)) (fun _ _ _ _ _ => pg_name (i := 1) sc_need_letters.nd rfl (by first | exact Or.inl rfl | exact Or.inr rfl)) (fun _ _ _ _ _ => pts_nil) (fun _ _ _ _ _ => (pe_call G_is_letter (hr.mono (by decide)) (by rfl) T.g_is_letter T.F_is_letter.kp T.b_is_letter .nil pass0 (pa_cons (pv 1) pa_nil)))) pa_nil))))))) (pss_one (ps_raise (W := fun cls d _ H => E cls d H) rfl (takes_of rfl rfl rfl rfl) (pmk_own PySem.F.excBase_ValueError T.x_LE T.g_InvalidLetter T.k_LE (raises_own T.e_LE T.y_LE) (by rfl)))) pss_nil)), ?_⟩
    refine s_when (b := !letsD d) (et_is (et_or (a := !isTupD d) (b := !(tupD d).all letD) (et_not (et_B (ev_cb (vs := [v, .ty "tuple"]) (by walk_at "ea") hd.isTup))) fun ht => ?all) (by unfold letsD; rw [Bool.not_and])) (fun hb H1 e1 => q2 (nt hb) H1 e1) (fun hb H1 e1 => q1 (nf hb) H1 e1)
    obtain ⟨r, xs, rfl, hX, hD⟩ := hd.tupE (nf ht)
    unfold safesD at hs
    rw [Bool.and_eq_true, decide_eq_true_eq] at hs
    refine et_not (et_B (ev_allD letD (ev_var rfl) hX hD (by rw [hD.len]; exact hs.2) (fun _ => rfl) fun i x d' H2 e2 hx hd' hda => ?_))
    exact ev_callP (vs := [x]) (by walk_at "ea") fun H3 e3 => ⟨x, d', rfl, da_ex e3 _ _ hda, List.all_eq_true.mp hs.1 _ (List.mem_of_getElem? hd'), rfl⟩
def spFill (C : Addr) : Sp := fun vs H Q _ => ∃ (p dx : Addr) (v : V) (fs : List (Str × V)), vs = [.ref p, v] ∧ H p = some (.ins C dx fs) ∧ (fs = [] ∨ ∃ b, fs = bfs b) ∧ ∀ H', Exd p H H' → H' p = some (.ins C dx (bfs v)) → Q .non H'
theorem ok_fill (T : Txt K mg w) : FnOk P w K mg base CX0 1 T.a_Bag__fill T.fd_Bag__fill ["self", "letters"] (spFill T.C_Bag) := by
  refine T.F_Bag__fill.ok sc_Bag__fill (fun vs H Q E h => ?_) (fun cdv A outer s H vs Q E hr h => ?_)
  · obtain ⟨_, _, _, _, rfl, _⟩ := h; rfl
  · obtain ⟨p, dx, v, fs, rfl, hp, hf, q⟩ := h
    refine ⟨_, (pss_one (ps_fld (pv 0) (pv 1) rfl)), ?_⟩
    refine s_fld (ev_var rfl) (ev_var rfl) hp T.cl_Bag T.n_Bag_letters (by rcases hf with rfl | ⟨b, rfl⟩ <;> simp) fun H1 e1 => ?_
    have hput : putF "letters" v fs = bfs v := by
      rcases hf with rfl | ⟨b, rfl⟩
      · rfl
      · show (if ("letters" : Str) = "letters" then _ else _) = _
        rw [if_pos rfl]
    rw [hput]
    exact q _ ((Exd.of (p := p) e1).trans (Exd.upd (p := p) (o := .ins T.C_Bag dx (bfs v)))) upd_same
def spInit (K : PySem.W.Frag) (C CL : Addr) : Sp := fun vs H Q E => ∃ (p dx : Addr) (v : V) (d : PyData), vs = [.ref p, v] ∧ H p = some (.ins C dx []) ∧ Da K H v d ∧ safesD d = true ∧ (letsD d = true → ∀ H', Exd p H H' → H' p = some (.ins C dx (bfs v)) → Q .non H') ∧ (letsD d = false → ∀ H', Ex H H' → E (.ref CL) none H')
theorem ok_init (T : Txt K mg w) : FnOk P w K mg base (L2.CX P w) 8 T.a_Bag___init__ T.fd_Bag___init__ ["self", "letters"] (spInit K T.C_Bag T.C_LE) := by
  have G_need_letters := ok_need_letters (P := P) (w := w) (base := base) T
  have G_Bag__fill := ok_fill (P := P) (w := w) (base := base) T
  refine T.F_Bag___init__.ok sc_Bag___init__ (fun vs H Q E h => ?_) (fun cdv A outer s H vs Q E hr h => ?_)
  · obtain ⟨_, _, _, _, rfl, _⟩ := h; rfl
  · obtain ⟨p, dx, v, d, rfl, hp, hd, hs, q1, q2⟩ := h
    refine ⟨_, (pss_cons (ps_expr (pe_call G_need_letters (hr.mono (by decide)) (by rfl) T.g_need_letters T.F_need_letters.kp T.b_need_letters .nil (passes_call (W := fun cls d _ H => E cls d H) (takes_of rfl rfl rfl rfl) (fun _ _ _ _ h => h)) (pa_cons (pv 1) pa_nil)))
  (pss_one (ps_expr (pe_meth (pv 0) T.cl_Bag T.m_Bag__fill G_Bag__fill (hr.mono (by decide)) T.b_Bag__fill .nil pass0 (pa_cons (pv 1) pa_nil))))), ?_⟩
    refine q_call (vs := [v]) (ea_cons (ev_var rfl) ea_nil) fun H1 e1 => ⟨v, d, rfl, da_ex e1 _ _ hd, hs, fun hl H2 e2 => ?_, fun hl H2 e2 => q2 hl H2 (e1.trans e2)⟩
    have e12 := e1.trans e2
    exact s_dropM (ev_var rfl) (e12 _ _ hp) rfl (fun H3 e3 => by walk_at "ea") fun H3 e3 => ⟨p, dx, v, [], rfl, (e12.trans e3) _ _ hp, .inl rfl, fun H4 x4 h4 => q1 hl H4 ((Exd.of (e12.trans e3)).trans x4) h4⟩
def spBadM (K : PySem.W.Frag) (CL : Addr) : Sp := fun vs H _ E => ∃ (p : Addr) (v : V) (d : PyData), vs = [.ref p, v] ∧ Da K H v d ∧ safeD d = true ∧ letD d = false ∧ ∀ H', Ex H H' → E (.ref CL) none H'
def spBadMs (K : PySem.W.Frag) (CL : Addr) : Sp := fun vs H _ E => ∃ (p : Addr) (v : V) (d : PyData), vs = [.ref p, v] ∧ Da K H v d ∧ safesD d = true ∧ letsD d = false ∧ ∀ H', Ex H H' → E (.ref CL) none H'
theorem ok_sent (T : Txt K mg w) : FnOk P w K mg base (L2.CX P w) 8 T.a_Bag_sent T.fd_Bag_sent ["self", "letter"] (spBadM K T.C_LE) := by
  have G_need_letter := ok_need_letter (P := P) (w := w) (base := base) T
  have G_bag_of := fn_false (P := P) (w := w) (K := K) (mg := mg) (base := base) (CX := CX0) (n := 1) (f := T.a_bag_of) (fd := T.fd_bag_of) (ps := ["letters"])
  refine T.F_Bag_sent.okX sc_Bag_sent (fun vs H Q E h => ?_) (fun cdv A outer s H vs Q E hr h => ?_)
  · obtain ⟨_, _, _, rfl, _⟩ := h; rfl
  · obtain ⟨p, v, d, rfl, hd, hs, hl, q⟩ := h
    refine ⟨_, (pss_cons (ps_expr (pe_call G_need_letter (hr.mono (by decide)) (by rfl) T.g_need_letter T.F_need_letter.kp T.b_need_letter .nil (passes_call (W := fun cls d _ H => E cls d H) (takes_of rfl rfl rfl rfl) (fun _ _ _ _ h => h)) (pa_cons (pv 1) pa_nil)))
  (pss_one (ps_ret (pe_call G_bag_of (hr.mono (by decide)) (by rfl) T.g_bag_of T.F_bag_of.kp T.b_bag_of .nil pass0 (pa_cons (pe_tup (StX.pa_star (pe_fld (pv 0) rfl) (pa_cons (pv 1) pa_nil))) pa_nil))))), ?_⟩
    exact q_call (vs := [v]) (ea_cons (ev_var rfl) ea_nil) fun H1 e1 => ⟨v, d, rfl, da_ex e1 _ _ hd, hs, fun z => (by rw [hl] at z; cases z), fun _ H2 e2 => q H2 (e1.trans e2)⟩
theorem ok_sent_all (T : Txt K mg w) : FnOk P w K mg base (L2.CX P w) 8 T.a_Bag_sent_all T.fd_Bag_sent_all ["self", "letters"] (spBadMs K T.C_LE) := by
  have G_need_letters := ok_need_letters (P := P) (w := w) (base := base) T
  have G_bag_of := fn_false (P := P) (w := w) (K := K) (mg := mg) (base := base) (CX := CX0) (n := 1) (f := T.a_bag_of) (fd := T.fd_bag_of) (ps := ["letters"])
  refine T.F_Bag_sent_all.okX sc_Bag_sent_all (fun vs H Q E h => ?_) (fun cdv A outer s H vs Q E hr h => ?_)
  · obtain ⟨_, _, _, rfl, _⟩ := h; rfl
  · obtain ⟨p, v, d, rfl, hd, hs, hl, q⟩ := h
    refine ⟨_, (pss_cons (ps_expr (pe_call G_need_letters (hr.mono (by decide)) (by rfl) T.g_need_letters T.F_need_letters.kp T.b_need_letters .nil (passes_call (W := fun cls d _ H => E cls d H) (takes_of rfl rfl rfl rfl) (fun _ _ _ _ h => h)) (pa_cons (pv 1) pa_nil)))
  (pss_one (ps_ret (pe_call G_bag_of (hr.mono (by decide)) (by rfl) T.g_bag_of T.F_bag_of.kp T.b_bag_of .nil pass0 (pa_cons (pe_op op_catA (pe_fld (pv 0) rfl) (pv 1)) pa_nil))))), ?_⟩
    exact q_call (vs := [v]) (ea_cons (ev_var rfl) ea_nil) fun H1 e1 => ⟨v, d, rfl, da_ex e1 _ _ hd, hs, fun z => (by rw [hl] at z; cases z), fun _ H2 e2 => q H2 (e1.trans e2)⟩
theorem ok_number_of (T : Txt K mg w) : FnOk P w K mg base CX0 3 T.a_is_number_of T.fd_is_number_of ["bag", "value"] (Pure fun vs H z => ∃ (p : Addr) (v : V) (n : Nat), vs = [.ref p, v] ∧ Bg K T.C_Bag H p n ∧ Plain K H v ∧ z = .bl (isWithin 0 ((n : Int) - 1) v)) := by
  have G_is_within := ok_is_within (P := P) (w := w) (base := base) T
  refine T.F_is_number_of.ok sc_is_number_of (fun vs H Q E h => ?_) (fun cdv A outer s H vs Q E hr h => ?_)
  · obtain ⟨_, ⟨_, _, _, rfl, _⟩, _⟩ := h; rfl
  · obtain ⟨_, ⟨p, v, n, rfl, ⟨dx, a, xs, hob, hX, hn⟩, hp, rfl⟩, q⟩ := h
    refine ⟨_, (pss_one (ps_ret (pe_call G_is_within (hr.mono (by decide)) (by rfl) T.g_is_within T.F_is_within.kp T.b_is_within .nil pass0 (pa_cons (pv 1) (pa_cons pe_int (pa_cons (pe_op op_sub (pe_callB c_len (by rfl) T.z_len PySem.boot_len (pa_cons (pe_fld (pv 0) rfl) pa_nil)) pe_int) pa_nil)))))), ?_⟩
    refine s_ret (ev_callP (vs := [v, .int 0, .int ((n : Int) - 1)]) (ea_cons (ev_var rfl) (ea_cons ev_c (ea_cons (ev_op (ev_is (ev_cb (vs := [.ref a]) (ea_cons (ev_fld (ev_var rfl) hob T.cl_Bag T.n_Bag_letters rfl) ea_nil) (rc_lenT hX)) (by rw [hn])) ev_c rv_I0) ea_nil))) fun H1 e1 => ⟨v, 0, _, rfl, hp.ex e1, rfl⟩) q
def spNum (K : PySem.W.Frag) (C CN : Addr) : Sp := fun vs H _ E => ∃ (p : Addr) (v : V) (n : Nat), vs = [.ref p, v] ∧ Bg K C H p n ∧ Plain K H v ∧ isWithin 0 ((n : Int) - 1) v = false ∧ NErr CN v E H
theorem ok_letter (T : Txt K mg w) : FnOk P w K mg base (L2.CX P w) 4 T.a_Bag_letter T.fd_Bag_letter ["self", "number"] (spNum K T.C_Bag T.C_IN) := by
  have G_is_number_of := ok_number_of (P := P) (w := w) (base := base) T
  have G_InvalidNumber___init__ := ok_given (P := P) (w := w) (base := base) T
  refine T.F_Bag_letter.okX sc_Bag_letter (fun vs H Q E h => ?_) (fun cdv A outer s H vs Q E hr h => ?_)
  · obtain ⟨_, _, _, rfl, _⟩ := h; rfl
  · obtain ⟨p, v, n, rfl, hb, hp, hw, q⟩ := h
    refine ⟨_, (pss_cons (ps_if (pt_not (pt_val (pe_call G_is_number_of (hr.mono (by decide)) (by rfl) T.g_is_number_of T.F_is_number_of.kp T.b_is_number_of .nil pass0 (pa_cons (pv 0) (pa_cons (pv 1) pa_nil))))) (pss_one (ps_raise (W := fun cls d _ H => E cls d H) rfl (takes_of rfl rfl rfl rfl) (pmk_oxG PySem.Xi.bsIndex T.o_IN T.i_IN T.t_IN G_InvalidNumber___init__ (hr.mono (by decide)) T.b_InvalidNumber___init__ .nil pass0 (by rfl) T.g_InvalidNumber (pa_cons (pv 1) pa_nil)))) pss_nil)
  (pss_one (ps_ret (pe_ix ix_tup (pe_fld (pv 0) rfl) (pv 1) (fun _ _ => rfl))))), ?_⟩
    refine q_when (b := true) (et_is (et_not (et_B (ev_callP (vs := [.ref p, v]) (by walk_at "ea") fun H1 e1 => ⟨p, v, n, rfl, hb.ex e1, hp.ex e1, rfl⟩))) (by rw [hw]; rfl)) (fun _ H1 e1 => ?_) (fun h => by cases h)
    exact mk_given rfl (NErr.ex e1 q)
def spTo (K : PySem.W.Frag) (CN : Addr) : Sp := fun vs H _ E => ∃ (p : Addr) (v : V), vs = [.ref p, v] ∧ Plain K H v ∧ isWithin (-1) 5 v = false ∧ NErr CN v E H
theorem ok_to (T : Txt K mg w) : FnOk P w K mg base (L2.CX P w) 3 T.a_Bag_to T.fd_Bag_to ["self", "goal"] (spTo K T.C_IN) := by
  have G_is_within := ok_is_within (P := P) (w := w) (base := base) T
  have G_InvalidNumber___init__ := ok_given (P := P) (w := w) (base := base) T
  have G_goal_of := fn_false (P := P) (w := w) (K := K) (mg := mg) (base := base) (CX := CX0) (n := 1) (f := T.a_goal_of) (fd := T.fd_goal_of) (ps := ["letter"])
  refine T.F_Bag_to.okX sc_Bag_to (fun vs H Q E h => ?_) (fun cdv A outer s H vs Q E hr h => ?_)
  · obtain ⟨_, _, rfl, _⟩ := h; rfl
  · obtain ⟨p, v, rfl, hp, hw, q⟩ := h
    refine ⟨_, (pss_cons (ps_if (pt_not (pt_val (pe_call G_is_within (hr.mono (by decide)) (by rfl) T.g_is_within T.F_is_within.kp T.b_is_within .nil pass0 (pa_cons (pv 1) (pa_cons (pe_glob (v := .int (-1)) rfl T.g_HOST ⟨_, rfl⟩) (pa_cons (pe_glob (v := .int (5)) rfl T.g_MOST_SEAT ⟨_, rfl⟩) pa_nil)))))) (pss_one (ps_raise (W := fun cls d _ H => E cls d H) rfl (takes_of rfl rfl rfl rfl) (pmk_oxG PySem.Xi.bsIndex T.o_IN T.i_IN T.t_IN G_InvalidNumber___init__ (hr.mono (by decide)) T.b_InvalidNumber___init__ .nil pass0 (by rfl) T.g_InvalidNumber (pa_cons (pv 1) pa_nil)))) pss_nil)
  (pss_one (ps_ret (pe_callTy c_tupL (by rfl) T.z_tuple (by decide +kernel) (pa_cons (pe_lc (own := [("number", 2), ("letter", 3)]) (g := gTup _ 2 (gCons (gName 2) (gCons (gName 3) gNil))) (by rfl) sc_Bag_to.nd (En.pi_enumT rfl T.z_enumerate (pa_cons (pe_fld (pv 0) rfl) pa_nil)) (blkOk_by (own := [("number", 2), ("letter", 3)]) (N := ["self", "goal", "number", "letter"]) (sc := defScope s_Bag_to) (by decide +kernel)) (fun _ _ _ _ _ => pg_tup rfl (pgs_cons (pg_name (i := 2) sc_Bag_to.nd rfl (by first | exact Or.inl rfl | exact Or.inr rfl)) (pgs_cons (pg_name (i := 3) sc_Bag_to.nd rfl (by first | exact Or.inl rfl | exact Or.inr rfl)) pgs_nil))) (fun _ _ _ _ _ => (pts_one (pt_cmpR op_eq (pe_call G_goal_of (hr.mono (by decide)) (by rfl) T.g_goal_of T.F_goal_of.kp T.b_goal_of .nil pass0 (pa_cons (pv 3) pa_nil)) (pv 1) (nomark _)))) (fun _ _ _ _ _ => (pv 2))) pa_nil))))), ?_⟩
    refine q_when (b := true) (et_is (et_not (et_B (ev_callP (vs := [v, .int (-1), .int 5]) (by walk_at "ea") fun H1 e1 => ⟨v, -1, 5, rfl, hp.ex e1, rfl⟩))) (by rw [hw]; rfl)) (fun _ H1 e1 => ?_) (fun h => by cases h)
    exact mk_given rfl (NErr.ex e1 q)
def spHand (K : PySem.W.Frag) (C CO : Addr) : Sp := fun vs H _ E => ∃ (b v : V), vs = [b, v] ∧ (NoBag K H b ∨ ∃ p n d, b = .ref p ∧ Bg K C H p n ∧ Da K H v d ∧ (tupD d).length ≤ 40000 ∧ handD n d = false) ∧ ∀ H', Ex H H' → E (.ref CO) none H'
theorem ok_judged (T : Txt K mg w) : FnOk P w K mg base (L2.CX P w) 4 T.a_judged_handing T.fd_judged_handing ["bag", "handing"] (spHand K T.C_Bag T.C_OE) := by
  have G_is_number_of := ok_number_of (P := P) (w := w) (base := base) T
  have G_goal_of := fn_false (P := P) (w := w) (K := K) (mg := mg) (base := base) (CX := CX0) (n := 1) (f := T.a_goal_of) (fd := T.fd_goal_of) (ps := ["letter"])
  refine T.F_judged_handing.okX sc_judged_handing (fun vs H Q E h => ?_) (fun cdv A outer s H vs Q E hr h => ?_)
  · obtain ⟨_, _, rfl, _⟩ := h; rfl
  · obtain ⟨b, v, rfl, hb, q⟩ := h
    refine ⟨_, (pss_cons (ps_if (pt_not (pt_val (pe_callB call_isi (by rfl) T.z_isinstance (by decide +kernel) (pa_cons (pv 0) (pa_cons (pe_glob (v := .ref _) rfl T.g_Bag rfl) pa_nil))))) (pss_one (ps_raise (W := fun cls d _ H => E cls d H) rfl (takes_of rfl rfl rfl rfl) (pmk_own PySem.F.excBase_ValueError T.x_OE T.g_InvalidOperation T.k_OE (raises_own T.e_OE T.y_OE) (by rfl)))) pss_nil)
  (pss_cons (ps_if (PW.pt (pw_or (pt_not (pt_val (pe_callB call_isi (by rfl) T.z_isinstance (by decide +kernel) (pa_cons (pv 1) (pa_cons (pe_bltn (v := .ty "tuple") (by rfl) T.z_tuple (by decide +kernel) rfl) pa_nil))))) (pw_or1 (pt_not (pt_val (pe_callB (cr_all rfl) (by rfl) T.z_all (by decide +kernel) (pa_cons (pe_lc (own := [("number", 2)]) (g := gName 2) (by rfl) sc_judged_handing.nd (pi_tup (pv 1)) (blkOk_by (own := [("number", 2)]) (N := ["bag", "handing", "number", "times", "greatest", "overtaken", "goal", "lost", "doubled", "_", "count"]) (sc := defScope s_judged_handing) (by decide +kernel)) (fun _ _ _ _ _ => pg_name (i := 2) sc_judged_handing.nd rfl (by first | exact Or.inl rfl | exact Or.inr rfl)) (fun _ _ _ _ _ => pts_nil) (fun _ _ _ _ _ => (pe_call G_is_number_of (hr.mono (by decide)) (by rfl) T.g_is_number_of T.F_is_number_of.kp T.b_is_number_of .nil pass0 (pa_cons (pv 0) (pa_cons (pv 2) pa_nil))))) pa_nil))))))) (pss_one (ps_raise (W := fun cls d _ H => E cls d H) rfl (takes_of rfl rfl rfl rfl) (pmk_own PySem.F.excBase_ValueError T.x_OE T.g_InvalidOperation T.k_OE (raises_own T.e_OE T.y_OE) (by rfl)))) pss_nil)
  (pss_cons (ps_setLc (i := 3) (own := [("_", 9)]) (g := gName 9) (by rfl) sc_judged_handing.nd rfl rfl (sw_true rfl rfl rfl (by decide +kernel)) (pi_tup (pe_fld (pv 0) rfl)) (blkOk_by (own := [("_", 9)]) (N := ["bag", "handing", "number", "times", "greatest", "overtaken", "goal", "lost", "doubled", "_", "count"]) (sc := defScope s_judged_handing) (by decide +kernel)) (fun _ _ _ _ _ => pg_name (i := 9) sc_judged_handing.nd rfl (by first | exact Or.inl rfl | exact Or.inr rfl)) (fun _ _ _ _ _ => pts_nil) (fun _ _ _ _ _ => pe_int))
  (pss_cons (ps_set (i := 4) sc_judged_handing.nd rfl (.inl rfl) pe_dnewK)
  (pss_cons (ps_set (i := 5) sc_judged_handing.nd rfl (.inl rfl) (pe_lst pa_nil))
  (pss_cons (ps_for (passes_of rfl) rfl (pi_tup (pv 1)) (pg_name (i := 2) sc_judged_handing.nd rfl (.inl rfl)) (pss_cons (ps_set (i := 6) sc_judged_handing.nd rfl (.inl rfl) (pe_call G_goal_of (hr.mono (by decide)) (by rfl) T.g_goal_of T.F_goal_of.kp T.b_goal_of .nil pass0 (pa_cons (pe_ix ix_tup (pe_fld (pv 0) rfl) (pv 2) (fun _ _ => rfl)) pa_nil)))
  (pss_cons (ps_if (PW.pt (pw_and (pt_cmpR op_eq (pe_ix ix_list (pv 3) (pv 2) (fun _ _ => rfl)) pe_int (nomark _)) (pw_and1 (pt_cmpR op_lt (pv 2) (pe_dget2 (hu_of hr) (pv 4) (pv 6) pe_int ⟨rfl, rfl, rfl, rfl⟩) (nomark _))))) (pss_one (ps_expr (pe_bm PySem.F.plainAttrs_list PySem.F.slot_list_append PySem.F.type_list_append mt_append (pv 5) (pa_cons (pv 2) pa_nil)))) pss_nil)
  (pss_cons (ps_asg (pe_op op_add (pe_ix ix_list (pv 3) (pv 2) (fun _ _ => rfl)) pe_int) (pg_sub (pv 3) (pv 2) set_list))
  (pss_one (ps_asg (pe_callB (c_max rfl) (by rfl) T.z_max (by decide +kernel) (pa_cons (pv 2) (pa_cons (pe_dget2 (hu_of hr) (pv 4) (pv 6) pe_int ⟨rfl, rfl, rfl, rfl⟩) pa_nil))) (pg_sub (pv 4) (pv 6) (set_dict (hu_of hr)))))))))
  (pss_cons (ps_setLc (i := 7) (own := [("number", 2), ("count", 10)]) (g := gTup _ 2 (gCons (gName 2) (gCons (gName 10) gNil))) (by rfl) sc_judged_handing.nd rfl rfl (sw_true rfl rfl rfl (by decide +kernel)) (pi_enum rfl T.z_enumerate (pa_cons (pv 3) pa_nil)) (blkOk_by (own := [("number", 2), ("count", 10)]) (N := ["bag", "handing", "number", "times", "greatest", "overtaken", "goal", "lost", "doubled", "_", "count"]) (sc := defScope s_judged_handing) (by decide +kernel)) (fun _ _ _ _ _ => pg_tup rfl (pgs_cons (pg_name (i := 2) sc_judged_handing.nd rfl (by first | exact Or.inl rfl | exact Or.inr rfl)) (pgs_cons (pg_name (i := 10) sc_judged_handing.nd rfl (by first | exact Or.inl rfl | exact Or.inr rfl)) pgs_nil))) (fun _ _ _ _ _ => (pts_one (pt_cmpR op_eq (pv 10) pe_int (nomark _)))) (fun _ _ _ _ _ => (pv 2)))
  (pss_cons (ps_setLc (i := 8) (own := [("number", 2), ("count", 10)]) (g := gTup _ 2 (gCons (gName 2) (gCons (gName 10) gNil))) (by rfl) sc_judged_handing.nd rfl rfl (sw_true rfl rfl rfl (by decide +kernel)) (pi_enum rfl T.z_enumerate (pa_cons (pv 3) pa_nil)) (blkOk_by (own := [("number", 2), ("count", 10)]) (N := ["bag", "handing", "number", "times", "greatest", "overtaken", "goal", "lost", "doubled", "_", "count"]) (sc := defScope s_judged_handing) (by decide +kernel)) (fun _ _ _ _ _ => pg_tup rfl (pgs_cons (pg_name (i := 2) sc_judged_handing.nd rfl (by first | exact Or.inl rfl | exact Or.inr rfl)) (pgs_cons (pg_name (i := 10) sc_judged_handing.nd rfl (by first | exact Or.inl rfl | exact Or.inr rfl)) pgs_nil))) (fun _ _ _ _ _ => (pts_one (pt_cmpR op_gt (pv 10) pe_int (nomark _)))) (fun _ _ _ _ _ => (pv 2)))
  (pss_one (ps_ret (pe_tup (pa_cons (pe_callTy c_tupL (by rfl) T.z_tuple (by decide +kernel) (pa_cons (pv 7) pa_nil)) (pa_cons (pe_callTy c_tupL (by rfl) T.z_tuple (by decide +kernel) (pa_cons (pv 8) pa_nil)) (pa_cons (pe_callTy c_tupL (by rfl) T.z_tuple (by decide +kernel) (pa_cons (pe_callB cr_sorted (by rfl) T.z_sorted (by decide +kernel) (pa_cons (pv 5) pa_nil)) pa_nil)) pa_nil)))))))))))))), ?_⟩
    rcases hb with hb | ⟨p, n, d, rfl, hbg, hd, hdl, hh⟩
    · exact q_when (b := true) (et_is (et_not (et_B (ev_cb (vs := [b, .ref T.C_Bag]) (by walk_at "ea") (rc_noBag T hb)))) rfl) (fun _ H1 e1 => q H1 e1) (fun h => by cases h)
    · obtain ⟨dx, a, ys, hob, hY, hn⟩ := hbg
      refine q_when (b := false) (et_is (et_not (et_B (ev_cb (vs := [.ref p, .ref T.C_Bag]) (by walk_at "ea") (rc_isiB T hob)))) rfl) (fun h => by cases h) fun _ H1 e1 => ?_
      have hd1 := da_ex e1 _ _ hd
      refine q_when (b := true) (et_is (et_or (a := !isTupD d) (b := !(tupD d).all (withinD 0 ((n : Int) - 1))) (et_not (et_B (ev_cb (vs := [v, .ty "tuple"]) (by walk_at "ea") hd1.isTup))) fun ht => ?all) (by rw [← Bool.not_and]; show (!handD n d) = true; rw [hh]; rfl)) (fun _ H2 e2 => q H2 (e1.trans e2)) (fun h => by cases h)
      obtain ⟨r, xs, rfl, hX, hD⟩ := hd1.tupE (nf ht)
      refine et_not (et_B (ev_allD (withinD 0 ((n : Int) - 1)) (ev_var rfl) hX hD (by rw [hD.len]; exact hdl) (fun _ => rfl) fun i x d' H2 e2 hx hd' hda => ?_))
      exact ev_callP (vs := [.ref p, x]) (by walk_at "ea") fun H3 e3 => ⟨p, x, n, rfl, Bg.ex ((e1.trans e2).trans e3) ⟨dx, a, ys, hob, hY, hn⟩, (da_ex e3 _ _ hda).pl, by rw [hda.within]⟩
end
end Kz
set_option Elab.async false
set_option linter.all false
set_option maxRecDepth 100000
set_option maxHeartbeats 4000000
set_option exponentiation.threshold 500
namespace Kz
open PySem PySem.Spec PyProof.Rows L2 Evl Vr
local macro_rules | `(tactic| walk_at "sc") => `(tactic| first | (with_reducible assumption) | (with_reducible exact sc_mul (by omega)) | (with_reducible exact sc_mulr (by omega)) | (with_reducible exact sc_div (by omega) (by decide)) | (show (0 : Int) < _; omega) | (show _ ≠ (0 : Int); omega) | (with_reducible rfl) | decide)
local macro_rules | `(tactic| walk_at "sq") => `(tactic| first | assumption | exact sq_of (by assumption) | exact st_of (by assumption))
local macro_rules | `(tactic| walk_at "pl") => `(tactic| first | assumption | exact pl_int | exact pl_bl | exact pl_str | exact pl_non | exact pl_lst (by assumption) | exact pl_tup (by assumption) | exact pl_dK (by assumption))
local macro_rules | `(tactic| walk_at "rv") => `(tactic| first
  | with_reducible exact rv_I0
  | with_reducible exact ru_neg
  | ((with_reducible apply rv_I); walk_at "sc")
  | ((with_reducible apply rv_ixL); walk_at "sq"; first | rfl | assumption)
  | ((with_reducible apply rv_ixT); walk_at "sq"; first | rfl | assumption)
  | ((with_reducible apply rv_eq); rfl) | ((with_reducible apply rv_ne); rfl))
local macro_rules | `(tactic| walk_at "rc") => `(tactic| first
  | with_reducible exact rc_I1 | with_reducible exact rc_B1 | with_reducible exact rc_I2 | ((with_reducible apply rc_repr); walk_at "sc") | ((with_reducible apply rc_lenL); walk_at "sq")
  | ((with_reducible apply rc_isiInt); walk_at "pl") | ((with_reducible apply rc_isiBool); walk_at "pl"))
local macro_rules | `(tactic| walk_at "ea") => `(tactic| first
  | with_reducible exact ea_nil | ((with_reducible apply ea_cons); walk_at "ev"; walk_at "ea"))
local macro_rules | `(tactic| walk_at "pow") => `(tactic| first
  | with_reducible exact ev_pow (a := 10) (b := 9) (c := 1000000000) (by decide +kernel) (by decide +kernel)
  | with_reducible exact ev_pow (a := 10) (b := 10) (c := 10000000000) (by decide +kernel) (by decide +kernel)
  | with_reducible exact ev_pow (a := 10) (b := 12) (c := 1000000000000) (by decide +kernel) (by decide +kernel)
  | with_reducible exact ev_pow (a := 10) (b := 17) (c := 100000000000000000) (by decide +kernel) (by decide +kernel)
  | with_reducible exact ev_pow (a := 10) (b := 20) (c := 100000000000000000000) (by decide +kernel) (by decide +kernel)
  | with_reducible exact ev_pow (a := 10) (b := 29) (c := 100000000000000000000000000000) (by decide +kernel) (by decide +kernel)
  | with_reducible exact ev_pow (a := 10) (b := 30) (c := 1000000000000000000000000000000) (by decide +kernel) (by decide +kernel)
  | with_reducible exact ev_pow (a := 10) (b := 40) (c := 10000000000000000000000000000000000000000) (by decide +kernel) (by decide +kernel)
  | with_reducible exact ev_pow (a := 10) (b := 57) (c := 1000000000000000000000000000000000000000000000000000000000) (by decide +kernel) (by decide +kernel)
  | with_reducible exact ev_pow (a := 10) (b := 58) (c := 10000000000000000000000000000000000000000000000000000000000) (by decide +kernel) (by decide +kernel)
  | with_reducible exact ev_pow (a := 10) (b := 59) (c := 100000000000000000000000000000000000000000000000000000000000) (by decide +kernel) (by decide +kernel)
  | with_reducible exact ev_pow (a := 10) (b := 60) (c := 1000000000000000000000000000000000000000000000000000000000000) (by decide +kernel) (by decide +kernel))
local macro_rules | `(tactic| walk_at "call") => `(tactic| (intro H9 e9; first | exact ⟨_, rfl, rfl⟩ | exact ⟨_, _, rfl, rfl⟩ | exact ⟨_, _, _, rfl, rfl⟩ | exact ⟨_, rfl, by walk_at "pl", rfl⟩ | (refine ⟨_, _, _, rfl, ?_, rfl⟩; first | exact Plain.ex e9 (by assumption) | walk_at "pl") | (refine ⟨_, rfl, ?_, rfl⟩; first | exact Plain.ex e9 (by assumption) | walk_at "pl")))
local macro_rules | `(tactic| walk_at "ev") => `(tactic| first
  | with_reducible exact ev_c
  | exact ev_var rfl
  | walk_at "pow"
  | ((with_reducible apply ev_op); walk_at "ev"; walk_at "ev"; walk_at "rv")
  | ((with_reducible apply ev_un); walk_at "ev"; walk_at "rv")
  | ((with_reducible apply ev_cb); walk_at "ea"; walk_at "rc")
  | ((with_reducible apply ev_callP); walk_at "ea"; walk_at "call")
  | ((with_reducible apply ev_chain); walk_at "ev"; walk_at "ev"; walk_at "rv"; walk_at "ev"; walk_at "rv")
  | ((with_reducible apply ev_andV); walk_at "ev"; intro _; walk_at "ev")
  | ((with_reducible apply ev_orV); walk_at "ev"; intro _; walk_at "ev")
  | ((with_reducible apply ev_ite); walk_at "et"; intro _; walk_at "ev"; intro _; walk_at "ev")
  | ((with_reducible apply ev_notV); walk_at "ev"))
local macro_rules | `(tactic| walk_at "et") => `(tactic| first
  | ((with_reducible apply et_test); walk_at "ev")
  | ((with_reducible apply et_B); walk_at "ev")
  | ((with_reducible apply et_and); walk_at "et"; intro _; walk_at "et")
  | ((with_reducible apply et_or); walk_at "et"; intro _; walk_at "et")
  | ((with_reducible apply et_not); walk_at "et"))
open LamX Wo
/-- what a call that is met makes: a tuple that tells how it ended -/
def TTmet (K : PySem.W.Frag) (CL CT CN CO : Addr) : (XK → Hp → VK → Prop) → Hp → VK → Prop := fun tl H Q =>
  tl (fun cls d H' => (cls = .ref CL ∧ ∀ t, H' t = none → Q (.ref t) (upd H' t (.tup [.str "refused", .str "letter"]))) ∨
      (cls = .ref CT ∧ ∀ t, H' t = none → Q (.ref t) (upd H' t (.tup [.str "refused", .str "text"]))) ∨
      (cls = .ref CN ∧ ∃ dd v y, d = some dd ∧ H' dd = some (.xd [("given", v)]) ∧ Rp K H' v y ∧ ("number " : Str).length + y.shown.length ≤ sizeLine ∧ ∀ t, H' t = none → Q (.ref t) (upd H' t (.tup [.str "refused", .str ("number " ++ y.shown)]))) ∨
      (cls = .ref CO ∧ ∀ t, H' t = none → Q (.ref t) (upd H' t (.tup [.str "refused", .str "operation"])))) H
    (fun _ H' => [V.str "fine", V.str ""].length ≤ sizeLine ∧ ∀ t, H' t = none → Q (.ref t) (upd H' t (.tup [.str "fine", .str ""])))
theorem met_gives {X : Cx} (T : Txt X.K X.mg X.w) (gd : X.A.guards = some []) (hu : X.A.units + 100 < cLine) {cdg : Value} {q : Str} :
    GivesTo X ["call", "error"] "_law_met" (defScope s_law_met) T.a_law_met cdg (defBody s_law_met) "call" q (TTmet X.K T.C_LE T.C_TE T.C_IN T.C_OE) := by
  intro f c' s H Q tl act hc h
  have cr : ∀ (a : Addr) (oe : Obj) (pn : List (Addr × Obj)), CallR ((cxOf C8.CX0 X.prog X.w X.K X.mg X.base ["call", "error"] "_law_met" (defScope s_law_met) T.a_law_met cdg X.A X.stack s H C8.E0).nox.suite a ((a, oe) :: pn)) (.builtin "repr") (rReprD X.K) := fun a oe pn => c_reprD (X := (cxOf C8.CX0 X.prog X.w X.K X.mg X.base ["call", "error"] "_law_met" (defScope s_law_met) T.a_law_met cdg X.A X.stack s H C8.E0).nox.suite a ((a, oe) :: pn)) gd (by show X.A.units + 3 + 64 < cLine; omega)
  refine ⟨_, pss_cons (ps_try_cls (X := (cxOf C8.CX0 X.prog X.w X.K X.mg X.base ["call", "error"] "_law_met" (defScope s_law_met) T.a_law_met cdg X.A X.stack s H C8.E0).nox)
    (tb := fun W D σ H => ∃ Ech : XK, (∀ cls d σ' H', Ech cls d H' → W cls d σ' H') ∧ σ[0]? = some (some (.ref f)) ∧ H c' = some (CodeO c' q) ∧ tl Ech H (fun _ H' => D.nx σ H'))
    rfl rfl L2.takes0 (fun W pn xe tk _ => ?b)
    (.plain ⟨rfl, by decide, .inl T.g_InvalidLetter⟩ (fun a oe cls d pn _ _ => pss_one (ps_ret (pe_tup (pa_cons pe_str (pa_cons pe_str pa_nil)))))
      (.plain ⟨rfl, by decide, .inl T.g_InvalidText⟩ (fun a oe cls d pn _ _ => pss_one (ps_ret (pe_tup (pa_cons pe_str (pa_cons pe_str pa_nil)))))
      (.named (i := 1) ⟨rfl, by decide, .inl T.g_InvalidNumber⟩ sc_law_met.nd rfl rfl (fun a oe cls d pn hz hf => pss_one (ps_ret (pe_tup (pa_cons pe_str (pa_cons (pe_op op_add_str pe_str (pe_callB (cr a oe pn) (by rfl) T.z_repr (by decide +kernel) (pa_cons (pe_xf T.x_IN T.f_IN hz hf (pv 1)) pa_nil))) pa_nil)))))
      (.plain ⟨rfl, by decide, .inl T.g_InvalidOperation⟩ (fun a oe cls d pn _ _ => pss_one (ps_ret (pe_tup (pa_cons pe_str (pa_cons pe_str pa_nil))))) .nil)))))
    (pss_one (ps_ret (pe_tup (pa_cons pe_str (pa_cons pe_str pa_nil))))), ?_⟩
  case b =>
    refine ⟨fun pins s' σ H' D I h' => ?_⟩
    obtain ⟨Ech, hW, h1, h2, h3⟩ := h'
    exact (pss_one (ps_expr (act W pn xe Ech _ _ tk hW))).run pins s' σ H' D I ⟨h1, h2, h3⟩
  · refine ⟨_, fun cls d σ' H' hE => ?_, rfl, hc, h⟩
    have two : ([V.str "refused", V.str "x"] : List V).length ≤ sizeLine := sz_of (by show 2 ≤ 100000; decide)
    rcases hE with ⟨rfl, k⟩ | ⟨rfl, k⟩ | ⟨rfl, dd, v, y, rfl, hd, hr, hlen, k⟩ | ⟨rfl, k⟩
    · exact ⟨true, T.m_LE_LE, fun _ a ha hl => ⟨two, k⟩, fun z => by cases z⟩
    · exact ⟨false, T.m_TE_LE, fun z => (by cases z), fun _ => ⟨true, T.m_TE_TE, fun _ a ha hl => ⟨two, k⟩, fun z => by cases z⟩⟩
    · refine ⟨false, T.m_IN_LE, fun z => (by cases z), fun _ => ⟨false, T.m_IN_TE, fun z => (by cases z), fun _ => ⟨true, T.m_IN_IN, fun _ a ha hl => ?_, fun z => by cases z⟩⟩⟩
      have hs : (σ'.set 1 (some (V.ref a)))[1]? = some (some (.ref a)) := List.getElem?_set_self (by rw [hl]; show 1 < 2; decide)
      refine ⟨.ref a, hs, rfl, rfl, dd, _, v, rfl, hd, rfl, v, y, rfl, hr.1, hr.2.1, hr.2.2.1, hr.2.2.2, ?_⟩
      exact ⟨_, _, rfl, rfl, hlen, two, k⟩
    · exact ⟨false, T.m_OE_LE, fun z => (by cases z), fun _ => ⟨false, T.m_OE_TE, fun z => (by cases z), fun _ => ⟨false, T.m_OE_IN, fun z => (by cases z), fun _ => ⟨true, T.m_OE_OE, fun _ a ha hl => ⟨two, k⟩, fun z => by cases z⟩⟩⟩⟩
theorem met_gives' {K : PySem.W.Frag} {mg : Str → Option Value} {w : World} (T : Txt K mg w) {A0 : Around} (gd : A0.guards = some []) (hu : A0.units + 100 < cLine) {X : Cx} (hX : X.K = K ∧ X.mg = mg ∧ X.w = w ∧ X.A = A0) {cdg : Value} {q : Str} :
    GivesTo X ["call", "error"] "_law_met" (defScope s_law_met) T.a_law_met cdg (defBody s_law_met) "call" q (TTmet K T.C_LE T.C_TE T.C_IN T.C_OE) := by
  obtain ⟨rfl, rfl, rfl, rfl⟩ := hX
  exact met_gives T gd hu
inductive Out where
  | letter | text | number | oper
def outS (k : Out) (y : PyData) : Str := match k with
  | .letter => "letter"
  | .text => "text"
  | .number => "number " ++ y.shown
  | .oper => "operation"
/-- how a call ends -/
def FailO (CL CT CN CO : Addr) (k : Out) (v : V) (E : XK) (H : Hp) : Prop := match k with
  | .letter => ∀ H', Ex H H' → E (.ref CL) none H'
  | .text => ∀ H', Ex H H' → E (.ref CT) none H'
  | .number => NErr CN v E H
  | .oper => ∀ H', Ex H H' → E (.ref CO) none H'
/-- told tuples, one for each text -/
inductive Tds (K : PySem.W.Frag) (H : Hp) : List V → List Str → Prop
  | nil : Tds K H [] []
  | cons {t : Addr} {z : Str} {vs : List V} {zs : List Str} : SqT K H t [.str "refused", .str z] → Tds K H vs zs → Tds K H (.ref t :: vs) (z :: zs)
def tdD (z : Str) : PyData := .tuple [.str "refused", .str z]
section
variable {K : PySem.W.Frag} {H H' : Hp} {vs us : List V} {zs ys : List Str}
theorem Tds.st (hs : ∀ b xs, SqT K H b xs → SqT K H' b xs) (h : Tds K H vs zs) : Tds K H' vs zs := by
  induction h with
  | nil => exact .nil
  | cons h _ ih => exact .cons (hs _ _ h) ih
theorem Tds.xn (e : ExtN H H') (h : Tds K H vs zs) : Tds K H' vs zs := h.st fun _ _ => xn_t e
theorem Tds.app (h : Tds K H vs zs) (g : Tds K H us ys) : Tds K H (vs ++ us) (zs ++ ys) := by
  induction h with
  | nil => exact g
  | cons h _ ih => exact .cons h ih
theorem Tds.dpa (h : Tds K H vs zs) : DpAll K H vs (zs.map tdD) := by
  induction h with
  | nil => exact .nil
  | cons h _ ih => exact .cons (.tup h (.cons (.str _) (.cons (.str _) .nil))) ih
theorem Tds.len (h : Tds K H vs zs) : vs.length = zs.length := by
  induction h with
  | nil => rfl
  | cons _ _ ih => rw [List.length_cons, List.length_cons, ih]
theorem sqt_up {b L : Addr} {xs ys : List V} {o : HO} (hL : H L = some (.lst ys)) (h : SqT K H b xs) : SqT K (upd H L o) b xs := by
  by_cases z : b = L
  · subst z
    rcases h with (h | ⟨o, h⟩) | h
    · rw [hL] at h; cases h
    · rw [hL] at h; cases h
    · exact .inr h
  · rcases h with (h | ⟨o, h⟩) | h
    · exact .inl (.inl (by rw [upd_ne z]; exact h))
    · exact .inl (.inr ⟨o, by rw [upd_ne z]; exact h⟩)
    · exact .inr h
end
theorem eqvAll_tds : ∀ zs : List Str, PyData.eqvAll (zs.map tdD) (zs.map tdD) = true
  | [] => rfl
  | z :: zs => by
    show (((("refused" : Str) == "refused") && ((z == z) && true)) && PyData.eqvAll (zs.map tdD) (zs.map tdD)) = true
    rw [eqvAll_tds zs]
    simp
theorem shaped_tds {zs : List Str} (h : ∀ z ∈ zs, PyData.strOk z = true) : SeqAt.shaped (.list (zs.map tdD)) = true := by
  have l : ∀ zs : List Str, (∀ z ∈ zs, PyData.strOk z = true) → PyData.canLayAll0 (zs.map tdD) = true ∧ PyData.depthAll (zs.map tdD) ≤ 1 := by
    intro zs
    induction zs with
    | nil => exact fun _ => ⟨rfl, Nat.zero_le _⟩
    | cons z zs ih =>
      intro h
      obtain ⟨h1, h2⟩ := ih fun x hx => h x (List.mem_cons_of_mem _ hx)
      refine ⟨?_, ?_⟩
      · show ((PyData.strOk "refused" && (PyData.strOk z && true)) && PyData.canLayAll0 (zs.map tdD)) = true
        rw [h1, h z (List.mem_cons_self ..)]
        decide +kernel
      · show max 1 (PyData.depthAll (zs.map tdD)) ≤ 1
        omega
  obtain ⟨h1, h2⟩ := l zs h
  unfold SeqAt.shaped
  have h3 : PyData.canLay0 (.list (zs.map tdD)) = true := h1
  have h4 : PyData.depth (.list (zs.map tdD)) ≤ 2 := by show PyData.depthAll (zs.map tdD) + 1 ≤ 2; omega
  rw [h3, decide_eq_true (by omega)]
  rfl
section
variable {σ : L2.St} {H : Hp} {TL : List (Addr × Str)} {K : PySem.W.Frag} {p : Addr} {D : Ends} {tz : TS} {zs : List Str} {xs : List V}
/-- nothing but a table stood there -/
def Nw (H : Hp) (l : Addr) : Prop := ∀ o, H l = some o → ∃ ps, o = .tbl ps
theorem nw_ex {l : Addr} {H1 : Hp} (e : Ex H H1) (h : H1 l = none) : Nw H l := fun o ho => by rw [e _ _ ho] at h; cases h
theorem nw_xn {l : Addr} {H1 : Hp} (e : ExtN H H1) (h : H1 l = none) : Nw H l := fun o ho => by
  by_cases z : ∃ ps, o = .tbl ps
  · exact z
  · rw [e _ _ ho fun ps w => z ⟨ps, w⟩] at h
    cases h
/-- te makes a new list of told tuples -/
def EvM (K : PySem.W.Frag) (TL : List (Addr × Str)) (te : TE) (σ : L2.St) (H : Hp) (zs : List Str) : Prop := ∀ Q : VK, (∀ l H2 vs, Nw H l → ExtN H H2 → Tabs TL H2 → H2 l = some (.lst vs) → Tds K H2 vs zs → Q (.ref l) H2) → te σ H Q
/-- tm meets a call that is told so -/
def Em (K : PySem.W.Frag) (TL : List (Addr × Str)) (tm : TE) (σ : L2.St) (H : Hp) (z : Str) : Prop := ∀ Q : VK, (∀ t H2, ExtN H H2 → Tabs TL H2 → SqT K H2 t [.str "refused", .str z] → Q (.ref t) H2) → tm σ H Q
theorem em_turn {tm : TE} {H1 H' : Hp} {Dl : Addr} {k : Nat} {σ2 : L2.St} {z : Str} (hz : zs[k]? = some z) (hk : zs.length ≤ 1000) (hD : H1 Dl = none) (p : ExtN H1 H' ∧ Tabs TL H' ∧ ∃ vs, H' Dl = some (.lst vs) ∧ Tds K H' vs (zs.take k)) (h : Em K TL tm σ2 H' z) :
    tm σ2 H' fun y H4 => ∃ acc, H4 Dl = some (.lst acc) ∧ acc.length < sizeLine ∧ (fun i H' => ExtN H1 H' ∧ Tabs TL H' ∧ ∃ vs, H' Dl = some (.lst vs) ∧ Tds K H' vs (zs.take i)) (k + 1) (upd H4 Dl (.lst (acc ++ [y]))) := by
  obtain ⟨e, t, vs, hv, hd⟩ := p
  refine h _ fun t' H4 e4 t4 h4 => ⟨vs, (e4 _ _ hv fun _ z => by cases z), ?_, ?_⟩
  · have := hd.len
    rw [List.length_take] at this
    exact sz_lt (by omega)
  · have hv4 : H4 Dl = some (.lst vs) := e4 _ _ hv fun _ z => by cases z
    refine ⟨fun b o hb ho => ?_, fun q hq => ?_, vs ++ [.ref t'], upd_same, ?_⟩
    · rw [upd_ne (ne_of_none hb hD)]
      exact e4 _ _ (e _ _ hb ho) ho
    · obtain ⟨ps, h1, h2, h3⟩ := t4 q hq
      have hn : q.1 ≠ Dl := fun z => by rw [z, hv4] at h1; cases h1
      refine ⟨ps, by rw [upd_ne hn]; exact h1, h2, fun pos cv hc => ?_⟩
      obtain ⟨c, h4, h5⟩ := h3 pos cv hc
      exact ⟨c, h4, by rw [upd_ne (fun z => by rw [z, hv4] at h5; cases h5)]; exact h5⟩
    · have e1 : zs.take (k + 1) = zs.take k ++ [z] := by
        obtain ⟨h1, h2⟩ := List.getElem?_eq_some_iff.mp hz
        rw [← List.take_append_getElem h1, h2]
      rw [e1]
      exact ((hd.xn e4).app (.cons h4 .nil)).st fun b xs h => sqt_up hv4 h
theorem em_lcT {tl tm : TE} {j : Nat} {vs : List Nat} (hT : Tabs TL H) (h : EvU tl σ H xs) (hl : zs.length = xs.length) (hx : xs.length ≤ 1000) (hw : ∀ x, wipe ((wipe σ vs).set j (some x)) vs = wipe σ vs)
    (he : ∀ (i : Nat) x z H', xs[i]? = some x → zs[i]? = some z → ExtN H H' → Tabs TL H' → Em K TL tm ((wipe σ vs).set j (some x)) H' z) : EvM K TL (tLc (iTup K tl) (gName j) tYes tm vs) σ H zs := fun Q q =>
  h H (Ex.refl H) _ fun a H1 ha e1 h1 => ⟨a, rfl, ⟨xs, st_of h1⟩, fun Dl hD =>
    lc_tup (K := K) (xs := xs) (fun i H' => ExtN H1 H' ∧ Tabs TL H' ∧ ∃ vs, H' Dl = some (.lst vs) ∧ Tds K H' vs (zs.take i)) ⟨xn_ex (Ex.new hD), (hT.ext e1).ext (Ex.new hD), [], upd_same, .nil⟩ (fun i H' _ p => xn_t p.1 (st_of h1))
      (fun i x H' hi p => ⟨hw x, by
        unfold tYes
        dsimp only
        rw [if_pos rfl]
        have hi2 := (List.getElem?_eq_some_iff.mp hi).1
        have hz : zs[i]? = some (zs[i]'(by omega)) := List.getElem?_eq_getElem (by omega)
        exact em_turn hz (by omega) hD p (he i x _ H' hi hz ((xn_ex e1).trans p.1) p.2.1)⟩)
      (fun H' ⟨e, t, vs, hv, hd⟩ => q Dl H' vs (nw_ex e1 hD) ((xn_ex e1).trans e) t hv (by rw [← hl, List.take_length] at hd; exact hd))⟩
/-- any list, new or not -/
def EvV (K : PySem.W.Frag) (te : TE) (σ : L2.St) (H : Hp) (xs : List V) : Prop := ∀ H1, Ex H H1 → ∀ Q : VK, (∀ a H2, Ex H1 H2 → SqL K H2 a xs → Q (.ref a) H2) → te σ H1 Q
theorem evv_of {te : TE} {a : Addr} (h : Ev te σ H (.ref a)) (hl : SqL K H a xs) : EvV K te σ H xs := fun H1 e Q q => h H1 e Q fun H2 e2 => q a H2 e2 (ex_l (e.trans e2) hl)
theorem evv_l {te : TE} (h : EvL te σ H xs) : EvV K te σ H xs := fun H1 e Q q => h H1 e Q fun a H2 _ e2 h2 => q a H2 e2 (sq_of h2)
theorem em_lcL {tl tm : TE} {j : Nat} {vs : List Nat} (hT : Tabs TL H) (h : EvV K tl σ H xs) (hl : zs.length = xs.length) (hx : xs.length ≤ 1000) (hw : ∀ x, wipe ((wipe σ vs).set j (some x)) vs = wipe σ vs)
    (he : ∀ (i : Nat) x z H', xs[i]? = some x → zs[i]? = some z → ExtN H H' → Tabs TL H' → Em K TL tm ((wipe σ vs).set j (some x)) H' z) : EvM K TL (tLc (iList K tl) (gName j) tYes tm vs) σ H zs := fun Q q =>
  h H (Ex.refl H) _ fun a H1 e1 h1 => ⟨a, rfl, ⟨xs, h1⟩, fun Dl hD =>
    lc_it (walk_list (K := K) (xs := xs)) (fun i H' => ExtN H1 H' ∧ Tabs TL H' ∧ ∃ vs, H' Dl = some (.lst vs) ∧ Tds K H' vs (zs.take i)) ⟨xn_ex (Ex.new hD), (hT.ext e1).ext (Ex.new hD), [], upd_same, .nil⟩ (fun i H' _ p => xn_l p.1 h1)
      (fun i x H' H'' hi p y => ⟨hw x, by
        obtain ⟨rfl, y⟩ := y
        unfold tYes
        dsimp only
        rw [if_pos rfl]
        have hz : zs[i]? = some (zs[i]'(by omega)) := List.getElem?_eq_getElem (by omega)
        exact em_turn hz (by omega) hD p (he i x _ _ y hz ((xn_ex e1).trans p.1) p.2.1)⟩)
      (fun H' ⟨e, t, vs, hv, hd⟩ => q Dl H' vs (nw_ex e1 hD) ((xn_ex e1).trans e) t hv (by rw [← hl, List.take_length] at hd; exact hd))⟩
theorem q_asgM {te : TE} {i : Nat} (h : EvM K TL te σ H zs) (k : ∀ l H2 vs, Nw H l → ExtN H H2 → Tabs TL H2 → H2 l = some (.lst vs) → Tds K H2 vs zs → tz D (σ.set i (some (.ref l))) H2) : tSeq (tAsg te (gName i)) tz D σ H := h _ k
/-- told = told + [..] -/
theorem em_cat {te tm : TE} {l : Addr} {vs : List V} {ys : List Str} (h : Ev te σ H (.ref l)) (hl : H l = some (.lst vs)) (hv : Tds K H vs zs) (hz : zs.length ≤ 1000) (hy : ys.length ≤ 1000) (hm : ∀ H1, Ex H H1 → EvM K TL tm σ H1 ys) : EvM K TL (tOp rCat te tm) σ H (zs ++ ys) := fun Q q =>
  h H (Ex.refl H) _ fun H1 e1 => hm H1 e1 _ fun r H2 us _ e2 t2 h2 hu => by
    have e := (xn_ex e1).trans e2
    have hl2 : H2 l = some (.lst vs) := e _ _ hl fun _ z => by cases z
    have l1 := hv.len
    have l2 := hu.len
    exact ⟨l, r, vs, us, rfl, rfl, hl2, h2, sz_of (by omega), fun x hx => q x _ (vs ++ us) (nw_xn e hx) (e.trans (xn_ex (Ex.new hx))) (t2.ext (Ex.new hx)) upd_same (((hv.xn e).app hu).xn (xn_ex (Ex.new hx)))⟩
/-- told.append(..) -/
theorem q_app {te tm : TE} {l : Addr} {vs : List V} {z : Str} (h : Ev te σ H (.ref l)) (hl : H l = some (.lst vs)) (hv : Tds K H vs zs) (hz : zs.length ≤ 1000) (hm : ∀ H1, Ex H H1 → Em K TL tm σ H1 z)
    (k : ∀ H2 us, (∀ b o, H b = some o → b ≠ l → (∀ ps, o ≠ .tbl ps) → H2 b = some o) → (∀ b xs, SqT K H b xs → SqT K H2 b xs) → Tabs TL H2 → H2 l = some (.lst us) → Tds K H2 us (zs ++ [z]) → tz D σ H2) : tSeq (tDrop (tBM K "list" rAppend te (tCons tm tNil))) tz D σ H :=
  h H (Ex.refl H) _ fun H1 e1 => ⟨.inl ⟨rfl, _, sq_of (e1 _ _ hl)⟩, hm H1 e1 _ fun t H2 e2 t2 h2 => by
    have e := (xn_ex e1).trans e2
    have hl2 : H2 l = some (.lst vs) := e _ _ hl fun _ z => by cases z
    have l1 := hv.len
    refine ⟨l, vs, .ref t, rfl, rfl, hl2, sz_lt (by omega), k _ _ (fun b o hb hn ho => by rw [upd_ne hn]; exact e _ _ hb ho) (fun b xs h => sqt_up hl2 (xn_t e h)) (fun q hq => ?_) upd_same (((hv.xn e).app (.cons h2 .nil)).st fun b xs h => sqt_up hl2 h)⟩
    obtain ⟨ps, h1, h3, h4⟩ := t2 q hq
    refine ⟨ps, by rw [upd_ne (fun z => by rw [z, hl2] at h1; cases h1)]; exact h1, h3, fun pos cv hc => ?_⟩
    obtain ⟨c, h5, h6⟩ := h4 pos cv hc
    exact ⟨c, h5, by rw [upd_ne (fun z => by rw [z, hl2] at h6; cases h6)]; exact h6⟩⟩
theorem s_app {te tm : TE} {l : Addr} {vs : List V} {z : Str} (h : Ev te σ H (.ref l)) (hl : H l = some (.lst vs)) (hv : Tds K H vs zs) (hz : zs.length ≤ 1000) (hm : ∀ H1, Ex H H1 → Em K TL tm σ H1 z)
    (k : ∀ H2 us, (∀ b o, H b = some o → b ≠ l → (∀ ps, o ≠ .tbl ps) → H2 b = some o) → (∀ b xs, SqT K H b xs → SqT K H2 b xs) → Tabs TL H2 → H2 l = some (.lst us) → Tds K H2 us (zs ++ [z]) → D.nx σ H2) : tDrop (tBM K "list" rAppend te (tCons tm tNil)) D σ H := q_app (tz := tNext) h hl hv hz hm k
theorem Nw.back {l : Addr} {H1 : Hp} (e : ExtN H H1) (h : Nw H1 l) : Nw H l := fun o ho => by
  by_cases z : ∃ ps, o = .tbl ps
  · exact z
  · exact h o (e _ _ ho fun ps w => z ⟨ps, w⟩)
theorem keep_l {l : Addr} {H0 H1 : Hp} (nw : Nw H0 l) (e : ExtN H0 H) (k : ∀ b o, H b = some o → b ≠ l → (∀ ps, o ≠ .tbl ps) → H1 b = some o) : ExtN H0 H1 := fun b o hb ho => k b o (e b o hb ho) (fun z => by subst z; obtain ⟨ps, w⟩ := nw o hb; exact ho ps w) ho
theorem Tabs.xd {p : Addr} {H1 : Hp} (e : Exd p H H1) (d : Dice p H) (h : Tabs TL H) : Tabs TL H1 := fun q hq => by
  obtain ⟨a, b, c, hd⟩ := d
  obtain ⟨ps, h1, h2, h3⟩ := h q hq
  refine ⟨ps, e _ _ (fun z => by rw [z, hd] at h1; cases h1) h1, h2, fun pos cv hc => ?_⟩
  obtain ⟨x, h4, h5⟩ := h3 pos cv hc
  exact ⟨x, h4, e _ _ (fun z => by rw [z, hd] at h5; cases h5) h5⟩
theorem ea_ix4 {i : Nat} {a : Addr} {v0 v1 v2 v3 : V} (hs : σ[i]? = some (some (.ref a))) (h : SqT K H a [v0, v1, v2, v3]) (tr : TA) (ys : List V) (hr : EvA tr σ H ys) :
    EvA (tCons (tOp (rIxT K) (tVar i) (tC (.int 0))) (tCons (tOp (rIxT K) (tVar i) (tC (.int 1))) (tCons (tOp (rIxT K) (tVar i) (tC (.int 2))) (tCons (tOp (rIxT K) (tVar i) (tC (.int 3))) tr)))) σ H (v0 :: v1 :: v2 :: v3 :: ys) :=
  ea_cons (ev_op (ev_var hs) ev_c (rv_ixT h rfl)) (ea_cons (ev_op (ev_var hs) ev_c (rv_ixT h rfl)) (ea_cons (ev_op (ev_var hs) ev_c (rv_ixT h rfl)) (ea_cons (ev_op (ev_var hs) ev_c (rv_ixT h rfl)) hr)))
theorem ea_ix3 {i : Nat} {a : Addr} {v0 v1 v2 v3 : V} (hs : σ[i]? = some (some (.ref a))) (h : SqT K H a [v0, v1, v2, v3]) (tr : TA) (ys : List V) (hr : EvA tr σ H ys) :
    EvA (tCons (tOp (rIxT K) (tVar i) (tC (.int 0))) (tCons (tOp (rIxT K) (tVar i) (tC (.int 1))) (tCons (tOp (rIxT K) (tVar i) (tC (.int 2))) tr))) σ H (v0 :: v1 :: v2 :: ys) :=
  ea_cons (ev_op (ev_var hs) ev_c (rv_ixT h rfl)) (ea_cons (ev_op (ev_var hs) ev_c (rv_ixT h rfl)) (ea_cons (ev_op (ev_var hs) ev_c (rv_ixT h rfl)) hr))
theorem evd_catV {te tt : TE} {l : Addr} {z : Str} (h : Ev te σ H (.ref l)) (hl : H l = some (.lst xs)) (hv : Tds K H xs zs) (hz : zs.length ≤ 1000) (ht : EvU tt σ H [.str "refused", .str z]) : EvD K (tOp rCat te (tLst (tCons tt tNil))) σ H (.list ((zs ++ [z]).map tdD)) := fun H1 e Q q =>
  h H1 e _ fun H2 e2 => ht H2 (e.trans e2) _ fun t H3 _ e3 h3 => ⟨sz_of (by show 1 ≤ 100000; decide), fun r hr => by
    have e4 : Ex H (upd H3 r (.lst [.ref t])) := ((e.trans e2).trans e3).trans (Ex.new hr)
    have l1 := hv.len
    refine ⟨l, r, xs, [.ref t], rfl, rfl, e4 _ _ hl, upd_same, sz_of (by show xs.length + 1 ≤ 100000; omega), fun x hx => q _ _ (((e2.trans e3).trans (Ex.new hr)).trans (Ex.new hx)) (.lst (sq_of upd_same) (Tds.dpa ?_))⟩
    exact (((hv.xn (xn_ex e4)).app (.cons (st_of (Ex.new hr _ _ h3)) .nil))).xn (xn_ex (Ex.new hx))⟩
theorem q_parUU {ta tb : TE} {i j : Nat} {ys : List V} (h1 : EvU ta σ H xs) (h2 : EvU tb σ H ys) (k : ∀ p r H1, Ex H H1 → H1 p = some (.tup xs) → H1 r = some (.tup ys) → tz D ((σ.set i (some (.ref p))).set j (some (.ref r))) H1) : tSeq (tPar i j (tCons ta (tCons tb tNil))) tz D σ H :=
  h1 H (Ex.refl H) _ fun p H1 _ e1 hp => h2 H1 e1 _ fun r H2 _ e2 hr => ⟨.ref p, .ref r, rfl, k p r H2 (e1.trans e2) (e2 _ _ hp) hr⟩
theorem q_asgLP {ts : TA} {i : Nat} {P : List V → Hp → Prop} (h : EvAP ts σ H P) (hl : ∀ vs H1, P vs H1 → vs.length ≤ 100000) (k : ∀ vs H1 H2 l, Ex H H1 → P vs H1 → H1 l = none → Ex H1 H2 → H2 l = some (.lst vs) → tz D (σ.set i (some (.ref l))) H2) : tSeq (tAsg (tLst ts) (gName i)) tz D σ H :=
  h H (Ex.refl H) _ fun vs H1 e1 hp => ⟨sz_of (hl vs H1 hp), fun l hn => k vs H1 _ l e1 hp hn (Ex.new hn) upd_same⟩
theorem rc_reprD {v : V} {y : PyData} (h : Rp K H v y) : RC (rReprD K) [v] H (.str y.shown) := fun H1 e Q q => ⟨v, y, rfl, dp_ex e h.1, h.2.1, h.2.2.1, h.2.2.2, q H1 (Ex.refl H1)⟩
theorem el_rep {te tn : TE} {n : Nat} (h : EvL te σ H xs) (hn : Ev tn σ H (.int (n : Int))) (hz : xs.length * n ≤ 100000) (hk : n ≤ 1000) : EvL (tOp rRep te tn) σ H (List.replicate n xs).flatten := fun H1 e Q q =>
  h H1 e _ fun p H2 hp e2 h2 => hn H2 (e.trans e2) _ fun H3 e3 => ⟨p, (n : Int), xs, rfl, rfl, e3 _ _ h2, by omega, by omega, by rw [Int.toNat_natCast]; exact sz_of hz, fun l hl => q l _ (fresh_back (e2.trans e3) hl) ((e2.trans e3).trans (Ex.new hl)) (by rw [Int.toNat_natCast]; exact upd_same)⟩
theorem cut_3 (xs : List V) (k : Nat) : cutV xs none (some (k : Int)) = xs.take k := by
  unfold cutV
  rw [HT.sIx_nat]
  have h0 : HT.sIx xs.length 0 none = 0 := rfl
  rw [h0, List.drop_zero, Nat.sub_zero]
  by_cases h : k ≤ xs.length
  · rw [Nat.min_eq_left h]
  · rw [Nat.min_eq_right (by omega), List.take_of_length_le (Nat.le_refl _), List.take_of_length_le (by omega)]
/-- for x in a new tuple -/
theorem q_forU {ta : TE} {j : Nat} {tb : TS} (h : EvU ta σ H xs) (Pv : Nat → L2.St → Hp → Prop) (h0 : ∀ H1, Ex H H1 → Pv 0 σ H1) (hs : ∀ (a : Addr) (i : Nat) x σ' H', xs[i]? = some x → SqT K H' a xs → Pv i σ' H' → tb { D with nx := fun σ2 H2 => SqT K H2 a xs ∧ Pv (i + 1) σ2 H2, ct := fun σ2 H2 => SqT K H2 a xs ∧ Pv (i + 1) σ2 H2, bk := tz D } (σ'.set j (some x)) H')
    (hd : ∀ σ' H', Pv xs.length σ' H' → tz D σ' H') : tSeq (tFor (iTup K ta) (gName j) tb) tz D σ H := h H (Ex.refl H) _ fun a H1 ha e1 h1 => ⟨a, rfl, ⟨xs, st_of h1⟩,
  for_it (D := { D with nx := tz D }) (walk_tup (K := K) (xs := xs)) (fun i σ' H' => SqT K H' a xs ∧ Pv i σ' H') ⟨st_of h1, h0 H1 e1⟩ (fun i σ' H' _ p => p.1) (fun i x σ' H' H'' hi p y => by
    obtain ⟨rfl, y⟩ := y
    exact hs a i x σ' _ y p.1 p.2) fun σ' H' p => hd σ' H' p.2⟩
/-- a call that ends so is told -/
theorem em_of {CL CT CN CO : Addr} {k : Out} {v : V} {y : PyData} {t : XK → TE} (hT : Tabs TL H) (h : ∀ (E : XK) H1 (Q' : VK), ExtN H H1 → (∀ H2, Ex H1 H2 → FailO CL CT CN CO k v E H2) → t E σ H1 Q') (hy : k = .number → Rp K H v y ∧ ("number " : Str).length + y.shown.length ≤ sizeLine) : Em K TL (tLam TL (TTmet K CL CT CN CO) t) σ H (outS k y) := fun Q q => by
  refine ⟨hT, fun H1 e1 t1 => ?_⟩
  refine h _ H1 _ e1 fun H2 e2 => ?_
  have fin : ∀ H3, Ex H2 H3 → ∀ z t, H3 t = none → Tabs TL (upd H3 t (.tup [.str "refused", .str z])) ∧ ExtN H (upd H3 t (.tup [.str "refused", .str z])) ∧ SqT K (upd H3 t (.tup [.str "refused", .str z])) t [.str "refused", .str z] := fun H3 e3 z t ht => by
    have e5 : Ex H1 (upd H3 t (.tup [.str "refused", .str z])) := (e2.trans e3).trans (Ex.new ht)
    exact ⟨t1.ext e5, e1.trans (xn_ex e5), st_of upd_same⟩
  cases k with
  | letter => exact fun H3 e3 => .inl ⟨rfl, fun t ht => by obtain ⟨a, b, c⟩ := fin H3 e3 "letter" t ht; exact q t _ b a c⟩
  | text => exact fun H3 e3 => .inr (.inl ⟨rfl, fun t ht => by obtain ⟨a, b, c⟩ := fin H3 e3 "text" t ht; exact q t _ b a c⟩)
  | number => exact fun d H3 e3 hd => .inr (.inr (.inl ⟨rfl, d, v, y, rfl, hd, ((hy rfl).1.xn e1).xn (xn_ex (e2.trans e3)), (hy rfl).2, fun t ht => by obtain ⟨a, b, c⟩ := fin H3 e3 ("number " ++ y.shown) t ht; exact q t _ b a c⟩))
  | oper => exact fun H3 e3 => .inr (.inr (.inr ⟨rfl, fun t ht => by obtain ⟨a, b, c⟩ := fin H3 e3 "operation" t ht; exact q t _ b a c⟩))
end
end Kz
set_option Elab.async false
set_option linter.all false
set_option maxRecDepth 100000
set_option maxHeartbeats 4000000
set_option exponentiation.threshold 500
namespace Kz
open PySem PySem.Spec PyProof.Rows L2 Evl Vr
local macro_rules | `(tactic| walk_at "sc") => `(tactic| first | (with_reducible assumption) | (with_reducible exact sc_mul (by omega)) | (with_reducible exact sc_mulr (by omega)) | (with_reducible exact sc_div (by omega) (by decide)) | (show (0 : Int) < _; omega) | (show _ ≠ (0 : Int); omega) | (with_reducible rfl) | decide)
local macro_rules | `(tactic| walk_at "sq") => `(tactic| first | assumption | exact sq_of (by assumption) | exact st_of (by assumption))
local macro_rules | `(tactic| walk_at "pl") => `(tactic| first | assumption | exact pl_int | exact pl_bl | exact pl_str | exact pl_non | exact pl_lst (by assumption) | exact pl_tup (by assumption) | exact pl_dK (by assumption))
local macro_rules | `(tactic| walk_at "rv") => `(tactic| first
  | with_reducible exact rv_I0
  | with_reducible exact ru_neg
  | ((with_reducible apply rv_I); walk_at "sc")
  | ((with_reducible apply rv_ixL); walk_at "sq"; first | rfl | assumption)
  | ((with_reducible apply rv_ixT); walk_at "sq"; first | rfl | assumption)
  | ((with_reducible apply rv_eq); rfl) | ((with_reducible apply rv_ne); rfl))
local macro_rules | `(tactic| walk_at "rc") => `(tactic| first
  | with_reducible exact rc_I1 | with_reducible exact rc_B1 | with_reducible exact rc_I2 | ((with_reducible apply rc_repr); walk_at "sc") | ((with_reducible apply rc_lenL); walk_at "sq")
  | ((with_reducible apply rc_isiInt); walk_at "pl") | ((with_reducible apply rc_isiBool); walk_at "pl"))
local macro_rules | `(tactic| walk_at "ea") => `(tactic| first
  | with_reducible exact ea_nil | ((with_reducible apply ea_cons); walk_at "ev"; walk_at "ea"))
local macro_rules | `(tactic| walk_at "pow") => `(tactic| first
  | with_reducible exact ev_pow (a := 10) (b := 9) (c := 1000000000) (by decide +kernel) (by decide +kernel)
  | with_reducible exact ev_pow (a := 10) (b := 10) (c := 10000000000) (by decide +kernel) (by decide +kernel)
  | with_reducible exact ev_pow (a := 10) (b := 12) (c := 1000000000000) (by decide +kernel) (by decide +kernel)
  | with_reducible exact ev_pow (a := 10) (b := 17) (c := 100000000000000000) (by decide +kernel) (by decide +kernel)
  | with_reducible exact ev_pow (a := 10) (b := 20) (c := 100000000000000000000) (by decide +kernel) (by decide +kernel)
  | with_reducible exact ev_pow (a := 10) (b := 29) (c := 100000000000000000000000000000) (by decide +kernel) (by decide +kernel)
  | with_reducible exact ev_pow (a := 10) (b := 30) (c := 1000000000000000000000000000000) (by decide +kernel) (by decide +kernel)
  | with_reducible exact ev_pow (a := 10) (b := 40) (c := 10000000000000000000000000000000000000000) (by decide +kernel) (by decide +kernel)
  | with_reducible exact ev_pow (a := 10) (b := 57) (c := 1000000000000000000000000000000000000000000000000000000000) (by decide +kernel) (by decide +kernel)
  | with_reducible exact ev_pow (a := 10) (b := 58) (c := 10000000000000000000000000000000000000000000000000000000000) (by decide +kernel) (by decide +kernel)
  | with_reducible exact ev_pow (a := 10) (b := 59) (c := 100000000000000000000000000000000000000000000000000000000000) (by decide +kernel) (by decide +kernel)
  | with_reducible exact ev_pow (a := 10) (b := 60) (c := 1000000000000000000000000000000000000000000000000000000000000) (by decide +kernel) (by decide +kernel))
local macro_rules | `(tactic| walk_at "call") => `(tactic| (intro H9 e9; first | exact ⟨_, rfl, rfl⟩ | exact ⟨_, _, rfl, rfl⟩ | exact ⟨_, _, _, rfl, rfl⟩ | exact ⟨_, rfl, by walk_at "pl", rfl⟩ | (refine ⟨_, _, _, rfl, ?_, rfl⟩; first | exact Plain.ex e9 (by assumption) | walk_at "pl") | (refine ⟨_, rfl, ?_, rfl⟩; first | exact Plain.ex e9 (by assumption) | walk_at "pl")))
local macro_rules | `(tactic| walk_at "ev") => `(tactic| first
  | with_reducible exact ev_c
  | exact ev_var rfl
  | walk_at "pow"
  | ((with_reducible apply ev_op); walk_at "ev"; walk_at "ev"; walk_at "rv")
  | ((with_reducible apply ev_un); walk_at "ev"; walk_at "rv")
  | ((with_reducible apply ev_cb); walk_at "ea"; walk_at "rc")
  | ((with_reducible apply ev_callP); walk_at "ea"; walk_at "call")
  | ((with_reducible apply ev_chain); walk_at "ev"; walk_at "ev"; walk_at "rv"; walk_at "ev"; walk_at "rv")
  | ((with_reducible apply ev_andV); walk_at "ev"; intro _; walk_at "ev")
  | ((with_reducible apply ev_orV); walk_at "ev"; intro _; walk_at "ev")
  | ((with_reducible apply ev_ite); walk_at "et"; intro _; walk_at "ev"; intro _; walk_at "ev")
  | ((with_reducible apply ev_notV); walk_at "ev"))
local macro_rules | `(tactic| walk_at "et") => `(tactic| first
  | ((with_reducible apply et_test); walk_at "ev")
  | ((with_reducible apply et_B); walk_at "ev")
  | ((with_reducible apply et_and); walk_at "et"; intro _; walk_at "et")
  | ((with_reducible apply et_or); walk_at "et"; intro _; walk_at "et")
  | ((with_reducible apply et_not); walk_at "et"))
open Tx Wo
/-- a text some times over -/
def timesL (n : Nat) (l : List Nat) : List Nat := (List.replicate n l).flatten
theorem fold_arr (a : Array Nat) : ∀ (n : Nat) (acc : Array Nat), ((List.replicate n a).foldl (· ++ ·) acc).toList = acc.toList ++ timesL n a.toList
  | 0, acc => by simp [timesL]
  | n + 1, acc => by
    rw [List.replicate_succ, List.foldl_cons, fold_arr a n]
    simp [timesL, List.replicate_succ]
theorem times_S (n : Nat) (l : List Nat) : (⟨(List.replicate n (S l).cps).foldl (· ++ ·) #[]⟩ : Str) = S (timesL n l) := by
  apply Str.ext'
  apply Array.toList_inj.mp
  rw [fold_arr]
  simp
def rMulS : R2 := fun x y H Q => ∃ (l : List Nat) (n : Nat), x = vS l ∧ y = .int (n : Int) ∧ 1 ≤ n ∧ n ≤ 1000 ∧ l.length ≤ 1000 ∧ Q (vS (timesL n l)) H
theorem op_mulS {X : Cx} : OpR X (binaryOp .Mult) rMulS := by
  intro pins s σ H x y v u Q I rx ry h
  obtain ⟨l, n, rfl, rfl, n1, n2, hl, q⟩ := h
  obtain ⟨t, rfl⟩ := rx
  obtain ⟨t', rfl⟩ := ry
  have hlen : (S l).length = l.length := S_len l
  have hmul : l.length * n ≤ 1000000 := Nat.mul_le_mul hl n2
  refine P.mul_str (by rw [decide_eq_false (by omega), decide_eq_false (by omega)]; rfl) (fun _ _ => ?_) (fun _ _ => ?_) ?_
  · rw [hlen]
    have h63 : (2 : Int) ^ 63 - 1 = 9223372036854775807 := by decide
    rw [h63]
    have hm : (l.length : Int) * (n : Int) = ((l.length * n : Nat) : Int) := (Int.natCast_mul ..).symm
    have : (l.length : Int) ≤ 9223372036854775807 / (n : Int) := (Int.le_ediv_iff_mul_le (by omega)).mpr (by rw [hm]; omega)
    omega
  · rw [hlen, Int.toNat_natCast]
    exact PyProof.Rows.short24 (by omega)
  · rw [if_neg (by omega)]
    split
    · rename_i hc
      have he : timesL n l = l := by
        rw [hlen, Bool.or_eq_true, beq_iff_eq, beq_iff_eq] at hc
        rcases hc with h | h
        · have : n = 1 := by omega
          subst this
          simp [timesL]
        · rw [List.length_eq_zero_iff.mp h]
          simp [timesL]
      exact ⟨vS (timesL n l), H, I, ⟨t, by rw [he]⟩, q⟩
    · rw [Int.toNat_natCast, times_S]
      refine ⟨?_, ⟨vS (timesL n l), H, I.tok _, ⟨_, rfl⟩, q⟩⟩
      rw [S_len]
      have : (timesL n l).length = n * l.length := by simp [timesL]
      rw [this, Nat.mul_comm]
      exact Nat.le_trans hmul (by decide)
/-! ### data that a law lays -/
section
variable {K : PySem.W.Frag} {H H' : Hp} {σ : L2.St} {te tl tm tb : TE} {ta tr : TA} {D : Ends} {tz : TS} {d : PyData} {ds es : List PyData} {v : V} {l : Addr} {xs : List V}
theorem DaAll.app {ys : List V} : ∀ {xs : List V} {ds : List PyData}, DaAll K H xs ds → DaAll K H ys es → DaAll K H (xs ++ ys) (ds ++ es)
  | [], _, h, g => by cases h; exact g
  | _ :: _, _, h, g => by cases h with | cons h1 h2 => exact .cons h1 (h2.app g)
theorem DaAll.rep (h : DaAll K H xs ds) : ∀ n : Nat, DaAll K H (List.replicate n xs).flatten (List.replicate n ds).flatten
  | 0 => .nil
  | n + 1 => by
    rw [List.replicate_succ, List.replicate_succ, List.flatten_cons, List.flatten_cons]
    exact h.app (h.rep n)
def EvW (K : PySem.W.Frag) (te : TE) (σ : L2.St) (H : Hp) (d : PyData) : Prop := ∀ H1, Ex H H1 → ∀ Q : VK, (∀ v H2, Ex H1 H2 → Da K H2 v d → Q v H2) → te σ H1 Q
def EaW (K : PySem.W.Frag) (ta : TA) (σ : L2.St) (H : Hp) (ds : List PyData) : Prop := ∀ H1, Ex H H1 → ∀ Q : List V → Hp → Prop, (∀ vs H2, Ex H1 H2 → DaAll K H2 vs ds → Q vs H2) → ta σ H1 Q
theorem ew_ev (h : Ev te σ H v) (hd : ∀ H1, Ex H H1 → Da K H1 v d) : EvW K te σ H d := fun H1 e Q q => h H1 e Q fun H2 e2 => q v H2 e2 (hd H2 (e.trans e2))
theorem ew_c (hd : ∀ {H1}, Da K H1 v d) : EvW K (tC v) σ H d := ew_ev ev_c fun _ _ => hd
theorem ea_w0 : EaW K tNil σ H [] := fun H1 _ Q q => q [] H1 (Ex.refl H1) .nil
theorem ea_w1 (h : EvW K te σ H d) (hr : EaW K tr σ H ds) : EaW K (tCons te tr) σ H (d :: ds) := fun H1 e Q q =>
  h H1 e _ fun v H2 e2 hv => hr H2 (e.trans e2) _ fun vs H3 e3 hs => q (v :: vs) H3 (e2.trans e3) (.cons (da_ex e3 _ _ hv) hs)
theorem ew_tup (h : EaW K ta σ H ds) (hl : ds.length ≤ 100000) : EvW K (tTup ta) σ H (.tuple ds) := fun H1 e Q q =>
  h H1 e _ fun vs H2 e2 hs => ⟨by rw [hs.len]; exact sz_of hl, fun p hp => q _ _ (e2.trans (Ex.new hp)) (.tup (st_of upd_same) (daa_ex (Ex.new hp) _ _ hs))⟩
theorem ew_lst (h : EaW K ta σ H ds) (hl : ds.length ≤ 100000) : EvW K (tLst ta) σ H (.list ds) := fun H1 e Q q =>
  h H1 e _ fun vs H2 e2 hs => ⟨by rw [hs.len]; exact sz_of hl, fun p hp => q _ _ (e2.trans (Ex.new hp)) (.lst upd_same (daa_ex (Ex.new hp) _ _ hs))⟩
theorem ew_dic : EvW K tDNewK σ H (.dict []) := fun H1 e Q q => fun p hp => q _ _ (Ex.new hp) (.dic upd_same)
theorem ew_rep {k : Nat} (h : EaW K ta σ H ds) (hl : ds.length ≤ 1000) (hne : ds ≠ []) (hk : Ev te σ H (.int (k : Int))) (k1 : 2 ≤ k) (k2 : k ≤ 1000) : EvW K (tOp (rRepT K) (tTup ta) te) σ H (.tuple (List.replicate k ds).flatten) := fun H1 e Q q =>
  h H1 e _ fun vs H2 e2 hs => ⟨by rw [hs.len]; exact sz_of (by omega), fun p hp => hk _ ((e.trans e2).trans (Ex.new hp)) _ fun H3 e3 => ⟨p, (k : Int), vs, rfl, rfl, st_of (e3 _ _ upd_same), (fun z => by
    subst z
    have := hs.len
    exact hne (List.eq_nil_of_length_eq_zero this.symm)), by omega, by omega, by rw [hs.len]; exact hl, fun r hr => by
    rw [Int.toNat_natCast]
    exact q _ _ (((e2.trans (Ex.new hp)).trans e3).trans (Ex.new hr)) (.tup (st_of upd_same) ((daa_ex (((Ex.new hp).trans e3).trans (Ex.new hr)) _ _ hs).rep k))⟩⟩
theorem ew_mul {l : List Nat} {n : Nat} (h1 : Ev te σ H (vS l)) (h2 : Ev tb σ H (.int (n : Int))) (n1 : 1 ≤ n) (n2 : n ≤ 1000) (hl : l.length ≤ 1000) : EvW K (tOp rMulS te tb) σ H (.str (S (timesL n l))) :=
  ew_ev (ev_op h1 h2 fun H1 e Q q => ⟨l, n, rfl, rfl, n1, n2, hl, q H1 (Ex.refl H1)⟩) fun _ _ => .str _
/-- a new list of data -/
def EvN (K : PySem.W.Frag) (te : TE) (σ : L2.St) (H : Hp) (ds : List PyData) : Prop := ∀ H1, Ex H H1 → ∀ Q : VK, (∀ l xs H2, H1 l = none → Ex H1 H2 → H2 l = some (.lst xs) → DaAll K H2 xs ds → Q (.ref l) H2) → te σ H1 Q
theorem en_lst (h : EaW K ta σ H ds) (hl : ds.length ≤ 100000) : EvN K (tLst ta) σ H ds := fun H1 e Q q =>
  h H1 e _ fun vs H2 e2 hs => ⟨by rw [hs.len]; exact sz_of hl, fun p hp => q _ _ _ (fresh_back e2 hp) (e2.trans (Ex.new hp)) upd_same (daa_ex (Ex.new hp) _ _ hs)⟩
theorem en_cat (h : Ev te σ H (.ref l)) (hl : H l = some (.lst xs)) (hd : DaAll K H xs ds) (z1 : xs.length ≤ 50000) (z2 : es.length ≤ 50000) (hm : EvN K tm σ H es) : EvN K (tOp rCat te tm) σ H (ds ++ es) := fun H1 e Q q =>
  h H1 e _ fun H2 e2 => hm H2 (e.trans e2) _ fun r ys H3 hr e3 hy dy => ⟨l, r, xs, ys, rfl, rfl, ((e.trans e2).trans e3) _ _ hl, hy, sz_of (by rw [dy.len]; omega), fun x hx =>
    q x _ _ (fresh_back (e2.trans e3) hx) ((e2.trans e3).trans (Ex.new hx)) upd_same ((daa_ex (((e.trans e2).trans e3).trans (Ex.new hx)) _ _ hd).app (daa_ex (Ex.new hx) _ _ dy))⟩
theorem q_asgN {i : Nat} (h : EvN K te σ H ds) (k : ∀ l xs H1, H l = none → Ex H H1 → H1 l = some (.lst xs) → DaAll K H1 xs ds → tz D (σ.set i (some (.ref l))) H1) : tSeq (tAsg te (gName i)) tz D σ H := h H (Ex.refl H) _ k
theorem s_retN (h : EvN K te σ H ds) (k : ∀ l xs H1, H l = none → Ex H H1 → H1 l = some (.lst xs) → DaAll K H1 xs ds → D.rt (.ref l) H1) : tRet te D σ H := h H (Ex.refl H) _ k
end
def odd0 : List PyData := [.none, (.int 0), (.str "word"), (.tuple []), (.list []), (.dict []), (.tuple [(.str "word")]), (.list [(.str "word"), (.int 1), (.str "go")]), (.tuple [(.str "word"), (.int 0), (.str "go")]), (.tuple [(.str "word"), (.int 6), (.str "go")]), (.tuple [(.str "word"), (.bool true), (.str "go")]), (.tuple [(.str "word"), (.int 1), (.str "went")])]
def odd1 : List PyData := [(.tuple [(.str "keys"), (.int 1), (.int 0), (.tuple [(.int 64)]), (.int 0)]), (.tuple [(.str "keys"), (.int 1), (.int 0), (.list [(.int 0)]), (.int 0)]), (.tuple [(.str "keys"), (.int 1), (.int (-1)), (.tuple []), (.int 0)]), (.tuple [(.str "keys"), (.int 1), (.int 0), (.tuple []), (.int 999999937)]), (.tuple [(.str "keys"), (.int 1), (.int 0), (.tuple [(.bool true)]), (.int 0)])]
def odd2 : List PyData := [(.tuple [(.str "keys"), (.int 1), (.int 0), (.tuple [])]), (.tuple [(.str "keys"), (.int 1), (.int 0), (.tuple (List.replicate 21 [(.int 0)]).flatten), (.int 0)]), (.tuple [(.str "rows"), (.int 1), (.int 0), (.tuple [(.tuple [])])]), (.tuple [(.str "rows"), (.int 1), (.int 0), (.tuple [(.tuple [(.int 1)]), (.tuple [(.int 1), (.int 2)])])]), (.tuple [(.str "rows"), (.int 1), (.int 0), (.tuple [(.tuple [(.int (-2))])])])]
def odd3 : List PyData := [(.tuple [(.str "rows"), (.int 1), (.int 0), (.tuple [(.tuple (List.replicate 5 [(.int 1)]).flatten)])]), (.tuple [(.str "rows"), (.int 1), (.int 0), (.tuple (List.replicate 33 [(.tuple [(.int 1)])]).flatten)]), (.tuple [(.str "rows"), (.int 1), (.str "0"), (.tuple [])]), (.tuple [(.str "rows"), (.int 1), (.int 0), (.tuple [(.int 5)])]), (.tuple [(.str "rows"), (.int 1), (.int 0), .none])]
def odd4 : List PyData := [(.tuple [(.str "piece"), (.int 1), (.int 0), (.int 0), (.int 0), (.str "x")]), (.tuple [(.str "piece"), (.int 1), (.int 0), (.int 3), (.int 3), (.str "x")]), (.tuple [(.str "piece"), (.int 1), (.int 0), (.int 0), (.int 101), (.str "x")]), (.tuple [(.str "piece"), (.int 1), (.int 0), (.int 0), (.int 1), (.str "")]), (.tuple [(.str "piece"), (.int 1), (.int 0), (.int 0), (.int 1), (.str (S (timesL 201 [120])))])]
def odd5 : List PyData := [(.tuple [(.str "piece"), (.int 1), (.int 0), (.int 0), (.int 1), (.str "a\nb")]), (.tuple [(.str "piece"), (.int 1), (.int 0), (.int (-1)), (.int 1), (.str "x")]), (.tuple [(.str "piece"), (.int 1), .none, (.int 0), (.int 1), (.str "x")]), (.tuple [(.str "print"), (.int 1), (.int 0)]), (.tuple [(.int 1), (.str "word"), (.str "go")]), (.tuple [(.str "word"), (.int 1), .none])]
def oddDs : List PyData := (((((odd0 ++ odd1) ++ odd2) ++ odd3) ++ odd4) ++ odd5)
section
variable {P : Program} {w : World} {K : PySem.W.Frag} {mg : Str → Option Value} {base : Heap}
def spOdd (K : PySem.W.Frag) : Sp := fun vs H Q _ => vs = [] ∧ ∀ l H' xs, H l = none → Ex H H' → H' l = some (.lst xs) → DaAll K H' xs oddDs → Q (.ref l) H'
theorem ok_odd (T : Txt K mg w) : FnOk P w K mg base CX0 1 T.a_law_odd_letters T.fd_law_odd_letters [] (spOdd K) := by
  refine T.F_law_odd_letters.ok sc_law_odd_letters (fun vs H Q E h => ?_) (fun cdv A outer s H vs Q E hr h => ?_)
  · obtain ⟨rfl, _⟩ := h; rfl
  · obtain ⟨rfl, q⟩ := h
    refine ⟨_, (pss_cons (ps_set (i := 0) sc_law_odd_letters.nd rfl (.inl rfl) (pe_lst (pa_cons pe_non (pa_cons pe_int (pa_cons pe_str (pa_cons (pe_tup pa_nil) (pa_cons (pe_lst pa_nil) (pa_cons pe_dnewK (pa_cons (pe_tup (pa_cons pe_str pa_nil)) (pa_cons (pe_lst (pa_cons pe_str (pa_cons pe_int (pa_cons pe_str pa_nil)))) (pa_cons (pe_tup (pa_cons pe_str (pa_cons pe_int (pa_cons pe_str pa_nil)))) (pa_cons (pe_tup (pa_cons pe_str (pa_cons pe_int (pa_cons pe_str pa_nil)))) (pa_cons (pe_tup (pa_cons pe_str (pa_cons pe_bl (pa_cons pe_str pa_nil)))) (pa_cons (pe_tup (pa_cons pe_str (pa_cons pe_int (pa_cons pe_str pa_nil)))) pa_nil))))))))))))))
  (pss_cons (ps_set (i := 0) sc_law_odd_letters.nd rfl (.inl rfl) (pe_op op_cat (pv 0) (pe_lst (pa_cons (pe_tup (pa_cons pe_str (pa_cons pe_int (pa_cons pe_int (pa_cons (pe_tup (pa_cons pe_int pa_nil)) (pa_cons pe_int pa_nil)))))) (pa_cons (pe_tup (pa_cons pe_str (pa_cons pe_int (pa_cons pe_int (pa_cons (pe_lst (pa_cons pe_int pa_nil)) (pa_cons pe_int pa_nil)))))) (pa_cons (pe_tup (pa_cons pe_str (pa_cons pe_int (pa_cons (pe_un un_neg pe_int) (pa_cons (pe_tup pa_nil) (pa_cons pe_int pa_nil)))))) (pa_cons (pe_tup (pa_cons pe_str (pa_cons pe_int (pa_cons pe_int (pa_cons (pe_tup pa_nil) (pa_cons pe_int pa_nil)))))) (pa_cons (pe_tup (pa_cons pe_str (pa_cons pe_int (pa_cons pe_int (pa_cons (pe_tup (pa_cons pe_bl pa_nil)) (pa_cons pe_int pa_nil)))))) pa_nil))))))))
  (pss_cons (ps_set (i := 0) sc_law_odd_letters.nd rfl (.inl rfl) (pe_op op_cat (pv 0) (pe_lst (pa_cons (pe_tup (pa_cons pe_str (pa_cons pe_int (pa_cons pe_int (pa_cons (pe_tup pa_nil) pa_nil))))) (pa_cons (pe_tup (pa_cons pe_str (pa_cons pe_int (pa_cons pe_int (pa_cons (pe_op op_repT (pe_tup (pa_cons pe_int pa_nil)) pe_int) (pa_cons pe_int pa_nil)))))) (pa_cons (pe_tup (pa_cons pe_str (pa_cons pe_int (pa_cons pe_int (pa_cons (pe_tup (pa_cons (pe_tup pa_nil) pa_nil)) pa_nil))))) (pa_cons (pe_tup (pa_cons pe_str (pa_cons pe_int (pa_cons pe_int (pa_cons (pe_tup (pa_cons (pe_tup (pa_cons pe_int pa_nil)) (pa_cons (pe_tup (pa_cons pe_int (pa_cons pe_int pa_nil))) pa_nil))) pa_nil))))) (pa_cons (pe_tup (pa_cons pe_str (pa_cons pe_int (pa_cons pe_int (pa_cons (pe_tup (pa_cons (pe_tup (pa_cons (pe_un un_neg pe_int) pa_nil)) pa_nil)) pa_nil))))) pa_nil))))))))
  (pss_cons (ps_set (i := 0) sc_law_odd_letters.nd rfl (.inl rfl) (pe_op op_cat (pv 0) (pe_lst (pa_cons (pe_tup (pa_cons pe_str (pa_cons pe_int (pa_cons pe_int (pa_cons (pe_tup (pa_cons (pe_op op_repT (pe_tup (pa_cons pe_int pa_nil)) pe_int) pa_nil)) pa_nil))))) (pa_cons (pe_tup (pa_cons pe_str (pa_cons pe_int (pa_cons pe_int (pa_cons (pe_op op_repT (pe_tup (pa_cons (pe_tup (pa_cons pe_int pa_nil)) pa_nil)) pe_int) pa_nil))))) (pa_cons (pe_tup (pa_cons pe_str (pa_cons pe_int (pa_cons pe_str (pa_cons (pe_tup pa_nil) pa_nil))))) (pa_cons (pe_tup (pa_cons pe_str (pa_cons pe_int (pa_cons pe_int (pa_cons (pe_tup (pa_cons pe_int pa_nil)) pa_nil))))) (pa_cons (pe_tup (pa_cons pe_str (pa_cons pe_int (pa_cons pe_int (pa_cons pe_non pa_nil))))) pa_nil))))))))
  (pss_cons (ps_set (i := 0) sc_law_odd_letters.nd rfl (.inl rfl) (pe_op op_cat (pv 0) (pe_lst (pa_cons (pe_tup (pa_cons pe_str (pa_cons pe_int (pa_cons pe_int (pa_cons pe_int (pa_cons pe_int (pa_cons pe_str pa_nil))))))) (pa_cons (pe_tup (pa_cons pe_str (pa_cons pe_int (pa_cons pe_int (pa_cons pe_int (pa_cons pe_int (pa_cons pe_str pa_nil))))))) (pa_cons (pe_tup (pa_cons pe_str (pa_cons pe_int (pa_cons pe_int (pa_cons pe_int (pa_cons pe_int (pa_cons pe_str pa_nil))))))) (pa_cons (pe_tup (pa_cons pe_str (pa_cons pe_int (pa_cons pe_int (pa_cons pe_int (pa_cons pe_int (pa_cons pe_str pa_nil))))))) (pa_cons (pe_tup (pa_cons pe_str (pa_cons pe_int (pa_cons pe_int (pa_cons pe_int (pa_cons pe_int (pa_cons (pe_op op_mulS pe_str pe_int) pa_nil))))))) pa_nil))))))))
  (pss_one (ps_ret (pe_op op_cat (pv 0) (pe_lst (pa_cons (pe_tup (pa_cons pe_str (pa_cons pe_int (pa_cons pe_int (pa_cons pe_int (pa_cons pe_int (pa_cons pe_str pa_nil))))))) (pa_cons (pe_tup (pa_cons pe_str (pa_cons pe_int (pa_cons pe_int (pa_cons (pe_un un_neg pe_int) (pa_cons pe_int (pa_cons pe_str pa_nil))))))) (pa_cons (pe_tup (pa_cons pe_str (pa_cons pe_int (pa_cons pe_non (pa_cons pe_int (pa_cons pe_int (pa_cons pe_str pa_nil))))))) (pa_cons (pe_tup (pa_cons pe_str (pa_cons pe_int (pa_cons pe_int pa_nil)))) (pa_cons (pe_tup (pa_cons pe_int (pa_cons pe_str (pa_cons pe_str pa_nil)))) (pa_cons (pe_tup (pa_cons pe_str (pa_cons pe_int (pa_cons pe_non pa_nil)))) pa_nil))))))))))))))), ?_⟩
    refine q_asgN (en_lst (K := K) (ds := odd0) (by exact (ea_w1 (ew_c .non) (ea_w1 (ew_c (.int 0)) (ea_w1 (ew_c (.str "word")) (ea_w1 (ew_tup ea_w0 (by show 0 ≤ 100000; decide)) (ea_w1 (ew_lst ea_w0 (by show 0 ≤ 100000; decide)) (ea_w1 ew_dic (ea_w1 (ew_tup (ea_w1 (ew_c (.str "word")) ea_w0) (by show 1 ≤ 100000; decide)) (ea_w1 (ew_lst (ea_w1 (ew_c (.str "word")) (ea_w1 (ew_c (.int 1)) (ea_w1 (ew_c (.str "go")) ea_w0))) (by show 3 ≤ 100000; decide)) (ea_w1 (ew_tup (ea_w1 (ew_c (.str "word")) (ea_w1 (ew_c (.int 0)) (ea_w1 (ew_c (.str "go")) ea_w0))) (by show 3 ≤ 100000; decide)) (ea_w1 (ew_tup (ea_w1 (ew_c (.str "word")) (ea_w1 (ew_c (.int 6)) (ea_w1 (ew_c (.str "go")) ea_w0))) (by show 3 ≤ 100000; decide)) (ea_w1 (ew_tup (ea_w1 (ew_c (.str "word")) (ea_w1 (ew_c (.bl true)) (ea_w1 (ew_c (.str "go")) ea_w0))) (by show 3 ≤ 100000; decide)) (ea_w1 (ew_tup (ea_w1 (ew_c (.str "word")) (ea_w1 (ew_c (.int 1)) (ea_w1 (ew_c (.str "went")) ea_w0))) (by show 3 ≤ 100000; decide)) ea_w0))))))))))))) (by show 12 ≤ 100000; decide)) fun l0 xs0 H0 n0 e0 h0 d0 => ?_
    refine q_asgN (en_cat (ev_var rfl) h0 d0 (by rw [d0.len]; show 12 ≤ 50000; decide) (by show 5 ≤ 50000; decide) (en_lst (K := K) (ds := odd1) (by exact (ea_w1 (ew_tup (ea_w1 (ew_c (.str "keys")) (ea_w1 (ew_c (.int 1)) (ea_w1 (ew_c (.int 0)) (ea_w1 (ew_tup (ea_w1 (ew_c (.int 64)) ea_w0) (by show 1 ≤ 100000; decide)) (ea_w1 (ew_c (.int 0)) ea_w0))))) (by show 5 ≤ 100000; decide)) (ea_w1 (ew_tup (ea_w1 (ew_c (.str "keys")) (ea_w1 (ew_c (.int 1)) (ea_w1 (ew_c (.int 0)) (ea_w1 (ew_lst (ea_w1 (ew_c (.int 0)) ea_w0) (by show 1 ≤ 100000; decide)) (ea_w1 (ew_c (.int 0)) ea_w0))))) (by show 5 ≤ 100000; decide)) (ea_w1 (ew_tup (ea_w1 (ew_c (.str "keys")) (ea_w1 (ew_c (.int 1)) (ea_w1 (ew_ev (ev_is (by walk_at "ev") rfl) fun _ _ => .int (-1)) (ea_w1 (ew_tup ea_w0 (by show 0 ≤ 100000; decide)) (ea_w1 (ew_c (.int 0)) ea_w0))))) (by show 5 ≤ 100000; decide)) (ea_w1 (ew_tup (ea_w1 (ew_c (.str "keys")) (ea_w1 (ew_c (.int 1)) (ea_w1 (ew_c (.int 0)) (ea_w1 (ew_tup ea_w0 (by show 0 ≤ 100000; decide)) (ea_w1 (ew_c (.int 999999937)) ea_w0))))) (by show 5 ≤ 100000; decide)) (ea_w1 (ew_tup (ea_w1 (ew_c (.str "keys")) (ea_w1 (ew_c (.int 1)) (ea_w1 (ew_c (.int 0)) (ea_w1 (ew_tup (ea_w1 (ew_c (.bl true)) ea_w0) (by show 1 ≤ 100000; decide)) (ea_w1 (ew_c (.int 0)) ea_w0))))) (by show 5 ≤ 100000; decide)) ea_w0)))))) (by show 5 ≤ 100000; decide))) fun l1 xs1 H1 n1 e1 h1 d1 => ?_
    have ee1 := e0.trans e1
    refine q_asgN (en_cat (ev_var rfl) h1 d1 (by rw [d1.len]; show 17 ≤ 50000; decide) (by show 5 ≤ 50000; decide) (en_lst (K := K) (ds := odd2) (by exact (ea_w1 (ew_tup (ea_w1 (ew_c (.str "keys")) (ea_w1 (ew_c (.int 1)) (ea_w1 (ew_c (.int 0)) (ea_w1 (ew_tup ea_w0 (by show 0 ≤ 100000; decide)) ea_w0)))) (by show 4 ≤ 100000; decide)) (ea_w1 (ew_tup (ea_w1 (ew_c (.str "keys")) (ea_w1 (ew_c (.int 1)) (ea_w1 (ew_c (.int 0)) (ea_w1 (ew_rep (k := 21) (ea_w1 (ew_c (.int 0)) ea_w0) (by show 1 ≤ 1000; decide) (fun z => by cases z) ev_c (by decide) (by decide)) (ea_w1 (ew_c (.int 0)) ea_w0))))) (by show 5 ≤ 100000; decide)) (ea_w1 (ew_tup (ea_w1 (ew_c (.str "rows")) (ea_w1 (ew_c (.int 1)) (ea_w1 (ew_c (.int 0)) (ea_w1 (ew_tup (ea_w1 (ew_tup ea_w0 (by show 0 ≤ 100000; decide)) ea_w0) (by show 1 ≤ 100000; decide)) ea_w0)))) (by show 4 ≤ 100000; decide)) (ea_w1 (ew_tup (ea_w1 (ew_c (.str "rows")) (ea_w1 (ew_c (.int 1)) (ea_w1 (ew_c (.int 0)) (ea_w1 (ew_tup (ea_w1 (ew_tup (ea_w1 (ew_c (.int 1)) ea_w0) (by show 1 ≤ 100000; decide)) (ea_w1 (ew_tup (ea_w1 (ew_c (.int 1)) (ea_w1 (ew_c (.int 2)) ea_w0)) (by show 2 ≤ 100000; decide)) ea_w0)) (by show 2 ≤ 100000; decide)) ea_w0)))) (by show 4 ≤ 100000; decide)) (ea_w1 (ew_tup (ea_w1 (ew_c (.str "rows")) (ea_w1 (ew_c (.int 1)) (ea_w1 (ew_c (.int 0)) (ea_w1 (ew_tup (ea_w1 (ew_tup (ea_w1 (ew_ev (ev_is (by walk_at "ev") rfl) fun _ _ => .int (-2)) ea_w0) (by show 1 ≤ 100000; decide)) ea_w0) (by show 1 ≤ 100000; decide)) ea_w0)))) (by show 4 ≤ 100000; decide)) ea_w0)))))) (by show 5 ≤ 100000; decide))) fun l2 xs2 H2 n2 e2 h2 d2 => ?_
    have ee2 := ee1.trans e2
    refine q_asgN (en_cat (ev_var rfl) h2 d2 (by rw [d2.len]; show 22 ≤ 50000; decide) (by show 5 ≤ 50000; decide) (en_lst (K := K) (ds := odd3) (by exact (ea_w1 (ew_tup (ea_w1 (ew_c (.str "rows")) (ea_w1 (ew_c (.int 1)) (ea_w1 (ew_c (.int 0)) (ea_w1 (ew_tup (ea_w1 (ew_rep (k := 5) (ea_w1 (ew_c (.int 1)) ea_w0) (by show 1 ≤ 1000; decide) (fun z => by cases z) ev_c (by decide) (by decide)) ea_w0) (by show 1 ≤ 100000; decide)) ea_w0)))) (by show 4 ≤ 100000; decide)) (ea_w1 (ew_tup (ea_w1 (ew_c (.str "rows")) (ea_w1 (ew_c (.int 1)) (ea_w1 (ew_c (.int 0)) (ea_w1 (ew_rep (k := 33) (ea_w1 (ew_tup (ea_w1 (ew_c (.int 1)) ea_w0) (by show 1 ≤ 100000; decide)) ea_w0) (by show 1 ≤ 1000; decide) (fun z => by cases z) ev_c (by decide) (by decide)) ea_w0)))) (by show 4 ≤ 100000; decide)) (ea_w1 (ew_tup (ea_w1 (ew_c (.str "rows")) (ea_w1 (ew_c (.int 1)) (ea_w1 (ew_c (.str "0")) (ea_w1 (ew_tup ea_w0 (by show 0 ≤ 100000; decide)) ea_w0)))) (by show 4 ≤ 100000; decide)) (ea_w1 (ew_tup (ea_w1 (ew_c (.str "rows")) (ea_w1 (ew_c (.int 1)) (ea_w1 (ew_c (.int 0)) (ea_w1 (ew_tup (ea_w1 (ew_c (.int 5)) ea_w0) (by show 1 ≤ 100000; decide)) ea_w0)))) (by show 4 ≤ 100000; decide)) (ea_w1 (ew_tup (ea_w1 (ew_c (.str "rows")) (ea_w1 (ew_c (.int 1)) (ea_w1 (ew_c (.int 0)) (ea_w1 (ew_c .non) ea_w0)))) (by show 4 ≤ 100000; decide)) ea_w0)))))) (by show 5 ≤ 100000; decide))) fun l3 xs3 H3 n3 e3 h3 d3 => ?_
    have ee3 := ee2.trans e3
    refine q_asgN (en_cat (ev_var rfl) h3 d3 (by rw [d3.len]; show 27 ≤ 50000; decide) (by show 5 ≤ 50000; decide) (en_lst (K := K) (ds := odd4) (by exact (ea_w1 (ew_tup (ea_w1 (ew_c (.str "piece")) (ea_w1 (ew_c (.int 1)) (ea_w1 (ew_c (.int 0)) (ea_w1 (ew_c (.int 0)) (ea_w1 (ew_c (.int 0)) (ea_w1 (ew_c (.str "x")) ea_w0)))))) (by show 6 ≤ 100000; decide)) (ea_w1 (ew_tup (ea_w1 (ew_c (.str "piece")) (ea_w1 (ew_c (.int 1)) (ea_w1 (ew_c (.int 0)) (ea_w1 (ew_c (.int 3)) (ea_w1 (ew_c (.int 3)) (ea_w1 (ew_c (.str "x")) ea_w0)))))) (by show 6 ≤ 100000; decide)) (ea_w1 (ew_tup (ea_w1 (ew_c (.str "piece")) (ea_w1 (ew_c (.int 1)) (ea_w1 (ew_c (.int 0)) (ea_w1 (ew_c (.int 0)) (ea_w1 (ew_c (.int 101)) (ea_w1 (ew_c (.str "x")) ea_w0)))))) (by show 6 ≤ 100000; decide)) (ea_w1 (ew_tup (ea_w1 (ew_c (.str "piece")) (ea_w1 (ew_c (.int 1)) (ea_w1 (ew_c (.int 0)) (ea_w1 (ew_c (.int 0)) (ea_w1 (ew_c (.int 1)) (ea_w1 (ew_c (.str "")) ea_w0)))))) (by show 6 ≤ 100000; decide)) (ea_w1 (ew_tup (ea_w1 (ew_c (.str "piece")) (ea_w1 (ew_c (.int 1)) (ea_w1 (ew_c (.int 0)) (ea_w1 (ew_c (.int 0)) (ea_w1 (ew_c (.int 1)) (ea_w1 (ew_mul (l := [120]) (n := 201) (ev_is ev_c (by decide +kernel)) ev_c (by decide) (by decide) (by show 1 ≤ 1000; decide)) ea_w0)))))) (by show 6 ≤ 100000; decide)) ea_w0)))))) (by show 5 ≤ 100000; decide))) fun l4 xs4 H4 n4 e4 h4 d4 => ?_
    have ee4 := ee3.trans e4
    exact s_retN (en_cat (ev_var rfl) h4 d4 (by rw [d4.len]; show 32 ≤ 50000; decide) (by show 6 ≤ 50000; decide) (en_lst (K := K) (ds := odd5) (by exact (ea_w1 (ew_tup (ea_w1 (ew_c (.str "piece")) (ea_w1 (ew_c (.int 1)) (ea_w1 (ew_c (.int 0)) (ea_w1 (ew_c (.int 0)) (ea_w1 (ew_c (.int 1)) (ea_w1 (ew_c (.str "a\nb")) ea_w0)))))) (by show 6 ≤ 100000; decide)) (ea_w1 (ew_tup (ea_w1 (ew_c (.str "piece")) (ea_w1 (ew_c (.int 1)) (ea_w1 (ew_c (.int 0)) (ea_w1 (ew_ev (ev_is (by walk_at "ev") rfl) fun _ _ => .int (-1)) (ea_w1 (ew_c (.int 1)) (ea_w1 (ew_c (.str "x")) ea_w0)))))) (by show 6 ≤ 100000; decide)) (ea_w1 (ew_tup (ea_w1 (ew_c (.str "piece")) (ea_w1 (ew_c (.int 1)) (ea_w1 (ew_c .non) (ea_w1 (ew_c (.int 0)) (ea_w1 (ew_c (.int 1)) (ea_w1 (ew_c (.str "x")) ea_w0)))))) (by show 6 ≤ 100000; decide)) (ea_w1 (ew_tup (ea_w1 (ew_c (.str "print")) (ea_w1 (ew_c (.int 1)) (ea_w1 (ew_c (.int 0)) ea_w0))) (by show 3 ≤ 100000; decide)) (ea_w1 (ew_tup (ea_w1 (ew_c (.int 1)) (ea_w1 (ew_c (.str "word")) (ea_w1 (ew_c (.str "go")) ea_w0))) (by show 3 ≤ 100000; decide)) (ea_w1 (ew_tup (ea_w1 (ew_c (.str "word")) (ea_w1 (ew_c (.int 1)) (ea_w1 (ew_c .non) ea_w0))) (by show 3 ≤ 100000; decide)) ea_w0))))))) (by show 6 ≤ 100000; decide))) fun l xs H9 n9 e9 h9 d9 => q l H9 xs (fresh_back ee4 n9) (ee4.trans e9) h9 d9
end
end Kz
set_option Elab.async false
set_option linter.all false
set_option maxRecDepth 100000
set_option maxHeartbeats 4000000
set_option exponentiation.threshold 500
namespace Kz
open PySem PySem.Spec PyProof.Rows L2 Evl Vr
local macro_rules | `(tactic| walk_at "sc") => `(tactic| first | (with_reducible assumption) | (with_reducible exact sc_mul (by omega)) | (with_reducible exact sc_mulr (by omega)) | (with_reducible exact sc_div (by omega) (by decide)) | (show (0 : Int) < _; omega) | (show _ ≠ (0 : Int); omega) | (with_reducible rfl) | decide)
local macro_rules | `(tactic| walk_at "sq") => `(tactic| first | assumption | exact sq_of (by assumption) | exact st_of (by assumption))
local macro_rules | `(tactic| walk_at "pl") => `(tactic| first | assumption | exact pl_int | exact pl_bl | exact pl_str | exact pl_non | exact pl_lst (by assumption) | exact pl_tup (by assumption) | exact pl_dK (by assumption))
local macro_rules | `(tactic| walk_at "rv") => `(tactic| first
  | with_reducible exact rv_I0
  | with_reducible exact ru_neg
  | ((with_reducible apply rv_I); walk_at "sc")
  | ((with_reducible apply rv_ixL); walk_at "sq"; first | rfl | assumption)
  | ((with_reducible apply rv_ixT); walk_at "sq"; first | rfl | assumption)
  | ((with_reducible apply rv_eq); rfl) | ((with_reducible apply rv_ne); rfl))
local macro_rules | `(tactic| walk_at "rc") => `(tactic| first
  | with_reducible exact rc_I1 | with_reducible exact rc_B1 | with_reducible exact rc_I2 | ((with_reducible apply rc_repr); walk_at "sc") | ((with_reducible apply rc_lenL); walk_at "sq")
  | ((with_reducible apply rc_isiInt); walk_at "pl") | ((with_reducible apply rc_isiBool); walk_at "pl"))
local macro_rules | `(tactic| walk_at "ea") => `(tactic| first
  | with_reducible exact ea_nil | ((with_reducible apply ea_cons); walk_at "ev"; walk_at "ea"))
local macro_rules | `(tactic| walk_at "pow") => `(tactic| first
  | with_reducible exact ev_pow (a := 10) (b := 9) (c := 1000000000) (by decide +kernel) (by decide +kernel)
  | with_reducible exact ev_pow (a := 10) (b := 10) (c := 10000000000) (by decide +kernel) (by decide +kernel)
  | with_reducible exact ev_pow (a := 10) (b := 12) (c := 1000000000000) (by decide +kernel) (by decide +kernel)
  | with_reducible exact ev_pow (a := 10) (b := 17) (c := 100000000000000000) (by decide +kernel) (by decide +kernel)
  | with_reducible exact ev_pow (a := 10) (b := 20) (c := 100000000000000000000) (by decide +kernel) (by decide +kernel)
  | with_reducible exact ev_pow (a := 10) (b := 29) (c := 100000000000000000000000000000) (by decide +kernel) (by decide +kernel)
  | with_reducible exact ev_pow (a := 10) (b := 30) (c := 1000000000000000000000000000000) (by decide +kernel) (by decide +kernel)
  | with_reducible exact ev_pow (a := 10) (b := 40) (c := 10000000000000000000000000000000000000000) (by decide +kernel) (by decide +kernel)
  | with_reducible exact ev_pow (a := 10) (b := 57) (c := 1000000000000000000000000000000000000000000000000000000000) (by decide +kernel) (by decide +kernel)
  | with_reducible exact ev_pow (a := 10) (b := 58) (c := 10000000000000000000000000000000000000000000000000000000000) (by decide +kernel) (by decide +kernel)
  | with_reducible exact ev_pow (a := 10) (b := 59) (c := 100000000000000000000000000000000000000000000000000000000000) (by decide +kernel) (by decide +kernel)
  | with_reducible exact ev_pow (a := 10) (b := 60) (c := 1000000000000000000000000000000000000000000000000000000000000) (by decide +kernel) (by decide +kernel))
local macro_rules | `(tactic| walk_at "call") => `(tactic| (intro H9 e9; first | exact ⟨_, rfl, rfl⟩ | exact ⟨_, _, rfl, rfl⟩ | exact ⟨_, _, _, rfl, rfl⟩ | exact ⟨_, rfl, by walk_at "pl", rfl⟩ | (refine ⟨_, _, _, rfl, ?_, rfl⟩; first | exact Plain.ex e9 (by assumption) | walk_at "pl") | (refine ⟨_, rfl, ?_, rfl⟩; first | exact Plain.ex e9 (by assumption) | walk_at "pl")))
local macro_rules | `(tactic| walk_at "ev") => `(tactic| first
  | with_reducible exact ev_c
  | exact ev_var rfl
  | walk_at "pow"
  | ((with_reducible apply ev_op); walk_at "ev"; walk_at "ev"; walk_at "rv")
  | ((with_reducible apply ev_un); walk_at "ev"; walk_at "rv")
  | ((with_reducible apply ev_cb); walk_at "ea"; walk_at "rc")
  | ((with_reducible apply ev_callP); walk_at "ea"; walk_at "call")
  | ((with_reducible apply ev_chain); walk_at "ev"; walk_at "ev"; walk_at "rv"; walk_at "ev"; walk_at "rv")
  | ((with_reducible apply ev_andV); walk_at "ev"; intro _; walk_at "ev")
  | ((with_reducible apply ev_orV); walk_at "ev"; intro _; walk_at "ev")
  | ((with_reducible apply ev_ite); walk_at "et"; intro _; walk_at "ev"; intro _; walk_at "ev")
  | ((with_reducible apply ev_notV); walk_at "ev"))
local macro_rules | `(tactic| walk_at "et") => `(tactic| first
  | ((with_reducible apply et_test); walk_at "ev")
  | ((with_reducible apply et_B); walk_at "ev")
  | ((with_reducible apply et_and); walk_at "et"; intro _; walk_at "et")
  | ((with_reducible apply et_or); walk_at "et"; intro _; walk_at "et")
  | ((with_reducible apply et_not); walk_at "et"))
open LamX Wo Tx
theorem op_neK {X : Cx} {K : PySem.W.Frag} (h : X.K = K) (u : X.A.units + 64 < cLine) : OpR X (compareOp .NotEq) (fun x y H Q => rNeD K x y H Q ∨ rNeDT K x y H Q) := by
  subst h
  exact OpR.or (op_neD u) (op_neDT (by omega))
/-! ### data through draws -/
def noI3 : List PyData → Bool
  | [.int _, .int _, .int _] => false
  | _ => true
mutual
/-- no list of three ints stands in it -/
def n3 : PyData → Bool
  | .list ds => noI3 ds && n3s ds
  | .tuple ds => n3s ds
  | _ => true
def n3s : List PyData → Bool
  | [] => true
  | d :: ds => n3 d && n3s ds
end
section
variable {K : PySem.W.Frag} {H H' : Hp} {p : Addr}
theorem sqt_xd {a : Addr} {xs : List V} (e : Exd p H H') (dc : Dice p H) (h : SqT K H a xs) : SqT K H' a xs := by
  obtain ⟨x, y, z, hp⟩ := dc
  rcases h with (h | ⟨o, h⟩) | h
  · exact .inl (.inl (e _ _ (fun q => by subst q; rw [hp] at h; cases h) h))
  · exact .inl (.inr ⟨o, e _ _ (fun q => by subst q; rw [hp] at h; cases h) h⟩)
  · exact .inr h
mutual
theorem da_xd (e : Exd p H H') (dc : Dice p H) : ∀ (d : PyData) (x : V), n3 d = true → Da K H x d → Da K H' x d
  | .none, _, _, h => by cases h; exact .non
  | .bool b, _, _, h => by cases h; exact .bl b
  | .int i, _, _, h => by cases h; exact .int i
  | .str x, _, _, h => by cases h; exact .str x
  | .list ds, _, n, h => by
    have n : (noI3 ds && n3s ds) = true := n
    rw [Bool.and_eq_true] at n
    cases h with
    | lst h1 h2 =>
      refine .lst (e _ _ (fun q => ?_) h1) (daa_xd e dc ds _ n.2 h2)
      subst q
      obtain ⟨x, y, z, hp⟩ := dc
      rw [hp] at h1
      cases h1
      cases h2 with
      | cons g1 g2 =>
        cases g2 with
        | cons g2 g3 =>
          cases g3 with
          | cons g3 g4 =>
            cases g4; cases g1; cases g2; cases g3
            exact absurd n.1 (by simp [noI3])
  | .tuple ds, _, n, h => by cases h with | tup h1 h2 => exact .tup (sqt_xd e dc h1) (daa_xd e dc ds _ n h2)
  | .dict _, _, _, h => by
    cases h with
    | dic h1 =>
      refine .dic (e _ _ (fun q => ?_) h1)
      subst q
      obtain ⟨x, y, z, hp⟩ := dc
      rw [hp] at h1
      cases h1
theorem daa_xd (e : Exd p H H') (dc : Dice p H) : ∀ (ds : List PyData) (xs : List V), n3s ds = true → DaAll K H xs ds → DaAll K H' xs ds
  | [], _, _, h => by cases h; exact .nil
  | d :: ds, _, n, h => by
    have n : (n3 d && n3s ds) = true := n
    rw [Bool.and_eq_true] at n
    cases h with | cons h1 h2 => exact .cons (da_xd e dc d _ n.1 h1) (daa_xd e dc ds _ n.2 h2)
end
mutual
theorem da_xn (e : ExtN H H') : ∀ (d : PyData) (x : V), Da K H x d → Da K H' x d
  | .none, _, h => by cases h; exact .non
  | .bool b, _, h => by cases h; exact .bl b
  | .int i, _, h => by cases h; exact .int i
  | .str x, _, h => by cases h; exact .str x
  | .list ds, _, h => by cases h with | lst h1 h2 => exact .lst (e _ _ h1 fun _ z => by cases z) (daa_xn e ds _ h2)
  | .tuple ds, _, h => by cases h with | tup h1 h2 => exact .tup (xn_t e h1) (daa_xn e ds _ h2)
  | .dict _, _, h => by cases h with | dic h1 => exact .dic (e _ _ h1 fun _ z => by cases z)
theorem daa_xn (e : ExtN H H') : ∀ (ds : List PyData) (xs : List V), DaAll K H xs ds → DaAll K H' xs ds
  | [], _, h => by cases h; exact .nil
  | d :: ds, _, h => by cases h with | cons h1 h2 => exact .cons (da_xn e d _ h1) (daa_xn e ds _ h2)
end
theorem Bg.xn {C b : Addr} {n : Nat} (e : ExtN H H') (h : Bg K C H b n) : Bg K C H' b n := by
  obtain ⟨dx, a, xs, h1, h2, h3⟩ := h
  exact ⟨dx, a, xs, e _ _ h1 fun _ z => (by cases z), xn_t e h2, h3⟩
theorem Bg.xd {C b : Addr} {n : Nat} (e : Exd p H H') (dc : Dice p H) (h : Bg K C H b n) : Bg K C H' b n := by
  obtain ⟨dx, a, xs, h1, h2, h3⟩ := h
  refine ⟨dx, a, xs, e _ _ (fun q => ?_) h1, sqt_xd e dc h2, h3⟩
  obtain ⟨x, y, z, hp⟩ := dc
  subst q
  rw [hp] at h1
  cases h1
/-- no bag, as it stands there -/
def Nb (K : PySem.W.Frag) (H : Hp) (v : V) : Prop := v = .non ∨ v = .int 0 ∨ v = .str "bag" ∨ (∃ t xs, v = .ref t ∧ SqT K H t xs) ∨ ∃ t b, v = .ref t ∧ H t = some (.lst [.ref b])
theorem Nb.xn {v : V} (e : ExtN H H') (h : Nb K H v) : Nb K H' v := by
  rcases h with h | h | h | ⟨t, xs, h1, h2⟩ | ⟨t, b, h1, h2⟩
  · exact .inl h
  · exact .inr (.inl h)
  · exact .inr (.inr (.inl h))
  · exact .inr (.inr (.inr (.inl ⟨t, xs, h1, xn_t e h2⟩)))
  · exact .inr (.inr (.inr (.inr ⟨t, b, h1, e _ _ h2 fun _ z => by cases z⟩)))
theorem Nb.ex {v : V} (e : Ex H H') (h : Nb K H v) : Nb K H' v := h.xn (xn_ex e)
theorem Nb.xd {v : V} (e : Exd p H H') (dc : Dice p H) (h : Nb K H v) : Nb K H' v := by
  rcases h with h | h | h | ⟨t, xs, h1, h2⟩ | ⟨t, b, h1, h2⟩
  · exact .inl h
  · exact .inr (.inl h)
  · exact .inr (.inr (.inl h))
  · exact .inr (.inr (.inr (.inl ⟨t, xs, h1, sqt_xd e dc h2⟩)))
  · refine .inr (.inr (.inr (.inr ⟨t, b, h1, e _ _ (fun q => ?_) h2⟩)))
    obtain ⟨x, y, z, hp⟩ := dc
    subst q
    rw [hp] at h2
    cases h2
theorem Nb.no {v : V} (h : Nb K H v) : NoBag K H v := by
  rcases h with rfl | rfl | rfl | ⟨t, xs, rfl, h2⟩ | ⟨t, b, rfl, h2⟩
  · exact .inl (.base .non)
  · exact .inr (.inl (.base (.int 0)))
  · exact .inr (.inr (.inl (.base (.str _))))
  · exact .inr (.inr (.inr (.inl (tyx_tup h2))))
  · exact .inr (.inr (.inr (.inr (.base (.lst h2)))))
variable {σ : L2.St} {te tl tm tb : TE} {ta tr ts : TA} {D : Ends} {tz : TS} {d : PyData} {ds es : List PyData} {v : V} {l : Addr} {xs : List V} {E : XK}
/-- x = pick(dice, a new list of data) -/
theorem go_pick {i : Nat} (hs : σ[i]? = some (some (.ref p))) (hn : EvN K tl σ H ds) (hd : Dice p H) (l0 : 0 < ds.length) (l1 : ds.length < 1000000) (n : n3s ds = true) {Q : VK} (k : ∀ v H1 d, d ∈ ds → Da K H1 v d → Exd p H H1 → Dice p H1 → Q v H1) : tCall (Draws (kPick K)) [] E (tCons (tVar i) (tCons tl tNil)) σ H Q :=
  ⟨.ref p, hs, hn H (Ex.refl H) _ fun l xs H1 hl e1 h1 hda => ⟨p, _, ⟨l, xs, rfl, hd.ne hl, sq_of h1, by rw [hda.len]; exact l0, by rw [hda.len]; exact l1, rfl⟩, hd.ex e1, fun v H2 hv x2 d2 => by
    obtain ⟨j, hj⟩ := List.getElem?_of_mem hv
    obtain ⟨d, hdj, hdv⟩ := (daa_xd x2 (hd.ex e1) _ _ n hda).at hj
    exact k v H2 d (List.mem_of_getElem? hdj) hdv ((Exd.of e1).trans x2) d2⟩⟩
theorem q_pick {i j : Nat} (hs : σ[i]? = some (some (.ref p))) (hn : EvN K tl σ H ds) (hd : Dice p H) (l0 : 0 < ds.length) (l1 : ds.length < 1000000) (n : n3s ds = true) (k : ∀ v H1 d, d ∈ ds → Da K H1 v d → Exd p H H1 → Dice p H1 → tz D (σ.set j (some v)) H1) : tSeq (tAsg (tCall (Draws (kPick K)) [] E (tCons (tVar i) (tCons tl tNil))) (gName j)) tz D σ H := go_pick hs hn hd l0 l1 n k
/-- values that are no bags -/
def EvB (K : PySem.W.Frag) (te : TE) (σ : L2.St) (H : Hp) : Prop := ∀ H1, Ex H H1 → ∀ Q : VK, (∀ v H2, Ex H1 H2 → Nb K H2 v → Q v H2) → te σ H1 Q
def EaB (K : PySem.W.Frag) (ta : TA) (σ : L2.St) (H : Hp) (n : Nat) : Prop := ∀ H1, Ex H H1 → ∀ Q : List V → Hp → Prop, (∀ vs H2, Ex H1 H2 → (∀ v ∈ vs, Nb K H2 v) → vs.length = n → Q vs H2) → ta σ H1 Q
theorem eb_ev (h : Ev te σ H v) (hv : ∀ H1, Ex H H1 → Nb K H1 v) : EvB K te σ H := fun H1 e Q q => h H1 e Q fun H2 e2 => q v H2 e2 (hv H2 (e.trans e2))
theorem eb_tup (h : EvU te σ H xs) : EvB K te σ H := fun H1 e Q q => h H1 e Q fun t H2 _ e2 h2 => q _ H2 e2 (.inr (.inr (.inr (.inl ⟨t, xs, rfl, st_of h2⟩))))
theorem eb_lst {b : Addr} (h : EvL te σ H [.ref b]) : EvB K te σ H := fun H1 e Q q => h H1 e Q fun t H2 _ e2 h2 => q _ H2 e2 (.inr (.inr (.inr (.inr ⟨t, b, rfl, h2⟩))))
theorem eab0 : EaB K tNil σ H 0 := fun H1 e Q q => q [] H1 (Ex.refl H1) (fun v hv => by cases hv) rfl
theorem eab1 {n : Nat} (h : EvB K te σ H) (hr : EaB K tr σ H n) : EaB K (tCons te tr) σ H (n + 1) := fun H1 e Q q =>
  h H1 e _ fun v H2 e2 hv => hr H2 (e.trans e2) _ fun vs H3 e3 hvs hl => q (v :: vs) H3 (e2.trans e3) (fun u hu => by
    rcases List.mem_cons.mp hu with rfl | hu
    · exact hv.ex e3
    · exact hvs u hu) (by rw [List.length_cons, hl])
theorem q_pickB {i j n : Nat} (hs : σ[i]? = some (some (.ref p))) (hn : EaB K ta σ H n) (hd : Dice p H) (l0 : 0 < n) (l1 : n ≤ 100000) (k : ∀ v H1, Nb K H1 v → Exd p H H1 → Dice p H1 → tz D (σ.set j (some v)) H1) : tSeq (tAsg (tCall (Draws (kPick K)) [] E (tCons (tVar i) (tCons (tLst ta) tNil))) (gName j)) tz D σ H :=
  ⟨.ref p, hs, hn H (Ex.refl H) _ fun vs H1 e1 hvs hl => ⟨by rw [hl]; exact sz_of l1, fun l hln => ⟨p, _, ⟨l, vs, rfl, (hd.ex e1).ne hln, sq_of upd_same, by rw [hl]; exact l0, by rw [hl]; omega, rfl⟩, (hd.ex e1).ex (Ex.new hln), fun v H2 hv x2 d2 => k v H2 (((hvs v hv).ex (Ex.new hln)).xd x2 ((hd.ex e1).ex (Ex.new hln))) ((Exd.of (e1.trans (Ex.new hln))).trans x2) d2⟩⟩⟩
theorem ew_var {i : Nat} (hs : σ[i]? = some (some v)) (hd : Da K H v d) : EvW K (tVar i) σ H d := ew_ev (ev_var hs) fun _ e => da_ex e _ _ hd
theorem ap_eq {vs : List V} (h : EvA ta σ H vs) : EvAP ta σ H (fun ws _ => ws = vs) := fun H1 e Q q => h H1 e Q fun H2 e2 => q vs H2 e2 rfl
variable {TL : List (Addr × Str)} {CL CT CN CO C : Addr} {k : Out} {y : PyData} {P : List V → Hp → Prop} {sp : Sp} {dx : Addr} {fs : List (Str × V)} {m : Str}
/-- a call in a lambda that fails -/
theorem em_call (hT : Tabs TL H) (ha : ∀ H1, ExtN H H1 → EvAP ts σ H1 P) (hsp : ∀ vs (E : XK) H1 (Q' : VK), ExtN H H1 → P vs H1 → (∀ H2, Ex H1 H2 → FailO CL CT CN CO k v E H2) → sp vs H1 Q' E) (hy : k = .number → Rp K H v y ∧ ("number " : Str).length + y.shown.length ≤ sizeLine) :
    Em K TL (tLam TL (TTmet K CL CT CN CO) fun E => tCall sp [] E ts) σ H (outS k y) := em_of hT (fun E H1 Q' e1 hf => ha H1 e1 H1 (Ex.refl H1) _ fun vs H2 e2 hp => by
  show sp (vs ++ []) H2 Q' E
  rw [List.append_nil]
  exact hsp vs E H2 Q' (e1.trans (xn_ex e2)) hp fun H3 e3 => hf H3 (e2.trans e3)) hy
theorem em_meth {b : Addr} (hT : Tabs TL H) (ho : ∀ H1, ExtN H H1 → Ev te σ H1 (.ref b)) (hb : H b = some (.ins C dx fs)) (hl : fs.lookup m = none) (ha : ∀ H1, ExtN H H1 → EvAP ts σ H1 P) (hsp : ∀ vs (E : XK) H1 (Q' : VK), ExtN H H1 → P vs H1 → (∀ H2, Ex H1 H2 → FailO CL CT CN CO k v E H2) → sp (.ref b :: vs) H1 Q' E) (hy : k = .number → Rp K H v y ∧ ("number " : Str).length + y.shown.length ≤ sizeLine) :
    Em K TL (tLam TL (TTmet K CL CT CN CO) fun E => tMeth C m sp [] E te ts) σ H (outS k y) := em_of hT (fun E H1 Q' e1 hf => ho H1 e1 H1 (Ex.refl H1) _ fun H2 e2 => ⟨b, dx, fs, rfl, e2 _ _ (e1 _ _ hb fun _ z => by cases z), hl, ha H2 (e1.trans (xn_ex e2)) H2 (Ex.refl H2) _ fun vs H3 e3 hp => by
  show sp (.ref b :: (vs ++ [])) H3 Q' E
  rw [List.append_nil]
  exact hsp vs E H3 Q' ((e1.trans (xn_ex e2)).trans (xn_ex e3)) hp fun H4 e4 => hf H4 ((e2.trans e3).trans e4)⟩) hy
theorem ex_make {H1 : Hp} {x dx : Addr} {o o2 : HO} (hx : H1 x = none) (hdx : H1 dx = none) (hne : dx ≠ x) : Ex H1 (upd (upd H1 dx o) x o2) := fun b u hb => by
  rw [upd_ne (fun z => by rw [z, hx] at hb; cases hb), upd_ne (fun z => by rw [z, hdx] at hb; cases hb)]
  exact hb
theorem em_make (hT : Tabs TL H) (ha : ∀ H1, ExtN H H1 → EvAP ts σ H1 P) (hsp : ∀ vs x dx (E : XK) H1 (Q' : VK), ExtN H H1 → P vs H1 → H1 x = none → H1 dx = none → dx ≠ x → (∀ H2, Ex (upd (upd H1 dx (.own x)) x (.ins C dx [])) H2 → FailO CL CT CN CO k v E H2) → sp (.ref x :: vs) (upd (upd H1 dx (.own x)) x (.ins C dx [])) Q' E) (hy : k = .number → Rp K H v y ∧ ("number " : Str).length + y.shown.length ≤ sizeLine) :
    Em K TL (tLam TL (TTmet K CL CT CN CO) fun E => tMake C sp [] E ts) σ H (outS k y) := em_of hT (fun E H1 Q' e1 hf => ha H1 e1 H1 (Ex.refl H1) _ fun vs H2 e2 hp => fun x dx hx hdx hne => by
  show sp (.ref x :: (vs ++ [])) _ _ E
  rw [List.append_nil]
  exact hsp vs x dx E H2 _ (e1.trans (xn_ex e2)) hp hx hdx hne fun H3 e3 => hf H3 ((e2.trans (ex_make hx hdx hne)).trans e3)) hy
/-- told = [..] -/
theorem em_lst1 {z : Str} (hm : Em K TL tm σ H z) : EvM K TL (tLst (tCons tm tNil)) σ H [z] := fun Q q =>
  hm _ fun t H2 e2 t2 h2 => ⟨sz_of (by show 1 ≤ 100000; decide), fun l hl => q l _ [.ref t] (nw_xn e2 hl) (e2.trans (xn_ex (Ex.new hl))) (t2.ext (Ex.new hl)) upd_same (.cons (ex_t (Ex.new hl) h2) .nil)⟩
/-- what is due -/
def EvE (K : PySem.W.Frag) (te : TE) (σ : L2.St) (H : Hp) (zs : List Str) : Prop := ∀ H1, Ex H H1 → ∀ Q : VK, (∀ l H2 vs, Ex H1 H2 → H2 l = some (.lst vs) → Tds K H2 vs zs → Q (.ref l) H2) → te σ H1 Q
def EaE (K : PySem.W.Frag) (ta : TA) (σ : L2.St) (H : Hp) (zs : List Str) : Prop := ∀ H1, Ex H H1 → ∀ Q : List V → Hp → Prop, (∀ vs H2, Ex H1 H2 → Tds K H2 vs zs → Q vs H2) → ta σ H1 Q
theorem ee0 : EaE K tNil σ H [] := fun H1 e Q q => q [] H1 (Ex.refl H1) .nil
theorem ee1 {z : Str} {zs : List Str} (h : Ev te σ H (.str z)) (hr : EaE K tr σ H zs) : EaE K (tCons (tTup (tCons (tC (.str "refused")) (tCons te tNil))) tr) σ H (z :: zs) := fun H1 e Q q =>
  eu_tup (ea_cons ev_c (ea_cons h ea_nil)) (by show 2 ≤ 100000; decide) H1 e _ fun t H2 _ e2 h2 => hr H2 (e.trans e2) _ fun vs H3 e3 hvs => q (.ref t :: vs) H3 (e2.trans e3) (.cons (ex_t e3 (st_of h2)) hvs)
theorem ee_lst {zs : List Str} (h : EaE K ta σ H zs) (hl : zs.length ≤ 1000) : EvE K (tLst ta) σ H zs := fun H1 e Q q =>
  h H1 e _ fun vs H2 e2 hvs => ⟨by rw [hvs.len]; exact sz_of (by omega), fun l hn => q l _ vs (e2.trans (Ex.new hn)) upd_same (hvs.xn (xn_ex (Ex.new hn)))⟩
theorem Tds.rep {zs : List Str} (h : Tds K H xs zs) : ∀ n : Nat, Tds K H (List.replicate n xs).flatten (List.replicate n zs).flatten
  | 0 => .nil
  | n + 1 => by
    rw [List.replicate_succ, List.replicate_succ, List.flatten_cons, List.flatten_cons]
    exact h.app (h.rep n)
/-- a new list of what is due -/
def EvF (K : PySem.W.Frag) (te : TE) (σ : L2.St) (H : Hp) (zs : List Str) : Prop := ∀ H1, Ex H H1 → ∀ Q : VK, (∀ l H2 vs, H1 l = none → Ex H1 H2 → H2 l = some (.lst vs) → Tds K H2 vs zs → Q (.ref l) H2) → te σ H1 Q
theorem ee_f {zs : List Str} (h : EvF K te σ H zs) : EvE K te σ H zs := fun H1 e Q q => h H1 e Q fun l H2 vs _ => q l H2 vs
theorem ef_rep {zs : List Str} {n : Nat} (h : EvE K te σ H zs) (hn : Ev tb σ H (.int (n : Int))) (hl : zs.length ≤ 100) (h1 : 1 ≤ n) (h2 : n ≤ 100) : EvF K (tOp rRep te tb) σ H (List.replicate n zs).flatten := fun H1 e Q q =>
  h H1 e _ fun p H2 vs e2 hp hv => hn H2 (e.trans e2) _ fun H3 e3 => by
    have hlen := hv.len
    exact ⟨p, (n : Int), vs, rfl, rfl, e3 _ _ hp, by omega, by omega, (by
      rw [Int.toNat_natCast]
      have : vs.length * n ≤ 100 * 100 := Nat.mul_le_mul (by omega) h2
      exact sz_of (by omega)), fun l hl => by
      rw [Int.toNat_natCast]
      exact q l _ _ (fresh_back (e2.trans e3) hl) ((e2.trans e3).trans (Ex.new hl)) upd_same ((hv.xn (xn_ex (e3.trans (Ex.new hl)))).rep n)⟩
theorem ef_cat {zs ys : List Str} (h1 : EvE K te σ H zs) (h2 : EvE K tb σ H ys) (z1 : zs.length ≤ 1000) (z2 : ys.length ≤ 1000) : EvF K (tOp rCat te tb) σ H (zs ++ ys) := fun H1 e Q q =>
  h1 H1 e _ fun p H2 vs e2 hp hv => h2 H2 (e.trans e2) _ fun r H3 us e3 hr hu => by
    have l1 := hv.len
    have l2 := hu.len
    exact ⟨p, r, vs, us, rfl, rfl, e3 _ _ hp, hr, sz_of (by omega), fun l hl => q l _ _ (fresh_back (e2.trans e3) hl) ((e2.trans e3).trans (Ex.new hl)) upd_same ((hv.xn (xn_ex (e3.trans (Ex.new hl)))).app (hu.xn (xn_ex (Ex.new hl))))⟩
theorem ee_var {zs : List Str} {i : Nat} {vs : List V} (hs : σ[i]? = some (some (.ref l))) (hl : H l = some (.lst vs)) (hv : Tds K H vs zs) : EvE K (tVar i) σ H zs := fun H1 e Q q => ⟨.ref l, hs, q l H1 vs (Ex.refl H1) (e _ _ hl) (hv.xn (xn_ex e))⟩
theorem q_asgE {zs : List Str} {i : Nat} (h : EvF K te σ H zs) (k : ∀ l H1 vs, H l = none → Ex H H1 → H1 l = some (.lst vs) → Tds K H1 vs zs → tz D (σ.set i (some (.ref l))) H1) : tSeq (tAsg te (gName i)) tz D σ H := h H (Ex.refl H) _ k
theorem ev_num {te : TE} {y : PyData} (h : Ev te σ H v) (hr : Rp K H v y) (hz : ("number " : Str).length + y.shown.length ≤ sizeLine) : Ev (tOp (fun x y H Q => ∃ i j, x = V.str i ∧ y = V.str j ∧ i.length + j.length ≤ sizeLine ∧ Q (V.str (i ++ j)) H) (tC (.str "number ")) (tCB (rReprD K) (tCons te tNil))) σ H (.str ("number " ++ y.shown)) :=
  ev_op ev_c (ev_cb (vs := [v]) (ea_cons h ea_nil) (rc_reprD hr)) fun H1 _ Q q => ⟨_, _, rfl, rfl, hz, q H1 (Ex.refl H1)⟩
theorem ev_isB {a b : Bool} (h1 : Ev te σ H (.bl a)) (h2 : Ev tb σ H (.bl b)) : Ev (tOp rIsB te tb) σ H (.bl (decide (a = b))) := ev_op h1 h2 fun H1 _ Q q => ⟨a, b, rfl, rfl, q H1 (Ex.refl H1)⟩
/-- a letter differs from () -/
def neU : PyData → Bool
  | .dict _ => true
  | d => !PyData.eqv d (.tuple [])
def neOk : PyData → Bool
  | .dict _ => true
  | d => nd d && SeqAt.shaped d
theorem et_ne {i : Nat} (hs : σ[i]? = some (some v)) (hd : Da K H v d) (ho : neOk d = true) : EvT (tTest (tOp (fun x y H Q => rNeD K x y H Q ∨ rNeDT K x y H Q) (tVar i) (tTup tNil))) σ H (neU d) := et_test (by
  have hu : EvU (tTup tNil) σ H [] := eu_tup ea_nil (by show 0 ≤ 100000; decide)
  cases d with
  | dict l =>
    intro H1 e Q q
    refine ev_var hs H1 e _ fun H2 e2 => hu H2 (e.trans e2) _ fun t H3 _ e3 h3 => .inr ?_
    cases da_ex ((e.trans e2).trans e3) _ _ hd with
    | dic h => exact ⟨_, t, _, [], rfl, rfl, h, st_of h3, q H3 (e2.trans e3)⟩
  | _ =>
    intro H1 e Q q
    simp only [neOk, Bool.and_eq_true] at ho
    refine ev_var hs H1 e _ fun H2 e2 => hu H2 (e.trans e2) _ fun t H3 _ e3 h3 => .inl ?_
    exact ⟨_, .tuple [], da_dp _ _ ho.1 (da_ex ((e.trans e2).trans e3) _ _ hd), .tup (st_of h3) .nil, ho.2, by decide +kernel, q H3 (e2.trans e3)⟩)
theorem ew_if {t : TT} {a : Bool} {d e : PyData} (ht : EvT t σ H a) (h1 : EvW K te σ H d) (h2 : EvW K tb σ H e) : EvW K (tIf t te tb) σ H (if a then d else e) := fun H1 x Q q => ht H1 x _ fun H2 x2 => by
  cases a with
  | true => exact h1 H2 (x.trans x2) Q fun v H3 x3 hv => q v H3 (x2.trans x3) hv
  | false => exact h2 H2 (x.trans x2) Q fun v H3 x3 hv => q v H3 (x2.trans x3) hv
end
end Kz
set_option Elab.async false
set_option linter.all false
set_option maxRecDepth 100000
set_option maxHeartbeats 4000000
set_option exponentiation.threshold 500
namespace Kz
open PySem PySem.Spec PyProof.Rows L2 Evl Vr
local macro_rules | `(tactic| walk_at "sc") => `(tactic| first | (with_reducible assumption) | (with_reducible exact sc_mul (by omega)) | (with_reducible exact sc_mulr (by omega)) | (with_reducible exact sc_div (by omega) (by decide)) | (show (0 : Int) < _; omega) | (show _ ≠ (0 : Int); omega) | (with_reducible rfl) | decide)
local macro_rules | `(tactic| walk_at "sq") => `(tactic| first | assumption | exact sq_of (by assumption) | exact st_of (by assumption))
local macro_rules | `(tactic| walk_at "pl") => `(tactic| first | assumption | exact pl_int | exact pl_bl | exact pl_str | exact pl_non | exact pl_lst (by assumption) | exact pl_tup (by assumption) | exact pl_dK (by assumption))
local macro_rules | `(tactic| walk_at "rv") => `(tactic| first
  | with_reducible exact rv_I0
  | with_reducible exact ru_neg
  | ((with_reducible apply rv_I); walk_at "sc")
  | ((with_reducible apply rv_ixL); walk_at "sq"; first | rfl | assumption)
  | ((with_reducible apply rv_ixT); walk_at "sq"; first | rfl | assumption)
  | ((with_reducible apply rv_eq); rfl) | ((with_reducible apply rv_ne); rfl))
local macro_rules | `(tactic| walk_at "rc") => `(tactic| first
  | with_reducible exact rc_I1 | with_reducible exact rc_B1 | with_reducible exact rc_I2 | ((with_reducible apply rc_repr); walk_at "sc") | ((with_reducible apply rc_lenL); walk_at "sq")
  | ((with_reducible apply rc_isiInt); walk_at "pl") | ((with_reducible apply rc_isiBool); walk_at "pl"))
local macro_rules | `(tactic| walk_at "ea") => `(tactic| first
  | with_reducible exact ea_nil | ((with_reducible apply ea_cons); walk_at "ev"; walk_at "ea"))
local macro_rules | `(tactic| walk_at "pow") => `(tactic| first
  | with_reducible exact ev_pow (a := 10) (b := 9) (c := 1000000000) (by decide +kernel) (by decide +kernel)
  | with_reducible exact ev_pow (a := 10) (b := 10) (c := 10000000000) (by decide +kernel) (by decide +kernel)
  | with_reducible exact ev_pow (a := 10) (b := 12) (c := 1000000000000) (by decide +kernel) (by decide +kernel)
  | with_reducible exact ev_pow (a := 10) (b := 17) (c := 100000000000000000) (by decide +kernel) (by decide +kernel)
  | with_reducible exact ev_pow (a := 10) (b := 20) (c := 100000000000000000000) (by decide +kernel) (by decide +kernel)
  | with_reducible exact ev_pow (a := 10) (b := 29) (c := 100000000000000000000000000000) (by decide +kernel) (by decide +kernel)
  | with_reducible exact ev_pow (a := 10) (b := 30) (c := 1000000000000000000000000000000) (by decide +kernel) (by decide +kernel)
  | with_reducible exact ev_pow (a := 10) (b := 40) (c := 10000000000000000000000000000000000000000) (by decide +kernel) (by decide +kernel)
  | with_reducible exact ev_pow (a := 10) (b := 57) (c := 1000000000000000000000000000000000000000000000000000000000) (by decide +kernel) (by decide +kernel)
  | with_reducible exact ev_pow (a := 10) (b := 58) (c := 10000000000000000000000000000000000000000000000000000000000) (by decide +kernel) (by decide +kernel)
  | with_reducible exact ev_pow (a := 10) (b := 59) (c := 100000000000000000000000000000000000000000000000000000000000) (by decide +kernel) (by decide +kernel)
  | with_reducible exact ev_pow (a := 10) (b := 60) (c := 1000000000000000000000000000000000000000000000000000000000000) (by decide +kernel) (by decide +kernel))
local macro_rules | `(tactic| walk_at "call") => `(tactic| (intro H9 e9; first | exact ⟨_, rfl, rfl⟩ | exact ⟨_, _, rfl, rfl⟩ | exact ⟨_, _, _, rfl, rfl⟩ | exact ⟨_, rfl, by walk_at "pl", rfl⟩ | (refine ⟨_, _, _, rfl, ?_, rfl⟩; first | exact Plain.ex e9 (by assumption) | walk_at "pl") | (refine ⟨_, rfl, ?_, rfl⟩; first | exact Plain.ex e9 (by assumption) | walk_at "pl")))
local macro_rules | `(tactic| walk_at "ev") => `(tactic| first
  | with_reducible exact ev_c
  | exact ev_var rfl
  | walk_at "pow"
  | ((with_reducible apply ev_op); walk_at "ev"; walk_at "ev"; walk_at "rv")
  | ((with_reducible apply ev_un); walk_at "ev"; walk_at "rv")
  | ((with_reducible apply ev_cb); walk_at "ea"; walk_at "rc")
  | ((with_reducible apply ev_callP); walk_at "ea"; walk_at "call")
  | ((with_reducible apply ev_chain); walk_at "ev"; walk_at "ev"; walk_at "rv"; walk_at "ev"; walk_at "rv")
  | ((with_reducible apply ev_andV); walk_at "ev"; intro _; walk_at "ev")
  | ((with_reducible apply ev_orV); walk_at "ev"; intro _; walk_at "ev")
  | ((with_reducible apply ev_ite); walk_at "et"; intro _; walk_at "ev"; intro _; walk_at "ev")
  | ((with_reducible apply ev_notV); walk_at "ev"))
local macro_rules | `(tactic| walk_at "et") => `(tactic| first
  | ((with_reducible apply et_test); walk_at "ev")
  | ((with_reducible apply et_B); walk_at "ev")
  | ((with_reducible apply et_and); walk_at "et"; intro _; walk_at "et")
  | ((with_reducible apply et_or); walk_at "et"; intro _; walk_at "et")
  | ((with_reducible apply et_not); walk_at "et"))
open LamX Wo Tx
/-! ### the values that the law draws -/
def rightD : PyData := .tuple [.str "word", .int 3, .str "go"]
def orNone (d : PyData) : PyData := if neU d then d else .none
def oddF (d : PyData) : Bool := (((!letD d && safeD d) && (n3 d && neOk d)) && (!letsD (orNone d) && safesD (orNone d))) && (!letsD (.tuple [rightD, d]) && safesD (.tuple [rightD, d]))
theorem odd_all : oddDs.all oddF = true := by decide +kernel
theorem odd_n3 : n3s oddDs = true := by decide +kernel
theorem odd_at {d : PyData} (h : d ∈ oddDs) : (letD d = false ∧ safeD d = true) ∧ (n3 d = true ∧ neOk d = true) ∧ (letsD (orNone d) = false ∧ safesD (orNone d) = true) ∧ letsD (.tuple [rightD, d]) = false ∧ safesD (.tuple [rightD, d]) = true := by
  have := List.all_eq_true.mp odd_all d h
  simpa only [oddF, Bool.and_eq_true, Bool.not_eq_true', and_assoc] using this
def numDs : List PyData := [.none, .int (-1), .int 3, .bool true, .str "0", .tuple [.int 0], .int 1000000000000000000000000000000000000000000000000000000000000, .int 99]
def plcDs : List PyData := [.none, .int (-2), .int 6, .bool true, .str "1", .tuple [.int 1], .int 1000000000000000000000000000000000000000000000000000000000000]
def txtDs : List PyData := [.none, .int 5, .list [.str "t0:"], .str "a\nb", .tuple [.str "t0:"], .dict [], .bool true]
def hanDs : List PyData := [.none, .list [.int 0], .tuple [.int 3], .tuple [.int (-1)], .tuple [.bool true], .tuple [.str "0"], .tuple [.int 0, .none], .int 0, .dict [], .str "0", .tuple [.int 0, .int 1, .int 2, .int 3]]
def numF (lo hi : Int) (d : PyData) : Bool := (((nd d && n3 d) && (d.showable && decide (d.depth ≤ 60))) && (decide (("number " : Str).length + d.shown.length ≤ 4000) && PyData.strOk ("number " ++ d.shown))) && !withinD lo hi d
theorem num_all : numDs.all (numF 0 2) = true := by decide +kernel
theorem plc_all : plcDs.all (numF (-1) 5) = true := by decide +kernel
def textD : PyData → Bool
  | .str z => textErr (.str z) && decide (z.length ≤ 100000)
  | _ => true
theorem txt_all : txtDs.all (fun d => n3 d && textD d) = true := by decide +kernel
theorem han_all : hanDs.all (fun d => n3 d && (!handD 3 d && decide ((tupD d).length ≤ 40000))) = true := by decide +kernel
section
variable {K : PySem.W.Frag} {H H' : Hp} {σ : L2.St} {v : V} {d : PyData} {lo hi : Int} {TL : List (Addr × Str)} {CL CT CN CO C b r : Addr} {i j : Nat} {te ta : TE} {E : XK}
theorem num_at {ds : List PyData} (ha : ds.all (numF lo hi) = true) (h : d ∈ ds) (hd : Da K H v d) : Rp K H v d ∧ ("number " : Str).length + d.shown.length ≤ sizeLine ∧ PyData.strOk ("number " ++ d.shown) = true ∧ withinD lo hi d = false := by
  have := List.all_eq_true.mp ha d h
  simp only [numF, Bool.and_eq_true, decide_eq_true_eq, Bool.not_eq_true', and_assoc] at this
  obtain ⟨h1, _, h3, h4, h5, h6, h7⟩ := this
  have z : 4000 ≤ sizeLine := by decide
  exact ⟨⟨da_dp _ _ h1 hd, h3, h4, by omega⟩, by omega, h6, h7⟩
theorem text_at (h : textD d = true) (hd : Da K H v d) : textErr v = true ∧ ∀ s, v = .str s → s.length ≤ 100000 := by
  cases hd with
  | str x =>
    have h : (textErr (.str x) && decide (x.length ≤ 100000)) = true := h
    rw [Bool.and_eq_true, decide_eq_true_eq] at h
    exact ⟨h.1, fun s hs => by cases hs; exact h.2⟩
  | _ => exact ⟨rfl, fun s hs => by cases hs⟩
theorem en_odd : EvN K (tCall (spOdd K) [] E tNil) σ H oddDs := fun H1 e Q q => ⟨rfl, fun l H' xs hl e' h' d' => q l xs H' hl e' h' d'⟩
/-- a, b = pick(dice, ..), (..) -/
theorem q_pickU {p : Addr} {ds : List PyData} {xs : List V} {tl : TE} {tz : TS} {D : Ends} {n : Nat} (hs : σ[n]? = some (some (.ref p))) (hn : EvN K tl σ H ds) (hd : Dice p H) (l0 : 0 < ds.length) (l1 : ds.length < 1000000) (n3 : n3s ds = true) (hU : ∀ H1, EvU ta σ H1 xs) (k : ∀ v r H1 d, d ∈ ds → Da K H1 v d → Exd p H H1 → Dice p H1 → SqT K H1 r xs → tz D ((σ.set i (some v)).set j (some (.ref r))) H1) :
    tSeq (tAsg (tTup (tCons (tCall (Draws (kPick K)) [] E (tCons (tVar n) (tCons tl tNil))) (tCons ta tNil))) (gTup K 2 (gCons (gName i) (gCons (gName j) gNil)))) tz D σ H :=
  go_pick hs hn hd l0 l1 n3 fun v H1 d hdm hda x1 d1 => hU H1 H1 (Ex.refl H1) _ fun r H2 _ e2 h2 => ⟨by show 2 ≤ sizeLine; decide, fun t ht => ⟨t, [v, .ref r], rfl, st_of upd_same, rfl, v, [.ref r], rfl, .ref r, [], rfl, rfl, k v r _ d hdm (da_ex (e2.trans (Ex.new ht)) _ _ hda) (x1.trans (Exd.of (e2.trans (Ex.new ht)))) (d1.ex (e2.trans (Ex.new ht))) (st_of (Ex.new ht _ _ h2))⟩⟩
/-- b = Bag(..) -/
theorem q_mkBag {tz : TS} {D : Ends} (h : EvW K ta σ H d) (hs : safesD d = true) (hl : letsD d = true) (k : ∀ x H1, H x = none → Ex H H1 → Bg K C H1 x (tupD d).length → tz D (σ.set i (some (.ref x))) H1) : tSeq (tAsg (tMake C (spInit K C CL) [] E (tCons ta tNil)) (gName i)) tz D σ H :=
  h H (Ex.refl H) _ fun v H1 e1 hv => fun x dx hx hdx hne => by
    show spInit K C CL [.ref x, v] _ _ E
    refine ⟨x, dx, v, d, rfl, upd_same, da_ex (ex_make hx hdx hne) _ _ hv, hs, fun _ H2 x2 h2 => ⟨rfl, ?_⟩, fun z => by rw [hl] at z; cases z⟩
    have e2 : Ex H1 H2 := Exd.out x2 (ex_make hx hdx hne) hx
    have ht : isTupD d = true := by
      unfold letsD at hl
      rw [Bool.and_eq_true] at hl
      exact hl.1
    obtain ⟨a, xs, rfl, hX, hD⟩ := (da_ex e2 _ _ hv).tupE ht
    exact k x H2 (fresh_back e1 hx) (e1.trans e2) ⟨dx, a, xs, h2, hX, hD.len⟩
theorem em_bad (hs : σ[i]? = some (some v)) (hd : Da K H v d) (h1 : safeD d = true) (h2 : letD d = false) (hT : Tabs TL H) : Em K TL (tLam TL (TTmet K CL CT CN CO) fun E => tCall (spBad K CL) [] E (tCons (tVar i) tNil)) σ H "letter" :=
  em_call (k := .letter) (v := v) (y := .none) hT (fun H1 e1 => ap_eq (ea_cons (ev_var hs) ea_nil)) (fun vs E H1 Q' e1 hp hf => by
    subst hp
    exact ⟨v, d, rfl, da_xn e1 _ _ hd, h1, h2, hf H1 (Ex.refl H1)⟩) (fun z => by cases z)
theorem em_mkL (ha : ∀ H1, ExtN H H1 → EvW K ta σ H1 d) (h1 : safesD d = true) (h2 : letsD d = false) (hT : Tabs TL H) : Em K TL (tLam TL (TTmet K CL CT CN CO) fun E => tMake C (spInit K C CL) [] E (tCons ta tNil)) σ H "letter" :=
  em_make (k := .letter) (v := .non) (y := .none) hT (P := fun vs H => DaAll K H vs [d]) (fun H1 e1 => ea_w1 (ha H1 e1) ea_w0) (fun vs x dx E H1 Q' e1 hp hx hdx hne hf => by
    obtain ⟨v, rfl, hv⟩ : ∃ v, vs = [v] ∧ Da K H1 v d := by
      cases hp with
      | cons g1 g2 => cases g2; exact ⟨_, rfl, g1⟩
    exact ⟨x, dx, v, d, rfl, upd_same, da_ex (ex_make hx hdx hne) _ _ hv, h1, fun z => (by rw [h2] at z; cases z), fun _ => hf _ (Ex.refl _)⟩) (fun z => by cases z)
theorem em_sent {n : Nat} (hb : σ[j]? = some (some (.ref b))) (hB : Bg K C H b n) (hs : σ[i]? = some (some v)) (hd : Da K H v d) (h1 : safeD d = true) (h2 : letD d = false) (hT : Tabs TL H) : Em K TL (tLam TL (TTmet K CL CT CN CO) fun E => tMeth C "sent" (spBadM K CL) [] E (tVar j) (tCons (tVar i) tNil)) σ H "letter" := by
  obtain ⟨dx, a, xs, ho, _, _⟩ := hB
  exact em_meth (k := .letter) (v := v) (y := .none) hT (fun H1 e1 => ev_var hb) ho rfl (fun H1 e1 => ap_eq (ea_cons (ev_var hs) ea_nil)) (fun vs E H1 Q' e1 hp hf => by
    subst hp
    exact ⟨b, v, d, rfl, da_xn e1 _ _ hd, h1, h2, hf H1 (Ex.refl H1)⟩) (fun z => by cases z)
theorem em_sents {n : Nat} (hb : σ[j]? = some (some (.ref b))) (hB : Bg K C H b n) (ha : ∀ H1, ExtN H H1 → EvW K ta σ H1 d) (h1 : safesD d = true) (h2 : letsD d = false) (hT : Tabs TL H) : Em K TL (tLam TL (TTmet K CL CT CN CO) fun E => tMeth C "sent_all" (spBadMs K CL) [] E (tVar j) (tCons ta tNil)) σ H "letter" := by
  obtain ⟨dx, a, xs, ho, _, _⟩ := hB
  exact em_meth (k := .letter) (v := .non) (y := .none) hT (fun H1 e1 => ev_var hb) ho rfl (P := fun vs H => DaAll K H vs [d]) (fun H1 e1 => ea_w1 (ha H1 e1) ea_w0) (fun vs E H1 Q' e1 hp hf => by
    obtain ⟨v, rfl, hv⟩ : ∃ v, vs = [v] ∧ Da K H1 v d := by
      cases hp with
      | cons g1 g2 => cases g2; exact ⟨_, rfl, g1⟩
    exact ⟨b, v, d, rfl, hv, h1, h2, hf H1 (Ex.refl H1)⟩) (fun z => by cases z)
theorem em_read (hs : σ[i]? = some (some v)) (hd : Da K H v d) (h1 : textD d = true) (hT : Tabs TL H) : Em K TL (tLam TL (TTmet K CL CT CN CO) fun E => tCall (spRead K CL CT) [] E (tCons (tVar i) tNil)) σ H "text" := by
  obtain ⟨h2, h3⟩ := text_at h1 hd
  exact em_call (k := .text) (v := v) (y := .none) hT (fun H1 e1 => ap_eq (ea_cons (ev_var hs) ea_nil)) (fun vs E H1 Q' e1 hp hf => by
    subst hp
    exact ⟨v, rfl, (da_xn e1 _ _ hd).pl, h3, fun _ => hf H1 (Ex.refl H1), fun z hz hz2 => by rw [h2] at hz2; cases hz2⟩) (fun z => by cases z)
theorem em_letter {n : Nat} (hb : σ[j]? = some (some (.ref b))) (hB : Bg K C H b n) (hs : σ[i]? = some (some v)) (hd : Da K H v d) (hw : withinD 0 ((n : Int) - 1) d = false) (hr : Rp K H v d) (hz : ("number " : Str).length + d.shown.length ≤ sizeLine) (hT : Tabs TL H) : Em K TL (tLam TL (TTmet K CL CT CN CO) fun E => tMeth C "letter" (spNum K C CN) [] E (tVar j) (tCons (tVar i) tNil)) σ H ("number " ++ d.shown) := by
  obtain ⟨dx, a, xs, ho, h1, h2⟩ := id hB
  exact em_meth (k := .number) (v := v) (y := d) hT (fun H1 e1 => ev_var hb) ho rfl (fun H1 e1 => ap_eq (ea_cons (ev_var hs) ea_nil)) (fun vs E H1 Q' e1 hp hf => by
    subst hp
    exact ⟨b, v, n, rfl, hB.xn e1, (da_xn e1 _ _ hd).pl, by rw [hd.within]; exact hw, hf H1 (Ex.refl H1)⟩) (fun _ => ⟨hr, hz⟩)
theorem em_to {n : Nat} (hb : σ[j]? = some (some (.ref b))) (hB : Bg K C H b n) (hs : σ[i]? = some (some v)) (hd : Da K H v d) (hw : withinD (-1) 5 d = false) (hr : Rp K H v d) (hz : ("number " : Str).length + d.shown.length ≤ sizeLine) (hT : Tabs TL H) : Em K TL (tLam TL (TTmet K CL CT CN CO) fun E => tMeth C "to" (spTo K CN) [] E (tVar j) (tCons (tVar i) tNil)) σ H ("number " ++ d.shown) := by
  obtain ⟨dx, a, xs, ho, h1, h2⟩ := id hB
  exact em_meth (k := .number) (v := v) (y := d) hT (fun H1 e1 => ev_var hb) ho rfl (fun H1 e1 => ap_eq (ea_cons (ev_var hs) ea_nil)) (fun vs E H1 Q' e1 hp hf => by
    subst hp
    exact ⟨b, v, rfl, (da_xn e1 _ _ hd).pl, by rw [hd.within]; exact hw, hf H1 (Ex.refl H1)⟩) (fun _ => ⟨hr, hz⟩)
theorem em_judN {u : V} (hb : σ[j]? = some (some u)) (hB : Nb K H u) (hs : σ[i]? = some (some v)) (hT : Tabs TL H) : Em K TL (tLam TL (TTmet K CL CT CN CO) fun E => tCall (spHand K C CO) [] E (tCons (tVar j) (tCons (tVar i) tNil))) σ H "operation" :=
  em_call (k := .oper) (v := v) (y := .none) hT (fun H1 e1 => ap_eq (ea_cons (ev_var hb) (ea_cons (ev_var hs) ea_nil))) (fun vs E H1 Q' e1 hp hf => by
    subst hp
    exact ⟨u, v, rfl, .inl (hB.xn e1).no, hf H1 (Ex.refl H1)⟩) (fun z => by cases z)
theorem em_judB {n : Nat} (hb : σ[j]? = some (some (.ref b))) (hB : Bg K C H b n) (hs : σ[i]? = some (some v)) (hd : Da K H v d) (h1 : handD n d = false) (h2 : (tupD d).length ≤ 40000) (hT : Tabs TL H) : Em K TL (tLam TL (TTmet K CL CT CN CO) fun E => tCall (spHand K C CO) [] E (tCons (tVar j) (tCons (tVar i) tNil))) σ H "operation" :=
  em_call (k := .oper) (v := v) (y := .none) hT (fun H1 e1 => ap_eq (ea_cons (ev_var hb) (ea_cons (ev_var hs) ea_nil))) (fun vs E H1 Q' e1 hp hf => by
    subst hp
    exact ⟨.ref b, v, rfl, .inr ⟨b, n, d, rfl, hB.xn e1, da_xn e1 _ _ hd, h2, h1⟩, hf H1 (Ex.refl H1)⟩) (fun z => by cases z)
end
end Kz
set_option Elab.async false
set_option linter.all false
set_option maxRecDepth 100000
set_option maxHeartbeats 4000000
set_option exponentiation.threshold 500
namespace Kz
open PySem PySem.Spec PyProof.Rows L2 Evl Vr
local macro_rules | `(tactic| walk_at "sc") => `(tactic| first | (with_reducible assumption) | (with_reducible exact sc_mul (by omega)) | (with_reducible exact sc_mulr (by omega)) | (with_reducible exact sc_div (by omega) (by decide)) | (show (0 : Int) < _; omega) | (show _ ≠ (0 : Int); omega) | (with_reducible rfl) | decide)
local macro_rules | `(tactic| walk_at "sq") => `(tactic| first | assumption | exact sq_of (by assumption) | exact st_of (by assumption))
local macro_rules | `(tactic| walk_at "pl") => `(tactic| first | assumption | exact pl_int | exact pl_bl | exact pl_str | exact pl_non | exact pl_lst (by assumption) | exact pl_tup (by assumption) | exact pl_dK (by assumption))
local macro_rules | `(tactic| walk_at "rv") => `(tactic| first
  | with_reducible exact rv_I0
  | with_reducible exact ru_neg
  | ((with_reducible apply rv_I); walk_at "sc")
  | ((with_reducible apply rv_ixL); walk_at "sq"; first | rfl | assumption)
  | ((with_reducible apply rv_ixT); walk_at "sq"; first | rfl | assumption)
  | ((with_reducible apply rv_eq); rfl) | ((with_reducible apply rv_ne); rfl))
local macro_rules | `(tactic| walk_at "rc") => `(tactic| first
  | with_reducible exact rc_I1 | with_reducible exact rc_B1 | with_reducible exact rc_I2 | ((with_reducible apply rc_repr); walk_at "sc") | ((with_reducible apply rc_lenL); walk_at "sq")
  | ((with_reducible apply rc_isiInt); walk_at "pl") | ((with_reducible apply rc_isiBool); walk_at "pl"))
local macro_rules | `(tactic| walk_at "ea") => `(tactic| first
  | with_reducible exact ea_nil | ((with_reducible apply ea_cons); walk_at "ev"; walk_at "ea"))
local macro_rules | `(tactic| walk_at "pow") => `(tactic| first
  | with_reducible exact ev_pow (a := 10) (b := 9) (c := 1000000000) (by decide +kernel) (by decide +kernel)
  | with_reducible exact ev_pow (a := 10) (b := 10) (c := 10000000000) (by decide +kernel) (by decide +kernel)
  | with_reducible exact ev_pow (a := 10) (b := 12) (c := 1000000000000) (by decide +kernel) (by decide +kernel)
  | with_reducible exact ev_pow (a := 10) (b := 17) (c := 100000000000000000) (by decide +kernel) (by decide +kernel)
  | with_reducible exact ev_pow (a := 10) (b := 20) (c := 100000000000000000000) (by decide +kernel) (by decide +kernel)
  | with_reducible exact ev_pow (a := 10) (b := 29) (c := 100000000000000000000000000000) (by decide +kernel) (by decide +kernel)
  | with_reducible exact ev_pow (a := 10) (b := 30) (c := 1000000000000000000000000000000) (by decide +kernel) (by decide +kernel)
  | with_reducible exact ev_pow (a := 10) (b := 40) (c := 10000000000000000000000000000000000000000) (by decide +kernel) (by decide +kernel)
  | with_reducible exact ev_pow (a := 10) (b := 57) (c := 1000000000000000000000000000000000000000000000000000000000) (by decide +kernel) (by decide +kernel)
  | with_reducible exact ev_pow (a := 10) (b := 58) (c := 10000000000000000000000000000000000000000000000000000000000) (by decide +kernel) (by decide +kernel)
  | with_reducible exact ev_pow (a := 10) (b := 59) (c := 100000000000000000000000000000000000000000000000000000000000) (by decide +kernel) (by decide +kernel)
  | with_reducible exact ev_pow (a := 10) (b := 60) (c := 1000000000000000000000000000000000000000000000000000000000000) (by decide +kernel) (by decide +kernel))
local macro_rules | `(tactic| walk_at "call") => `(tactic| (intro H9 e9; first | exact ⟨_, rfl, rfl⟩ | exact ⟨_, _, rfl, rfl⟩ | exact ⟨_, _, _, rfl, rfl⟩ | exact ⟨_, rfl, by walk_at "pl", rfl⟩ | (refine ⟨_, _, _, rfl, ?_, rfl⟩; first | exact Plain.ex e9 (by assumption) | walk_at "pl") | (refine ⟨_, rfl, ?_, rfl⟩; first | exact Plain.ex e9 (by assumption) | walk_at "pl")))
local macro_rules | `(tactic| walk_at "ev") => `(tactic| first
  | with_reducible exact ev_c
  | exact ev_var rfl
  | walk_at "pow"
  | ((with_reducible apply ev_op); walk_at "ev"; walk_at "ev"; walk_at "rv")
  | ((with_reducible apply ev_un); walk_at "ev"; walk_at "rv")
  | ((with_reducible apply ev_cb); walk_at "ea"; walk_at "rc")
  | ((with_reducible apply ev_callP); walk_at "ea"; walk_at "call")
  | ((with_reducible apply ev_chain); walk_at "ev"; walk_at "ev"; walk_at "rv"; walk_at "ev"; walk_at "rv")
  | ((with_reducible apply ev_andV); walk_at "ev"; intro _; walk_at "ev")
  | ((with_reducible apply ev_orV); walk_at "ev"; intro _; walk_at "ev")
  | ((with_reducible apply ev_ite); walk_at "et"; intro _; walk_at "ev"; intro _; walk_at "ev")
  | ((with_reducible apply ev_notV); walk_at "ev"))
local macro_rules | `(tactic| walk_at "et") => `(tactic| first
  | ((with_reducible apply et_test); walk_at "ev")
  | ((with_reducible apply et_B); walk_at "ev")
  | ((with_reducible apply et_and); walk_at "et"; intro _; walk_at "et")
  | ((with_reducible apply et_or); walk_at "et"; intro _; walk_at "et")
  | ((with_reducible apply et_not); walk_at "et"))
open LamX Wo Tx
section
variable {P : Program} {w : World} {K : PySem.W.Frag} {mg : Str → Option Value} {base : Heap}
def kLenB (K : PySem.W.Frag) (C : Addr) (vs : List V) (H : Hp) (z : V) : Prop := ∃ (p : Addr) (n : Nat), vs = [.ref p] ∧ Bg K C H p n ∧ z = .int (n : Int)
theorem ok_len (T : Txt K mg w) : FnOk P w K mg base CX0 1 T.a_Bag___len__ T.fd_Bag___len__ ["self"] (Pure (kLenB K T.C_Bag)) := by
  refine T.F_Bag___len__.ok sc_Bag___len__ (fun vs H Q E h => ?_) (fun cdv A outer s H vs Q E hr h => ?_)
  · obtain ⟨_, ⟨_, _, rfl, _⟩, _⟩ := h; rfl
  · obtain ⟨_, ⟨p, n, rfl, ⟨dx, a, xs, hob, hX, hn⟩, rfl⟩, q⟩ := h
    refine ⟨_, (pss_one (ps_ret (pe_callB c_len (by rfl) T.z_len PySem.boot_len (pa_cons (pe_fld (pv 0) rfl) pa_nil)))), ?_⟩
    exact s_ret (v := .int (n : Int)) (ev_is (ev_cb (vs := [.ref a]) (ea_cons (ev_fld (ev_var rfl) hob T.cl_Bag T.n_Bag_letters rfl) ea_nil) (rc_lenT hX)) (by rw [hn])) q
def qR : Str := ("_law_right" ++ ".<locals>.") ++ "<lambda>"
def qL : Str := ("law" ++ ".<locals>.") ++ "<lambda>"
abbrev TLs (PR PL : Addr) : List (Addr × Str) := [(PR, qR), (PL, qL)]
def spRight (K : PySem.W.Frag) (PR PL : Addr) : Sp := fun vs H Q _ => ∃ p, vs = [.ref p] ∧ Dice p H ∧ Tabs (TLs PR PL) H ∧ ∀ H', (∀ b o, H b = some o → b ≠ p → (∀ ps, o ≠ .tbl ps) → H' b = some o) → Dice p H' → Tabs (TLs PR PL) H' → Q (.bl true) H'
theorem ok_right (T : Txt K mg w) {c PR PL : Addr} (TB : TabB base mg c PR) (hne : PR ≠ PL) (FR : FunL K "_law_right" "_law_right" s_law_right c T.a_law_right T.fd_law_right) : FnG P w K mg base CX0 13 T.a_law_right T.fd_law_right ["dice"] (spRight K PR PL) := by
  have G_law_pick := ok_pick (P := P) (w := w) (base := base) T
  have G_law_odd_letters := ok_odd (P := P) (w := w) (base := base) T
  have G_goal := ok_goal (P := P) (w := w) (base := base) T
  have G_letter_text := ok_letter_text (P := P) (w := w) (base := base) T
  have G_Bag___init__ := ok_init (P := P) (w := w) (base := base) T
  have G_Bag_sent := ok_sent (P := P) (w := w) (base := base) T
  have G_Bag_sent_all := ok_sent_all (P := P) (w := w) (base := base) T
  have G_read_letter := ok_read_letter (P := P) (w := w) (base := base) T
  have G_Bag_letter := ok_letter (P := P) (w := w) (base := base) T
  have G_Bag_to := ok_to (P := P) (w := w) (base := base) T
  have G_judged_handing := ok_judged (P := P) (w := w) (base := base) T
  have G_Bag___len__ := ok_len (P := P) (w := w) (base := base) T
  have G_is_letter := ok_is_letter (P := P) (w := w) (base := base) T
  obtain ⟨ocM, odM, kVM, docM, pmM, anM, cdM, ctM, oslM, hfM, lkM, hcM⟩ := T.F_law_met.ex
  rw [hfM] at lkM
  have hbM := T.b_law_met
  rw [hfM] at hbM
  have hmT : (PR, qR) ∈ TLs PR PL := List.mem_cons_self ..
  have huT : ∀ p ∈ TLs PR PL, p.1 = PR → p.2 = qR := fun p hp e => by
    rcases List.mem_cons.mp hp with rfl | hp
    · rfl
    · rw [List.mem_singleton.mp hp] at e
      exact absurd e.symm hne
  refine FR.okG sc_law_right (fun vs H Q E h => ?_) (fun A outer s H vs Q E hr hg h => ?_)
  · obtain ⟨_, rfl, _⟩ := h; rfl
  obtain ⟨p, rfl, hd, hT, q⟩ := h
  have gd0 : (A.deeper (envOfC "_law_right" (defScope s_law_right) s.heap.objs.size T.a_law_right (.ref c))).guards = some [] := hg
  have hu1 : (A.deeper (envOfC "_law_right" (defScope s_law_right) s.heap.objs.size T.a_law_right (.ref c))).units + 100 < cLine := by have := hr.un; omega
  have hu64 : (A.deeper (envOfC "_law_right" (defScope s_law_right) s.heap.objs.size T.a_law_right (.ref c))).units + 64 < cLine := by omega
  refine ⟨_, (pss_cons (ps_asg (pe_tup (pa_cons (pe_call G_law_pick (hr.mono (by decide)) (by rfl) T.g_law_pick T.F_law_pick.kp T.b_law_pick .nil pass0 (pa_cons (pv 0) (pa_cons (pe_call0 G_law_odd_letters (hr.mono (by decide)) (by rfl) T.g_law_odd_letters T.F_law_odd_letters.kp T.b_law_odd_letters .nil pass0) pa_nil))) (pa_cons (pe_tup (pa_cons pe_str (pa_cons pe_int (pa_cons pe_str pa_nil)))) pa_nil))) (pg_tup rfl (pgs_cons (pg_name (i := 7) sc_law_right.nd rfl (.inr rfl)) (pgs_cons (pg_name (i := 9) sc_law_right.nd rfl (.inr rfl)) pgs_nil))))
  (pss_cons (ps_set (i := 3) sc_law_right.nd rfl (.inr rfl) (pe_make (E := E0) T.mk_Bag G_Bag___init__ (hr.mono (by decide)) (by rfl) T.g_Bag T.b_Bag___init__ .nil passL (pa_cons (pe_tup (pa_cons (pv 9) (pa_cons (pe_tup (pa_cons pe_str (pa_cons pe_int (pa_cons pe_int (pa_cons (pe_tup pa_nil) pa_nil))))) (pa_cons (pe_tup (pa_cons pe_str (pa_cons pe_int (pa_cons pe_int (pa_cons (pe_tup (pa_cons pe_int pa_nil)) (pa_cons pe_int pa_nil)))))) pa_nil)))) pa_nil)))
  (pss_cons (ps_set (i := 6) sc_law_right.nd rfl (.inr rfl) (pe_call G_law_pick (hr.mono (by decide)) (by rfl) T.g_law_pick T.F_law_pick.kp T.b_law_pick .nil pass0 (pa_cons (pv 0) (pa_cons (pe_lst (pa_cons pe_non (pa_cons (pe_un un_neg pe_int) (pa_cons pe_int (pa_cons pe_bl (pa_cons pe_str (pa_cons (pe_tup (pa_cons pe_int pa_nil)) (pa_cons (pe_op op_pow pe_int pe_int) (pa_cons pe_int pa_nil))))))))) pa_nil))))
  (pss_cons (ps_set (i := 8) sc_law_right.nd rfl (.inr rfl) (pe_call G_law_pick (hr.mono (by decide)) (by rfl) T.g_law_pick T.F_law_pick.kp T.b_law_pick .nil pass0 (pa_cons (pv 0) (pa_cons (pe_lst (pa_cons pe_non (pa_cons (pe_un un_neg pe_int) (pa_cons pe_int (pa_cons pe_bl (pa_cons pe_str (pa_cons (pe_tup (pa_cons pe_int pa_nil)) (pa_cons (pe_op op_pow pe_int pe_int) pa_nil)))))))) pa_nil))))
  (pss_cons (ps_set (i := 10) sc_law_right.nd rfl (.inr rfl) (pe_call G_law_pick (hr.mono (by decide)) (by rfl) T.g_law_pick T.F_law_pick.kp T.b_law_pick .nil pass0 (pa_cons (pv 0) (pa_cons (pe_lst (pa_cons pe_non (pa_cons pe_int (pa_cons (pe_lst (pa_cons pe_str pa_nil)) (pa_cons pe_str (pa_cons (pe_tup (pa_cons pe_str pa_nil)) (pa_cons pe_dnewK (pa_cons pe_bl pa_nil)))))))) pa_nil))))
  (pss_cons (ps_set (i := 5) sc_law_right.nd rfl (.inr rfl) (pe_call G_law_pick (hr.mono (by decide)) (by rfl) T.g_law_pick T.F_law_pick.kp T.b_law_pick .nil pass0 (pa_cons (pv 0) (pa_cons (pe_lst (pa_cons pe_non (pa_cons (pe_tup pa_nil) (pa_cons (pe_tup (pa_cons (pv 9) pa_nil)) (pa_cons (pe_lst (pa_cons (pv 3) pa_nil)) (pa_cons pe_int (pa_cons pe_str (pa_cons (pv 9) pa_nil)))))))) pa_nil))))
  (pss_cons (ps_set (i := 4) sc_law_right.nd rfl (.inr rfl) (pe_call G_law_pick (hr.mono (by decide)) (by rfl) T.g_law_pick T.F_law_pick.kp T.b_law_pick .nil pass0 (pa_cons (pv 0) (pa_cons (pe_lst (pa_cons pe_non (pa_cons (pe_lst (pa_cons pe_int pa_nil)) (pa_cons (pe_tup (pa_cons pe_int pa_nil)) (pa_cons (pe_tup (pa_cons (pe_un un_neg pe_int) pa_nil)) (pa_cons (pe_tup (pa_cons pe_bl pa_nil)) (pa_cons (pe_tup (pa_cons pe_str pa_nil)) (pa_cons (pe_tup (pa_cons pe_int (pa_cons pe_non pa_nil))) (pa_cons pe_int (pa_cons pe_dnewK (pa_cons pe_str (pa_cons (pe_tup (pa_cons pe_int (pa_cons pe_int (pa_cons pe_int (pa_cons pe_int pa_nil))))) pa_nil)))))))))))) pa_nil))))
  (pss_cons (ps_set (i := 1) sc_law_right.nd rfl (.inl rfl) (pe_lst (pa_cons (pe_lamcall (T := TLs PR PL) (TT := TTmet K T.C_LE T.C_TE T.C_IN T.C_OE) rfl T.g_law_met T.F_law_met.kp lkM hcM hbM sc_law_met rfl (Or.inl rfl) (met_gives' T gd0 hu1 ⟨rfl, rfl, rfl, rfl⟩) TB rfl hmT huT (k := 10) (hr.mono (by decide)) (lamS_by (by kernel_rfl)) rfl (fun _ _ _ _ _ => rfl) (fun _ _ _ _ E _ _ hr => (pe_call G_goal (hr.mono (by decide)) (by rfl) T.g_goal T.F_goal.kp T.b_goal .nil (passes_call (W := fun cls d _ H => E cls d H) (takes_of rfl rfl rfl rfl) (fun _ _ _ _ h => h)) (pa_cons (pv 7) pa_nil)))) pa_nil)))
  (pss_cons (ps_expr (pe_bm PySem.F.plainAttrs_list PySem.F.slot_list_append PySem.F.type_list_append mt_append (pv 1) (pa_cons (pe_lamcall (T := TLs PR PL) (TT := TTmet K T.C_LE T.C_TE T.C_IN T.C_OE) rfl T.g_law_met T.F_law_met.kp lkM hcM hbM sc_law_met rfl (Or.inl rfl) (met_gives' T gd0 hu1 ⟨rfl, rfl, rfl, rfl⟩) TB rfl hmT huT (k := 10) (hr.mono (by decide)) (lamS_by (by kernel_rfl)) rfl (fun _ _ _ _ _ => rfl) (fun _ _ _ _ E _ _ hr => (pe_call G_letter_text (hr.mono (by decide)) (by rfl) T.g_letter_text T.F_letter_text.kp T.b_letter_text .nil (passes_call (W := fun cls d _ H => E cls d H) (takes_of rfl rfl rfl rfl) (fun _ _ _ _ h => h)) (pa_cons (pv 7) pa_nil)))) pa_nil)))
  (pss_cons (ps_expr (pe_bm PySem.F.plainAttrs_list PySem.F.slot_list_append PySem.F.type_list_append mt_append (pv 1) (pa_cons (pe_lamcall (T := TLs PR PL) (TT := TTmet K T.C_LE T.C_TE T.C_IN T.C_OE) rfl T.g_law_met T.F_law_met.kp lkM hcM hbM sc_law_met rfl (Or.inl rfl) (met_gives' T gd0 hu1 ⟨rfl, rfl, rfl, rfl⟩) TB rfl hmT huT (k := 10) (hr.mono (by decide)) (lamS_by (by kernel_rfl)) rfl (fun _ _ _ _ _ => rfl) (fun _ _ _ _ E _ _ hr => (pe_make T.mk_Bag G_Bag___init__ (hr.mono (by decide)) (by rfl) T.g_Bag T.b_Bag___init__ .nil (passes_call (W := fun cls d _ H => E cls d H) (takes_of rfl rfl rfl rfl) (fun _ _ _ _ h => h)) (pa_cons (pe_tup (pa_cons (pv 9) (pa_cons (pv 7) pa_nil))) pa_nil)))) pa_nil)))
  (pss_cons (ps_expr (pe_bm PySem.F.plainAttrs_list PySem.F.slot_list_append PySem.F.type_list_append mt_append (pv 1) (pa_cons (pe_lamcall (T := TLs PR PL) (TT := TTmet K T.C_LE T.C_TE T.C_IN T.C_OE) rfl T.g_law_met T.F_law_met.kp lkM hcM hbM sc_law_met rfl (Or.inl rfl) (met_gives' T gd0 hu1 ⟨rfl, rfl, rfl, rfl⟩) TB rfl hmT huT (k := 10) (hr.mono (by decide)) (lamS_by (by kernel_rfl)) rfl (fun _ _ _ _ _ => rfl) (fun _ _ _ _ E _ _ hr => (pe_make T.mk_Bag G_Bag___init__ (hr.mono (by decide)) (by rfl) T.g_Bag T.b_Bag___init__ .nil (passes_call (W := fun cls d _ H => E cls d H) (takes_of rfl rfl rfl rfl) (fun _ _ _ _ h => h)) (pa_cons (pe_ifExp (pt_cmpR (op_neK (K := K) rfl hr.units) (pv 7) (pe_tup pa_nil) (nomark _)) (pv 7) pe_non) pa_nil)))) pa_nil)))
  (pss_cons (ps_expr (pe_bm PySem.F.plainAttrs_list PySem.F.slot_list_append PySem.F.type_list_append mt_append (pv 1) (pa_cons (pe_lamcall (T := TLs PR PL) (TT := TTmet K T.C_LE T.C_TE T.C_IN T.C_OE) rfl T.g_law_met T.F_law_met.kp lkM hcM hbM sc_law_met rfl (Or.inl rfl) (met_gives' T gd0 hu1 ⟨rfl, rfl, rfl, rfl⟩) TB rfl hmT huT (k := 10) (hr.mono (by decide)) (lamS_by (by kernel_rfl)) rfl (fun _ _ _ _ _ => rfl) (fun _ _ _ _ E _ _ hr => (pe_meth (pv 3) T.cl_Bag T.m_Bag_sent G_Bag_sent (hr.mono (by decide)) T.b_Bag_sent .nil (passes_call (W := fun cls d _ H => E cls d H) (takes_of rfl rfl rfl rfl) (fun _ _ _ _ h => h)) (pa_cons (pv 7) pa_nil)))) pa_nil)))
  (pss_cons (ps_expr (pe_bm PySem.F.plainAttrs_list PySem.F.slot_list_append PySem.F.type_list_append mt_append (pv 1) (pa_cons (pe_lamcall (T := TLs PR PL) (TT := TTmet K T.C_LE T.C_TE T.C_IN T.C_OE) rfl T.g_law_met T.F_law_met.kp lkM hcM hbM sc_law_met rfl (Or.inl rfl) (met_gives' T gd0 hu1 ⟨rfl, rfl, rfl, rfl⟩) TB rfl hmT huT (k := 10) (hr.mono (by decide)) (lamS_by (by kernel_rfl)) rfl (fun _ _ _ _ _ => rfl) (fun _ _ _ _ E _ _ hr => (pe_meth (pv 3) T.cl_Bag T.m_Bag_sent_all G_Bag_sent_all (hr.mono (by decide)) T.b_Bag_sent_all .nil (passes_call (W := fun cls d _ H => E cls d H) (takes_of rfl rfl rfl rfl) (fun _ _ _ _ h => h)) (pa_cons (pe_tup (pa_cons (pv 9) (pa_cons (pv 7) pa_nil))) pa_nil)))) pa_nil)))
  (pss_cons (ps_expr (pe_bm PySem.F.plainAttrs_list PySem.F.slot_list_append PySem.F.type_list_append mt_append (pv 1) (pa_cons (pe_lamcall (T := TLs PR PL) (TT := TTmet K T.C_LE T.C_TE T.C_IN T.C_OE) rfl T.g_law_met T.F_law_met.kp lkM hcM hbM sc_law_met rfl (Or.inl rfl) (met_gives' T gd0 hu1 ⟨rfl, rfl, rfl, rfl⟩) TB rfl hmT huT (k := 10) (hr.mono (by decide)) (lamS_by (by kernel_rfl)) rfl (fun _ _ _ _ _ => rfl) (fun _ _ _ _ E _ _ hr => (pe_meth (pv 3) T.cl_Bag T.m_Bag_sent_all G_Bag_sent_all (hr.mono (by decide)) T.b_Bag_sent_all .nil (passes_call (W := fun cls d _ H => E cls d H) (takes_of rfl rfl rfl rfl) (fun _ _ _ _ h => h)) (pa_cons (pe_lst (pa_cons (pv 9) pa_nil)) pa_nil)))) pa_nil)))
  (pss_cons (ps_set (i := 2) sc_law_right.nd rfl (.inl rfl) (pe_op op_rep (pe_lst (pa_cons (pe_tup (pa_cons pe_str (pa_cons pe_str pa_nil))) pa_nil)) pe_int))
  (pss_cons (ps_expr (pe_bm PySem.F.plainAttrs_list PySem.F.slot_list_append PySem.F.type_list_append mt_append (pv 1) (pa_cons (pe_lamcall (T := TLs PR PL) (TT := TTmet K T.C_LE T.C_TE T.C_IN T.C_OE) rfl T.g_law_met T.F_law_met.kp lkM hcM hbM sc_law_met rfl (Or.inl rfl) (met_gives' T gd0 hu1 ⟨rfl, rfl, rfl, rfl⟩) TB rfl hmT huT (k := 10) (hr.mono (by decide)) (lamS_by (by kernel_rfl)) rfl (fun _ _ _ _ _ => rfl) (fun _ _ _ _ E _ _ hr => (pe_call G_read_letter (hr.mono (by decide)) (by rfl) T.g_read_letter T.F_read_letter.kp T.b_read_letter .nil (passes_call (W := fun cls d _ H => E cls d H) (takes_of rfl rfl rfl rfl) (fun _ _ _ _ h => h)) (pa_cons (pv 10) pa_nil)))) pa_nil)))
  (pss_cons (ps_expr (pe_bm PySem.F.plainAttrs_list PySem.F.slot_list_append PySem.F.type_list_append mt_append (pv 1) (pa_cons (pe_lamcall (T := TLs PR PL) (TT := TTmet K T.C_LE T.C_TE T.C_IN T.C_OE) rfl T.g_law_met T.F_law_met.kp lkM hcM hbM sc_law_met rfl (Or.inl rfl) (met_gives' T gd0 hu1 ⟨rfl, rfl, rfl, rfl⟩) TB rfl hmT huT (k := 10) (hr.mono (by decide)) (lamS_by (by kernel_rfl)) rfl (fun _ _ _ _ _ => rfl) (fun _ _ _ _ E _ _ hr => (pe_meth (pv 3) T.cl_Bag T.m_Bag_letter G_Bag_letter (hr.mono (by decide)) T.b_Bag_letter .nil (passes_call (W := fun cls d _ H => E cls d H) (takes_of rfl rfl rfl rfl) (fun _ _ _ _ h => h)) (pa_cons (pv 6) pa_nil)))) pa_nil)))
  (pss_cons (ps_expr (pe_bm PySem.F.plainAttrs_list PySem.F.slot_list_append PySem.F.type_list_append mt_append (pv 1) (pa_cons (pe_lamcall (T := TLs PR PL) (TT := TTmet K T.C_LE T.C_TE T.C_IN T.C_OE) rfl T.g_law_met T.F_law_met.kp lkM hcM hbM sc_law_met rfl (Or.inl rfl) (met_gives' T gd0 hu1 ⟨rfl, rfl, rfl, rfl⟩) TB rfl hmT huT (k := 10) (hr.mono (by decide)) (lamS_by (by kernel_rfl)) rfl (fun _ _ _ _ _ => rfl) (fun _ _ _ _ E _ _ hr => (pe_meth (pv 3) T.cl_Bag T.m_Bag_to G_Bag_to (hr.mono (by decide)) T.b_Bag_to .nil (passes_call (W := fun cls d _ H => E cls d H) (takes_of rfl rfl rfl rfl) (fun _ _ _ _ h => h)) (pa_cons (pv 8) pa_nil)))) pa_nil)))
  (pss_cons (ps_expr (pe_bm PySem.F.plainAttrs_list PySem.F.slot_list_append PySem.F.type_list_append mt_append (pv 1) (pa_cons (pe_lamcall (T := TLs PR PL) (TT := TTmet K T.C_LE T.C_TE T.C_IN T.C_OE) rfl T.g_law_met T.F_law_met.kp lkM hcM hbM sc_law_met rfl (Or.inl rfl) (met_gives' T gd0 hu1 ⟨rfl, rfl, rfl, rfl⟩) TB rfl hmT huT (k := 10) (hr.mono (by decide)) (lamS_by (by kernel_rfl)) rfl (fun _ _ _ _ _ => rfl) (fun _ _ _ _ E _ _ hr => (pe_call G_judged_handing (hr.mono (by decide)) (by rfl) T.g_judged_handing T.F_judged_handing.kp T.b_judged_handing .nil (passes_call (W := fun cls d _ H => E cls d H) (takes_of rfl rfl rfl rfl) (fun _ _ _ _ h => h)) (pa_cons (pv 5) (pa_cons (pv 4) pa_nil))))) pa_nil)))
  (pss_cons (ps_expr (pe_bm PySem.F.plainAttrs_list PySem.F.slot_list_append PySem.F.type_list_append mt_append (pv 1) (pa_cons (pe_lamcall (T := TLs PR PL) (TT := TTmet K T.C_LE T.C_TE T.C_IN T.C_OE) rfl T.g_law_met T.F_law_met.kp lkM hcM hbM sc_law_met rfl (Or.inl rfl) (met_gives' T gd0 hu1 ⟨rfl, rfl, rfl, rfl⟩) TB rfl hmT huT (k := 10) (hr.mono (by decide)) (lamS_by (by kernel_rfl)) rfl (fun _ _ _ _ _ => rfl) (fun _ _ _ _ E _ _ hr => (pe_call G_judged_handing (hr.mono (by decide)) (by rfl) T.g_judged_handing T.F_judged_handing.kp T.b_judged_handing .nil (passes_call (W := fun cls d _ H => E cls d H) (takes_of rfl rfl rfl rfl) (fun _ _ _ _ h => h)) (pa_cons (pv 3) (pa_cons (pv 4) pa_nil))))) pa_nil)))
  (pss_cons (ps_set (i := 2) sc_law_right.nd rfl (.inl rfl) (pe_op op_cat (pe_op op_cat (pv 2) (pe_lst (pa_cons (pe_tup (pa_cons pe_str (pa_cons pe_str pa_nil))) (pa_cons (pe_tup (pa_cons pe_str (pa_cons (pe_op op_add_str pe_str (pe_callB (c_reprD gd0 hu64) (by rfl) T.z_repr (by decide +kernel) (pa_cons (pv 6) pa_nil))) pa_nil))) (pa_cons (pe_tup (pa_cons pe_str (pa_cons (pe_op op_add_str pe_str (pe_callB (c_reprD gd0 hu64) (by rfl) T.z_repr (by decide +kernel) (pa_cons (pv 8) pa_nil))) pa_nil))) pa_nil))))) (pe_op op_rep (pe_lst (pa_cons (pe_tup (pa_cons pe_str (pa_cons pe_str pa_nil))) pa_nil)) pe_int)))
  (pss_one (ps_ret (pe_and (pe_cmpR (op_eqD hr.units) (pv 1) (pv 2) (nomark _)) (pe_and (pe_cmpR op_isBl (pe_call G_is_letter (hr.mono (by decide)) (by rfl) T.g_is_letter T.F_is_letter.kp T.b_is_letter .nil pass0 (pa_cons (pv 7) pa_nil)) pe_bl (nomark _)) (pe_one (pe_cmpR op_eq (pe_callB (c_lenO G_Bag___len__ (hr.mono (by decide)) T.m_Bag___len__ T.b_Bag___len__ pass0) (by rfl) T.z_len PySem.boot_len (pa_cons (pv 3) pa_nil)) pe_int (nomark _)))))))))))))))))))))))))))), ?_⟩
  -- odd, right
  refine q_pickU (p := p) (ds := oddDs) (xs := [.str "word", .int 3, .str "go"]) rfl en_odd hd (by decide) (by decide) odd_n3 (fun H1 => eu_tup (ea_cons ev_c (ea_cons ev_c (ea_cons ev_c ea_nil))) (by show 3 ≤ 100000; decide)) fun odd r H1 dO hO hodd1 x1 d1 hr1 => ?_
  obtain ⟨⟨oL, oS⟩, ⟨oN, oE⟩, ⟨oNL, oNS⟩, oRL, oRS⟩ := odd_at hO
  have hright : ∀ {H'}, SqT K H' r [.str "word", .int 3, .str "go"] → Da K H' (.ref r) rightD := fun h => .tup h (.cons (.str _) (.cons (.int _) (.cons (.str _) .nil)))
  -- bag
  refine q_mkBag (d := .tuple [rightD, .tuple [.str "rows", .int 2, .int 0, .tuple []], .tuple [.str "keys", .int 2, .int 1, .tuple [.int 7], .int 5]]) (ew_tup (ea_w1 (ew_var rfl (hright hr1)) (ea_w1 (ew_tup (ea_w1 (ew_c (.str _)) (ea_w1 (ew_c (.int _)) (ea_w1 (ew_c (.int _)) (ea_w1 (ew_tup ea_w0 (by show 0 ≤ 100000; decide)) ea_w0)))) (by show 4 ≤ 100000; decide)) (ea_w1 (ew_tup (ea_w1 (ew_c (.str _)) (ea_w1 (ew_c (.int _)) (ea_w1 (ew_c (.int _)) (ea_w1 (ew_tup (ea_w1 (ew_c (.int _)) ea_w0) (by show 1 ≤ 100000; decide)) (ea_w1 (ew_c (.int _)) ea_w0))))) (by show 5 ≤ 100000; decide)) ea_w0))) (by show 3 ≤ 100000; decide)) (by decide +kernel) (by decide +kernel) fun b H2 _ e2 hb2 => ?_
  have hb2 : Bg K T.C_Bag H2 b 3 := hb2
  have d2 := d1.ex e2
  -- number
  refine q_pick (p := p) (ds := numDs) rfl (en_lst (ea_w1 (ew_c .non) (ea_w1 (ew_ev (v := .int (-1)) (by walk_at "ev") fun _ _ => .int _) (ea_w1 (ew_c (.int _)) (ea_w1 (ew_c (.bl _)) (ea_w1 (ew_c (.str _)) (ea_w1 (ew_tup (ea_w1 (ew_c (.int _)) ea_w0) (by show 1 ≤ 100000; decide)) (ea_w1 (ew_ev (v := .int 1000000000000000000000000000000000000000000000000000000000000) (by walk_at "pow") fun _ _ => .int _) (ea_w1 (ew_c (.int _)) ea_w0)))))))) (by show 8 ≤ 100000; decide)) d2 (by decide) (by decide) (by decide +kernel) fun num H3 dN hN hnum3 x3 d3 => ?_
  -- place
  refine q_pick (p := p) (ds := plcDs) rfl (en_lst (ea_w1 (ew_c .non) (ea_w1 (ew_ev (v := .int (-2)) (by walk_at "ev") fun _ _ => .int _) (ea_w1 (ew_c (.int _)) (ea_w1 (ew_c (.bl _)) (ea_w1 (ew_c (.str _)) (ea_w1 (ew_tup (ea_w1 (ew_c (.int _)) ea_w0) (by show 1 ≤ 100000; decide)) (ea_w1 (ew_ev (v := .int 1000000000000000000000000000000000000000000000000000000000000) (by walk_at "pow") fun _ _ => .int _) ea_w0))))))) (by show 7 ≤ 100000; decide)) d3 (by decide) (by decide) (by decide +kernel) fun plc H4 dP hP hplc4 x4 d4 => ?_
  -- text
  refine q_pick (p := p) (ds := txtDs) rfl (en_lst (ea_w1 (ew_c .non) (ea_w1 (ew_c (.int _)) (ea_w1 (ew_lst (ea_w1 (ew_c (.str _)) ea_w0) (by show 1 ≤ 100000; decide)) (ea_w1 (ew_c (.str _)) (ea_w1 (ew_tup (ea_w1 (ew_c (.str _)) ea_w0) (by show 1 ≤ 100000; decide)) (ea_w1 ew_dic (ea_w1 (ew_c (.bl _)) ea_w0))))))) (by show 7 ≤ 100000; decide)) d4 (by decide) (by decide) (by decide +kernel) fun txt H5 dT hDT htxt5 x5 d5 => ?_
  -- none
  have hr5 := sqt_xd ((((Exd.of e2).trans x3).trans x4).trans x5) d1 hr1
  refine q_pickB (p := p) (n := 7) rfl (eab1 (eb_ev ev_c fun _ _ => .inl rfl) (eab1 (eb_tup (eu_tup ea_nil (by show 0 ≤ 100000; decide))) (eab1 (eb_tup (eu_tup (ea_cons (ev_var rfl) ea_nil) (by show 1 ≤ 100000; decide))) (eab1 (eb_lst (el_lst (ea_cons (ev_var rfl) ea_nil) (by show 1 ≤ 100000; decide))) (eab1 (eb_ev ev_c fun _ _ => .inr (.inl rfl)) (eab1 (eb_ev ev_c fun _ _ => .inr (.inr (.inl rfl))) (eab1 (eb_ev (ev_var rfl) fun _ e => .inr (.inr (.inr (.inl ⟨r, _, rfl, ex_t e hr5⟩)))) eab0))))))) d5 (by decide) (by decide) fun non H6 hnon6 x6 d6 => ?_
  -- handing
  refine q_pick (p := p) (ds := hanDs) rfl (en_lst (ea_w1 (ew_c .non) (ea_w1 (ew_lst (ea_w1 (ew_c (.int _)) ea_w0) (by show 1 ≤ 100000; decide)) (ea_w1 (ew_tup (ea_w1 (ew_c (.int _)) ea_w0) (by show 1 ≤ 100000; decide)) (ea_w1 (ew_tup (ea_w1 (ew_ev (v := .int (-1)) (by walk_at "ev") fun _ _ => .int _) ea_w0) (by show 1 ≤ 100000; decide)) (ea_w1 (ew_tup (ea_w1 (ew_c (.bl _)) ea_w0) (by show 1 ≤ 100000; decide)) (ea_w1 (ew_tup (ea_w1 (ew_c (.str _)) ea_w0) (by show 1 ≤ 100000; decide)) (ea_w1 (ew_tup (ea_w1 (ew_c (.int _)) (ea_w1 (ew_c .non) ea_w0)) (by show 2 ≤ 100000; decide)) (ea_w1 (ew_c (.int _)) (ea_w1 ew_dic (ea_w1 (ew_c (.str _)) (ea_w1 (ew_tup (ea_w1 (ew_c (.int _)) (ea_w1 (ew_c (.int _)) (ea_w1 (ew_c (.int _)) (ea_w1 (ew_c (.int _)) ea_w0)))) (by show 4 ≤ 100000; decide)) ea_w0))))))))))) (by show 11 ≤ 100000; decide)) d6 (by decide) (by decide) (by decide +kernel) fun han H7 dH hH hhan x7 d7 => ?_
  have txtO := List.all_eq_true.mp txt_all dT hDT
  have hanO := List.all_eq_true.mp han_all dH hH
  have num3 : n3 dN = true := by
    have := List.all_eq_true.mp num_all dN hN
    simp only [numF, Bool.and_eq_true] at this
    exact this.1.1.1.2
  have plc3 : n3 dP = true := by
    have := List.all_eq_true.mp plc_all dP hP
    simp only [numF, Bool.and_eq_true] at this
    exact this.1.1.1.2
  simp only [Bool.and_eq_true, Bool.not_eq_true', decide_eq_true_eq] at txtO hanO
  have X57 := x6.trans x7
  have X47 := x5.trans X57
  have X37 := x4.trans X47
  have X27 := x3.trans X37
  have X17 := (Exd.of e2).trans X27
  have hodd := da_xd X17 d1 _ _ oN hodd1
  have hr := sqt_xd X17 d1 hr1
  have hb := hb2.xd X27 d2
  have hnum := da_xd X37 d3 _ _ num3 hnum3
  have hplc := da_xd X47 d4 _ _ plc3 hplc4
  have htxt := da_xd X57 d5 _ _ txtO.1 htxt5
  have hnon := hnon6.xd x7 d6
  have base7 : ∀ a o, H a = some o → a ≠ p → H7 a = some o := fun a o ha hn => X17 a o hn (x1 a o hn ha)
  have T7 : Tabs (TLs PR PL) H7 := Tabs.xd X17 d1 (Tabs.xd x1 hd hT)
  obtain ⟨numR, numZ, numOk, numW⟩ := num_at num_all hN hnum
  obtain ⟨plcR, plcZ, plcOk, plcW⟩ := num_at plc_all hP hplc
  clear hodd1 hr1 hb2 hnum3 hplc4 htxt5 hnon6 hr5 X57 X47 X37 X27 X17 x1 x3 x4 x5 x6 x7 e2 d1 d2 d3 d4 d5 d6
  refine q_asgM (em_lst1 (em_bad (TL := TLs PR PL) (d := dO) rfl hodd oS oL T7)) fun l H8 u8 nw e8 t8 hl8 hv8 => ?_
  refine q_app (TL := TLs PR PL) (z := "letter") (ev_var rfl) hl8 hv8 (by show 1 ≤ 1000; decide) (fun Hx ex => by
    have eX := e8.trans (xn_ex ex)
    exact em_bad (d := dO) rfl (da_xn eX _ _ hodd) oS oL (t8.ext ex)) fun H9 u9 kp9 st9 t9 hl9 hv9 => ?_
  have e9 := keep_l nw e8 kp9
  refine q_app (TL := TLs PR PL) (z := "letter") (ev_var rfl) hl9 hv9 (by show 2 ≤ 1000; decide) (fun Hx ex => by
    have eX := e9.trans (xn_ex ex)
    exact em_mkL (d := .tuple [rightD, dO]) (fun H1 e1 => ew_tup (ea_w1 (ew_var rfl (hright (xn_t (eX.trans e1) hr))) (ea_w1 (ew_var rfl (da_xn (eX.trans e1) _ _ hodd)) ea_w0)) (by show 2 ≤ 100000; decide)) oRS oRL (t9.ext ex)) fun H10 u10 kp10 st10 t10 hl10 hv10 => ?_
  have e10 := keep_l nw e9 kp10
  refine q_app (TL := TLs PR PL) (z := "letter") (ev_var rfl) hl10 hv10 (by show 3 ≤ 1000; decide) (fun Hx ex => by
    have eX := e10.trans (xn_ex ex)
    exact em_mkL (d := orNone dO) (fun H1 e1 => ew_if (et_ne rfl (da_xn (eX.trans e1) _ _ hodd) oE) (ew_var rfl (da_xn (eX.trans e1) _ _ hodd)) (ew_c .non)) oNS oNL (t10.ext ex)) fun H11 u11 kp11 st11 t11 hl11 hv11 => ?_
  have e11 := keep_l nw e10 kp11
  refine q_app (TL := TLs PR PL) (z := "letter") (ev_var rfl) hl11 hv11 (by show 4 ≤ 1000; decide) (fun Hx ex => by
    have eX := e11.trans (xn_ex ex)
    exact em_sent (d := dO) rfl (hb.xn eX) rfl (da_xn eX _ _ hodd) oS oL (t11.ext ex)) fun H12 u12 kp12 st12 t12 hl12 hv12 => ?_
  have e12 := keep_l nw e11 kp12
  refine q_app (TL := TLs PR PL) (z := "letter") (ev_var rfl) hl12 hv12 (by show 5 ≤ 1000; decide) (fun Hx ex => by
    have eX := e12.trans (xn_ex ex)
    exact em_sents (d := .tuple [rightD, dO]) rfl (hb.xn eX) (fun H1 e1 => ew_tup (ea_w1 (ew_var rfl (hright (xn_t (eX.trans e1) hr))) (ea_w1 (ew_var rfl (da_xn (eX.trans e1) _ _ hodd)) ea_w0)) (by show 2 ≤ 100000; decide)) oRS oRL (t12.ext ex)) fun H13 u13 kp13 st13 t13 hl13 hv13 => ?_
  have e13 := keep_l nw e12 kp13
  refine q_app (TL := TLs PR PL) (z := "letter") (ev_var rfl) hl13 hv13 (by show 6 ≤ 1000; decide) (fun Hx ex => by
    have eX := e13.trans (xn_ex ex)
    exact em_sents (d := .list [rightD]) rfl (hb.xn eX) (fun H1 e1 => ew_lst (ea_w1 (ew_var rfl (hright (xn_t (eX.trans e1) hr))) ea_w0) (by show 1 ≤ 100000; decide)) (by decide +kernel) (by decide +kernel) (t13.ext ex)) fun H14 u14 kp14 st14 t14 hl14 hv14 => ?_
  have e14 := keep_l nw e13 kp14
  refine q_asgE (K := K) (ef_rep (n := 7) (ee_lst (ee1 (z := "letter") ev_c ee0) (by show 1 ≤ 1000; decide)) ev_c (by show 1 ≤ 100; decide) (by decide) (by decide)) fun du Hd dv nd0 ed hd0 hdv0 => ?_
  have hne : du ≠ l := fun z => by rw [z, hl14] at nd0; cases nd0
  have hl15 := ed _ _ hl14
  have hv15 := hv14.xn (xn_ex ed)
  have t15 := t14.ext ed
  have e15 := e14.trans (xn_ex ed)
  refine q_app (TL := TLs PR PL) (z := "text") (ev_var rfl) hl15 hv15 (by show 7 ≤ 1000; decide) (fun Hx ex => by
    have eX := e15.trans (xn_ex ex)
    exact em_read (d := dT) rfl (da_xn eX _ _ htxt) txtO.2 (t15.ext ex)) fun H16 u16 kp16 st16 t16 hl16 hv16 => ?_
  have e16 := keep_l nw e15 kp16
  have hd1 := kp16 _ _ hd0 hne (fun _ z => by cases z)
  have hdv1 := hdv0.st st16
  refine q_app (TL := TLs PR PL) (z := ("number " ++ dN.shown)) (ev_var rfl) hl16 hv16 (by show 8 ≤ 1000; decide) (fun Hx ex => by
    have eX := e16.trans (xn_ex ex)
    exact em_letter (d := dN) rfl (hb.xn eX) rfl (da_xn eX _ _ hnum) numW (numR.xn eX) numZ (t16.ext ex)) fun H17 u17 kp17 st17 t17 hl17 hv17 => ?_
  have e17 := keep_l nw e16 kp17
  have hd2 := kp17 _ _ hd1 hne (fun _ z => by cases z)
  have hdv2 := hdv1.st st17
  refine q_app (TL := TLs PR PL) (z := ("number " ++ dP.shown)) (ev_var rfl) hl17 hv17 (by show 9 ≤ 1000; decide) (fun Hx ex => by
    have eX := e17.trans (xn_ex ex)
    exact em_to (d := dP) rfl (hb.xn eX) rfl (da_xn eX _ _ hplc) plcW (plcR.xn eX) plcZ (t17.ext ex)) fun H18 u18 kp18 st18 t18 hl18 hv18 => ?_
  have e18 := keep_l nw e17 kp18
  have hd3 := kp18 _ _ hd2 hne (fun _ z => by cases z)
  have hdv3 := hdv2.st st18
  refine q_app (TL := TLs PR PL) (z := "operation") (ev_var rfl) hl18 hv18 (by show 10 ≤ 1000; decide) (fun Hx ex => by
    have eX := e18.trans (xn_ex ex)
    exact em_judN rfl (hnon.xn eX) rfl (t18.ext ex)) fun H19 u19 kp19 st19 t19 hl19 hv19 => ?_
  have e19 := keep_l nw e18 kp19
  have hd4 := kp19 _ _ hd3 hne (fun _ z => by cases z)
  have hdv4 := hdv3.st st19
  refine q_app (TL := TLs PR PL) (z := "operation") (ev_var rfl) hl19 hv19 (by show 11 ≤ 1000; decide) (fun Hx ex => by
    have eX := e19.trans (xn_ex ex)
    exact em_judB (d := dH) rfl (hb.xn eX) rfl (da_xn eX _ _ hhan) hanO.2.1 hanO.2.2 (t19.ext ex)) fun H20 u20 kp20 st20 t20 hl20 hv20 => ?_
  have e20 := keep_l nw e19 kp20
  have hd5 := kp20 _ _ hd4 hne (fun _ z => by cases z)
  have hdv5 := hdv4.st st20
  refine q_asgE (K := K) (ef_cat (ee_f (ef_cat (ee_var rfl hd5 hdv5) (ee_lst (ee1 (z := "text") ev_c (ee1 (ev_num (ev_var rfl) (numR.xn e20) numZ) (ee1 (ev_num (ev_var rfl) (plcR.xn e20) plcZ) ee0))) (by show 3 ≤ 1000; decide)) (by show 7 ≤ 1000; decide) (by show 3 ≤ 1000; decide))) (ee_f (ef_rep (n := 2) (ee_lst (ee1 (z := "operation") ev_c ee0) (by show 1 ≤ 1000; decide)) ev_c (by show 1 ≤ 100; decide) (by decide) (by decide))) (by show 10 ≤ 1000; decide) (by show 2 ≤ 1000; decide)) fun du2 Hf fv _ ef hf hfv => ?_
  have hvT : Tds K Hf u20 (["letter", "letter", "letter", "letter", "letter", "letter", "letter", "text", "number " ++ dN.shown, "number " ++ dP.shown, "operation", "operation"] : List Str) := hv20.xn (xn_ex ef)
  have hvD : Tds K Hf fv (["letter", "letter", "letter", "letter", "letter", "letter", "letter", "text", "number " ++ dN.shown, "number " ++ dP.shown, "operation", "operation"] : List Str) := hfv
  have hlT := ef _ _ hl20
  have eF := e20.trans (xn_ex ef)
  generalize hZ : (["letter", "letter", "letter", "letter", "letter", "letter", "letter", "text", "number " ++ dN.shown, "number " ++ dP.shown, "operation", "operation"] : List Str) = Z at hvT hvD
  have hok : ∀ z ∈ Z, PyData.strOk z = true := fun z hz => by
    rw [← hZ] at hz
    simp only [List.mem_cons, List.not_mem_nil, or_false] at hz
    have h3 : z = "letter" ∨ z = "text" ∨ z = "operation" ∨ z = "number " ++ dN.shown ∨ z = "number " ++ dP.shown := by
      rcases hz with h | h | h | h | h | h | h | h | h | h | h | h <;> simp [h]
    rcases h3 with rfl | rfl | rfl | rfl | rfl
    · decide +kernel
    · decide +kernel
    · decide +kernel
    · exact numOk
    · exact plcOk
  have hodF := da_xn eF _ _ hodd
  have hbF := hb.xn eF
  obtain ⟨dx, a, bs, hob, _, _⟩ := id hbF
  refine s_ret (v := .bl true) (ev_is (ev_andV (a := true) (b := true) (ev_is (ev_eqD (d := .list (Z.map tdD)) (e := .list (Z.map tdD)) (evd_of (ev_var rfl) fun H1 e1 => .lst (sq_of (e1 _ _ hlT)) (Tds.dpa (hvT.xn (xn_ex e1)))) (evd_of (ev_var rfl) fun H1 e1 => .lst (sq_of (e1 _ _ hf)) (Tds.dpa (hvD.xn (xn_ex e1)))) (shaped_tds hok) (shaped_tds hok)) (congrArg V.bl (eqvAll_tds _))) fun _ => ev_is (ev_andV (a := true) (b := true) (ev_is (ev_isB (a := false) (b := false) (ev_callP (vs := [odd]) (ea_cons (ev_var rfl) ea_nil) fun H1 e1 => ⟨odd, dO, rfl, da_ex e1 _ _ hodF, oS, congrArg V.bl oL.symm⟩) ev_c) rfl) fun _ => ev_is (ev_op (ev_cb (vs := [.ref b]) (ea_cons (ev_var rfl) ea_nil) (rc_lenO (n := 3) hob (by decide) (by decide) fun H1 e1 => ⟨b, 3, rfl, hbF.ex e1, rfl⟩)) ev_c (rv_eq rfl)) rfl) rfl) rfl) fun H18 e18 => q H18 (fun b o hb hn ho => (eF.trans (xn_ex e18)) _ _ (base7 b o hb hn) ho) ?_ (t20.ext (ef.trans e18))
  obtain ⟨x, y, z, hd4⟩ := d7
  exact ⟨x, y, z, (eF.trans (xn_ex e18)) _ _ hd4 fun _ z => by cases z⟩
end
end Kz
set_option Elab.async false
set_option linter.all false
set_option maxRecDepth 100000
set_option maxHeartbeats 4000000
set_option exponentiation.threshold 500
namespace Kz
open PySem PySem.Spec PyProof.Rows L2 Evl Vr
local macro_rules | `(tactic| walk_at "sc") => `(tactic| first | (with_reducible assumption) | (with_reducible exact sc_mul (by omega)) | (with_reducible exact sc_mulr (by omega)) | (with_reducible exact sc_div (by omega) (by decide)) | (show (0 : Int) < _; omega) | (show _ ≠ (0 : Int); omega) | (with_reducible rfl) | decide)
local macro_rules | `(tactic| walk_at "sq") => `(tactic| first | assumption | exact sq_of (by assumption) | exact st_of (by assumption))
local macro_rules | `(tactic| walk_at "pl") => `(tactic| first | assumption | exact pl_int | exact pl_bl | exact pl_str | exact pl_non | exact pl_lst (by assumption) | exact pl_tup (by assumption) | exact pl_dK (by assumption))
local macro_rules | `(tactic| walk_at "rv") => `(tactic| first
  | with_reducible exact rv_I0
  | with_reducible exact ru_neg
  | ((with_reducible apply rv_I); walk_at "sc")
  | ((with_reducible apply rv_ixL); walk_at "sq"; first | rfl | assumption)
  | ((with_reducible apply rv_ixT); walk_at "sq"; first | rfl | assumption)
  | ((with_reducible apply rv_eq); rfl) | ((with_reducible apply rv_ne); rfl))
local macro_rules | `(tactic| walk_at "rc") => `(tactic| first
  | with_reducible exact rc_I1 | with_reducible exact rc_B1 | with_reducible exact rc_I2 | ((with_reducible apply rc_repr); walk_at "sc") | ((with_reducible apply rc_lenL); walk_at "sq")
  | ((with_reducible apply rc_isiInt); walk_at "pl") | ((with_reducible apply rc_isiBool); walk_at "pl"))
local macro_rules | `(tactic| walk_at "ea") => `(tactic| first
  | with_reducible exact ea_nil | ((with_reducible apply ea_cons); walk_at "ev"; walk_at "ea"))
local macro_rules | `(tactic| walk_at "pow") => `(tactic| first
  | with_reducible exact ev_pow (a := 10) (b := 9) (c := 1000000000) (by decide +kernel) (by decide +kernel)
  | with_reducible exact ev_pow (a := 10) (b := 10) (c := 10000000000) (by decide +kernel) (by decide +kernel)
  | with_reducible exact ev_pow (a := 10) (b := 12) (c := 1000000000000) (by decide +kernel) (by decide +kernel)
  | with_reducible exact ev_pow (a := 10) (b := 17) (c := 100000000000000000) (by decide +kernel) (by decide +kernel)
  | with_reducible exact ev_pow (a := 10) (b := 20) (c := 100000000000000000000) (by decide +kernel) (by decide +kernel)
  | with_reducible exact ev_pow (a := 10) (b := 29) (c := 100000000000000000000000000000) (by decide +kernel) (by decide +kernel)
  | with_reducible exact ev_pow (a := 10) (b := 30) (c := 1000000000000000000000000000000) (by decide +kernel) (by decide +kernel)
  | with_reducible exact ev_pow (a := 10) (b := 40) (c := 10000000000000000000000000000000000000000) (by decide +kernel) (by decide +kernel)
  | with_reducible exact ev_pow (a := 10) (b := 57) (c := 1000000000000000000000000000000000000000000000000000000000) (by decide +kernel) (by decide +kernel)
  | with_reducible exact ev_pow (a := 10) (b := 58) (c := 10000000000000000000000000000000000000000000000000000000000) (by decide +kernel) (by decide +kernel)
  | with_reducible exact ev_pow (a := 10) (b := 59) (c := 100000000000000000000000000000000000000000000000000000000000) (by decide +kernel) (by decide +kernel)
  | with_reducible exact ev_pow (a := 10) (b := 60) (c := 1000000000000000000000000000000000000000000000000000000000000) (by decide +kernel) (by decide +kernel))
local macro_rules | `(tactic| walk_at "call") => `(tactic| (intro H9 e9; first | exact ⟨_, rfl, rfl⟩ | exact ⟨_, _, rfl, rfl⟩ | exact ⟨_, _, _, rfl, rfl⟩ | exact ⟨_, rfl, by walk_at "pl", rfl⟩ | (refine ⟨_, _, _, rfl, ?_, rfl⟩; first | exact Plain.ex e9 (by assumption) | walk_at "pl") | (refine ⟨_, rfl, ?_, rfl⟩; first | exact Plain.ex e9 (by assumption) | walk_at "pl")))
local macro_rules | `(tactic| walk_at "ev") => `(tactic| first
  | with_reducible exact ev_c
  | exact ev_var rfl
  | walk_at "pow"
  | ((with_reducible apply ev_op); walk_at "ev"; walk_at "ev"; walk_at "rv")
  | ((with_reducible apply ev_un); walk_at "ev"; walk_at "rv")
  | ((with_reducible apply ev_cb); walk_at "ea"; walk_at "rc")
  | ((with_reducible apply ev_callP); walk_at "ea"; walk_at "call")
  | ((with_reducible apply ev_chain); walk_at "ev"; walk_at "ev"; walk_at "rv"; walk_at "ev"; walk_at "rv")
  | ((with_reducible apply ev_andV); walk_at "ev"; intro _; walk_at "ev")
  | ((with_reducible apply ev_orV); walk_at "ev"; intro _; walk_at "ev")
  | ((with_reducible apply ev_ite); walk_at "et"; intro _; walk_at "ev"; intro _; walk_at "ev")
  | ((with_reducible apply ev_notV); walk_at "ev"))
local macro_rules | `(tactic| walk_at "et") => `(tactic| first
  | ((with_reducible apply et_test); walk_at "ev")
  | ((with_reducible apply et_B); walk_at "ev")
  | ((with_reducible apply et_and); walk_at "et"; intro _; walk_at "et")
  | ((with_reducible apply et_or); walk_at "et"; intro _; walk_at "et")
  | ((with_reducible apply et_not); walk_at "et"))
open LamX Wo Tx
section
variable {K : PySem.W.Frag} {H H' : Hp} {σ : L2.St} {v : V} {d : PyData} {TL : List (Addr × Str)} {CL CT CN CO C b p : Addr} {i j : Nat} {te ta : TE} {E : XK} {tz : TS} {D : Ends} {ts : TA}
theorem go_mkBag {Q : VK} (h : EvW K ta σ H d) (hs : safesD d = true) (hl : letsD d = true) (k : ∀ x H1, H x = none → Ex H H1 → Bg K C H1 x (tupD d).length → Q (.ref x) H1) : tMake C (spInit K C CL) [] E (tCons ta tNil) σ H Q :=
  h H (Ex.refl H) _ fun v H1 e1 hv => fun x dx hx hdx hne => by
    show spInit K C CL [.ref x, v] _ _ E
    refine ⟨x, dx, v, d, rfl, upd_same, da_ex (ex_make hx hdx hne) _ _ hv, hs, fun _ H2 x2 h2 => ⟨rfl, ?_⟩, fun z => by rw [hl] at z; cases z⟩
    have e2 : Ex H1 H2 := Exd.out x2 (ex_make hx hdx hne) hx
    have ht : isTupD d = true := by
      unfold letsD at hl
      rw [Bool.and_eq_true] at hl
      exact hl.1
    obtain ⟨a, xs, rfl, hX, hD⟩ := (da_ex e2 _ _ hv).tupE ht
    exact k x H2 (fresh_back e1 hx) (e1.trans e2) ⟨dx, a, xs, h2, hX, hD.len⟩
theorem ew_u0 : EvW K (tTup tNil) σ H (.tuple []) := ew_tup ea_w0 (by show 0 ≤ 100000; decide)
theorem lets0 : letsD (.tuple []) = true := by decide +kernel
theorem safes0 : safesD (.tuple []) = true := by decide +kernel
theorem em_letter0 (hT : Tabs TL H) : Em K TL (tLam TL (TTmet K CL CT CN CO) fun E => tMeth C "letter" (spNum K C CN) [] E (tMake C (spInit K C CL) [] E (tCons (tTup tNil) tNil)) (tCons (tC (.int 0)) tNil)) σ H "number 0" := by
  have hz : outS .number (PyData.int 0) = "number 0" := by decide +kernel
  rw [← hz]
  refine em_of (v := .int 0) hT (fun E H1 Q' e1 hf => go_mkBag ew_u0 safes0 lets0 fun x H2 hx e2 hB => ?_) fun _ => ⟨⟨.int 0, by decide +kernel, by decide +kernel, by decide +kernel⟩, by decide +kernel⟩
  obtain ⟨dx, a, xs, ho, _, _⟩ := id hB
  exact ⟨x, dx, _, rfl, ho, rfl, ea_cons ev_c ea_nil H2 (Ex.refl H2) _ fun H3 e3 => by
    show spNum K C CN [.ref x, .int 0] H3 Q' E
    exact ⟨x, .int 0, 0, rfl, hB.ex e3, pl_int, by decide, hf H3 (e2.trans e3)⟩⟩
theorem em_jud0 (hT : Tabs TL H) : Em K TL (tLam TL (TTmet K CL CT CN CO) fun E => tCall (spHand K C CO) [] E (tCons (tMake C (spInit K C CL) [] E (tCons (tTup tNil) tNil)) (tCons (tTup (tCons (tC (.int 0)) tNil)) tNil))) σ H "operation" :=
  em_of (k := .oper) (v := .non) (y := .none) hT (fun E H1 Q' e1 hf => by
    show tMake C (spInit K C CL) [] E (tCons (tTup tNil) tNil) σ H1 (fun x H2 => (tCons (tTup (tCons (tC (.int 0)) tNil)) tNil) σ H2 fun vs H3 => spHand K C CO ((x :: vs) ++ []) H3 Q' E)
    refine go_mkBag ew_u0 safes0 lets0 fun x H2 hx e2 hB => ?_
    refine ew_tup (K := K) (ea_w1 (ew_c (.int 0)) ea_w0) (by show 1 ≤ 100000; decide) H2 (Ex.refl H2) _ fun u H3 e3 hu => ?_
    show spHand K C CO [.ref x, u] H3 Q' E
    exact ⟨.ref x, u, rfl, .inr ⟨x, 0, .tuple [.int 0], rfl, hB.ex e3, hu, by decide, by decide +kernel⟩, hf H3 (e2.trans e3)⟩) fun z => by cases z
theorem vS_inj {z z' : List Nat} (h : vS z = vS z') : z = z' := by
  have h1 : (S z) = (S z') := V.str.inj h
  have h2 : z.toArray = z'.toArray := Str.mk.inj h1
  have h3 := congrArg Array.toList h2
  simpa using h3
theorem em_readL {z : List Nat} (hs : σ[i]? = some (some (vS z))) (h0 : textErr (vS z) = false) (h1 : readSafe z = true) (h2 : readD z = false) (hl : z.length ≤ 1000) (hT : Tabs TL H) : Em K TL (tLam TL (TTmet K CL CT CN CO) fun E => tCall (spRead K CL CT) [] E (tCons (tVar i) tNil)) σ H "letter" :=
  em_call (k := .letter) (v := vS z) (y := .none) hT (fun H1 e1 => ap_eq (ea_cons (ev_var hs) ea_nil)) (fun vs E H1 Q' e1 hp hf => by
    subst hp
    refine ⟨vS z, rfl, pl_str, fun s hs => ?_, fun hz => ?_, fun z' hz _ => ?_⟩
    · have : S z = s := V.str.inj hs
      subst this
      show z.toArray.size ≤ 100000
      rw [List.size_toArray]
      omega
    · rw [h0] at hz; cases hz
    · cases vS_inj hz
      exact ⟨h1, h2, hf H1 (Ex.refl H1)⟩) (fun z => by cases z)
def lawZs : List (List Nat) := [[], [110], [105, 49, 59], [116, 48, 58], [116, 51, 58, 115, 52, 58, 119, 111, 114, 100, 105, 49, 59, 115, 50, 58, 103], [116, 51, 58, 115, 52, 58, 119, 111, 114, 100, 105, 49, 59, 115, 50, 58, 103, 111, 32]]
theorem lawZs_ok : lawZs.all (fun z => ((!textErr (vS z) && readSafe z) && !readD z) && decide (z.length ≤ 1000)) = true := by decide +kernel
theorem em_readZ {x : V} {k : Nat} (hx : (lawZs.map vS)[k]? = some x) (hs : σ[i]? = some (some x)) (hT : Tabs TL H) : Em K TL (tLam TL (TTmet K CL CT CN CO) fun E => tCall (spRead K CL CT) [] E (tCons (tVar i) tNil)) σ H "letter" := by
  rw [List.getElem?_map] at hx
  obtain ⟨z, hz, rfl⟩ := Option.map_eq_some_iff.mp hx
  have := List.all_eq_true.mp lawZs_ok z (List.mem_of_getElem? hz)
  simp only [Bool.and_eq_true, Bool.not_eq_true', decide_eq_true_eq] at this
  exact em_readL hs this.1.1.1 this.1.1.2 this.1.2 this.2 hT
theorem lawZs_is : lawZs.map vS = [.str "", .str "n", .str "i1;", .str "t0:", .str "t3:s4:wordi1;s2:g", .str "t3:s4:wordi1;s2:go "] := by decide +kernel
theorem evd_ee {zs : List Str} (h : EvE K te σ H zs) : EvD K te σ H (.list (zs.map tdD)) := fun H1 e Q q => h H1 e _ fun l H2 vs e2 hl hv => q _ _ e2 (.lst (sq_of hl) hv.dpa)
/-- if not right(dice): return False -/
theorem if_right {PR PL : Addr} {E : XK} {tu : TS} (hs : σ[i]? = some (some (.ref p))) (d : Dice p H) (t : Tabs (TLs PR PL) H) (k : ∀ H2, (∀ b o, H b = some o → b ≠ p → (∀ ps, o ≠ .tbl ps) → H2 b = some o) → Tabs (TLs PR PL) H2 → D.nx σ H2) :
    tIfS (tNot (tB (tCall (spRight K PR PL) [] E (tCons (tVar i) tNil)))) tu tNext D σ H :=
  ⟨.ref p, hs, ⟨p, rfl, d, t, fun H1 k1 d1 t1 => ⟨true, rfl, by
    show (if (!true) = true then tu D σ H1 else tNext D σ H1)
    rw [if_neg (by decide)]
    exact k H1 k1 t1⟩⟩⟩
end
section
variable {P : Program} {w : World} {K : PySem.W.Frag} {mg : Str → Option Value} {base : Heap}
def spLaw (K : PySem.W.Frag) (PR PL : Addr) : Sp := fun vs H Q _ => ∃ (a : Addr) (ns : List Int), vs = [.ref a] ∧ SqL K H a (ns.map V.int) ∧ ns.length ≤ 63 ∧ Tabs (TLs PR PL) H ∧ ∀ H', Q (.bl true) H'
theorem ok_law (T : Txt K mg w) {c cR PR PL fl : Addr} {fd : FuncData} (TBR : TabB base mg cR PR) (TB : TabB base mg c PL) (hne : PR ≠ PL) (FR : FunL K "_law_right" "_law_right" s_law_right cR T.a_law_right T.fd_law_right) (FL : FunL K "law" "law" s_law c fl fd) : FnG P w K mg base CX0 14 fl fd ["script"] (spLaw K PR PL) := by
  have G_law_dice := ok_dice (P := P) (w := w) (base := base) T
  have G_law_right := ok_right (P := P) (w := w) (base := base) T TBR hne FR
  have G_read_letter := ok_read_letter (P := P) (w := w) (base := base) T
  have G_Bag_letter := ok_letter (P := P) (w := w) (base := base) T
  have G_Bag___init__ := ok_init (P := P) (w := w) (base := base) T
  have G_judged_handing := ok_judged (P := P) (w := w) (base := base) T
  obtain ⟨ocM, odM, kVM, docM, pmM, anM, cdM, ctM, oslM, hfM, lkM, hcM⟩ := T.F_law_met.ex
  rw [hfM] at lkM
  have hbM := T.b_law_met
  rw [hfM] at hbM
  have hmT : (PL, qL) ∈ TLs PR PL := List.mem_cons_of_mem _ (List.mem_cons_self ..)
  have huT : ∀ p ∈ TLs PR PL, p.1 = PL → p.2 = qL := fun p hp e => by
    rcases List.mem_cons.mp hp with rfl | hp
    · exact absurd e hne
    · rw [List.mem_singleton.mp hp]
  refine FL.okG sc_law (fun vs H Q E h => ?_) (fun A outer s H vs Q E hr hg h => ?_)
  · obtain ⟨_, _, rfl, _⟩ := h; rfl
  obtain ⟨a, ns, rfl, hS, hlen, hT, q⟩ := h
  have gd0 : (A.deeper (envOfC "law" (defScope s_law) s.heap.objs.size fl (.ref c))).guards = some [] := hg
  have hu1 : (A.deeper (envOfC "law" (defScope s_law) s.heap.objs.size fl (.ref c))).units + 100 < cLine := by have := hr.un; omega
  have hu64 : (A.deeper (envOfC "law" (defScope s_law) s.heap.objs.size fl (.ref c))).units + 64 < cLine := by omega
  refine ⟨_, (pss_cons (ps_for PassesOwn.never rfl (pi_range1 rfl T.z_range (pa_cons (pe_callB (c_max rfl) (by rfl) T.z_max (by decide +kernel) (pa_cons pe_int (pa_cons (pe_callB (c_min rfl) (by rfl) T.z_min (by decide +kernel) (pa_cons pe_int (pa_cons (pe_callB c_len (by rfl) T.z_len PySem.boot_len (pa_cons (pv 0) pa_nil)) pa_nil))) pa_nil))) pa_nil)) (pg_name (i := 1) sc_law.nd rfl (.inl rfl)) (pss_one (ps_if (pt_not (pt_val (pe_callG G_law_right (hr.mono (by decide)) gd0 (by rfl) T.g_law_right T.F_law_right.kp T.b_law_right .nil pass0 (pa_cons (pe_call G_law_dice (hr.mono (by decide)) (by rfl) T.g_law_dice T.F_law_dice.kp T.b_law_dice .nil pass0 (pa_cons (pv 0) (pa_cons (pv 1) pa_nil))) pa_nil)))) (pss_one (ps_ret pe_bl)) pss_nil)))
  (pss_cons (ps_setLc (i := 2) (own := [("text", 3)]) (g := gName 3) (by rfl) sc_law.nd rfl rfl (sw_true rfl rfl rfl (by decide +kernel)) (pi_tup (pe_tup (pa_cons pe_str (pa_cons pe_str (pa_cons pe_str (pa_cons pe_str (pa_cons pe_str (pa_cons pe_str pa_nil)))))))) (blkOk_by (own := [("text", 3)]) (N := ["script", "spot", "told", "text"]) (sc := defScope s_law) (by decide +kernel)) (fun _ _ _ _ _ => pg_name (i := 3) sc_law.nd rfl (by first | exact Or.inl rfl | exact Or.inr rfl)) (fun _ _ _ _ _ => pts_nil) (fun _ _ _ _ _ => (pe_lamcall (T := TLs PR PL) (TT := TTmet K T.C_LE T.C_TE T.C_IN T.C_OE) rfl T.g_law_met T.F_law_met.kp lkM hcM hbM sc_law_met rfl (Or.inl rfl) (met_gives' T gd0 hu1 ⟨rfl, rfl, rfl, rfl⟩) TB rfl hmT huT (k := 10) (hr.mono (by decide)) (lamS_by (by kernel_rfl)) rfl (fun _ _ _ _ _ => rfl) (fun _ _ _ _ E _ _ hr => (pe_call G_read_letter (hr.mono (by decide)) (by rfl) T.g_read_letter T.F_read_letter.kp T.b_read_letter .nil (passes_call (W := fun cls d _ H => E cls d H) (takes_of rfl rfl rfl rfl) (fun _ _ _ _ h => h)) (pa_cons (pv 3) pa_nil))))))
  (pss_cons (ps_expr (pe_bm PySem.F.plainAttrs_list PySem.F.slot_list_append PySem.F.type_list_append mt_append (pv 2) (pa_cons (pe_lamcall (T := TLs PR PL) (TT := TTmet K T.C_LE T.C_TE T.C_IN T.C_OE) rfl T.g_law_met T.F_law_met.kp lkM hcM hbM sc_law_met rfl (Or.inl rfl) (met_gives' T gd0 hu1 ⟨rfl, rfl, rfl, rfl⟩) TB rfl hmT huT (k := 10) (hr.mono (by decide)) (lamS_by (by kernel_rfl)) rfl (fun _ _ _ _ _ => rfl) (fun _ _ _ _ E _ _ hr => (pe_meth (pe_make T.mk_Bag G_Bag___init__ (hr.mono (by decide)) (by rfl) T.g_Bag T.b_Bag___init__ .nil (passes_call (W := fun cls d _ H => E cls d H) (takes_of rfl rfl rfl rfl) (fun _ _ _ _ h => h)) (pa_cons (pe_tup pa_nil) pa_nil)) T.cl_Bag T.m_Bag_letter G_Bag_letter (hr.mono (by decide)) T.b_Bag_letter .nil (passes_call (W := fun cls d _ H => E cls d H) (takes_of rfl rfl rfl rfl) (fun _ _ _ _ h => h)) (pa_cons pe_int pa_nil)))) pa_nil)))
  (pss_cons (ps_expr (pe_bm PySem.F.plainAttrs_list PySem.F.slot_list_append PySem.F.type_list_append mt_append (pv 2) (pa_cons (pe_lamcall (T := TLs PR PL) (TT := TTmet K T.C_LE T.C_TE T.C_IN T.C_OE) rfl T.g_law_met T.F_law_met.kp lkM hcM hbM sc_law_met rfl (Or.inl rfl) (met_gives' T gd0 hu1 ⟨rfl, rfl, rfl, rfl⟩) TB rfl hmT huT (k := 10) (hr.mono (by decide)) (lamS_by (by kernel_rfl)) rfl (fun _ _ _ _ _ => rfl) (fun _ _ _ _ E _ _ hr => (pe_call G_judged_handing (hr.mono (by decide)) (by rfl) T.g_judged_handing T.F_judged_handing.kp T.b_judged_handing .nil (passes_call (W := fun cls d _ H => E cls d H) (takes_of rfl rfl rfl rfl) (fun _ _ _ _ h => h)) (pa_cons (pe_make T.mk_Bag G_Bag___init__ (hr.mono (by decide)) (by rfl) T.g_Bag T.b_Bag___init__ .nil (passes_call (W := fun cls d _ H => E cls d H) (takes_of rfl rfl rfl rfl) (fun _ _ _ _ h => h)) (pa_cons (pe_tup pa_nil) pa_nil)) (pa_cons (pe_tup (pa_cons pe_int pa_nil)) pa_nil))))) pa_nil)))
  (pss_cons (ps_if (pt_cmpR (op_neD hr.units) (pv 2) (pe_op op_cat (pe_op op_rep (pe_lst (pa_cons (pe_tup (pa_cons pe_str (pa_cons pe_str pa_nil))) pa_nil)) pe_int) (pe_lst (pa_cons (pe_tup (pa_cons pe_str (pa_cons pe_str pa_nil))) (pa_cons (pe_tup (pa_cons pe_str (pa_cons pe_str pa_nil))) pa_nil)))) (nomark _)) (pss_one (ps_ret pe_bl)) pss_nil)
  (pss_one (ps_ret (pe_and (pe_cmpR (op_eqD hr.units) (pe_tup (pa_cons (pe_glob (v := .int (-1)) rfl T.g_HOST ⟨_, rfl⟩) (pa_cons (pe_glob (v := .int (5)) rfl T.g_MOST_SEAT ⟨_, rfl⟩) (pa_cons (pe_glob (v := .int (20)) rfl T.g_MOST_WORDS ⟨_, rfl⟩) (pa_cons (pe_glob (v := .int (32)) rfl T.g_MOST_STRETCH ⟨_, rfl⟩) (pa_cons (pe_glob (v := .int (100)) rfl T.g_MOST_PIECES ⟨_, rfl⟩) (pa_cons (pe_glob (v := .int (200)) rfl T.g_MOST_PIECE ⟨_, rfl⟩) pa_nil))))))) (pe_tup (pa_cons (pe_un un_neg pe_int) (pa_cons pe_int (pa_cons pe_int (pa_cons pe_int (pa_cons pe_int (pa_cons pe_int pa_nil))))))) (nomark _)) (pe_one (pe_cmpR (op_eqD hr.units) (pe_fld (pe_make0 (E := E0) T.mk_Bag G_Bag___init__ (hr.mono (by decide)) (by rfl) T.g_Bag T.bd_Bag___init__ (.cons (a := V.ref T.e_Bag___init__) rfl .nil) passL) rfl) (pe_tup pa_nil) (nomark _))))))))))), ?_⟩
  have hcnt : ∃ m : Int, 0 ≤ m ∧ m ≤ 1000 ∧ (if (if (ns.map V.int).length < (4 : Int) then ((ns.map V.int).length : Int) else 4) > 1 then (if (ns.map V.int).length < (4 : Int) then ((ns.map V.int).length : Int) else 4) else 1) = m := ⟨_, by split <;> split <;> omega, by split <;> split <;> omega, rfl⟩
  obtain ⟨m, hm0, hm1, hm⟩ := hcnt
  refine q_forR1 (n := m) (ea_cons (ev_is (by walk_at "ev") (by rw [← hm])) ea_nil) ⟨hm0, by omega⟩ (fun i σ' H' => ExtN H H' ∧ Tabs (TLs PR PL) H' ∧ ∃ z1, σ' = [some (.ref a), z1, none, none]) (fun H1 e1 => ⟨xn_ex e1, hT.ext e1, none, rfl⟩) ?_ ?_
  · rintro i σ' H1 hi ⟨e1, t1, z1, rfl⟩
    exact ⟨.ref a, rfl, .int i, rfl, a, ns, i, rfl, xn_l e1 hS, fun p H3 hp e3 d3 => ⟨p, rfl, d3, t1.ext e3, fun H4 k4 d4 t4 => ⟨true, rfl, by
      show (if (!true) = true then _ else _)
      rw [if_neg (by decide)]
      exact ⟨fun b o hb ho => k4 b o (e3 _ _ (e1 b o hb ho)) (fun z => by subst z; have := e1 _ _ hb ho; rw [hp] at this; cases this) ho, t4, _, rfl⟩⟩⟩⟩
  rintro σ' H1 ⟨e1, t1, z1, rfl⟩
  refine q_asgM (K := K) (TL := TLs PR PL) (zs := List.replicate 6 "letter") (em_lcT (xs := lawZs.map vS) t1 (eu_tup (by rw [lawZs_is]; walk_at "ea") (by decide)) rfl (by decide) (fun _ => rfl) (fun k x z H' hx hz e' t' => ?_)) fun l H2 u2 nw e2 t2 hl2 hv2 => ?_
  · obtain rfl : z = "letter" := List.eq_of_mem_replicate (List.mem_of_getElem? hz)
    exact em_readZ hx rfl t'
  refine q_app (TL := TLs PR PL) (z := "number 0") (ev_var rfl) hl2 hv2 (by decide) (fun Hx ex => em_letter0 (t2.ext ex)) fun H3 u3 kp3 st3 t3 hl3 hv3 => ?_
  refine q_app (TL := TLs PR PL) (z := "operation") (ev_var rfl) hl3 hv3 (by decide) (fun Hx ex => em_jud0 (t3.ext ex)) fun H4 u4 kp4 st4 t4 hl4 hv4 => ?_
  have hv4 : Tds K H4 u4 (["letter", "letter", "letter", "letter", "letter", "letter", "number 0", "operation"] : List Str) := hv4
  have sh : SeqAt.shaped (.list ((["letter", "letter", "letter", "letter", "letter", "letter", "number 0", "operation"] : List Str).map tdD)) = true := by decide +kernel
  refine q_when (b := false) (et_is (et_test (ev_neD (d := .list ((["letter", "letter", "letter", "letter", "letter", "letter", "number 0", "operation"] : List Str).map tdD)) (e := .list ((["letter", "letter", "letter", "letter", "letter", "letter", "number 0", "operation"] : List Str).map tdD)) (evd_of (ev_var rfl) fun H1 e1 => .lst (sq_of (e1 _ _ hl4)) (Tds.dpa (hv4.xn (xn_ex e1)))) (evd_ee (ee_f (ef_cat (ee_f (ef_rep (n := 6) (ee_lst (ee1 (z := "letter") ev_c ee0) (by decide)) ev_c (by decide) (by decide) (by decide))) (ee_lst (ee1 (z := "number 0") ev_c (ee1 (z := "operation") ev_c ee0)) (by decide)) (by decide) (by decide)))) sh sh)) (by decide +kernel)) (fun h => by cases h) fun _ H5 e5 => ?_
  refine s_ret (v := .bl true) (ev_is (ev_andV (a := true) (b := true) (ev_is (ev_eqD (d := .tuple [.int (-1), .int 5, .int 20, .int 32, .int 100, .int 200]) (e := .tuple [.int (-1), .int 5, .int 20, .int 32, .int 100, .int 200]) (evd_tup (evda_cons (evd_int ev_c) (evda_cons (evd_int ev_c) (evda_cons (evd_int ev_c) (evda_cons (evd_int ev_c) (evda_cons (evd_int ev_c) (evda_cons (evd_int ev_c) evda_nil)))))) (by decide)) (evd_tup (evda_cons (evd_int (by walk_at "ev")) (evda_cons (evd_int ev_c) (evda_cons (evd_int ev_c) (evda_cons (evd_int ev_c) (evda_cons (evd_int ev_c) (evda_cons (evd_int ev_c) evda_nil)))))) (by decide)) (by decide +kernel) (by decide +kernel)) (by decide +kernel)) fun _ => ev_is (ev_eqD (d := .tuple []) (e := .tuple []) (evd_of (v := .ref T.e_Bag___init__) (fun H6 e6 Q6 q6 => ?_) fun H1 e1 => .tup (T.oe_Bag___init__ H1) .nil) (evd_tup evda_nil (by decide)) (by decide +kernel) (by decide +kernel)) (by decide +kernel)) rfl) fun H7 e7 => q H7
  exact fun x dx hx hdx hne => ⟨x, dx, .ref T.e_Bag___init__, .tuple [], rfl, upd_same, .tup (T.oe_Bag___init__ _) .nil, safes0, fun _ H2 x2 h2 => ⟨rfl, x, T.C_Bag, dx, _, .ref T.e_Bag___init__, rfl, h2, T.cl_Bag, T.n_Bag_letters, rfl, q6 H2 (Exd.out x2 (ex_make hx hdx hne) hx)⟩, fun z => by rw [lets0] at z; cases z⟩
end
end Kz
set_option Elab.async false
set_option linter.all false
set_option maxRecDepth 100000
set_option maxHeartbeats 4000000
/-! the end of a law whose promise is kept where no repr is under way, with tables of code objects -/
namespace L2
open PySem PySem.Spec PyProof.Rows Evl Vr LamX
def oxB (K : PySem.W.Frag) (C : Addr) (ni : String) (tl : List Value) : Bool := match K.lookup C with
  | some ⟨.type "type", _, .cls cd, sl⟩ => (match cd.mro, sl.toList with
    | .ref C' :: bm, [_, _, _, _, some (.builtin n), _] => C' == C && (n == ni && (!cd.hasDel && (decide (bm = tl) && cd.hasDict)))
    | _, _ => false)
  | _ => false
theorem oxB_ok {K : PySem.W.Frag} {C : Addr} {ni : String} {tl : List Value} (h : oxB K C ni tl = true) : ∃ nm q N bs sn sub ab col dd k0 k1 k2 k3 k5, K.lookup C = some (excClassObj nm q C N bs tl true sn sub ab col dd k0 k1 k2 k3 k5 ni) := by
  unfold oxB at h
  split at h
  · rename_i dd cd sl ho
    split at h
    · rename_i C' bm k0 k1 k2 k3 n k5 hm hs
      simp only [Bool.and_eq_true, beq_iff_eq, Bool.not_eq_true', decide_eq_true_eq] at h
      obtain ⟨rfl, rfl, h1, rfl, h2⟩ := h
      obtain ⟨nm, bs, mro, ns, qn, hd, sn, sub, ab, col, del⟩ := cd
      dsimp only at hm h1 h2
      subst hm h1 h2
      obtain ⟨l⟩ := sl
      have hs : l = [k0, k1, k2, k3, some (.builtin n), k5] := hs
      subst hs
      exact ⟨nm, qn, ns, bs, sn, sub, ab, col, dd, k0, k1, k2, k3, k5, ho⟩
    · cases h
  · cases h
/-- an object of a kind that is neither the script's nor a table's is not tracked -/
theorem law_callG {P : Program} {w : World} {K : PySem.W.Frag} {mg mb : Str → Option Value} {CX : CXT} {k : Nat} {fa a : Addr} {cs : List (Addr × Addr)} {fd : FuncData} {x : Str} {sp : Sp} {s : Shared} {us : List Value} {ns : List Int} (kin : K.In s.heap) (g0 : s.heap.Ns mainGlobals mg) (b0 : s.heap.Ns builtinsNs mb)
    (bb : ∀ x : Str, x ≠ "__name__" → mb x = bootBuiltins x) (lim : s.heap.NoLimit) (no : s.gens = #[]) (tabs : ∀ q ∈ cs, s.heap.get? q.2 = some { cls := .none, data := .fields #[] }) (free : ∀ q ∈ cs, K.lookup q.2 = none) (codes : ∀ q ∈ cs, PySem.W.CodeHd s.heap q.1 q.2)
    (main : ∃ (bm : Addr) (ob : Obj), mg "__builtins__" = some (.ref bm) ∧ bm ≠ builtinsNs ∧ s.heap.get? bm = some ob ∧ ob.cls = .type "module" ∧ ob.dict = some builtinsNs ∧ ob.data = .plain) (at_ : s.heap.get? a = some { cls := .type "list", data := .seq us.toArray }) (iva : IntsAre us ns) (short : ns.length ≤ sizeLine)
    (room : Room k callerA) (F : ∀ base : Heap, K.In base → base.Ns mainGlobals mg → (∀ q ∈ cs, TabB base mg q.1 q.2) → FnG P w K mg base CX k fa fd [x] sp) (bnd : ∀ (s : Shared) (u : Value), BindsTo s fd ⟨[u], []⟩ [(x, u)])
    (good : ∀ H : Hp, (∀ q ∈ cs, H q.2 = some (.tbl #[])) → SqL K H a (ns.map V.int) → sp [.ref a] H (fun v _ => v = .bl true) fun _ _ _ => False) (tight : ∀ H e s', CX [] H s (fun _ _ _ => False) e s' → False) :
    codeAny (model P w) callerA (.call (.ref fa) ⟨[.ref a], []⟩) (fun r s' => r = .ok (.ret (.bool true)) ∧ OldK s.heap s'.heap ∧ s'.os = s.os ∧ AllBare s'.gens) s := by
  have vals := vals_ints iva
  let ts := cs.map (·.2)
  have tab : ∀ b ∈ ts, s.heap.get? b = some { cls := .none, data := .fields #[] } := fun b hb => by obtain ⟨q, hq, rfl⟩ := List.mem_map.mp hb; exact tabs q hq
  have mem : ∀ q ∈ cs, q.2 ∈ ts := fun q hq => List.mem_map_of_mem hq
  have apart : a ∉ ts := fun z => by
    have h := tab a z; rw [at_] at h; exact absurd (congrArg Obj.data (Option.some.inj h)) (fun z => by cases z)
  have run : ∀ H : Hp, (∀ q ∈ cs, H q.2 = some (.tbl #[])) → SqL K H a (ns.map V.int) → HOk P w H s.heap → (∀ b, H b = none ∨ b ∈ ts ∨ (b = a ∧ K.lookup a = none ∧ ∃ o xs, H b = some (.frz o (.lst xs)))) →
      codeAny (model P w) callerA (.call (.ref fa) ⟨[.ref a], []⟩) (fun r s' => r = .ok (.ret (.bool true)) ∧ OldK s.heap s'.heap ∧ s'.os = s.os ∧ AllBare s'.gens) s := fun H hq hs ok only => by
    -- what is no list and no table is not tracked
    have away : ∀ {b : Addr} {o : Obj}, s.heap.get? b = some o → (∀ l n, o.data ≠ .seq l n) → o.data ≠ .fields #[] → H b = none := fun {b o} e h1 h2 => by
      rcases only b with z | z | ⟨rfl, _⟩
      · exact z
      · rw [tab b z] at e; cases e; exact absurd rfl h2
      · rw [at_] at e; cases e; exact absurd rfl (h1 _ _)
    have keepN : ∀ {b : Addr} {m : Str → Option Value}, s.heap.Ns b m → (hidT s.heap H).Ns b m := fun {b m} ⟨o, es, ep, e, d, r⟩ => ⟨o, es, ep, hidT_get e (away e (fun l n z => by rw [d] at z; cases z) (fun z => by rw [d] at z; cases z)), d, r⟩
    have kinB : K.In (hidT s.heap H) := fun b o e => hidT_get (kin b o e) (by
      rcases only b with z | z | ⟨rfl, z, _⟩
      · exact z
      · obtain ⟨q, hq, rfl⟩ := List.mem_map.mp z; rw [free q hq] at e; cases e
      · rw [z] at e; cases e)
    have M : L2.Mod K mg (hidT s.heap H) := ⟨kinB, keepN g0, ⟨mb, keepN b0, bb⟩, let ⟨mc, h1, h2⟩ := lim; ⟨mc, keepN h1, h2⟩⟩
    have TB : ∀ q ∈ cs, TabB (hidT s.heap H) mg q.1 q.2 := fun q hq2 => by
      refine ⟨?_, ?_, fun z => ?_⟩
      · obtain ⟨o, vs, f, tf, fl, tg, inF, tx, tt, e, r1, r2, r3, r⟩ := codes q hq2
        exact ⟨o, vs, f, tf, fl, tg, inF, tx, tt, hidT_get e (away e (fun l n z => by rw [r2] at z; cases z) (fun z => by rw [r2] at z; cases z; simp at r3)), r1, r2, r3, r⟩
      · obtain ⟨bm, ob, h1, h2, h3, h4, h5, h6⟩ := main
        refine ⟨bm, ob, h1, h2, fun z => ?_, fun z => ?_, hidT_get h3 (away h3 (fun l n z => by rw [h6] at z; cases z) (fun z => by rw [h6] at z; cases z)), h4, h5, h6⟩
        · obtain ⟨o, es, ep, e, d, _⟩ := g0; rw [z, e] at h3; cases h3; rw [d] at h6; cases h6
        · rw [z, tabs q hq2] at h3; cases h3; cases h6
      · obtain ⟨o, es, ep, e, d, _⟩ := g0; rw [z, tabs q hq2] at e; cases e; cases d
    have e0 : Env0 P w K mg (hidT s.heap H) callerA [] s H := ⟨rfl, M, fun b o e => of_hidT e, Nat.le_of_eq (hidT_size _ _), trivial, (fun b hb => absurd (show b ∈ ([] : List Addr) from hb) List.not_mem_nil), ok, .of_eq no⟩
    refine codeAny_mono ((F _ kinB (keepN g0) TB).go callerA [] s H ⟨[.ref a], []⟩ [.ref a] [.ref a] _ _ room rfl e0 (bnd s (.ref a)) (.cons rfl .nil) (good H hq hs)) fun r s' h => ?_
    cases r with
    | error e => exact (tight H e s' h).elim
    | ok fl =>
      cases fl with
      | next | brk | cont => exact h.elim
      | ret u =>
        obtain ⟨v, H', os, bare, un, ok', ru, hv⟩ := h
        have hv : v = .bl true := hv
        subst hv; obtain rfl : u = Value.bool true := ru
        have same : ∀ b o, b ∉ ts → s.heap.get? b = some o → s'.heap.get? b = some o := fun b o nb e => by
          rcases only b with z | z | ⟨_, _, o1, xs, z⟩
          · exact un.keep b o e z (fun m => absurd (show b ∈ ([] : List Addr) from m) List.not_mem_nil) (by simp)
          · exact absurd z nb
          · obtain ⟨e1, _⟩ := ok b _ z; obtain ⟨e2, _⟩ := ok' b _ (un.frzs b o1 _ z); rw [e] at e1; cases e1; exact e2
        have grew : ∀ q ∈ cs, ∃ more : Array Value, s'.heap.get? q.2 = some { cls := .none, data := .fields more } := fun q hq2 => by obtain ⟨more, z⟩ := un.tbls q.2 #[] (hq q hq2); exact ⟨_, ok' q.2 _ z⟩
        refine ⟨rfl, ⟨fun b o e => ?_, fun b o e => ?_⟩, os, bare⟩
        · by_cases hb : b ∈ ts
          · obtain ⟨q, hq2, rfl⟩ := List.mem_map.mp hb; obtain ⟨more, hm⟩ := grew q hq2; rw [tabs q hq2] at e; cases e
            exact .inr (.inl ⟨((codes q hq2).tab (tabs q hq2)).isCodeTable, rfl, #[], more, rfl, by rw [Array.empty_append]; exact hm⟩)
          · exact .inl (same b o hb e)
        · by_cases hb : b ∈ ts
          · obtain ⟨q, hq2, rfl⟩ := List.mem_map.mp hb; obtain ⟨more, hm⟩ := grew q hq2; exact ⟨_, hm⟩
          · exact ⟨o, same b o hb e⟩
  have len := iva.length
  by_cases hk : K.lookup a = none
  · refine run (fun b => if b = a then some (.frz { cls := .type "list", data := .seq us.toArray } (.lst (ns.map V.int))) else if b ∈ ts then some (.tbl #[]) else none) (fun q hq => ?_) (.inl (.inr ⟨_, if_pos rfl⟩)) (fun b u z => ?_) fun b => ?_
    · show (if q.2 = a then _ else if q.2 ∈ ts then _ else _) = _
      rw [if_neg (fun z => apart (by rw [← z]; exact mem q hq)), if_pos (mem q hq)]
    · by_cases h1 : b = a
      · have z := (if_pos h1).symm.trans z; cases z; subst h1
        exact ⟨at_, by rw [List.length_map]; exact short, us, _, vals, at_⟩
      · have z := (if_neg h1).symm.trans z
        by_cases h2 : b ∈ ts
        · have z := (if_pos h2).symm.trans z; cases z; exact tab b h2
        · have z := (if_neg h2).symm.trans z; cases z
    · by_cases h1 : b = a
      · exact .inr (.inr ⟨h1, hk, _, _, if_pos h1⟩)
      · by_cases h2 : b ∈ ts
        · exact .inr (.inl h2)
        · exact .inl ((if_neg h1).trans (if_neg h2))
  · obtain ⟨o, ho⟩ := Option.ne_none_iff_exists'.mp hk
    have e := kin a o ho
    rw [at_] at e; cases e
    refine run (fun b => if b ∈ ts then some (.tbl #[]) else none) (fun q hq => if_pos (mem q hq)) (.inr ⟨_, us.toArray, _, ho, rfl, rfl, rfl, by rw [List.size_toArray, len]; exact short, by simpa using vals⟩) (fun b u z => ?_) fun b => ?_
    · by_cases h2 : b ∈ ts
      · have z := (if_pos h2).symm.trans z; cases z; exact tab b h2
      · have z := (if_neg h2).symm.trans z; cases z
    · by_cases h2 : b ∈ ts
      · exact .inr (.inl h2)
      · exact .inl (if_neg h2)
/-- what is to be told of the law at the head's heap -/
def LawG (l : PySem.W.OpenLaw) (w : World) (K : PySem.W.Frag) (CX : CXT) (k n : Nat) (x : Str) (mg : Str → Option Value) (fa : Addr) (h : Heap) : Prop :=
  ∃ (fd : FuncData) (cs : List (Addr × Addr)) (sp : Sp), (∀ q ∈ cs, h.get? q.2 = some { cls := .none, data := .fields #[] }) ∧ (∀ q ∈ cs, K.lookup q.2 = none) ∧ (∀ q ∈ cs, PySem.W.CodeHd h q.1 q.2) ∧ (∀ (s : Shared) (u : Value), BindsTo s fd ⟨[u], []⟩ [(x, u)]) ∧
    (∀ (H : Hp) (a : Addr) (ns : List Int), ns.length ≤ n → (∀ q ∈ cs, H q.2 = some (.tbl #[])) → SqL K H a (ns.map V.int) → sp [.ref a] H (fun v _ => v = .bl true) fun _ _ _ => False) ∧ ∀ base : Heap, K.In base → base.Ns mainGlobals mg → (∀ q ∈ cs, TabB base mg q.1 q.2) → FnG l.prog w K mg base CX k fa fd [x] sp
theorem walk_ofG {l : PySem.W.OpenLaw} {n k : Nat} {q : Program} {loose : List Str} {XP : (Str → Option Value) → Heap → Prop} {YP : World → Heap → Prop} {d : DefRec} {K : Params → PySem.W.Frag} {CX : World → CXT} {x : Str} (hn : l.most = some n) (hn2 : n ≤ sizeLine) (hdf : d.params.defaults = []) (room : Room k callerA)
    (hY : ∀ (w : World) (h : Heap), YP w h → (K w.params).In h) (F : ∀ (w : World) (mg : Str → Option Value) (fa : Addr) (h : Heap), YP w h → (K w.params).In h → h.Ns mainGlobals mg → mg d.name = some (.ref fa) → LawG l w (K w.params) (CX w) k n x mg fa h)
    (tight : ∀ (w : World) (H : Hp) (s : Shared) (e : Value) (s' : Shared), CX w [] H s (fun _ _ _ => False) e s' → False) : PySem.W.WalkO q loose XP YP l.row.toRowW d [] (fun f vs => PySem.call f vs) :=
  Att.attach_call hn hdf fun w s₀ s₁ mg mb fa o pm cd doc a vs ns G Y ho hd hcd hmg hobj hints hlen hg => by
    obtain ⟨fd, cs, sp, h1, h2, h3, h4, h5, h6⟩ := F w mg fa _ Y (hY w _ Y) G.T.g hmg
    exact law_callG (hY w _ Y) G.T.g G.T.b G.T.builtins G.T.nolimit hg h1 h2 h3 G.T.bmain hobj hints (Nat.le_trans hlen hn2) room h6 h4 (fun H hH hS => h5 H a ns hlen hH hS) fun H e s' => tight w H s₁ e s'
end L2
set_option Elab.async false
set_option linter.all false
set_option maxRecDepth 100000
set_option maxHeartbeats 4000000
set_option exponentiation.threshold 500
namespace Kz
open PySem PySem.Spec PyProof.Rows L2 Evl Vr
open LamX Wo Tx
def oexB (K : PySem.W.Frag) (C : Addr) : Bool := match K.lookup C with
  | some ⟨.type "type", _, .cls cd, sl⟩ => (match cd.mro, sl.toList with
    | .ref C' :: bm, [_, _, _, _, some (.builtin n), _] => C' == C && (n == "ValueError.__new__" && (!cd.hasDel && (PySem.HandSPX.refsVE bm && cd.hasDict)))
    | _, _ => false)
  | _ => false
theorem oexB_ok {K : PySem.W.Frag} {C : Addr} (h : oexB K C = true) : ∃ nm q N bs bm sn sub ab col dd k0 k1 k2 k3 k5, K.lookup C = some (excClassObj nm q C N bs bm true sn sub ab col dd k0 k1 k2 k3 k5 "ValueError.__new__") ∧ PySem.HandSPX.refsVE bm = true := by
  unfold oexB at h
  split at h
  · rename_i dd cd sl ho
    split at h
    · rename_i C' bm k0 k1 k2 k3 n k5 hm hs
      simp only [Bool.and_eq_true, beq_iff_eq, Bool.not_eq_true', decide_eq_true_eq] at h
      obtain ⟨rfl, rfl, h1, hr, h2⟩ := h
      obtain ⟨nm, bs, mro, ns, qn, hd, sn, sub, ab, col, del⟩ := cd
      dsimp only at hm h1 h2
      subst hm h1 h2
      obtain ⟨l⟩ := sl
      have hs : l = [k0, k1, k2, k3, some (.builtin "ValueError.__new__"), k5] := hs
      subst hs
      exact ⟨nm, qn, ns, bs, bm, sn, sub, ab, col, dd, k0, k1, k2, k3, k5, ho, hr⟩
    · cases h
  · cases h
theorem vals_ref {e : Addr} {ds : List Value} (h : Vals [V.ref e] ds) : ds = [Value.ref e] := by
  cases h with
  | cons h t =>
    cases t
    cases h
    rfl
theorem vals_nil {ds : List Value} (h : Vals [] ds) : ds = [] := by
  cases h
  rfl
theorem all_mk {l : PySem.W.OpenLaw} {w : World} {K : PySem.W.Frag} {h : Heap} {mg : Str → Option Value} {fa f0 f1 f2 f3 f4 f5 f6 f7 f8 f9 f10 f11 f12 f13 f14 f15 f16 f17 f18 f19 f20 f21 f22 f23 f24 f25 f26 f27 f28 f29 f30 f31 f32 f33 f34 f35 f36 f37 f38 f39 f40 f41 f42 f43 f44 f45 f46 f47 f48 f49 : Addr} (X : K.In h) (G : h.Ns mainGlobals mg) (hfa : mg "law" = some (.ref fa)) {aFM : Addr} {esFM : Array DictEntry} {nFM : Nat} {aTH : Addr} {odTH : Option Addr} {tTH0 tTH1 : Tok} {nTH : Nat} {slTH : Array (Option Value)} {aWI : Addr} {odWI : Option Addr} {tWI0 tWI1 : Tok} {nWI : Nat} {slWI : Array (Option Value)} {aLE : Addr} {aTE : Addr} {aOE : Addr} {aIN fIN : Addr} {ocIN : Value} {odIN : Option Addr} {kVIN dcIN pmIN : Value} {anIN : Option Addr} {cdIN ctIN : Value} {slIN : Array (Option Value)} {aPE fPE : Addr} {ocPE : Value} {odPE : Option Addr} {kVPE dcPE pmPE : Value} {anPE : Option Addr} {cdPE ctPE : Value} {slPE : Array (Option Value)} {C_Bag : Addr} {t_MAX_SEATS : Tok} {t_MOST_ENTRY : Tok} {t_PRINT_MODULUS : Tok} {t_MOST_WORD : Tok} {t_HOST : Tok} {t_MOST_SEAT : Tok} {t_MOST_WORDS : Tok} {t_MOST_STRETCH : Tok} {t_MOST_PIECES : Tok} {t_MOST_PIECE : Tok} {t_MOST_TEXT : Tok} {t_MOST_LONG : Tok} {t_MOST_DEEP : Tok}
    {od0 an0 od1 an1 od2 an2 od3 an3 od4 an4 od5 an5 od6 an6 od7 an7 od8 an8 od9 an9 od10 an10 od11 an11 od12 an12 od13 an13 od14 an14 od15 an15 od16 an16 od17 an17 od18 an18 od19 an19 od20 an20 od21 an21 od22 an22 od23 an23 od24 an24 od25 an25 od26 an26 od27 an27 od28 an28 od29 an29 od30 an30 od31 an31 od32 an32 od33 an33 od34 an34 od35 an35 od36 an36 od37 an37 od38 an38 od39 an39 od40 an40 od41 an41 od42 an42 od43 an43 od44 an44 od45 an45 od46 an46 od47 an47 od48 an48 od49 an49 : Option Addr} {sl0 sl1 sl2 sl3 sl4 sl5 sl6 sl7 sl8 sl9 sl10 sl11 sl12 sl13 sl14 sl15 sl16 sl17 sl18 sl19 sl20 sl21 sl22 sl23 sl24 sl25 sl26 sl27 sl28 sl29 sl30 sl31 sl32 sl33 sl34 sl35 sl36 sl37 sl38 sl39 sl40 sl41 sl42 sl43 sl44 sl45 sl46 sl47 sl48 sl49 : Array (Option Value)} {oc0 kV0 dc0 pm0 cd0 ct0 oc1 kV1 dc1 pm1 cd1 ct1 oc2 kV2 dc2 pm2 cd2 ct2 oc3 kV3 dc3 pm3 cd3 ct3 oc4 kV4 dc4 pm4 cd4 ct4 oc5 kV5 dc5 pm5 cd5 ct5 oc6 kV6 dc6 pm6 cd6 ct6 oc7 kV7 dc7 pm7 cd7 ct7 oc8 kV8 dc8 pm8 cd8 ct8 oc9 kV9 dc9 pm9 cd9 ct9 oc10 kV10 dc10 pm10 cd10 ct10 oc11 kV11 dc11 pm11 cd11 ct11 oc12 kV12 dc12 pm12 cd12 ct12 oc13 kV13 dc13 pm13 cd13 ct13 oc14 kV14 dc14 pm14 cd14 ct14 oc15 kV15 dc15 pm15 cd15 ct15 oc16 kV16 dc16 pm16 cd16 ct16 oc17 kV17 dc17 pm17 cd17 ct17 oc18 kV18 dc18 pm18 cd18 ct18 oc19 kV19 dc19 pm19 cd19 ct19 oc20 kV20 dc20 pm20 cd20 ct20 oc21 kV21 dc21 pm21 cd21 ct21 oc22 kV22 dc22 pm22 cd22 ct22 oc23 kV23 dc23 pm23 cd23 ct23 oc24 kV24 dc24 pm24 cd24 ct24 oc25 kV25 dc25 pm25 cd25 ct25 oc26 kV26 dc26 pm26 cd26 ct26 oc27 kV27 dc27 pm27 cd27 ct27 oc28 kV28 dc28 pm28 cd28 ct28 oc29 kV29 dc29 pm29 cd29 ct29 oc30 kV30 dc30 pm30 cd30 ct30 oc31 kV31 dc31 pm31 cd31 ct31 oc32 kV32 dc32 pm32 cd32 ct32 oc33 kV33 dc33 pm33 cd33 ct33 oc34 kV34 dc34 pm34 cd34 ct34 oc35 kV35 dc35 pm35 cd35 ct35 oc36 kV36 dc36 pm36 cd36 ct36 oc37 kV37 dc37 pm37 cd37 ct37 oc38 kV38 dc38 pm38 cd38 ct38 oc39 kV39 dc39 pm39 cd39 ct39 oc40 kV40 dc40 pm40 cd40 ct40 oc41 kV41 dc41 pm41 cd41 ct41 oc42 kV42 dc42 pm42 cd42 ct42 oc43 kV43 dc43 pm43 cd43 ct43 oc44 kV44 dc44 pm44 cd44 ct44 oc45 kV45 dc45 pm45 cd45 ct45 oc46 kV46 dc46 pm46 cd46 ct46 oc47 kV47 dc47 pm47 cd47 ct47 oc48 kV48 dc48 pm48 ct48 oc49 kV49 dc49 pm49 ct49 : Value}
    (aC_Bag : PySem.W.nsIn K mainGlobals "Bag" = some (some (.ref C_Bag))) (pg_Bag : PySem.W.plainGet K C_Bag Str.empty = true) (hd_Bag : PySem.W.hasDictIn K C_Bag = true) (po_Bag : PySem.W.plainOver K C_Bag = true) (sa_Bag : PySem.W.findIn K (.ref C_Bag) "__setattr__" = some (some (.builtin "object.__setattr__"))) (mi_Bag : PySem.W.makesIn K C_Bag = true) (kc_Bag : PySem.W.keepIn K (.ref C_Bag) = true)
    (nA_Bag_letters : PySem.W.findIn K (.ref C_Bag) "letters" = some none)
    (a0 : PySem.W.nsIn K mainGlobals "is_integer" = some (some (.ref f0))) (l0 : K.lookup f0 = some ⟨oc0, od0, .func (PySem.W.fnOf "is_integer" "is_integer" (defArgs s_is_integer) (defBody s_is_integer) (defScope s_is_integer) .none kV0 dc0 pm0 an0 cd0 ct0), sl0⟩) (c0 : PySem.W.codeIn K cd0 "is_integer" = true) (k0 : PySem.W.keepIn K (.ref f0) = true)
    (a1 : PySem.W.nsIn K mainGlobals "is_within" = some (some (.ref f1))) (l1 : K.lookup f1 = some ⟨oc1, od1, .func (PySem.W.fnOf "is_within" "is_within" (defArgs s_is_within) (defBody s_is_within) (defScope s_is_within) .none kV1 dc1 pm1 an1 cd1 ct1), sl1⟩) (c1 : PySem.W.codeIn K cd1 "is_within" = true) (k1 : PySem.W.keepIn K (.ref f1) = true)
    (a2 : PySem.W.nsIn K mainGlobals "is_whole" = some (some (.ref f2))) (l2 : K.lookup f2 = some ⟨oc2, od2, .func (PySem.W.fnOf "is_whole" "is_whole" (defArgs s_is_whole) (defBody s_is_whole) (defScope s_is_whole) .none kV2 dc2 pm2 an2 cd2 ct2), sl2⟩) (c2 : PySem.W.codeIn K cd2 "is_whole" = true) (k2 : PySem.W.keepIn K (.ref f2) = true)
    (a3 : PySem.W.nsIn K mainGlobals "has_signs" = some (some (.ref f3))) (l3 : K.lookup f3 = some ⟨oc3, od3, .func (PySem.W.fnOf "has_signs" "has_signs" (defArgs s_has_signs) (defBody s_has_signs) (defScope s_has_signs) .none kV3 dc3 pm3 an3 cd3 ct3), sl3⟩) (c3 : PySem.W.codeIn K cd3 "has_signs" = true) (k3 : PySem.W.keepIn K (.ref f3) = true)
    (a4 : PySem.W.nsIn K mainGlobals "need_text" = some (some (.ref f4))) (l4 : K.lookup f4 = some ⟨oc4, od4, .func (PySem.W.fnOf "need_text" "need_text" (defArgs s_need_text) (defBody s_need_text) (defScope s_need_text) .none kV4 dc4 pm4 an4 cd4 ct4), sl4⟩) (c4 : PySem.W.codeIn K cd4 "need_text" = true) (k4 : PySem.W.keepIn K (.ref f4) = true)
    (a5 : PySem.W.nsIn K mainGlobals "need_short" = some (some (.ref f5))) (l5 : K.lookup f5 = some ⟨oc5, od5, .func (PySem.W.fnOf "need_short" "need_short" (defArgs s_need_short) (defBody s_need_short) (defScope s_need_short) .none kV5 dc5 pm5 an5 cd5 ct5), sl5⟩) (c5 : PySem.W.codeIn K cd5 "need_short" = true) (k5 : PySem.W.keepIn K (.ref f5) = true)
    (a6 : PySem.W.nsIn K mainGlobals "is_plain" = some (some (.ref f6))) (l6 : K.lookup f6 = some ⟨oc6, od6, .func (PySem.W.fnOf "is_plain" "is_plain" (defArgs s_is_plain) (defBody s_is_plain) (defScope s_is_plain) .none kV6 dc6 pm6 an6 cd6 ct6), sl6⟩) (c6 : PySem.W.codeIn K cd6 "is_plain" = true) (k6 : PySem.W.keepIn K (.ref f6) = true)
    (a7 : PySem.W.nsIn K mainGlobals "is_leaf" = some (some (.ref f7))) (l7 : K.lookup f7 = some ⟨oc7, od7, .func (PySem.W.fnOf "is_leaf" "is_leaf" (defArgs s_is_leaf) (defBody s_is_leaf) (defScope s_is_leaf) .none kV7 dc7 pm7 an7 cd7 ct7), sl7⟩) (c7 : PySem.W.codeIn K cd7 "is_leaf" = true) (k7 : PySem.W.keepIn K (.ref f7) = true)
    (a8 : PySem.W.nsIn K mainGlobals "is_short_tuple" = some (some (.ref f8))) (l8 : K.lookup f8 = some ⟨oc8, od8, .func (PySem.W.fnOf "is_short_tuple" "is_short_tuple" (defArgs s_is_short_tuple) (defBody s_is_short_tuple) (defScope s_is_short_tuple) .none kV8 dc8 pm8 an8 cd8 ct8), sl8⟩) (c8 : PySem.W.codeIn K cd8 "is_short_tuple" = true) (k8 : PySem.W.keepIn K (.ref f8) = true)
    (a9 : PySem.W.nsIn K mainGlobals "text_of" = some (some (.ref f9))) (l9 : K.lookup f9 = some ⟨oc9, od9, .func (PySem.W.fnOf "text_of" "text_of" (defArgs s_text_of) (defBody s_text_of) (defScope s_text_of) .none kV9 dc9 pm9 an9 cd9 ct9), sl9⟩) (c9 : PySem.W.codeIn K cd9 "text_of" = true) (k9 : PySem.W.keepIn K (.ref f9) = true)
    (a10 : PySem.W.nsIn K mainGlobals "text_of_leaf" = some (some (.ref f10))) (l10 : K.lookup f10 = some ⟨oc10, od10, .func (PySem.W.fnOf "text_of_leaf" "text_of_leaf" (defArgs s_text_of_leaf) (defBody s_text_of_leaf) (defScope s_text_of_leaf) .none kV10 dc10 pm10 an10 cd10 ct10), sl10⟩) (c10 : PySem.W.codeIn K cd10 "text_of_leaf" = true) (k10 : PySem.W.keepIn K (.ref f10) = true)
    (a11 : PySem.W.nsIn K mainGlobals "value_of" = some (some (.ref f11))) (l11 : K.lookup f11 = some ⟨oc11, od11, .func (PySem.W.fnOf "value_of" "value_of" (defArgs s_value_of) (defBody s_value_of) (defScope s_value_of) .none kV11 dc11 pm11 an11 cd11 ct11), sl11⟩) (c11 : PySem.W.codeIn K cd11 "value_of" = true) (k11 : PySem.W.keepIn K (.ref f11) = true)
    (a12 : PySem.W.nsIn K mainGlobals "leaf_at" = some (some (.ref f12))) (l12 : K.lookup f12 = some ⟨oc12, od12, .func (PySem.W.fnOf "leaf_at" "leaf_at" (defArgs s_leaf_at) (defBody s_leaf_at) (defScope s_leaf_at) .none kV12 dc12 pm12 an12 cd12 ct12), sl12⟩) (c12 : PySem.W.codeIn K cd12 "leaf_at" = true) (k12 : PySem.W.keepIn K (.ref f12) = true)
    (a13 : PySem.W.nsIn K mainGlobals "integer_at" = some (some (.ref f13))) (l13 : K.lookup f13 = some ⟨oc13, od13, .func (PySem.W.fnOf "integer_at" "integer_at" (defArgs s_integer_at) (defBody s_integer_at) (defScope s_integer_at) .none kV13 dc13 pm13 an13 cd13 ct13), sl13⟩) (c13 : PySem.W.codeIn K cd13 "integer_at" = true) (k13 : PySem.W.keepIn K (.ref f13) = true)
    (a14 : PySem.W.nsIn K mainGlobals "string_at" = some (some (.ref f14))) (l14 : K.lookup f14 = some ⟨oc14, od14, .func (PySem.W.fnOf "string_at" "string_at" (defArgs s_string_at) (defBody s_string_at) (defScope s_string_at) .none kV14 dc14 pm14 an14 cd14 ct14), sl14⟩) (c14 : PySem.W.codeIn K cd14 "string_at" = true) (k14 : PySem.W.keepIn K (.ref f14) = true)
    (a15 : PySem.W.nsIn K mainGlobals "count_at" = some (some (.ref f15))) (l15 : K.lookup f15 = some ⟨oc15, od15, .func (PySem.W.fnOf "count_at" "count_at" (defArgs s_count_at) (defBody s_count_at) (defScope s_count_at) .none kV15 dc15 pm15 an15 cd15 ct15), sl15⟩) (c15 : PySem.W.codeIn K cd15 "count_at" = true) (k15 : PySem.W.keepIn K (.ref f15) = true)
    (a16 : PySem.W.nsIn K mainGlobals "is_entry_of_seat" = some (some (.ref f16))) (l16 : K.lookup f16 = some ⟨oc16, od16, .func (PySem.W.fnOf "is_entry_of_seat" "is_entry_of_seat" (defArgs s_is_entry_of_seat) (defBody s_is_entry_of_seat) (defScope s_is_entry_of_seat) .none kV16 dc16 pm16 an16 cd16 ct16), sl16⟩) (c16 : PySem.W.codeIn K cd16 "is_entry_of_seat" = true) (k16 : PySem.W.keepIn K (.ref f16) = true)
    (a17 : PySem.W.nsIn K mainGlobals "is_joint_of_some" = some (some (.ref f17))) (l17 : K.lookup f17 = some ⟨oc17, od17, .func (PySem.W.fnOf "is_joint_of_some" "is_joint_of_some" (defArgs s_is_joint_of_some) (defBody s_is_joint_of_some) (defScope s_is_joint_of_some) .none kV17 dc17 pm17 an17 cd17 ct17), sl17⟩) (c17 : PySem.W.codeIn K cd17 "is_joint_of_some" = true) (k17 : PySem.W.keepIn K (.ref f17) = true)
    (a18 : PySem.W.nsIn K mainGlobals "is_print" = some (some (.ref f18))) (l18 : K.lookup f18 = some ⟨oc18, od18, .func (PySem.W.fnOf "is_print" "is_print" (defArgs s_is_print) (defBody s_is_print) (defScope s_is_print) .none kV18 dc18 pm18 an18 cd18 ct18), sl18⟩) (c18 : PySem.W.codeIn K cd18 "is_print" = true) (k18 : PySem.W.keepIn K (.ref f18) = true)
    (a19 : PySem.W.nsIn K mainGlobals "is_word" = some (some (.ref f19))) (l19 : K.lookup f19 = some ⟨oc19, od19, .func (PySem.W.fnOf "is_word" "is_word" (defArgs s_is_word) (defBody s_is_word) (defScope s_is_word) .none kV19 dc19 pm19 an19 cd19 ct19), sl19⟩) (c19 : PySem.W.codeIn K cd19 "is_word" = true) (k19 : PySem.W.keepIn K (.ref f19) = true)
    (a20 : PySem.W.nsIn K mainGlobals "is_keys_letter" = some (some (.ref f20))) (l20 : K.lookup f20 = some ⟨oc20, od20, .func (PySem.W.fnOf "is_keys_letter" "is_keys_letter" (defArgs s_is_keys_letter) (defBody s_is_keys_letter) (defScope s_is_keys_letter) .none kV20 dc20 pm20 an20 cd20 ct20), sl20⟩) (c20 : PySem.W.codeIn K cd20 "is_keys_letter" = true) (k20 : PySem.W.keepIn K (.ref f20) = true)
    (a21 : PySem.W.nsIn K mainGlobals "is_rows_letter" = some (some (.ref f21))) (l21 : K.lookup f21 = some ⟨oc21, od21, .func (PySem.W.fnOf "is_rows_letter" "is_rows_letter" (defArgs s_is_rows_letter) (defBody s_is_rows_letter) (defScope s_is_rows_letter) .none kV21 dc21 pm21 an21 cd21 ct21), sl21⟩) (c21 : PySem.W.codeIn K cd21 "is_rows_letter" = true) (k21 : PySem.W.keepIn K (.ref f21) = true)
    (a22 : PySem.W.nsIn K mainGlobals "is_piece_letter" = some (some (.ref f22))) (l22 : K.lookup f22 = some ⟨oc22, od22, .func (PySem.W.fnOf "is_piece_letter" "is_piece_letter" (defArgs s_is_piece_letter) (defBody s_is_piece_letter) (defScope s_is_piece_letter) .none kV22 dc22 pm22 an22 cd22 ct22), sl22⟩) (c22 : PySem.W.codeIn K cd22 "is_piece_letter" = true) (k22 : PySem.W.keepIn K (.ref f22) = true)
    (a23 : PySem.W.nsIn K mainGlobals "is_word_letter" = some (some (.ref f23))) (l23 : K.lookup f23 = some ⟨oc23, od23, .func (PySem.W.fnOf "is_word_letter" "is_word_letter" (defArgs s_is_word_letter) (defBody s_is_word_letter) (defScope s_is_word_letter) .none kV23 dc23 pm23 an23 cd23 ct23), sl23⟩) (c23 : PySem.W.codeIn K cd23 "is_word_letter" = true) (k23 : PySem.W.keepIn K (.ref f23) = true)
    (a24 : PySem.W.nsIn K mainGlobals "is_letter" = some (some (.ref f24))) (l24 : K.lookup f24 = some ⟨oc24, od24, .func (PySem.W.fnOf "is_letter" "is_letter" (defArgs s_is_letter) (defBody s_is_letter) (defScope s_is_letter) .none kV24 dc24 pm24 an24 cd24 ct24), sl24⟩) (c24 : PySem.W.codeIn K cd24 "is_letter" = true) (k24 : PySem.W.keepIn K (.ref f24) = true)
    (a25 : PySem.W.nsIn K mainGlobals "need_letter" = some (some (.ref f25))) (l25 : K.lookup f25 = some ⟨oc25, od25, .func (PySem.W.fnOf "need_letter" "need_letter" (defArgs s_need_letter) (defBody s_need_letter) (defScope s_need_letter) .none kV25 dc25 pm25 an25 cd25 ct25), sl25⟩) (c25 : PySem.W.codeIn K cd25 "need_letter" = true) (k25 : PySem.W.keepIn K (.ref f25) = true)
    (a26 : PySem.W.nsIn K mainGlobals "goal" = some (some (.ref f26))) (l26 : K.lookup f26 = some ⟨oc26, od26, .func (PySem.W.fnOf "goal" "goal" (defArgs s_goal) (defBody s_goal) (defScope s_goal) .none kV26 dc26 pm26 an26 cd26 ct26), sl26⟩) (c26 : PySem.W.codeIn K cd26 "goal" = true) (k26 : PySem.W.keepIn K (.ref f26) = true)
    (a27 : PySem.W.nsIn K mainGlobals "goal_of" = some (some (.ref f27))) (l27 : K.lookup f27 = some ⟨oc27, od27, .func (PySem.W.fnOf "goal_of" "goal_of" (defArgs s_goal_of) (defBody s_goal_of) (defScope s_goal_of) .none kV27 dc27 pm27 an27 cd27 ct27), sl27⟩) (c27 : PySem.W.codeIn K cd27 "goal_of" = true) (k27 : PySem.W.keepIn K (.ref f27) = true)
    (a28 : PySem.W.nsIn K mainGlobals "letter_text" = some (some (.ref f28))) (l28 : K.lookup f28 = some ⟨oc28, od28, .func (PySem.W.fnOf "letter_text" "letter_text" (defArgs s_letter_text) (defBody s_letter_text) (defScope s_letter_text) .none kV28 dc28 pm28 an28 cd28 ct28), sl28⟩) (c28 : PySem.W.codeIn K cd28 "letter_text" = true) (k28 : PySem.W.keepIn K (.ref f28) = true)
    (a29 : PySem.W.nsIn K mainGlobals "read_letter" = some (some (.ref f29))) (l29 : K.lookup f29 = some ⟨oc29, od29, .func (PySem.W.fnOf "read_letter" "read_letter" (defArgs s_read_letter) (defBody s_read_letter) (defScope s_read_letter) .none kV29 dc29 pm29 an29 cd29 ct29), sl29⟩) (c29 : PySem.W.codeIn K cd29 "read_letter" = true) (k29 : PySem.W.keepIn K (.ref f29) = true)
    {dT30 dE30 : Addr} {oT30 oE30 : Option Addr} {nT30 nE30 : Nat} {xT30 xE30 : Array (Option Value)}
    (a30 : PySem.W.findIn K (.ref C_Bag) "__init__" = some (some (.ref f30))) (i30 : PySem.W.isFn K (.ref f30) = true) (l30 : K.lookup f30 = some ⟨oc30, od30, .func (PySem.W.fnOf "__init__" "Bag.__init__" (defArgs s_Bag___init__) (defBody s_Bag___init__) (defScope s_Bag___init__) (.ref dT30) kV30 dc30 pm30 an30 cd30 ct30), sl30⟩) (c30 : PySem.W.codeIn K cd30 "Bag.__init__" = true) (k30 : PySem.W.keepIn K (.ref f30) = true)
    (lT30 : K.lookup dT30 = some ⟨.type "tuple", oT30, .seq #[.ref dE30] nT30, xT30⟩) (lE30 : K.lookup dE30 = some ⟨.type "tuple", oE30, .seq #[] nE30, xE30⟩)
    (a31 : PySem.W.findIn K (.ref C_Bag) "_fill" = some (some (.ref f31))) (i31 : PySem.W.isFn K (.ref f31) = true) (l31 : K.lookup f31 = some ⟨oc31, od31, .func (PySem.W.fnOf "_fill" "Bag._fill" (defArgs s_Bag__fill) (defBody s_Bag__fill) (defScope s_Bag__fill) .none kV31 dc31 pm31 an31 cd31 ct31), sl31⟩) (c31 : PySem.W.codeIn K cd31 "Bag._fill" = true) (k31 : PySem.W.keepIn K (.ref f31) = true)
    (a32 : PySem.W.findIn K (.ref C_Bag) "sent" = some (some (.ref f32))) (i32 : PySem.W.isFn K (.ref f32) = true) (l32 : K.lookup f32 = some ⟨oc32, od32, .func (PySem.W.fnOf "sent" "Bag.sent" (defArgs s_Bag_sent) (defBody s_Bag_sent) (defScope s_Bag_sent) .none kV32 dc32 pm32 an32 cd32 ct32), sl32⟩) (c32 : PySem.W.codeIn K cd32 "Bag.sent" = true) (k32 : PySem.W.keepIn K (.ref f32) = true)
    (a33 : PySem.W.findIn K (.ref C_Bag) "sent_all" = some (some (.ref f33))) (i33 : PySem.W.isFn K (.ref f33) = true) (l33 : K.lookup f33 = some ⟨oc33, od33, .func (PySem.W.fnOf "sent_all" "Bag.sent_all" (defArgs s_Bag_sent_all) (defBody s_Bag_sent_all) (defScope s_Bag_sent_all) .none kV33 dc33 pm33 an33 cd33 ct33), sl33⟩) (c33 : PySem.W.codeIn K cd33 "Bag.sent_all" = true) (k33 : PySem.W.keepIn K (.ref f33) = true)
    (a34 : PySem.W.findIn K (.ref C_Bag) "letter" = some (some (.ref f34))) (i34 : PySem.W.isFn K (.ref f34) = true) (l34 : K.lookup f34 = some ⟨oc34, od34, .func (PySem.W.fnOf "letter" "Bag.letter" (defArgs s_Bag_letter) (defBody s_Bag_letter) (defScope s_Bag_letter) .none kV34 dc34 pm34 an34 cd34 ct34), sl34⟩) (c34 : PySem.W.codeIn K cd34 "Bag.letter" = true) (k34 : PySem.W.keepIn K (.ref f34) = true)
    (a35 : PySem.W.findIn K (.ref C_Bag) "to" = some (some (.ref f35))) (i35 : PySem.W.isFn K (.ref f35) = true) (l35 : K.lookup f35 = some ⟨oc35, od35, .func (PySem.W.fnOf "to" "Bag.to" (defArgs s_Bag_to) (defBody s_Bag_to) (defScope s_Bag_to) .none kV35 dc35 pm35 an35 cd35 ct35), sl35⟩) (c35 : PySem.W.codeIn K cd35 "Bag.to" = true) (k35 : PySem.W.keepIn K (.ref f35) = true)
    (a36 : PySem.W.findIn K (.ref C_Bag) "__len__" = some (some (.ref f36))) (i36 : PySem.W.isFn K (.ref f36) = true) (l36 : K.lookup f36 = some ⟨oc36, od36, .func (PySem.W.fnOf "__len__" "Bag.__len__" (defArgs s_Bag___len__) (defBody s_Bag___len__) (defScope s_Bag___len__) .none kV36 dc36 pm36 an36 cd36 ct36), sl36⟩) (c36 : PySem.W.codeIn K cd36 "Bag.__len__" = true) (k36 : PySem.W.keepIn K (.ref f36) = true)
    (a37 : PySem.W.findIn K (.ref C_Bag) "__eq__" = some (some (.ref f37))) (i37 : PySem.W.isFn K (.ref f37) = true) (l37 : K.lookup f37 = some ⟨oc37, od37, .func (PySem.W.fnOf "__eq__" "Bag.__eq__" (defArgs s_Bag___eq__) (defBody s_Bag___eq__) (defScope s_Bag___eq__) .none kV37 dc37 pm37 an37 cd37 ct37), sl37⟩) (c37 : PySem.W.codeIn K cd37 "Bag.__eq__" = true) (k37 : PySem.W.keepIn K (.ref f37) = true)
    (a38 : PySem.W.findIn K (.ref C_Bag) "__str__" = some (some (.ref f38))) (i38 : PySem.W.isFn K (.ref f38) = true) (l38 : K.lookup f38 = some ⟨oc38, od38, .func (PySem.W.fnOf "__str__" "Bag.__str__" (defArgs s_Bag___str__) (defBody s_Bag___str__) (defScope s_Bag___str__) .none kV38 dc38 pm38 an38 cd38 ct38), sl38⟩) (c38 : PySem.W.codeIn K cd38 "Bag.__str__" = true) (k38 : PySem.W.keepIn K (.ref f38) = true)
    (a39 : PySem.W.nsIn K mainGlobals "bag_of" = some (some (.ref f39))) (l39 : K.lookup f39 = some ⟨oc39, od39, .func (PySem.W.fnOf "bag_of" "bag_of" (defArgs s_bag_of) (defBody s_bag_of) (defScope s_bag_of) .none kV39 dc39 pm39 an39 cd39 ct39), sl39⟩) (c39 : PySem.W.codeIn K cd39 "bag_of" = true) (k39 : PySem.W.keepIn K (.ref f39) = true)
    (a40 : PySem.W.nsIn K mainGlobals "need_letters" = some (some (.ref f40))) (l40 : K.lookup f40 = some ⟨oc40, od40, .func (PySem.W.fnOf "need_letters" "need_letters" (defArgs s_need_letters) (defBody s_need_letters) (defScope s_need_letters) .none kV40 dc40 pm40 an40 cd40 ct40), sl40⟩) (c40 : PySem.W.codeIn K cd40 "need_letters" = true) (k40 : PySem.W.keepIn K (.ref f40) = true)
    (a41 : PySem.W.nsIn K mainGlobals "is_number_of" = some (some (.ref f41))) (l41 : K.lookup f41 = some ⟨oc41, od41, .func (PySem.W.fnOf "is_number_of" "is_number_of" (defArgs s_is_number_of) (defBody s_is_number_of) (defScope s_is_number_of) .none kV41 dc41 pm41 an41 cd41 ct41), sl41⟩) (c41 : PySem.W.codeIn K cd41 "is_number_of" = true) (k41 : PySem.W.keepIn K (.ref f41) = true)
    (a42 : PySem.W.nsIn K mainGlobals "judged_handing" = some (some (.ref f42))) (l42 : K.lookup f42 = some ⟨oc42, od42, .func (PySem.W.fnOf "judged_handing" "judged_handing" (defArgs s_judged_handing) (defBody s_judged_handing) (defScope s_judged_handing) .none kV42 dc42 pm42 an42 cd42 ct42), sl42⟩) (c42 : PySem.W.codeIn K cd42 "judged_handing" = true) (k42 : PySem.W.keepIn K (.ref f42) = true)
    (a43 : PySem.W.nsIn K mainGlobals "_law_dice" = some (some (.ref f43))) (l43 : K.lookup f43 = some ⟨oc43, od43, .func (PySem.W.fnOf "_law_dice" "_law_dice" (defArgs s_law_dice) (defBody s_law_dice) (defScope s_law_dice) .none kV43 dc43 pm43 an43 cd43 ct43), sl43⟩) (c43 : PySem.W.codeIn K cd43 "_law_dice" = true) (k43 : PySem.W.keepIn K (.ref f43) = true)
    (a44 : PySem.W.nsIn K mainGlobals "_law_roll" = some (some (.ref f44))) (l44 : K.lookup f44 = some ⟨oc44, od44, .func (PySem.W.fnOf "_law_roll" "_law_roll" (defArgs s_law_roll) (defBody s_law_roll) (defScope s_law_roll) .none kV44 dc44 pm44 an44 cd44 ct44), sl44⟩) (c44 : PySem.W.codeIn K cd44 "_law_roll" = true) (k44 : PySem.W.keepIn K (.ref f44) = true)
    (a45 : PySem.W.nsIn K mainGlobals "_law_pick" = some (some (.ref f45))) (l45 : K.lookup f45 = some ⟨oc45, od45, .func (PySem.W.fnOf "_law_pick" "_law_pick" (defArgs s_law_pick) (defBody s_law_pick) (defScope s_law_pick) .none kV45 dc45 pm45 an45 cd45 ct45), sl45⟩) (c45 : PySem.W.codeIn K cd45 "_law_pick" = true) (k45 : PySem.W.keepIn K (.ref f45) = true)
    (a46 : PySem.W.nsIn K mainGlobals "_law_met" = some (some (.ref f46))) (l46 : K.lookup f46 = some ⟨oc46, od46, .func (PySem.W.fnOf "_law_met" "_law_met" (defArgs s_law_met) (defBody s_law_met) (defScope s_law_met) .none kV46 dc46 pm46 an46 cd46 ct46), sl46⟩) (c46 : PySem.W.codeIn K cd46 "_law_met" = true) (k46 : PySem.W.keepIn K (.ref f46) = true)
    (a47 : PySem.W.nsIn K mainGlobals "_law_odd_letters" = some (some (.ref f47))) (l47 : K.lookup f47 = some ⟨oc47, od47, .func (PySem.W.fnOf "_law_odd_letters" "_law_odd_letters" (defArgs s_law_odd_letters) (defBody s_law_odd_letters) (defScope s_law_odd_letters) .none kV47 dc47 pm47 an47 cd47 ct47), sl47⟩) (c47 : PySem.W.codeIn K cd47 "_law_odd_letters" = true) (k47 : PySem.W.keepIn K (.ref f47) = true)
    {cc48 pt48 : Addr} {ock48 : Value} {odk48 : Option Addr} {vk48 : Array Value} {slk48 : Array (Option Value)}
    (a48 : PySem.W.nsIn K mainGlobals "_law_right" = some (some (.ref f48))) (l48 : K.lookup f48 = some ⟨oc48, od48, .func (PySem.W.fnOf "_law_right" "_law_right" (defArgs s_law_right) (defBody s_law_right) (defScope s_law_right) .none kV48 dc48 pm48 an48 (.ref cc48) ct48), sl48⟩) (c48 : PySem.W.codeIn K (.ref cc48) "_law_right" = true) (k48 : PySem.W.keepIn K (.ref f48) = true)
    (u48 : K.lookup cc48 = some ⟨ock48, odk48, .fields vk48, slk48⟩) (w48 : vk48[11]? = some (.ref pt48)) (y48 : PySem.W.codeHdIn K cc48 pt48 = true) (r48 : h.get? pt48 = some { cls := .none, data := .fields #[] }) (fr48 : K.lookup pt48 = none)
    {cc49 pt49 : Addr} {ock49 : Value} {odk49 : Option Addr} {vk49 : Array Value} {slk49 : Array (Option Value)}
    (a49 : PySem.W.nsIn K mainGlobals "law" = some (some (.ref f49))) (l49 : K.lookup f49 = some ⟨oc49, od49, .func (PySem.W.fnOf "law" "law" (defArgs s_law) (defBody s_law) (defScope s_law) .none kV49 dc49 pm49 an49 (.ref cc49) ct49), sl49⟩) (c49 : PySem.W.codeIn K (.ref cc49) "law" = true) (k49 : PySem.W.keepIn K (.ref f49) = true)
    (u49 : K.lookup cc49 = some ⟨ock49, odk49, .fields vk49, slk49⟩) (w49 : vk49[11]? = some (.ref pt49)) (y49 : PySem.W.codeHdIn K cc49 pt49 = true) (r49 : h.get? pt49 = some { cls := .none, data := .fields #[] }) (fr49 : K.lookup pt49 = none)
    (z_abs : PySem.W.nsIn K mainGlobals "abs" = some none)
    (z_max : PySem.W.nsIn K mainGlobals "max" = some none)
    (z_min : PySem.W.nsIn K mainGlobals "min" = some none)
    (z_int : PySem.W.nsIn K mainGlobals "int" = some none)
    (z_len : PySem.W.nsIn K mainGlobals "len" = some none)
    (z_range : PySem.W.nsIn K mainGlobals "range" = some none)
    (z_repr : PySem.W.nsIn K mainGlobals "repr" = some none)
    (z_isinstance : PySem.W.nsIn K mainGlobals "isinstance" = some none)
    (z_sorted : PySem.W.nsIn K mainGlobals "sorted" = some none)
    (z_str : PySem.W.nsIn K mainGlobals "str" = some none)
    (z_bool : PySem.W.nsIn K mainGlobals "bool" = some none)
    (z_tuple : PySem.W.nsIn K mainGlobals "tuple" = some none)
    (z_list : PySem.W.nsIn K mainGlobals "list" = some none)
    (z_all : PySem.W.nsIn K mainGlobals "all" = some none)
    (z_enumerate : PySem.W.nsIn K mainGlobals "enumerate" = some none)
    (z_reversed : PySem.W.nsIn K mainGlobals "reversed" = some none)
    (v_MAX_SEATS : PySem.W.nsIn K mainGlobals "MAX_SEATS" = some (some (.int (4) t_MAX_SEATS)))
    (v_MOST_ENTRY : PySem.W.nsIn K mainGlobals "MOST_ENTRY" = some (some (.int (127) t_MOST_ENTRY)))
    (v_PRINT_MODULUS : PySem.W.nsIn K mainGlobals "PRINT_MODULUS" = some (some (.int (999999937) t_PRINT_MODULUS)))
    (v_MOST_WORD : PySem.W.nsIn K mainGlobals "MOST_WORD" = some (some (.int (63) t_MOST_WORD)))
    (v_HOST : PySem.W.nsIn K mainGlobals "HOST" = some (some (.int (-1) t_HOST)))
    (v_MOST_SEAT : PySem.W.nsIn K mainGlobals "MOST_SEAT" = some (some (.int (5) t_MOST_SEAT)))
    (v_MOST_WORDS : PySem.W.nsIn K mainGlobals "MOST_WORDS" = some (some (.int (20) t_MOST_WORDS)))
    (v_MOST_STRETCH : PySem.W.nsIn K mainGlobals "MOST_STRETCH" = some (some (.int (32) t_MOST_STRETCH)))
    (v_MOST_PIECES : PySem.W.nsIn K mainGlobals "MOST_PIECES" = some (some (.int (100) t_MOST_PIECES)))
    (v_MOST_PIECE : PySem.W.nsIn K mainGlobals "MOST_PIECE" = some (some (.int (200) t_MOST_PIECE)))
    (v_MOST_TEXT : PySem.W.nsIn K mainGlobals "MOST_TEXT" = some (some (.int (20000) t_MOST_TEXT)))
    (v_MOST_LONG : PySem.W.nsIn K mainGlobals "MOST_LONG" = some (some (.int (2000) t_MOST_LONG)))
    (v_MOST_DEEP : PySem.W.nsIn K mainGlobals "MOST_DEEP" = some (some (.int (200) t_MOST_DEEP)))
    (fA : PySem.W.nsIn K mainGlobals "FORMS" = some (some (.ref aFM)))
    (fL : K.lookup aFM = some ⟨.type "dict", none, .dict esFM nFM, #[]⟩)
    (fK : PySem.W.KeysLit w.params esFM.toList)
    (fS : (aFM == sysModules) = false)
    (tA : PySem.W.nsIn K mainGlobals "TO_HOST" = some (some (.ref aTH)))
    (tL : K.lookup aTH = some ⟨.type "tuple", odTH, .seq #[.str "keys" tTH0, .str "word" tTH1] nTH, slTH⟩)
    (wA : PySem.W.nsIn K mainGlobals "WISHES" = some (some (.ref aWI)))
    (wL : K.lookup aWI = some ⟨.type "tuple", odWI, .seq #[.str "come" tWI0, .str "go" tWI1] nWI, slWI⟩)
    (fkkeys : PySem.W.nsIn K aFM "keys" = some (some (.ref f20)))
    (fkrows : PySem.W.nsIn K aFM "rows" = some (some (.ref f21)))
    (fkpiece : PySem.W.nsIn K aFM "piece" = some (some (.ref f22)))
    (fkword : PySem.W.nsIn K aFM "word" = some (some (.ref f23)))
    (vha_Bag : PySem.W.findIn K (.ref C_Bag) "__class__" = some (some (.builtin "object.__class__")))
    (vhn_Bag : PySem.W.specialIn K (.builtin "object.__class__") "__get__" = some (some (.builtin "getset_descriptor.__get__")))
    (vht_Bag : PySem.W.takesIn K (.builtin "object.__class__") = some true)
    (vhm_Bag : PySem.W.mroIn K C_Bag (.type "object") = some true)
    (vhy_Bag : PySem.W.typeIn K (.ref C_Bag) = some (.type "type"))
    (vhs_Bag_tuple : PySem.W.subIn K (.type "tuple") (.ref C_Bag) = some false)
    (vne_Bag : PySem.W.findIn K (.ref C_Bag) "__ne__" = some (some (.builtin "object.__ne__")))
    (vob_Bag : PySem.W.subIn K (.ref C_Bag) (.type "object") = some true)
    (fkprint : PySem.W.nsIn K aFM "print" = some none)
    (wg_LE : PySem.W.nsIn K mainGlobals "InvalidLetter" = some (some (.ref aLE)))
    (wx_LE : PySem.W.excIn K aLE [.type "ValueError", .type "Exception", .type "BaseException", .type "object"] "ValueError.__new__" = true)
    (wk_LE : PySem.W.keepIn K (.ref aLE) = true)
    (we_LE : PySem.W.subIn K (.ref aLE) (.type "BaseException") = some true)
    (wy_LE : PySem.W.typeIn K (.ref aLE) = some (.type "type"))
    (wg_TE : PySem.W.nsIn K mainGlobals "InvalidText" = some (some (.ref aTE)))
    (wx_TE : PySem.W.excIn K aTE [.type "ValueError", .type "Exception", .type "BaseException", .type "object"] "ValueError.__new__" = true)
    (wk_TE : PySem.W.keepIn K (.ref aTE) = true)
    (we_TE : PySem.W.subIn K (.ref aTE) (.type "BaseException") = some true)
    (wy_TE : PySem.W.typeIn K (.ref aTE) = some (.type "type"))
    (wg_OE : PySem.W.nsIn K mainGlobals "InvalidOperation" = some (some (.ref aOE)))
    (wx_OE : PySem.W.excIn K aOE [.type "ValueError", .type "Exception", .type "BaseException", .type "object"] "ValueError.__new__" = true)
    (wk_OE : PySem.W.keepIn K (.ref aOE) = true)
    (we_OE : PySem.W.subIn K (.ref aOE) (.type "BaseException") = some true)
    (wy_OE : PySem.W.typeIn K (.ref aOE) = some (.type "type"))
    (wg_IN : PySem.W.nsIn K mainGlobals "InvalidNumber" = some (some (.ref aIN)))
    (wo_IN : oxB K aIN "IndexError.__new__" [.type "IndexError", .type "LookupError", .type "Exception", .type "BaseException", .type "object"] = true)
    (ws_IN : PySem.W.findIn K (.ref aIN) "__setattr__" = some (some (.builtin "object.__setattr__")))
    (wk_IN : PySem.W.keepIn K (.ref aIN) = true)
    (we_IN : PySem.W.subIn K (.ref aIN) (.type "BaseException") = some true)
    (wy_IN : PySem.W.typeIn K (.ref aIN) = some (.type "type"))
    (wi_IN : PySem.W.findIn K (.ref aIN) "__init__" = some (some (.ref fIN)))
    (wt_IN : PySem.W.typeIn K (.ref fIN) = some (.type "function"))
    (wl_IN : K.lookup fIN = some ⟨ocIN, odIN, .func (PySem.W.fnOf "__init__" "InvalidNumber.__init__" (defArgs s_InvalidNumber___init__) (defBody s_InvalidNumber___init__) (defScope s_InvalidNumber___init__) .none kVIN dcIN pmIN anIN cdIN ctIN), slIN⟩)
    (wc_IN : PySem.W.codeIn K cdIN "InvalidNumber.__init__" = true)
    (wq_IN : PySem.W.keepIn K (.ref fIN) = true)
    (wf_IN : PySem.W.findIn K (.ref aIN) "given" = some none)
    (wxf_IN : xfB K aIN = true)
    (wg_PE : PySem.W.nsIn K mainGlobals "ParseError" = some (some (.ref aPE)))
    (wo_PE : oexB K aPE = true)
    (ws_PE : PySem.W.findIn K (.ref aPE) "__setattr__" = some (some (.builtin "object.__setattr__")))
    (wk_PE : PySem.W.keepIn K (.ref aPE) = true)
    (we_PE : PySem.W.subIn K (.ref aPE) (.type "BaseException") = some true)
    (wy_PE : PySem.W.typeIn K (.ref aPE) = some (.type "type"))
    (wi_PE : PySem.W.findIn K (.ref aPE) "__init__" = some (some (.ref fPE)))
    (wt_PE : PySem.W.typeIn K (.ref fPE) = some (.type "function"))
    (wl_PE : K.lookup fPE = some ⟨ocPE, odPE, .func (PySem.W.fnOf "__init__" "ParseError.__init__" (defArgs s_ParseError___init__) (defBody s_ParseError___init__) (defScope s_ParseError___init__) .none kVPE dcPE pmPE anPE cdPE ctPE), slPE⟩)
    (wc_PE : PySem.W.codeIn K cdPE "ParseError.__init__" = true)
    (wq_PE : PySem.W.keepIn K (.ref fPE) = true)
    (wf_PE : PySem.W.findIn K (.ref aPE) "spot" = some none)
    (wxf_PE : xfB K aPE = true)
    (wm_LE_LE : PySem.W.exmOne K (.ref aLE) (.ref aLE) = some true)
    (wm_TE_LE : PySem.W.exmOne K (.ref aTE) (.ref aLE) = some false)
    (wm_TE_TE : PySem.W.exmOne K (.ref aTE) (.ref aTE) = some true)
    (wm_IN_LE : PySem.W.exmOne K (.ref aIN) (.ref aLE) = some false)
    (wm_IN_TE : PySem.W.exmOne K (.ref aIN) (.ref aTE) = some false)
    (wm_IN_IN : PySem.W.exmOne K (.ref aIN) (.ref aIN) = some true)
    (wm_OE_LE : PySem.W.exmOne K (.ref aOE) (.ref aLE) = some false)
    (wm_OE_TE : PySem.W.exmOne K (.ref aOE) (.ref aTE) = some false)
    (wm_OE_IN : PySem.W.exmOne K (.ref aOE) (.ref aIN) = some false)
    (wm_OE_OE : PySem.W.exmOne K (.ref aOE) (.ref aOE) = some true)
    (wm_PE_PE : PySem.W.exmOne K (.ref aPE) (.ref aPE) = some true)
    (wm_TE_PE : PySem.W.exmOne K (.ref aTE) (.ref aPE) = some false)
    (vhs_Bag_list : PySem.W.subIn K (.type "list") (.ref C_Bag) = some false)
    (vhs_Bag_NoneType : PySem.W.subIn K (.type "NoneType") (.ref C_Bag) = some false)
    (vhs_Bag_int : PySem.W.subIn K (.type "int") (.ref C_Bag) = some false)
    (vhs_Bag_str : PySem.W.subIn K (.type "str") (.ref C_Bag) = some false)
    (hne : pt48 ≠ pt49)
    : LawG l w K CX0 14 63 "script" mg fa h := by
  have e := hfa.symm.trans (PySem.W.mg_of X G a49)
  cases e
  have F0 := fun_mk (st := s_is_integer) l0 c0 k0
  have b0 := F0.binds (ps := ["value"]) fun _ _ _ _ _ _ us hl => match us, hl with | [_], _ => rfl
  have F1 := fun_mk (st := s_is_within) l1 c1 k1
  have b1 := F1.binds (ps := ["value", "low", "high"]) fun _ _ _ _ _ _ us hl => match us, hl with | [_, _, _], _ => rfl
  have F2 := fun_mk (st := s_is_whole) l2 c2 k2
  have b2 := F2.binds (ps := ["value"]) fun _ _ _ _ _ _ us hl => match us, hl with | [_], _ => rfl
  have F3 := fun_mk (st := s_has_signs) l3 c3 k3
  have b3 := F3.binds (ps := ["value", "least", "most"]) fun _ _ _ _ _ _ us hl => match us, hl with | [_, _, _], _ => rfl
  have F4 := fun_mk (st := s_need_text) l4 c4 k4
  have b4 := F4.binds (ps := ["value"]) fun _ _ _ _ _ _ us hl => match us, hl with | [_], _ => rfl
  have F5 := fun_mk (st := s_need_short) l5 c5 k5
  have b5 := F5.binds (ps := ["text"]) fun _ _ _ _ _ _ us hl => match us, hl with | [_], _ => rfl
  have F6 := fun_mk (st := s_is_plain) l6 c6 k6
  have b6 := F6.binds (ps := ["value"]) fun _ _ _ _ _ _ us hl => match us, hl with | [_], _ => rfl
  have F7 := fun_mk (st := s_is_leaf) l7 c7 k7
  have b7 := F7.binds (ps := ["value"]) fun _ _ _ _ _ _ us hl => match us, hl with | [_], _ => rfl
  have F8 := fun_mk (st := s_is_short_tuple) l8 c8 k8
  have b8 := F8.binds (ps := ["value"]) fun _ _ _ _ _ _ us hl => match us, hl with | [_], _ => rfl
  have F9 := fun_mk (st := s_text_of) l9 c9 k9
  have b9 := F9.binds (ps := ["value"]) fun _ _ _ _ _ _ us hl => match us, hl with | [_], _ => rfl
  have F10 := fun_mk (st := s_text_of_leaf) l10 c10 k10
  have b10 := F10.binds (ps := ["value"]) fun _ _ _ _ _ _ us hl => match us, hl with | [_], _ => rfl
  have F11 := fun_mk (st := s_value_of) l11 c11 k11
  have b11 := F11.binds (ps := ["text"]) fun _ _ _ _ _ _ us hl => match us, hl with | [_], _ => rfl
  have F12 := fun_mk (st := s_leaf_at) l12 c12 k12
  have b12 := F12.binds (ps := ["text", "at"]) fun _ _ _ _ _ _ us hl => match us, hl with | [_, _], _ => rfl
  have F13 := fun_mk (st := s_integer_at) l13 c13 k13
  have b13 := F13.binds (ps := ["text", "at"]) fun _ _ _ _ _ _ us hl => match us, hl with | [_, _], _ => rfl
  have F14 := fun_mk (st := s_string_at) l14 c14 k14
  have b14 := F14.binds (ps := ["text", "at"]) fun _ _ _ _ _ _ us hl => match us, hl with | [_, _], _ => rfl
  have F15 := fun_mk (st := s_count_at) l15 c15 k15
  have b15 := F15.binds (ps := ["text", "at", "most", "mark"]) fun _ _ _ _ _ _ us hl => match us, hl with | [_, _, _, _], _ => rfl
  have F16 := fun_mk (st := s_is_entry_of_seat) l16 c16 k16
  have b16 := F16.binds (ps := ["value"]) fun _ _ _ _ _ _ us hl => match us, hl with | [_], _ => rfl
  have F17 := fun_mk (st := s_is_joint_of_some) l17 c17 k17
  have b17 := F17.binds (ps := ["value"]) fun _ _ _ _ _ _ us hl => match us, hl with | [_], _ => rfl
  have F18 := fun_mk (st := s_is_print) l18 c18 k18
  have b18 := F18.binds (ps := ["value"]) fun _ _ _ _ _ _ us hl => match us, hl with | [_], _ => rfl
  have F19 := fun_mk (st := s_is_word) l19 c19 k19
  have b19 := F19.binds (ps := ["value"]) fun _ _ _ _ _ _ us hl => match us, hl with | [_], _ => rfl
  have F20 := fun_mk (st := s_is_keys_letter) l20 c20 k20
  have b20 := F20.binds (ps := ["value"]) fun _ _ _ _ _ _ us hl => match us, hl with | [_], _ => rfl
  have F21 := fun_mk (st := s_is_rows_letter) l21 c21 k21
  have b21 := F21.binds (ps := ["value"]) fun _ _ _ _ _ _ us hl => match us, hl with | [_], _ => rfl
  have F22 := fun_mk (st := s_is_piece_letter) l22 c22 k22
  have b22 := F22.binds (ps := ["value"]) fun _ _ _ _ _ _ us hl => match us, hl with | [_], _ => rfl
  have F23 := fun_mk (st := s_is_word_letter) l23 c23 k23
  have b23 := F23.binds (ps := ["value"]) fun _ _ _ _ _ _ us hl => match us, hl with | [_], _ => rfl
  have F24 := fun_mk (st := s_is_letter) l24 c24 k24
  have b24 := F24.binds (ps := ["value"]) fun _ _ _ _ _ _ us hl => match us, hl with | [_], _ => rfl
  have F25 := fun_mk (st := s_need_letter) l25 c25 k25
  have b25 := F25.binds (ps := ["value"]) fun _ _ _ _ _ _ us hl => match us, hl with | [_], _ => rfl
  have F26 := fun_mk (st := s_goal) l26 c26 k26
  have b26 := F26.binds (ps := ["letter"]) fun _ _ _ _ _ _ us hl => match us, hl with | [_], _ => rfl
  have F27 := fun_mk (st := s_goal_of) l27 c27 k27
  have b27 := F27.binds (ps := ["letter"]) fun _ _ _ _ _ _ us hl => match us, hl with | [_], _ => rfl
  have F28 := fun_mk (st := s_letter_text) l28 c28 k28
  have b28 := F28.binds (ps := ["letter"]) fun _ _ _ _ _ _ us hl => match us, hl with | [_], _ => rfl
  have F29 := fun_mk (st := s_read_letter) l29 c29 k29
  have b29 := F29.binds (ps := ["text"]) fun _ _ _ _ _ _ us hl => match us, hl with | [_], _ => rfl
  have F30 : FunD K "__init__" "Bag.__init__" (defArgs s_Bag___init__) (defBody s_Bag___init__) (defScope s_Bag___init__) [V.ref dE30] [] f30 _ := ⟨⟨_, _, _, _, _, _, _, _, _, _, rfl, l30, c30, .inr ⟨by simp, dT30, _, [.ref dE30], _, rfl, lT30, rfl, .cons rfl .nil⟩, .inl rfl⟩, k30⟩
  obtain ⟨ds, hv, bd30⟩ := F30.binds1 (ps := ["self", "letters"]) 1 0 (by simp) rfl fun _ _ _ _ _ _ _ us its hu hi => match us, hu, its, hi with | [_], _, [_], _ => ⟨_, rfl, rfl⟩
  obtain rfl := vals_ref hv
  obtain ⟨ds, hv, b30⟩ := F30.binds1 (ps := ["self", "letters"]) 2 1 (by simp) rfl fun _ _ _ _ _ _ _ us its hu hi => match us, hu, its, hi with | [_, _], _, [_], _ => ⟨_, rfl, rfl⟩
  obtain rfl := vals_nil hv
  have F31 := fun_mk (st := s_Bag__fill) l31 c31 k31
  have b31 := F31.binds (ps := ["self", "letters"]) fun _ _ _ _ _ _ us hl => match us, hl with | [_, _], _ => rfl
  have F32 := fun_mk (st := s_Bag_sent) l32 c32 k32
  have b32 := F32.binds (ps := ["self", "letter"]) fun _ _ _ _ _ _ us hl => match us, hl with | [_, _], _ => rfl
  have F33 := fun_mk (st := s_Bag_sent_all) l33 c33 k33
  have b33 := F33.binds (ps := ["self", "letters"]) fun _ _ _ _ _ _ us hl => match us, hl with | [_, _], _ => rfl
  have F34 := fun_mk (st := s_Bag_letter) l34 c34 k34
  have b34 := F34.binds (ps := ["self", "number"]) fun _ _ _ _ _ _ us hl => match us, hl with | [_, _], _ => rfl
  have F35 := fun_mk (st := s_Bag_to) l35 c35 k35
  have b35 := F35.binds (ps := ["self", "goal"]) fun _ _ _ _ _ _ us hl => match us, hl with | [_, _], _ => rfl
  have F36 := fun_mk (st := s_Bag___len__) l36 c36 k36
  have b36 := F36.binds (ps := ["self"]) fun _ _ _ _ _ _ us hl => match us, hl with | [_], _ => rfl
  have F37 := fun_mk (st := s_Bag___eq__) l37 c37 k37
  have b37 := F37.binds (ps := ["self", "other"]) fun _ _ _ _ _ _ us hl => match us, hl with | [_, _], _ => rfl
  have F38 := fun_mk (st := s_Bag___str__) l38 c38 k38
  have b38 := F38.binds (ps := ["self"]) fun _ _ _ _ _ _ us hl => match us, hl with | [_], _ => rfl
  have F39 := fun_mk (st := s_bag_of) l39 c39 k39
  have b39 := F39.binds (ps := ["letters"]) fun _ _ _ _ _ _ us hl => match us, hl with | [_], _ => rfl
  have F40 := fun_mk (st := s_need_letters) l40 c40 k40
  have b40 := F40.binds (ps := ["value"]) fun _ _ _ _ _ _ us hl => match us, hl with | [_], _ => rfl
  have F41 := fun_mk (st := s_is_number_of) l41 c41 k41
  have b41 := F41.binds (ps := ["bag", "value"]) fun _ _ _ _ _ _ us hl => match us, hl with | [_, _], _ => rfl
  have F42 := fun_mk (st := s_judged_handing) l42 c42 k42
  have b42 := F42.binds (ps := ["bag", "handing"]) fun _ _ _ _ _ _ us hl => match us, hl with | [_, _], _ => rfl
  have F43 := fun_mk (st := s_law_dice) l43 c43 k43
  have b43 := F43.binds (ps := ["script", "spot"]) fun _ _ _ _ _ _ us hl => match us, hl with | [_, _], _ => rfl
  have F44 := fun_mk (st := s_law_roll) l44 c44 k44
  have b44 := F44.binds (ps := ["dice", "total"]) fun _ _ _ _ _ _ us hl => match us, hl with | [_, _], _ => rfl
  have F45 := fun_mk (st := s_law_pick) l45 c45 k45
  have b45 := F45.binds (ps := ["dice", "items"]) fun _ _ _ _ _ _ us hl => match us, hl with | [_, _], _ => rfl
  have F46 := fun_mk (st := s_law_met) l46 c46 k46
  have b46 := F46.binds (ps := ["call"]) fun _ _ _ _ _ _ us hl => match us, hl with | [_], _ => rfl
  have F47 := fun_mk (st := s_law_odd_letters) l47 c47 k47
  have b47 := F47.binds (ps := []) fun _ _ _ _ _ _ us hl => match us, hl with | [], _ => rfl
  have F48 := fun_mk (st := s_law_right) l48 c48 k48
  have b48 := F48.binds (ps := ["dice"]) fun _ _ _ _ _ _ us hl => match us, hl with | [_], _ => rfl
  have F49 := fun_mk (st := s_law) l49 c49 k49
  let T : Txt K mg w := {
    a_is_integer := f0
    fd_is_integer := _
    F_is_integer := F0
    g_is_integer := PySem.W.mg_of X G a0
    b_is_integer := b0
    a_is_within := f1
    fd_is_within := _
    F_is_within := F1
    g_is_within := PySem.W.mg_of X G a1
    b_is_within := b1
    a_is_whole := f2
    fd_is_whole := _
    F_is_whole := F2
    g_is_whole := PySem.W.mg_of X G a2
    b_is_whole := b2
    a_has_signs := f3
    fd_has_signs := _
    F_has_signs := F3
    g_has_signs := PySem.W.mg_of X G a3
    b_has_signs := b3
    a_need_text := f4
    fd_need_text := _
    F_need_text := F4
    g_need_text := PySem.W.mg_of X G a4
    b_need_text := b4
    a_need_short := f5
    fd_need_short := _
    F_need_short := F5
    g_need_short := PySem.W.mg_of X G a5
    b_need_short := b5
    a_is_plain := f6
    fd_is_plain := _
    F_is_plain := F6
    g_is_plain := PySem.W.mg_of X G a6
    b_is_plain := b6
    a_is_leaf := f7
    fd_is_leaf := _
    F_is_leaf := F7
    g_is_leaf := PySem.W.mg_of X G a7
    b_is_leaf := b7
    a_is_short_tuple := f8
    fd_is_short_tuple := _
    F_is_short_tuple := F8
    g_is_short_tuple := PySem.W.mg_of X G a8
    b_is_short_tuple := b8
    a_text_of := f9
    fd_text_of := _
    F_text_of := F9
    g_text_of := PySem.W.mg_of X G a9
    b_text_of := b9
    a_text_of_leaf := f10
    fd_text_of_leaf := _
    F_text_of_leaf := F10
    g_text_of_leaf := PySem.W.mg_of X G a10
    b_text_of_leaf := b10
    a_value_of := f11
    fd_value_of := _
    F_value_of := F11
    g_value_of := PySem.W.mg_of X G a11
    b_value_of := b11
    a_leaf_at := f12
    fd_leaf_at := _
    F_leaf_at := F12
    g_leaf_at := PySem.W.mg_of X G a12
    b_leaf_at := b12
    a_integer_at := f13
    fd_integer_at := _
    F_integer_at := F13
    g_integer_at := PySem.W.mg_of X G a13
    b_integer_at := b13
    a_string_at := f14
    fd_string_at := _
    F_string_at := F14
    g_string_at := PySem.W.mg_of X G a14
    b_string_at := b14
    a_count_at := f15
    fd_count_at := _
    F_count_at := F15
    g_count_at := PySem.W.mg_of X G a15
    b_count_at := b15
    a_is_entry_of_seat := f16
    fd_is_entry_of_seat := _
    F_is_entry_of_seat := F16
    g_is_entry_of_seat := PySem.W.mg_of X G a16
    b_is_entry_of_seat := b16
    a_is_joint_of_some := f17
    fd_is_joint_of_some := _
    F_is_joint_of_some := F17
    g_is_joint_of_some := PySem.W.mg_of X G a17
    b_is_joint_of_some := b17
    a_is_print := f18
    fd_is_print := _
    F_is_print := F18
    g_is_print := PySem.W.mg_of X G a18
    b_is_print := b18
    a_is_word := f19
    fd_is_word := _
    F_is_word := F19
    g_is_word := PySem.W.mg_of X G a19
    b_is_word := b19
    a_is_keys_letter := f20
    fd_is_keys_letter := _
    F_is_keys_letter := F20
    g_is_keys_letter := PySem.W.mg_of X G a20
    b_is_keys_letter := b20
    a_is_rows_letter := f21
    fd_is_rows_letter := _
    F_is_rows_letter := F21
    g_is_rows_letter := PySem.W.mg_of X G a21
    b_is_rows_letter := b21
    a_is_piece_letter := f22
    fd_is_piece_letter := _
    F_is_piece_letter := F22
    g_is_piece_letter := PySem.W.mg_of X G a22
    b_is_piece_letter := b22
    a_is_word_letter := f23
    fd_is_word_letter := _
    F_is_word_letter := F23
    g_is_word_letter := PySem.W.mg_of X G a23
    b_is_word_letter := b23
    a_is_letter := f24
    fd_is_letter := _
    F_is_letter := F24
    g_is_letter := PySem.W.mg_of X G a24
    b_is_letter := b24
    a_need_letter := f25
    fd_need_letter := _
    F_need_letter := F25
    g_need_letter := PySem.W.mg_of X G a25
    b_need_letter := b25
    a_goal := f26
    fd_goal := _
    F_goal := F26
    g_goal := PySem.W.mg_of X G a26
    b_goal := b26
    a_goal_of := f27
    fd_goal_of := _
    F_goal_of := F27
    g_goal_of := PySem.W.mg_of X G a27
    b_goal_of := b27
    a_letter_text := f28
    fd_letter_text := _
    F_letter_text := F28
    g_letter_text := PySem.W.mg_of X G a28
    b_letter_text := b28
    a_read_letter := f29
    fd_read_letter := _
    F_read_letter := F29
    g_read_letter := PySem.W.mg_of X G a29
    b_read_letter := b29
    e_Bag___init__ := dE30
    oe_Bag___init__ := fun H => .inr ⟨_, _, _, lE30, rfl, rfl, sz_of (by show 0 ≤ 100000; decide), .nil⟩
    bd_Bag___init__ := bd30
    a_Bag___init__ := f30
    fd_Bag___init__ := _
    F_Bag___init__ := F30
    m_Bag___init__ := ⟨a30, i30, k30⟩
    b_Bag___init__ := b30
    mk_Bag := ⟨mi_Bag, a30, i30, kc_Bag⟩
    a_Bag__fill := f31
    fd_Bag__fill := _
    F_Bag__fill := F31
    m_Bag__fill := ⟨a31, i31, k31⟩
    b_Bag__fill := b31
    a_Bag_sent := f32
    fd_Bag_sent := _
    F_Bag_sent := F32
    m_Bag_sent := ⟨a32, i32, k32⟩
    b_Bag_sent := b32
    a_Bag_sent_all := f33
    fd_Bag_sent_all := _
    F_Bag_sent_all := F33
    m_Bag_sent_all := ⟨a33, i33, k33⟩
    b_Bag_sent_all := b33
    a_Bag_letter := f34
    fd_Bag_letter := _
    F_Bag_letter := F34
    m_Bag_letter := ⟨a34, i34, k34⟩
    b_Bag_letter := b34
    a_Bag_to := f35
    fd_Bag_to := _
    F_Bag_to := F35
    m_Bag_to := ⟨a35, i35, k35⟩
    b_Bag_to := b35
    a_Bag___len__ := f36
    fd_Bag___len__ := _
    F_Bag___len__ := F36
    m_Bag___len__ := ⟨a36, i36, k36⟩
    b_Bag___len__ := b36
    a_Bag___eq__ := f37
    fd_Bag___eq__ := _
    F_Bag___eq__ := F37
    m_Bag___eq__ := ⟨a37, i37, k37⟩
    b_Bag___eq__ := b37
    a_Bag___str__ := f38
    fd_Bag___str__ := _
    F_Bag___str__ := F38
    m_Bag___str__ := ⟨a38, i38, k38⟩
    b_Bag___str__ := b38
    a_bag_of := f39
    fd_bag_of := _
    F_bag_of := F39
    g_bag_of := PySem.W.mg_of X G a39
    b_bag_of := b39
    a_need_letters := f40
    fd_need_letters := _
    F_need_letters := F40
    g_need_letters := PySem.W.mg_of X G a40
    b_need_letters := b40
    a_is_number_of := f41
    fd_is_number_of := _
    F_is_number_of := F41
    g_is_number_of := PySem.W.mg_of X G a41
    b_is_number_of := b41
    a_judged_handing := f42
    fd_judged_handing := _
    F_judged_handing := F42
    g_judged_handing := PySem.W.mg_of X G a42
    b_judged_handing := b42
    a_law_dice := f43
    fd_law_dice := _
    F_law_dice := F43
    g_law_dice := PySem.W.mg_of X G a43
    b_law_dice := b43
    a_law_roll := f44
    fd_law_roll := _
    F_law_roll := F44
    g_law_roll := PySem.W.mg_of X G a44
    b_law_roll := b44
    a_law_pick := f45
    fd_law_pick := _
    F_law_pick := F45
    g_law_pick := PySem.W.mg_of X G a45
    b_law_pick := b45
    a_law_met := f46
    fd_law_met := _
    F_law_met := F46
    g_law_met := PySem.W.mg_of X G a46
    b_law_met := b46
    a_law_odd_letters := f47
    fd_law_odd_letters := _
    F_law_odd_letters := F47
    g_law_odd_letters := PySem.W.mg_of X G a47
    b_law_odd_letters := b47
    a_law_right := f48
    fd_law_right := _
    F_law_right := F48
    g_law_right := PySem.W.mg_of X G a48
    b_law_right := b48
    C_Bag := C_Bag
    cl_Bag := ⟨pg_Bag, hd_Bag, po_Bag, sa_Bag⟩
    g_Bag := PySem.W.mg_of X G aC_Bag
    n_Bag_letters := nA_Bag_letters
    z_abs := PySem.W.mg_none_of X G z_abs
    z_max := PySem.W.mg_none_of X G z_max
    z_min := PySem.W.mg_none_of X G z_min
    z_int := PySem.W.mg_none_of X G z_int
    z_len := PySem.W.mg_none_of X G z_len
    z_range := PySem.W.mg_none_of X G z_range
    z_repr := PySem.W.mg_none_of X G z_repr
    z_isinstance := PySem.W.mg_none_of X G z_isinstance
    z_sorted := PySem.W.mg_none_of X G z_sorted
    z_str := PySem.W.mg_none_of X G z_str
    z_bool := PySem.W.mg_none_of X G z_bool
    z_tuple := PySem.W.mg_none_of X G z_tuple
    z_list := PySem.W.mg_none_of X G z_list
    z_all := PySem.W.mg_none_of X G z_all
    z_enumerate := PySem.W.mg_none_of X G z_enumerate
    z_reversed := PySem.W.mg_none_of X G z_reversed
    t_MAX_SEATS := t_MAX_SEATS
    g_MAX_SEATS := PySem.W.mg_of X G v_MAX_SEATS
    t_MOST_ENTRY := t_MOST_ENTRY
    g_MOST_ENTRY := PySem.W.mg_of X G v_MOST_ENTRY
    t_PRINT_MODULUS := t_PRINT_MODULUS
    g_PRINT_MODULUS := PySem.W.mg_of X G v_PRINT_MODULUS
    t_MOST_WORD := t_MOST_WORD
    g_MOST_WORD := PySem.W.mg_of X G v_MOST_WORD
    t_HOST := t_HOST
    g_HOST := PySem.W.mg_of X G v_HOST
    t_MOST_SEAT := t_MOST_SEAT
    g_MOST_SEAT := PySem.W.mg_of X G v_MOST_SEAT
    t_MOST_WORDS := t_MOST_WORDS
    g_MOST_WORDS := PySem.W.mg_of X G v_MOST_WORDS
    t_MOST_STRETCH := t_MOST_STRETCH
    g_MOST_STRETCH := PySem.W.mg_of X G v_MOST_STRETCH
    t_MOST_PIECES := t_MOST_PIECES
    g_MOST_PIECES := PySem.W.mg_of X G v_MOST_PIECES
    t_MOST_PIECE := t_MOST_PIECE
    g_MOST_PIECE := PySem.W.mg_of X G v_MOST_PIECE
    t_MOST_TEXT := t_MOST_TEXT
    g_MOST_TEXT := PySem.W.mg_of X G v_MOST_TEXT
    t_MOST_LONG := t_MOST_LONG
    g_MOST_LONG := PySem.W.mg_of X G v_MOST_LONG
    t_MOST_DEEP := t_MOST_DEEP
    g_MOST_DEEP := PySem.W.mg_of X G v_MOST_DEEP
    a_FORMS := aFM
    g_FORMS := PySem.W.mg_of X G fA
    es_FORMS := esFM
    n_FORMS := nFM
    d_FORMS := ⟨fL, fK, fS⟩
    k_keys := fkkeys
    k_rows := fkrows
    k_piece := fkpiece
    k_word := fkword
    a_TO_HOST := aTH
    g_TO_HOST := PySem.W.mg_of X G tA
    o_TO_HOST := fun H => .inr ⟨_, _, _, tL, rfl, rfl, sz_of (by show 2 ≤ 100000; decide), .cons ⟨_, rfl⟩ (.cons ⟨_, rfl⟩ .nil)⟩
    a_WISHES := aWI
    g_WISHES := PySem.W.mg_of X G wA
    o_WISHES := fun H => .inr ⟨_, _, _, wL, rfl, rfl, sz_of (by show 2 ≤ 100000; decide), .cons ⟨_, rfl⟩ (.cons ⟨_, rfl⟩ .nil)⟩
    ha_Bag := vha_Bag
    hn_Bag := vhn_Bag
    ht_Bag := vht_Bag
    hm_Bag := vhm_Bag
    hc_Bag := (by obtain ⟨cd, hc, _⟩ := PySem.W.any_some hd_Bag; rw [hc]; rfl)
    hy_Bag := vhy_Bag
    hs_Bag_tuple := vhs_Bag_tuple
    ne_Bag := vne_Bag
    ob_Bag := vob_Bag
    k_print := fkprint
    C_LE := aLE
    g_InvalidLetter := PySem.W.mg_of X G wg_LE
    x_LE := wx_LE
    k_LE := wk_LE
    e_LE := we_LE
    y_LE := wy_LE
    C_TE := aTE
    g_InvalidText := PySem.W.mg_of X G wg_TE
    x_TE := wx_TE
    k_TE := wk_TE
    e_TE := we_TE
    y_TE := wy_TE
    C_OE := aOE
    g_InvalidOperation := PySem.W.mg_of X G wg_OE
    x_OE := wx_OE
    k_OE := wk_OE
    e_OE := we_OE
    y_OE := wy_OE
    C_IN := aIN
    g_InvalidNumber := PySem.W.mg_of X G wg_IN
    o_IN := ⟨oxB_ok wo_IN, ws_IN, we_IN, wy_IN, wk_IN⟩
    a_InvalidNumber___init__ := fIN
    fd_InvalidNumber___init__ := _
    F_InvalidNumber___init__ := (fun_mk (st := s_InvalidNumber___init__) wl_IN wc_IN wq_IN)
    b_InvalidNumber___init__ := (fun_mk (st := s_InvalidNumber___init__) wl_IN wc_IN wq_IN).binds (ps := ["self", "given"]) fun _ _ _ _ _ _ us hl => match us, hl with | [_, _], _ => rfl
    i_IN := wi_IN
    t_IN := wt_IN
    f_IN := wf_IN
    x_IN := xfB_ok wxf_IN
    C_PE := aPE
    g_ParseError := PySem.W.mg_of X G wg_PE
    o_PE := ⟨oexB_ok wo_PE, ws_PE, we_PE, wy_PE, wk_PE⟩
    a_ParseError___init__ := fPE
    fd_ParseError___init__ := _
    F_ParseError___init__ := (fun_mk (st := s_ParseError___init__) wl_PE wc_PE wq_PE)
    b_ParseError___init__ := (fun_mk (st := s_ParseError___init__) wl_PE wc_PE wq_PE).binds (ps := ["self", "spot"]) fun _ _ _ _ _ _ us hl => match us, hl with | [_, _], _ => rfl
    i_PE := wi_PE
    t_PE := wt_PE
    f_PE := wf_PE
    x_PE := xfB_ok wxf_PE
    m_LE_LE := wm_LE_LE
    m_TE_LE := wm_TE_LE
    m_TE_TE := wm_TE_TE
    m_IN_LE := wm_IN_LE
    m_IN_TE := wm_IN_TE
    m_IN_IN := wm_IN_IN
    m_OE_LE := wm_OE_LE
    m_OE_TE := wm_OE_TE
    m_OE_IN := wm_OE_IN
    m_OE_OE := wm_OE_OE
    m_PE_PE := wm_PE_PE
    m_TE_PE := wm_TE_PE
    hs_Bag_list := vhs_Bag_list
    hs_Bag_NoneType := vhs_Bag_NoneType
    hs_Bag_int := vhs_Bag_int
    hs_Bag_str := vhs_Bag_str
  }
  have L48 : FunL K "_law_right" "_law_right" s_law_right cc48 _ _ := ⟨⟨_, _, _, _, _, _, _, _, rfl, l48, c48⟩, k48⟩
  have L49 : FunL K "law" "law" s_law cc49 _ _ := ⟨⟨_, _, _, _, _, _, _, _, rfl, l49, c49⟩, k49⟩
  refine ⟨_, [(cc48, pt48), (cc49, pt49)], spLaw K pt48 pt49, (List.forall_mem_cons.mpr ⟨r48, (List.forall_mem_cons.mpr ⟨r49, fun _ h => nomatch h⟩)⟩), (List.forall_mem_cons.mpr ⟨fr48, (List.forall_mem_cons.mpr ⟨fr49, fun _ h => nomatch h⟩)⟩), (List.forall_mem_cons.mpr ⟨PySem.W.codeHd_of_K X y48, (List.forall_mem_cons.mpr ⟨PySem.W.codeHd_of_K X y49, fun _ h => nomatch h⟩)⟩), fun s v => .of_eq rfl, fun H a ns hl hq hS => ⟨a, ns, rfl, hS, hl, fun p hp => ?_, fun _ => rfl⟩, fun base _ _ TB => ok_law T (TB _ (List.mem_cons_self ..)) (TB _ (List.mem_cons_of_mem _ (List.mem_cons_self ..))) hne L48 L49⟩
  rcases List.mem_cons.mp hp with rfl | hp
  · exact LamX.TabS.nil (hq _ (List.mem_cons_self ..))
  rw [List.mem_singleton.mp hp]; exact LamX.TabS.nil (hq _ (List.mem_cons_of_mem _ (List.mem_cons_self ..)))
end Kz
open PySem PySem.W PyProof.Rows
set_option maxHeartbeats 0 in
theorem PySem.Challenge.cw_settledplay_k44_errors_of_letters_and_ba_holds : PySem.Challenge.rw_settledplay_k44_errors_of_letters_and_ba.Holds := by
  w_on; o_law; k_head; (case hw => w_witness2)
  k_fill
  refine L2.walk_ofG (l := PySem.Challenge.rw_settledplay_k44_errors_of_letters_and_ba) (n := 63) (k := 14) (x := "script") (CX := fun _ => L2.CX0) rfl (by decide) rfl ⟨rfl, by decide, by decide⟩ (fun w h Y => PySem.W.km_in_of Y) ?F (fun _ _ _ _ _ h => h)
  case F =>
    intro w mg fa h Y KX G hmg
    have hT8 := PySem.W.km_tabs_of Y
    refine' Kz.all_mk KX G hmg ?aC_Bag ?pg_Bag ?hd_Bag ?po_Bag ?sa_Bag ?mi_Bag ?kc_Bag ?nA_Bag_letters ?a0 ?l0 ?c0 ?k0 ?a1 ?l1 ?c1 ?k1 ?a2 ?l2 ?c2 ?k2 ?a3 ?l3 ?c3 ?k3 ?a4 ?l4 ?c4 ?k4 ?a5 ?l5 ?c5 ?k5 ?a6 ?l6 ?c6 ?k6 ?a7 ?l7 ?c7 ?k7 ?a8 ?l8 ?c8 ?k8 ?a9 ?l9 ?c9 ?k9 ?a10 ?l10 ?c10 ?k10 ?a11 ?l11 ?c11 ?k11 ?a12 ?l12 ?c12 ?k12 ?a13 ?l13 ?c13 ?k13 ?a14 ?l14 ?c14 ?k14 ?a15 ?l15 ?c15 ?k15 ?a16 ?l16 ?c16 ?k16 ?a17 ?l17 ?c17 ?k17 ?a18 ?l18 ?c18 ?k18 ?a19 ?l19 ?c19 ?k19 ?a20 ?l20 ?c20 ?k20 ?a21 ?l21 ?c21 ?k21 ?a22 ?l22 ?c22 ?k22 ?a23 ?l23 ?c23 ?k23 ?a24 ?l24 ?c24 ?k24 ?a25 ?l25 ?c25 ?k25 ?a26 ?l26 ?c26 ?k26 ?a27 ?l27 ?c27 ?k27 ?a28 ?l28 ?c28 ?k28 ?a29 ?l29 ?c29 ?k29 ?a30 ?i30 ?l30 ?c30 ?k30 ?lT30 ?lE30 ?a31 ?i31 ?l31 ?c31 ?k31 ?a32 ?i32 ?l32 ?c32 ?k32 ?a33 ?i33 ?l33 ?c33 ?k33 ?a34 ?i34 ?l34 ?c34 ?k34 ?a35 ?i35 ?l35 ?c35 ?k35 ?a36 ?i36 ?l36 ?c36 ?k36 ?a37 ?i37 ?l37 ?c37 ?k37 ?a38 ?i38 ?l38 ?c38 ?k38 ?a39 ?l39 ?c39 ?k39 ?a40 ?l40 ?c40 ?k40 ?a41 ?l41 ?c41 ?k41 ?a42 ?l42 ?c42 ?k42 ?a43 ?l43 ?c43 ?k43 ?a44 ?l44 ?c44 ?k44 ?a45 ?l45 ?c45 ?k45 ?a46 ?l46 ?c46 ?k46 ?a47 ?l47 ?c47 ?k47 ?a48 ?l48 ?c48 ?k48 ?u48 ?w48 ?y48 ?r48 ?fr48 ?a49 ?l49 ?c49 ?k49 ?u49 ?w49 ?y49 ?r49 ?fr49 ?z_abs ?z_max ?z_min ?z_int ?z_len ?z_range ?z_repr ?z_isinstance ?z_sorted ?z_str ?z_bool ?z_tuple ?z_list ?z_all ?z_enumerate ?z_reversed ?v_MAX_SEATS ?v_MOST_ENTRY ?v_PRINT_MODULUS ?v_MOST_WORD ?v_HOST ?v_MOST_SEAT ?v_MOST_WORDS ?v_MOST_STRETCH ?v_MOST_PIECES ?v_MOST_PIECE ?v_MOST_TEXT ?v_MOST_LONG ?v_MOST_DEEP ?fA ?fL ?fK ?fS ?tA ?tL ?wA ?wL ?fkkeys ?fkrows ?fkpiece ?fkword ?vha_Bag ?vhn_Bag ?vht_Bag ?vhm_Bag ?vhy_Bag ?vhs_Bag_tuple ?vne_Bag ?vob_Bag ?fkprint ?wg_LE ?wx_LE ?wk_LE ?we_LE ?wy_LE ?wg_TE ?wx_TE ?wk_TE ?we_TE ?wy_TE ?wg_OE ?wx_OE ?wk_OE ?we_OE ?wy_OE ?wg_IN ?wo_IN ?ws_IN ?wk_IN ?we_IN ?wy_IN ?wi_IN ?wt_IN ?wl_IN ?wc_IN ?wq_IN ?wf_IN ?wxf_IN ?wg_PE ?wo_PE ?ws_PE ?wk_PE ?we_PE ?wy_PE ?wi_PE ?wt_PE ?wl_PE ?wc_PE ?wq_PE ?wf_PE ?wxf_PE ?wm_LE_LE ?wm_TE_LE ?wm_TE_TE ?wm_IN_LE ?wm_IN_TE ?wm_IN_IN ?wm_OE_LE ?wm_OE_TE ?wm_OE_IN ?wm_OE_OE ?wm_PE_PE ?wm_TE_PE ?vhs_Bag_list ?vhs_Bag_NoneType ?vhs_Bag_int ?vhs_Bag_str ?hne
    (case aC_Bag => k_is)
    (case pg_Bag => k_is)
    (case hd_Bag => k_is)
    (case po_Bag => k_is)
    (case sa_Bag => k_is)
    (case mi_Bag => k_is)
    (case kc_Bag => k_is)
    (case nA_Bag_letters => k_is)
    (case a0 => k_is)
    (case l0 => k_is)
    (case c0 => k_is)
    (case k0 => k_is)
    (case a1 => k_is)
    (case l1 => k_is)
    (case c1 => k_is)
    (case k1 => k_is)
    (case a2 => k_is)
    (case l2 => k_is)
    (case c2 => k_is)
    (case k2 => k_is)
    (case a3 => k_is)
    (case l3 => k_is)
    (case c3 => k_is)
    (case k3 => k_is)
    (case a4 => k_is)
    (case l4 => k_is)
    (case c4 => k_is)
    (case k4 => k_is)
    (case a5 => k_is)
    (case l5 => k_is)
    (case c5 => k_is)
    (case k5 => k_is)
    (case a6 => k_is)
    (case l6 => k_is)
    (case c6 => k_is)
    (case k6 => k_is)
    (case a7 => k_is)
    (case l7 => k_is)
    (case c7 => k_is)
    (case k7 => k_is)
    (case a8 => k_is)
    (case l8 => k_is)
    (case c8 => k_is)
    (case k8 => k_is)
    (case a9 => k_is)
    (case l9 => k_is)
    (case c9 => k_is)
    (case k9 => k_is)
    (case a10 => k_is)
    (case l10 => k_is)
    (case c10 => k_is)
    (case k10 => k_is)
    (case a11 => k_is)
    (case l11 => k_is)
    (case c11 => k_is)
    (case k11 => k_is)
    (case a12 => k_is)
    (case l12 => k_is)
    (case c12 => k_is)
    (case k12 => k_is)
    (case a13 => k_is)
    (case l13 => k_is)
    (case c13 => k_is)
    (case k13 => k_is)
    (case a14 => k_is)
    (case l14 => k_is)
    (case c14 => k_is)
    (case k14 => k_is)
    (case a15 => k_is)
    (case l15 => k_is)
    (case c15 => k_is)
    (case k15 => k_is)
    (case a16 => k_is)
    (case l16 => k_is)
    (case c16 => k_is)
    (case k16 => k_is)
    (case a17 => k_is)
    (case l17 => k_is)
    (case c17 => k_is)
    (case k17 => k_is)
    (case a18 => k_is)
    (case l18 => k_is)
    (case c18 => k_is)
    (case k18 => k_is)
    (case a19 => k_is)
    (case l19 => k_is)
    (case c19 => k_is)
    (case k19 => k_is)
    (case a20 => k_is)
    (case l20 => k_is)
    (case c20 => k_is)
    (case k20 => k_is)
    (case a21 => k_is)
    (case l21 => k_is)
    (case c21 => k_is)
    (case k21 => k_is)
    (case a22 => k_is)
    (case l22 => k_is)
    (case c22 => k_is)
    (case k22 => k_is)
    (case a23 => k_is)
    (case l23 => k_is)
    (case c23 => k_is)
    (case k23 => k_is)
    (case a24 => k_is)
    (case l24 => k_is)
    (case c24 => k_is)
    (case k24 => k_is)
    (case a25 => k_is)
    (case l25 => k_is)
    (case c25 => k_is)
    (case k25 => k_is)
    (case a26 => k_is)
    (case l26 => k_is)
    (case c26 => k_is)
    (case k26 => k_is)
    (case a27 => k_is)
    (case l27 => k_is)
    (case c27 => k_is)
    (case k27 => k_is)
    (case a28 => k_is)
    (case l28 => k_is)
    (case c28 => k_is)
    (case k28 => k_is)
    (case a29 => k_is)
    (case l29 => k_is)
    (case c29 => k_is)
    (case k29 => k_is)
    (case a30 => k_is)
    (case i30 => k_is)
    (case l30 => k_is)
    (case c30 => k_is)
    (case k30 => k_is)
    (case lT30 => k_is)
    (case lE30 => k_is)
    (case a31 => k_is)
    (case i31 => k_is)
    (case l31 => k_is)
    (case c31 => k_is)
    (case k31 => k_is)
    (case a32 => k_is)
    (case i32 => k_is)
    (case l32 => k_is)
    (case c32 => k_is)
    (case k32 => k_is)
    (case a33 => k_is)
    (case i33 => k_is)
    (case l33 => k_is)
    (case c33 => k_is)
    (case k33 => k_is)
    (case a34 => k_is)
    (case i34 => k_is)
    (case l34 => k_is)
    (case c34 => k_is)
    (case k34 => k_is)
    (case a35 => k_is)
    (case i35 => k_is)
    (case l35 => k_is)
    (case c35 => k_is)
    (case k35 => k_is)
    (case a36 => k_is)
    (case i36 => k_is)
    (case l36 => k_is)
    (case c36 => k_is)
    (case k36 => k_is)
    (case a37 => k_is)
    (case i37 => k_is)
    (case l37 => k_is)
    (case c37 => k_is)
    (case k37 => k_is)
    (case a38 => k_is)
    (case i38 => k_is)
    (case l38 => k_is)
    (case c38 => k_is)
    (case k38 => k_is)
    (case a39 => k_is)
    (case l39 => k_is)
    (case c39 => k_is)
    (case k39 => k_is)
    (case a40 => k_is)
    (case l40 => k_is)
    (case c40 => k_is)
    (case k40 => k_is)
    (case a41 => k_is)
    (case l41 => k_is)
    (case c41 => k_is)
    (case k41 => k_is)
    (case a42 => k_is)
    (case l42 => k_is)
    (case c42 => k_is)
    (case k42 => k_is)
    (case a43 => k_is)
    (case l43 => k_is)
    (case c43 => k_is)
    (case k43 => k_is)
    (case a44 => k_is)
    (case l44 => k_is)
    (case c44 => k_is)
    (case k44 => k_is)
    (case a45 => k_is)
    (case l45 => k_is)
    (case c45 => k_is)
    (case k45 => k_is)
    (case a46 => k_is)
    (case l46 => k_is)
    (case c46 => k_is)
    (case k46 => k_is)
    (case a47 => k_is)
    (case l47 => k_is)
    (case c47 => k_is)
    (case k47 => k_is)
    (case a48 => k_is)
    (case l48 => k_is)
    (case c48 => k_is)
    (case k48 => k_is)
    (case u48 => k_is)
    (case w48 => first | rfl | kernel_rfl)
    (case y48 => kernel_rfl)
    (case r48 => exact hT8 _ (by decide))
    (case fr48 => kernel_rfl)
    (case a49 => k_is)
    (case l49 => k_is)
    (case c49 => k_is)
    (case k49 => k_is)
    (case u49 => k_is)
    (case w49 => first | rfl | kernel_rfl)
    (case y49 => kernel_rfl)
    (case r49 => exact hT8 _ (by decide))
    (case fr49 => kernel_rfl)
    (case z_abs => k_is)
    (case z_max => k_is)
    (case z_min => k_is)
    (case z_int => k_is)
    (case z_len => k_is)
    (case z_range => k_is)
    (case z_repr => k_is)
    (case z_isinstance => k_is)
    (case z_sorted => k_is)
    (case z_str => k_is)
    (case z_bool => k_is)
    (case z_tuple => k_is)
    (case z_list => k_is)
    (case z_all => k_is)
    (case z_enumerate => k_is)
    (case z_reversed => k_is)
    (case v_MAX_SEATS => k_is)
    (case v_MOST_ENTRY => k_is)
    (case v_PRINT_MODULUS => k_is)
    (case v_MOST_WORD => k_is)
    (case v_HOST => k_is)
    (case v_MOST_SEAT => k_is)
    (case v_MOST_WORDS => k_is)
    (case v_MOST_STRETCH => k_is)
    (case v_MOST_PIECES => k_is)
    (case v_MOST_PIECE => k_is)
    (case v_MOST_TEXT => k_is)
    (case v_MOST_LONG => k_is)
    (case v_MOST_DEEP => k_is)
    (case fA => k_is)
    (case fL => k_is)
    (case fK => k_keys)
    (case fS => first | rfl | decide +kernel)
    (case tA => k_is)
    (case tL => k_is)
    (case wA => k_is)
    (case wL => k_is)
    (case fkkeys => k_is)
    (case fkrows => k_is)
    (case fkpiece => k_is)
    (case fkword => k_is)
    (case vha_Bag => k_is)
    (case vhn_Bag => k_is)
    (case vht_Bag => k_is)
    (case vhm_Bag => k_is)
    (case vhy_Bag => k_is)
    (case vhs_Bag_tuple => k_is)
    (case vne_Bag => k_is)
    (case vob_Bag => k_is)
    (case fkprint => k_is)
    (case wg_LE => k_is)
    (case wx_LE => k_exc)
    (case wk_LE => k_is)
    (case we_LE => k_is)
    (case wy_LE => k_is)
    (case wg_TE => k_is)
    (case wx_TE => k_exc)
    (case wk_TE => k_is)
    (case we_TE => k_is)
    (case wy_TE => k_is)
    (case wg_OE => k_is)
    (case wx_OE => k_exc)
    (case wk_OE => k_is)
    (case we_OE => k_is)
    (case wy_OE => k_is)
    (case wg_IN => k_is)
    (case wo_IN => kernel_rfl)
    (case ws_IN => first | rfl | k_is)
    (case wk_IN => k_is)
    (case we_IN => k_is)
    (case wy_IN => k_is)
    (case wi_IN => k_is)
    (case wt_IN => k_is)
    (case wl_IN => k_is)
    (case wc_IN => k_is)
    (case wq_IN => k_is)
    (case wf_IN => k_is)
    (case wxf_IN => kernel_rfl)
    (case wg_PE => k_is)
    (case wo_PE => kernel_rfl)
    (case ws_PE => first | rfl | k_is)
    (case wk_PE => k_is)
    (case we_PE => k_is)
    (case wy_PE => k_is)
    (case wi_PE => k_is)
    (case wt_PE => k_is)
    (case wl_PE => k_is)
    (case wc_PE => k_is)
    (case wq_PE => k_is)
    (case wf_PE => k_is)
    (case wxf_PE => kernel_rfl)
    (case wm_LE_LE => kernel_rfl)
    (case wm_TE_LE => kernel_rfl)
    (case wm_TE_TE => kernel_rfl)
    (case wm_IN_LE => kernel_rfl)
    (case wm_IN_TE => kernel_rfl)
    (case wm_IN_IN => kernel_rfl)
    (case wm_OE_LE => kernel_rfl)
    (case wm_OE_TE => kernel_rfl)
    (case wm_OE_IN => kernel_rfl)
    (case wm_OE_OE => kernel_rfl)
    (case wm_PE_PE => kernel_rfl)
    (case wm_TE_PE => kernel_rfl)
    (case vhs_Bag_list => k_is)
    (case vhs_Bag_NoneType => k_is)
    (case vhs_Bag_int => k_is)
    (case vhs_Bag_str => k_is)
    (case hne => decide)
