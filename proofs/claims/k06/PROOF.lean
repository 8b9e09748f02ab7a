import PyProof.Rows.All
import Wide.All
import OpenK.AllK
import Wide.FinOn
import HandS.ForMost
import HandS.Wide
import HandS.Evl
import HandS.IsInst
import HandS.RaiseMore
import HandS.More
import HandS.CallLocal
import HandS.Style
import HandS.TupAny
import HandS.Strs
import HandS.Walk
import HandS.Iter
import KE.GoesMore
import HandS.OwnEq
import HandS.OwnIter
import HandS.DictComp
import HandS.StrMore
import HandS.FStr
import HandS.Zip
import HandS.Text
import HandS.Star
import HandS.Defaults
import PyProof.InstEq
import PyProof.CallStr
import HandS.IterVal
import PyProof.NeKinds
import HandS.SetFor
import PyProof.SetRoads
import HandS.MakeKwOnly
import PySem.Challenge.RW_settledplay_k06_whole_rows_of_things
set_option Elab.async false
set_option linter.all false
set_option maxRecDepth 100000
set_option maxHeartbeats 4000000
namespace Vr
open PySem PySem.Spec PyProof.Rows L2 Evl
/-! ### rules of calls whose answer is one -/
section
variable {X : Cx}
def rI1 (g : Int → V) : List V → Hp → VK → Prop := fun xs H Q => ∃ i, xs = [.int i] ∧ Q (g i) H
def rB1 (g : Bool → V) : List V → Hp → VK → Prop := fun xs H Q => ∃ i, xs = [.bl i] ∧ Q (g i) H
def rI2 (g : Int → Int → V) : List V → Hp → VK → Prop := fun xs H Q => ∃ i j, xs = [.int i, .int j] ∧ Q (g i j) H
theorem callR_mono {f : Value} {r r' : List V → Hp → VK → Prop} (h : CallR X f r) (k : ∀ vs H Q, r' vs H Q → r vs H Q) : CallR X f r' :=
  fun pins s σ H xs us Q I rv q => h pins s σ H xs us Q I rv (k _ _ _ q)
theorem c_int : CallR X (.type "int") (rI1 fun i => .int i) := callR_mono call_int1 fun _ _ _ h => .inl h
theorem c_intB : CallR X (.type "int") (rB1 fun k => .int (if k then 1 else 0)) := callR_mono call_int1 fun _ _ _ h => .inr h
theorem c_abs : CallR X (.builtin "abs") (rI1 fun i => .int (if i < 0 then -i else i)) := call_abs
theorem c_max (hc : X.calm = true) : CallR X (.builtin "max") (rI2 fun i j => .int (if j > i then j else i)) := call_max2 hc
theorem c_min (hc : X.calm = true) : CallR X (.builtin "min") (rI2 fun i j => .int (if j < i then j else i)) := call_min2 hc
def rRepr : List V → Hp → VK → Prop := fun xs H Q => ∃ i : Int, xs = [.int i] ∧ i.natAbs.log2 < 1920 ∧ Q (.str (toString i)) H
theorem c_repr : CallR X (.builtin "repr") rRepr := SkE.call_repr_int
theorem c_len : CallR X (.builtin "len") (rLenS X.K) := call_len_seq
end
section
variable {K : PySem.W.Frag} {σ : L2.St} {H H' : Hp} {ta tb tc te : TE} {t u : TT} {x y z v : V} {r r' : R2} {D : Ends}
theorem sc_mul {i j : Int} (h : -18446744073709551616 < i ∧ i < 18446744073709551616) : CMul i j := .inl h
theorem sc_div {i j : Int} (h : 0 < j) (h2 : j.natAbs.log2 < 9000) : CDivW i j := ⟨h, h2⟩
theorem rc_I1 {g : Int → V} {i : Int} : RC (rI1 g) [.int i] H (g i) := fun H1 _ _ q => ⟨i, rfl, q H1 (Ex.refl H1)⟩
theorem rc_B1 {g : Bool → V} {i : Bool} : RC (rB1 g) [.bl i] H (g i) := fun H1 _ _ q => ⟨i, rfl, q H1 (Ex.refl H1)⟩
theorem rc_I2 {g : Int → Int → V} {i j : Int} : RC (rI2 g) [.int i, .int j] H (g i j) := fun H1 _ _ q => ⟨i, j, rfl, q H1 (Ex.refl H1)⟩
theorem rc_repr {i : Int} (h : i.natAbs.log2 < 1920) : RC rRepr [.int i] H (.str (toString i)) := fun H1 _ _ q => ⟨i, rfl, h, q H1 (Ex.refl H1)⟩
theorem rc_lenL {p : Addr} {xs : List V} (h : SqL K H p xs) : RC (rLenS K) [.ref p] H (.int (xs.length : Int)) := fun H1 e _ q => ⟨p, xs, rfl, .inl (ex_l e h), q H1 (Ex.refl H1)⟩
theorem ev_chain {a b : Bool} (h1 : Ev ta σ H x) (h2 : Ev tb σ H y) (r1 : RV r x y H (.bl a)) (h3 : Ev tc σ H z) (r2 : RV r' y z H (.bl b)) : Ev (tChain r r' ta tb tc) σ H (.bl (a && b)) := fun H1 e Q q =>
  h1 H1 e _ fun H2 e2 => h2 H2 (e.trans e2) _ fun H3 e3 => r1 H3 ((e.trans e2).trans e3) _ fun H4 e4 => ⟨a, rfl, by
    cases a with
    | true =>
      rw [if_pos rfl]
      exact h3 H4 (((e.trans e2).trans e3).trans e4) _ fun H5 e5 => r2 H5 ((((e.trans e2).trans e3).trans e4).trans e5) _ fun H6 e6 => q H6 ((((e2.trans e3).trans e4).trans e5).trans e6)
    | false =>
      rw [if_neg Bool.false_ne_true]
      exact q H4 ((e2.trans e3).trans e4)⟩
/-- an expression that evaluates, then what follows -/
theorem go {Q : VK} (h : Ev te σ H v) (k : ∀ H1, Ex H H1 → Q v H1) : te σ H Q := h H (Ex.refl H) Q k
theorem goT {b : Bool} {Q : Bool → Hp → Prop} (h : EvT t σ H b) (k : ∀ H1, Ex H H1 → Q b H1) : t σ H Q := h H (Ex.refl H) Q k
theorem goA {ts : TA} {vs : List V} {Q : List V → Hp → Prop} (h : EvA ts σ H vs) (k : ∀ H1, Ex H H1 → Q vs H1) : ts σ H Q := h H (Ex.refl H) Q k
/-! ### promises of defs that answer by their arguments, whatever else they make -/
def Pure (ok : List V → Hp → V → Prop) : Sp := fun vs H Q _ => ∃ z, ok vs H z ∧ ∀ H', Ex H H' → Q z H'
theorem ev_callP {ok : List V → Hp → V → Prop} {E : XK} {ts : TA} {vs : List V} (h : EvA ts σ H vs) (ho : ∀ H1, Ex H H1 → ok vs H1 z) : Ev (tCall (Pure ok) [] E ts) σ H z := fun H1 e Q q =>
  h H1 e _ fun H2 e2 => by
    show Pure ok (vs ++ []) H2 Q E
    rw [List.append_nil]
    exact ⟨z, ho H2 (e.trans e2), fun H3 e3 => q H3 (e2.trans e3)⟩
theorem fin {Q : VK} (k : ∀ H', Ex H H' → Q z H') (e : Ex H H') : Q z H' := k H' e
/-! ### the dice: a list of three ints at p, all else as it was -/
def Exd (p : Addr) (H H' : Hp) : Prop := ∀ a o, a ≠ p → H a = some o → H' a = some o
theorem Exd.refl (p : Addr) (H : Hp) : Exd p H H := fun _ _ _ h => h
theorem Exd.trans {p : Addr} {H H1 H2 : Hp} (a : Exd p H H1) (b : Exd p H1 H2) : Exd p H H2 := fun c o n h => b c o n (a c o n h)
theorem Exd.of {p : Addr} (e : Ex H H') : Exd p H H' := fun a o _ h => e a o h
theorem Exd.upd {p : Addr} {o : HO} : Exd p H (upd H p o) := fun a u n h => by rw [upd_ne n]; exact h
def Dice (p : Addr) (H : Hp) : Prop := ∃ a b c : Int, H p = some (.lst [.int a, .int b, .int c])
theorem Dice.ex {p : Addr} (e : Ex H H') (d : Dice p H) : Dice p H' := by
  obtain ⟨a, b, c, h⟩ := d
  exact ⟨a, b, c, e _ _ h⟩
theorem Exd.l {p a : Addr} {xs : List V} (e : Exd p H H') (n : a ≠ p) (h : SqL K H a xs) : SqL K H' a xs := by
  rcases h with (h | ⟨o, h⟩) | h
  · exact .inl (.inl (e _ _ n h))
  · exact .inl (.inr ⟨o, e _ _ n h⟩)
  · exact .inr h
/-! ### more values -/
theorem ev_ite {b : Bool} {v1 v2 : V} (h : EvT t σ H b) (h1 : b = true → Ev ta σ H v1) (h2 : b = false → Ev tb σ H v2) : Ev (tIf t ta tb) σ H (if b = true then v1 else v2) :=
  ev_if h (fun e => by rw [if_pos e]; exact h1 e) (fun e => by rw [if_neg (by rw [e]; exact Bool.false_ne_true)]; exact h2 e)
theorem ev_pow {a b c : Int} (h : 0 ≤ b ∧ b ≤ 1000000 ∧ a.natAbs < 2 ^ 64) (e : a ^ b.toNat = c) : Ev (tOp (rI CPow fun i j => .int (i ^ j.toNat)) (tC (.int a)) (tC (.int b))) σ H (.int c) := by
  rw [← e]
  exact ev_op ev_c ev_c (rv_I h)
/-- the type of a value, and what isinstance says of int and bool -/
def isIB : V → Bool
  | .int _ => true
  | .bl _ => true
  | _ => false
def isB : V → Bool
  | .bl _ => true
  | _ => false
def isS : V → Bool
  | .str _ => true
  | _ => false
/-- a plain value: its type is a built-in one -/
def Plain (K : PySem.W.Frag) (H : Hp) (x : V) : Prop := ∃ n, TyX K H x (.type n)
theorem isi_int {n : String} (h : TyX K H x (.type n)) : PySem.W.kitOne K (.type n) (.type "int") = some (isIB x) := by
  cases h with
  | base b => cases b <;> first | exact kit_ty (r := false) (by decide +kernel) | exact kit_ty (r := true) (by decide +kernel)
  | byt _ => first | exact kit_ty (r := false) (by decide +kernel) | exact kit_ty (r := true) (by decide +kernel)
  | set _ => first | exact kit_ty (r := false) (by decide +kernel) | exact kit_ty (r := true) (by decide +kernel)
  | kList _ _ => first | exact kit_ty (r := false) (by decide +kernel) | exact kit_ty (r := true) (by decide +kernel)
  | kTuple _ _ => first | exact kit_ty (r := false) (by decide +kernel) | exact kit_ty (r := true) (by decide +kernel)
  | kDict _ _ => first | exact kit_ty (r := false) (by decide +kernel) | exact kit_ty (r := true) (by decide +kernel)
  | fTuple _ => first | exact kit_ty (r := false) (by decide +kernel) | exact kit_ty (r := true) (by decide +kernel)
  | fDict _ => first | exact kit_ty (r := false) (by decide +kernel) | exact kit_ty (r := true) (by decide +kernel)
theorem isi_bool {n : String} (h : TyX K H x (.type n)) : PySem.W.kitOne K (.type n) (.type "bool") = some (isB x) := by
  cases h with
  | base b => cases b <;> first | exact kit_ty (r := false) (by decide +kernel) | exact kit_ty (r := true) (by decide +kernel)
  | byt _ => first | exact kit_ty (r := false) (by decide +kernel) | exact kit_ty (r := true) (by decide +kernel)
  | set _ => first | exact kit_ty (r := false) (by decide +kernel) | exact kit_ty (r := true) (by decide +kernel)
  | kList _ _ => first | exact kit_ty (r := false) (by decide +kernel) | exact kit_ty (r := true) (by decide +kernel)
  | kTuple _ _ => first | exact kit_ty (r := false) (by decide +kernel) | exact kit_ty (r := true) (by decide +kernel)
  | kDict _ _ => first | exact kit_ty (r := false) (by decide +kernel) | exact kit_ty (r := true) (by decide +kernel)
  | fTuple _ => first | exact kit_ty (r := false) (by decide +kernel) | exact kit_ty (r := true) (by decide +kernel)
  | fDict _ => first | exact kit_ty (r := false) (by decide +kernel) | exact kit_ty (r := true) (by decide +kernel)
theorem ty_ex {u : Value} (e : Ex H H') (h : TyX K H x u) : TyX K H' x u := by
  cases h with
  | base b =>
    cases b with
    | non => exact .base .non
    | bl y => exact .base (.bl y)
    | int y => exact .base (.int y)
    | str y => exact .base (.str y)
    | flt y => exact .base (.flt y)
    | lst h => exact .base (.lst (e _ _ h))
    | frz h => exact .base (.frz (e _ _ h))
    | tup h => exact .base (.tup (e _ _ h))
    | dK h => exact .base (.dK (e _ _ h))
    | dT h => exact .base (.dT (e _ _ h))
    | ins h a b c d f => exact .base (.ins (e _ _ h) a b c d f)
  | byt b => exact .byt b
  | set h => exact .set (e _ _ h)
  | kList h c => exact .kList h c
  | kTuple h c => exact .kTuple h c
  | kDict h c => exact .kDict h c
  | fTuple h => exact .fTuple (e _ _ h)
  | fDict h => exact .fDict (e _ _ h)
theorem Plain.ex (e : Ex H H') (h : Plain K H x) : Plain K H' x := by
  obtain ⟨n, h⟩ := h
  exact ⟨n, ty_ex e h⟩
theorem rc_isiInt (h : Plain K H x) : RC (rIsi K) [x, .ty "int"] H (.bl (isIB x)) := fun H1 e Q q => by
  obtain ⟨n, h⟩ := h.ex e
  exact ⟨x, .ty "int", .type n, .type "int", _, rfl, .ty _, h, isi_int h, q H1 (Ex.refl H1)⟩
theorem rc_isiBool (h : Plain K H x) : RC (rIsi K) [x, .ty "bool"] H (.bl (isB x)) := fun H1 e Q q => by
  obtain ⟨n, h⟩ := h.ex e
  exact ⟨x, .ty "bool", .type n, .type "bool", _, rfl, .ty _, h, isi_bool h, q H1 (Ex.refl H1)⟩
/-- an integer of at most sixty digits -/
def isIntV : V → Bool
  | .int i => decide (-1000000000000000000000000000000000000000000000000000000000000 < i) && decide (i < 1000000000000000000000000000000000000000000000000000000000000)
  | _ => false
def isWithin (lo hi : Int) : V → Bool
  | .int i => isIntV (.int i) && (decide (lo ≤ i) && decide (i ≤ hi))
  | _ => false
theorem pl_int {i : Int} : Plain K H (.int i) := ⟨_, .base (.int i)⟩
theorem pl_bl {i : Bool} : Plain K H (.bl i) := ⟨_, .base (.bl i)⟩
theorem pl_str {i : Str} : Plain K H (.str i) := ⟨_, .base (.str i)⟩
theorem pl_non : Plain K H .non := ⟨_, .base .non⟩
theorem pl_lst {a : Addr} {xs : List V} (h : H a = some (.lst xs)) : Plain K H (.ref a) := ⟨_, .base (.lst h)⟩
theorem pl_tup {a : Addr} {xs : List V} (h : H a = some (.tup xs)) : Plain K H (.ref a) := ⟨_, .base (.tup h)⟩
theorem pl_dK {a : Addr} {xs : List (Key × V)} (h : H a = some (.dK xs)) : Plain K H (.ref a) := ⟨_, .base (.dK h)⟩
/-! ### loops over a new tuple -/
variable {tu tw tz : TS} {g : TG}
theorem s_forNU {xs : List V} {tl : TE} (h : EvU tl σ H xs) (Pv : Addr → Nat → L2.St → Hp → Prop) (h0 : ∀ p H1, H p = none → Ex H H1 → H1 p = some (.tup xs) → Pv p 0 σ H1) (hl : ∀ p i σ' H', i ≤ xs.length → Pv p i σ' H' → SqT K H' p xs)
    (hs : ∀ p i x σ' H', xs[i]? = some x → Pv p i σ' H' → g x σ' H' fun σ2 H2 => tu { D with nx := Pv p (i + 1), ct := Pv p (i + 1), bk := D.nx } σ2 H2) (hd : ∀ p σ' H', Pv p xs.length σ' H' → D.nx σ' H') : tFor (iTup K tl) g tu D σ H :=
  h H (Ex.refl H) _ fun p H1 hp e h1 => ⟨p, rfl, ⟨xs, st_of h1⟩, for_tup (Pv p) (h0 p H1 hp e h1) (hl p) (hs p) (hd p)⟩
theorem q_forNU {xs : List V} {tl : TE} (h : EvU tl σ H xs) (Pv : Addr → Nat → L2.St → Hp → Prop) (h0 : ∀ p H1, H p = none → Ex H H1 → H1 p = some (.tup xs) → Pv p 0 σ H1) (hl : ∀ p i σ' H', i ≤ xs.length → Pv p i σ' H' → SqT K H' p xs)
    (hs : ∀ p i x σ' H', xs[i]? = some x → Pv p i σ' H' → g x σ' H' fun σ2 H2 => tu { D with nx := Pv p (i + 1), ct := Pv p (i + 1), bk := tz D } σ2 H2) (hd : ∀ p σ' H', Pv p xs.length σ' H' → tz D σ' H') : tSeq (tFor (iTup K tl) g tu) tz D σ H :=
  s_forNU (D := { D with nx := tz D }) h Pv h0 hl hs hd
/-! ### what draws from the dice -/
def Dv (p : Addr) (te : TE) (σ : L2.St) (H : Hp) (R : V → Prop) : Prop := ∀ H1, Exd p H H1 → Dice p H1 → ∀ Q : VK, (∀ v H2, R v → Exd p H1 H2 → Dice p H2 → Q v H2) → te σ H1 Q
def DvA (p : Addr) (ta : TA) (σ : L2.St) (H : Hp) (R : List V → Prop) : Prop := ∀ H1, Exd p H H1 → Dice p H1 → ∀ Q : List V → Hp → Prop, (∀ v H2, R v → Exd p H1 H2 → Dice p H2 → Q v H2) → ta σ H1 Q
theorem dv_ev {p : Addr} {R : V → Prop} (h : ∀ H1, Exd p H H1 → Dice p H1 → Ev te σ H1 v) (hr : R v) : Dv p te σ H R := fun H1 e d Q q => h H1 e d H1 (Ex.refl H1) Q fun H2 e2 => q v H2 hr (Exd.of e2) (d.ex e2)
theorem Dv.mono {p : Addr} {R R' : V → Prop} (h : Dv p te σ H R) (k : ∀ v, R v → R' v) : Dv p te σ H R' := fun H1 e d Q q => h H1 e d Q fun v H2 r => q v H2 (k v r)
theorem da_nil {p : Addr} {P : V → Prop} : DvA p tNil σ H (fun vs => vs.length = 0 ∧ ∀ v ∈ vs, P v) := fun H1 e d Q q => q [] H1 ⟨rfl, fun _ h => by cases h⟩ (Exd.refl p H1) d
theorem da_cons {p : Addr} {n : Nat} {P : V → Prop} {tr : TA} (h : Dv p te σ H P) (hr : DvA p tr σ H (fun vs => vs.length = n ∧ ∀ v ∈ vs, P v)) : DvA p (tCons te tr) σ H (fun vs => vs.length = n + 1 ∧ ∀ v ∈ vs, P v) := fun H1 e d Q q =>
  h H1 e d _ fun v H2 r e2 d2 => hr H2 (e.trans e2) d2 _ fun vs H3 rs e3 d3 => q (v :: vs) H3 ⟨by rw [List.length_cons, rs.1], fun x hx => by
    rcases List.mem_cons.mp hx with z | z
    · rw [z]; exact r
    · exact rs.2 x z⟩ (e2.trans e3) d3
theorem Exd.none {p a : Addr} (e : Exd p H H') (n : a ≠ p) (h : H' a = none) : H a = none := by
  cases q : H a with
  | none => rfl
  | some o => rw [e a o n q] at h; cases h
theorem Dice.ne {p a : Addr} (d : Dice p H) (h : H a = none) : a ≠ p := by
  obtain ⟨x, y, z, hp⟩ := d
  intro e
  rw [e, hp] at h
  cases h
/-- the call of a def that draws: what it promises of its answer -/
def Draws (ok : List V → Hp → Addr → (V → Prop) → Prop) : Sp := fun vs H Q _ => ∃ (p : Addr) (R : V → Prop), ok vs H p R ∧ Dice p H ∧ ∀ v H', R v → Exd p H H' → Dice p H' → Q v H'
theorem dv_call {ok : List V → Hp → Addr → (V → Prop) → Prop} {E : XK} {ts : TA} {p : Addr} {R : V → Prop} {vs : List V} (h : ∀ H1, Exd p H H1 → Dice p H1 → EvA ts σ H1 vs) (ho : ∀ H1, Exd p H H1 → Dice p H1 → ok vs H1 p R) : Dv p (tCall (Draws ok) [] E ts) σ H R := fun H1 e d Q q =>
  h H1 e d H1 (Ex.refl H1) _ fun H2 e2 => by
    show Draws ok (vs ++ []) H2 Q E
    rw [List.append_nil]
    exact ⟨p, R, ho H2 (e.trans (Exd.of e2)) (d.ex e2), d.ex e2, fun v H3 r e3 d3 => q v H3 r ((Exd.of e2).trans e3) d3⟩
theorem sc_mulr {i j : Int} (h : -18446744073709551616 < j ∧ j < 18446744073709551616) : CMul i j := .inr h
theorem q_asgI {i : Nat} (h : ∃ c : Int, Ev te σ H (.int c)) (k : ∀ (c : Int) H1, Ex H H1 → tz D (σ.set i (some (.int c))) H1) : tSeq (tAsg te (gName i)) tz D σ H := by
  obtain ⟨c, h⟩ := h
  exact q_asg h (k c)
/-! ### data of any depth -/
mutual
theorem dp_ex (e : Ex H H') : ∀ {d : PyData} {x : V}, Dp K H x d → Dp K H' x d
  | _, _, .non => .non
  | _, _, .bl b => .bl b
  | _, _, .int i => .int i
  | _, _, .str z => .str z
  | _, _, .lst h a => .lst (ex_l e h) (dpa_ex e a)
  | _, _, .tup h a => .tup (ex_t e h) (dpa_ex e a)
theorem dpa_ex (e : Ex H H') : ∀ {ds : List PyData} {xs : List V}, DpAll K H xs ds → DpAll K H' xs ds
  | _, _, .nil => .nil
  | _, _, .cons h t => .cons (dp_ex e h) (dpa_ex e t)
end
def EvD (K : PySem.W.Frag) (te : TE) (σ : L2.St) (H : Hp) (d : PyData) : Prop := ∀ H1, Ex H H1 → ∀ Q : VK, (∀ v H2, Ex H1 H2 → Dp K H2 v d → Q v H2) → te σ H1 Q
def EvDA (K : PySem.W.Frag) (ta : TA) (σ : L2.St) (H : Hp) (ds : List PyData) : Prop := ∀ H1, Ex H H1 → ∀ Q : List V → Hp → Prop, (∀ vs H2, Ex H1 H2 → DpAll K H2 vs ds → Q vs H2) → ta σ H1 Q
theorem dpa_len : ∀ {vs : List V} {ds : List PyData}, DpAll K H vs ds → vs.length = ds.length
  | _, _, .nil => rfl
  | _, _, .cons _ t => congrArg (· + 1) (dpa_len t)
theorem evd_of {d : PyData} (h : Ev te σ H v) (hd : ∀ H1, Ex H H1 → Dp K H1 v d) : EvD K te σ H d := fun H1 e Q q => h H1 e Q fun H2 e2 => q v H2 e2 (hd H2 (e.trans e2))
theorem evd_int {i : Int} (h : Ev te σ H (.int i)) : EvD K te σ H (.int i) := evd_of h fun _ _ => .int i
theorem evd_bl {b : Bool} (h : Ev te σ H (.bl b)) : EvD K te σ H (.bool b) := evd_of h fun _ _ => .bl b
theorem evd_str {z : Str} (h : Ev te σ H (.str z)) : EvD K te σ H (.str z) := evd_of h fun _ _ => .str z
theorem evd_non (h : Ev te σ H .non) : EvD K te σ H .none := evd_of h fun _ _ => .non
theorem evda_nil : EvDA K tNil σ H [] := fun H1 _ _ q => q [] H1 (Ex.refl H1) .nil
theorem evda_cons {d : PyData} {ds : List PyData} {tr : TA} (h : EvD K te σ H d) (hr : EvDA K tr σ H ds) : EvDA K (tCons te tr) σ H (d :: ds) := fun H1 e Q q =>
  h H1 e _ fun v H2 e2 hv => hr H2 (e.trans e2) _ fun vs H3 e3 hs => q (v :: vs) H3 (e2.trans e3) (.cons (dp_ex e3 hv) hs)
theorem evd_tup {ds : List PyData} {ts : TA} (h : EvDA K ts σ H ds) (hl : ds.length ≤ 100000) : EvD K (tTup ts) σ H (.tuple ds) := fun H1 e Q q =>
  h H1 e _ fun vs H2 e2 hs => ⟨by rw [dpa_len hs]; exact sz_of hl, fun p hp => q _ _ (e2.trans (Ex.new hp)) (.tup (st_of upd_same) (dpa_ex (Ex.new hp) hs))⟩
theorem evd_lst {ds : List PyData} {ts : TA} (h : EvDA K ts σ H ds) (hl : ds.length ≤ 100000) : EvD K (tLst ts) σ H (.list ds) := fun H1 e Q q =>
  h H1 e _ fun vs H2 e2 hs => ⟨by rw [dpa_len hs]; exact sz_of hl, fun p hp => q _ _ (e2.trans (Ex.new hp)) (.lst (sq_of upd_same) (dpa_ex (Ex.new hp) hs))⟩
theorem ev_eqD {d e : PyData} (h1 : EvD K ta σ H d) (h2 : EvD K tb σ H e) (s1 : SeqAt.shaped d = true) (s2 : SeqAt.shaped e = true) : Ev (tOp (rEqD K) ta tb) σ H (.bl (PyData.eqv d e)) := fun H1 x Q q =>
  h1 H1 x _ fun v H2 x2 hv => h2 H2 (x.trans x2) _ fun u H3 x3 hu => ⟨d, e, dp_ex x3 hv, hu, s1, s2, q H3 (x2.trans x3)⟩
theorem ev_neD {d e : PyData} (h1 : EvD K ta σ H d) (h2 : EvD K tb σ H e) (s1 : SeqAt.shaped d = true) (s2 : SeqAt.shaped e = true) : Ev (tOp (rNeD K) ta tb) σ H (.bl (!PyData.eqv d e)) := fun H1 x Q q =>
  h1 H1 x _ fun v H2 x2 hv => h2 H2 (x.trans x2) _ fun u H3 x3 hu => ⟨d, e, dp_ex x3 hv, hu, s1, s2, q H3 (x2.trans x3)⟩
/-! ### dicts laid on the way -/
def EvPs (trs : List (TE × TE)) (σ : L2.St) (H : Hp) (ps : List (V × V)) : Prop := ∀ H1, Ex H H1 → ∀ Q : List (V × V) → Hp → Prop, (∀ H2, Ex H1 H2 → Q ps H2) → tPairs trs σ H1 Q
theorem eps_nil : EvPs [] σ H [] := fun H1 _ _ q => q H1 (Ex.refl H1)
theorem eps_cons {trs : List (TE × TE)} {ps : List (V × V)} (h1 : Ev ta σ H x) (h2 : Ev tb σ H y) (hr : EvPs trs σ H ps) : EvPs ((ta, tb) :: trs) σ H ((x, y) :: ps) := fun H1 e Q q =>
  h1 H1 e _ fun H2 e2 => h2 H2 (e.trans e2) _ fun H3 e3 => hr H3 ((e.trans e2).trans e3) _ fun H4 e4 => q H4 ((e2.trans e3).trans e4)
def EvK (te : TE) (σ : L2.St) (H : Hp) (kvs : List (Key × V)) : Prop := ∀ H1, Ex H H1 → ∀ Q : VK, (∀ p H2, H1 p = none → Ex H1 H2 → H2 p = some (.dK kvs) → Q (.ref p) H2) → te σ H1 Q
theorem ek_disp {trs : List (TE × TE)} {ps : List (V × V)} (kvs : List (Key × V)) (h : EvPs trs σ H ps) (e : ps = kvs.map fun kv => (kV kv.1, kv.2)) (hl : kvs.length ≤ 15) : EvK (tDisp trs) σ H (mergeK [] kvs) := fun H1 x Q q p hp =>
  h (upd H1 p (.dK [])) (x.trans (Ex.new hp)) _ fun H2 x2 => ⟨x2 _ _ upd_same, kvs, e, hl, q p _ hp (fun a o ha => by rw [upd_ne (ne_of_none ha hp)]; exact x2 _ _ (Ex.new hp _ _ ha)) upd_same⟩
theorem ev_dgetK {kvs : List (Key × V)} {k : Key} (h1 : EvK ta σ H kvs) (h2 : Ev tb σ H (kV k)) (hv : valV kvs k = some v) : Ev (tDGet ta tb) σ H v := fun H1 e Q q =>
  h1 H1 e _ fun p H2 hp e2 h => h2 H2 (e.trans e2) _ fun H3 e3 => ⟨p, v, rfl, by rw [← hv]; exact DGet.k (e3 _ _ h), q H3 (e2.trans e3)⟩
/-! ### sorted ints, an item of a new list -/
theorem el_sorted {tl : TE} {ns ms : List Int} (h : EvL tl σ H (ns.map V.int)) (hl : ns.length < 64) (hp : ms.Perm ns) (hs : ms.Pairwise (· ≤ ·)) : EvL (tCB (rSorted K) (tCons tl tNil)) σ H (ms.map V.int) := fun H1 e Q q =>
  h H1 e _ fun p H2 hp2 e2 h2 => ⟨p, ns, rfl, sq_of h2, hl, fun ns' a hp' hs' ha => by
    have z : ns' = ms := PySem.W.ksm_same (hp'.trans hp.symm) hs' hs
    rw [z]
    exact q a _ (fresh_back e2 ha) (e2.trans (Ex.new ha)) upd_same⟩
theorem ev_ixN {xs : List V} {i : Int} (h : EvL ta σ H xs) (hb : ∀ H1, Ex H H1 → Ev tb σ H1 (.int i)) (ha : atI xs i = some v) : Ev (tOp (rIxL K) ta tb) σ H v := ev_opL1 h hb fun p H1 hp _ => rv_ixL (sq_of hp) ha
theorem q_asgDL {p : Addr} {i : Nat} {ts : TA} {R : List V → Prop} (h : DvA p ts σ H R) (hd : Dice p H) (hl : ∀ vs, R vs → vs.length ≤ 100000) (k : ∀ l xs H1, R xs → Exd p H H1 → Dice p H1 → H1 l = some (.lst xs) → l ≠ p → tz D (σ.set i (some (.ref l))) H1) : tSeq (tAsg (tLst ts) (gName i)) tz D σ H :=
  h H (Exd.refl p H) hd _ fun xs H1 hx e1 d1 => ⟨sz_of (hl xs hx), fun l hl => k l xs _ hx (e1.trans (Exd.of (Ex.new hl))) (d1.ex (Ex.new hl)) upd_same (d1.ne hl)⟩
/-- xs + [drawn things]: a new list of both -/
theorem cat_go {p : Addr} {ts : TA} {R : List V → Prop} {l : Addr} {i : Nat} {xs : List V} {Q : VK} (h : DvA p ts σ H R) (hd : Dice p H) (hx : H l = some (.lst xs)) (hlp : l ≠ p) (hi : σ[i]? = some (some (.ref l))) (hl : ∀ ys, R ys → xs.length + ys.length ≤ 100000)
    (k : ∀ ys l4 H', R ys → Exd p H H' → Dice p H' → H' l4 = some (.lst (xs ++ ys)) → l4 ≠ p → Q (.ref l4) H') : tOp rCat (tVar i) (tLst ts) σ H Q :=
  ⟨.ref l, hi, h H (Exd.refl p H) hd _ fun ys H3 hy e3 d3 => ⟨sz_of (Nat.le_trans (Nat.le_add_left _ _) (hl ys hy)), fun l2 hl2 => ⟨l, l2, xs, ys, rfl, rfl, Ex.new hl2 _ _ (e3 _ _ hlp hx), upd_same, sz_of (hl ys hy), fun l4 hl4 =>
    k ys l4 _ hy (e3.trans ((Exd.of (Ex.new hl2)).trans (Exd.of (Ex.new hl4)))) ((d3.ex (Ex.new hl2)).ex (Ex.new hl4)) upd_same ((d3.ex (Ex.new hl2)).ne hl4)⟩⟩⟩
/-- a if t else b, as a test -/
def tIfT (t u1 u2 : TT) : TT := fun σ H Q => t σ H fun c H1 => if c = true then u1 σ H1 Q else u2 σ H1 Q
theorem pt_ifExp {X : Cx} {c a b : Expr} {pos : Pos} {tA t1 t2 : TT} (hc : PT X c tA) (ha : PT X a t1) (hb : PT X b t2) : PT X (.IfExp c a b pos) (tIfT tA t1 t2) := by
  refine ⟨fun pins s σ H Q I h => ?_⟩
  refine isTrue_IfExp (thn (hc.run pins s σ H _ I h) fun d s1 ⟨H1, I1, q1⟩ => ?_)
  cases d with
  | true => exact ha.run pins s1 σ H1 Q I1 q1
  | false => exact hb.run pins s1 σ H1 Q I1 q1
theorem et_ifT {u1 u2 : TT} {b c : Bool} (h : EvT t σ H b) (h1 : b = true → EvT u1 σ H c) (h2 : b = false → EvT u2 σ H c) : EvT (tIfT t u1 u2) σ H c := fun H1 e Q q => h H1 e _ fun H2 e2 => by
  cases b with
  | true =>
    rw [if_pos rfl]
    exact h1 rfl H2 (e.trans e2) Q fun H3 e3 => q H3 (e2.trans e3)
  | false =>
    rw [if_neg Bool.false_ne_true]
    exact h2 rfl H2 (e.trans e2) Q fun H3 e3 => q H3 (e2.trans e3)
/-- a, b = a new tuple of two -/
theorem q_asg2U {i j : Nat} {v1 v2 : V} (h : EvU te σ H [v1, v2]) (k : ∀ H1, Ex H H1 → tz D ((σ.set i (some v1)).set j (some v2)) H1) : tSeq (tAsg te (gTup K 2 (gCons (gName i) (gCons (gName j) gNil)))) tz D σ H :=
  h H (Ex.refl H) _ fun p H1 hp e hl => ⟨p, [v1, v2], rfl, st_of hl, rfl, v1, [v2], rfl, v2, [], rfl, rfl, k H1 e⟩
/-! ### tests that hang on the dice, calls with a new tuple -/
def DvT (p : Addr) (t : TT) (σ : L2.St) (H : Hp) : Prop := ∀ H1, Exd p H H1 → Dice p H1 → ∀ Q : Bool → Hp → Prop, (∀ b H2, Exd p H1 H2 → Dice p H2 → Q b H2) → t σ H1 Q
def IntV (v : V) : Prop := ∃ n : Int, v = .int n
theorem dvt_eq {p : Addr} {k : Int} (h : Dv p ta σ H IntV) : DvT p (tTest (tOp rEq ta (tC (.int k)))) σ H := fun H1 e d Q q =>
  h H1 e d _ fun v H2 hv e2 d2 => by
    obtain ⟨n, rfl⟩ := hv
    exact ⟨rfl, _, rfl, q _ H2 e2 d2⟩
theorem dv_if {p : Addr} {R : V → Prop} (h : DvT p t σ H) (h1 : Dv p ta σ H R) (h2 : Dv p tb σ H R) : Dv p (tIf t ta tb) σ H R := fun H1 e d Q q =>
  h H1 e d _ fun b H2 e2 d2 => by
    cases b with
    | true =>
      rw [if_pos rfl]
      exact h1 H2 (e.trans e2) d2 Q fun v H3 r e3 d3 => q v H3 r (e2.trans e3) d3
    | false =>
      rw [if_neg Bool.false_ne_true]
      exact h2 H2 (e.trans e2) d2 Q fun v H3 r e3 d3 => q v H3 r (e2.trans e3) d3
theorem dv_op {p : Addr} {R1 R2' R : V → Prop} (h1 : Dv p ta σ H R1) (h2 : Dv p tb σ H R2') (hr : ∀ x y H1, R1 x → R2' y → ∃ z, RV r x y H1 z ∧ R z) : Dv p (tOp r ta tb) σ H R := fun H1 e d Q q =>
  h1 H1 e d _ fun x H2 hx e2 d2 => h2 H2 (e.trans e2) d2 _ fun y H3 hy e3 d3 => by
    obtain ⟨z, hz, rz⟩ := hr x y H3 hx hy
    exact hz H3 (Ex.refl H3) Q fun H4 e4 => q z H4 rz ((e2.trans e3).trans (Exd.of e4)) (d3.ex e4)
theorem dv_c {p : Addr} {R : V → Prop} (hr : R v) : Dv p (tC v) σ H R := dv_ev (fun H1 _ _ => ev_c) hr
theorem dv_var {p : Addr} {i : Nat} {R : V → Prop} (h : σ[i]? = some (some v)) (hr : R v) : Dv p (tVar i) σ H R := dv_ev (fun H1 _ _ => ev_var h) hr
theorem ev_callU {ok : List V → Hp → V → Prop} {E : XK} {xs : List V} (h1 : Ev ta σ H x) (h2 : EvU tb σ H xs) (ho : ∀ p H1, Ex H H1 → H1 p = some (.tup xs) → ok [x, .ref p] H1 z) : Ev (tCall (Pure ok) [] E (tCons ta (tCons tb tNil))) σ H z := fun H1 e Q q =>
  h1 H1 e _ fun H2 e2 => h2 H2 (e.trans e2) _ fun p H3 hp e3 h3 => ⟨z, ho p H3 ((e.trans e2).trans e3) h3, fun H4 e4 => q H4 ((e2.trans e3).trans e4)⟩
/-- a call that draws, whose last argument is a new list -/
theorem dv_pickL {ok : List V → Hp → Addr → (V → Prop) → Prop} {E : XK} {p : Addr} {R : V → Prop} {xs : List V} {i : Nat} (hs : σ[i]? = some (some (.ref p))) (h : ∀ H1, Exd p H H1 → Dice p H1 → EvL tb σ H1 xs) (ho : ∀ l H1, Exd p H H1 → Dice p H1 → l ≠ p → H1 l = some (.lst xs) → ok [.ref p, .ref l] H1 p R) :
    Dv p (tCall (Draws ok) [] E (tCons (tVar i) (tCons tb tNil))) σ H R := fun H1 e d Q q => ⟨.ref p, hs, h H1 e d H1 (Ex.refl H1) _ fun l H2 hl e2 h2 => ⟨p, R, ho l H2 (e.trans (Exd.of e2)) (d.ex e2) (d.ne hl) h2, d.ex e2, fun v H3 r e3 d3 => q v H3 r ((Exd.of e2).trans e3) d3⟩⟩
theorem q_asgDv {p : Addr} {i : Nat} {R : V → Prop} (h : Dv p te σ H R) (hd : Dice p H) (k : ∀ v H1, R v → Exd p H H1 → Dice p H1 → tz D (σ.set i (some v)) H1) : tSeq (tAsg te (gName i)) tz D σ H := h H (Exd.refl p H) hd _ fun v H1 r e1 d1 => k v H1 r e1 d1
theorem s_retDv {p : Addr} {R : V → Prop} (h : Dv p te σ H R) (hd : Dice p H) (k : ∀ v H1, R v → Exd p H H1 → Dice p H1 → D.rt v H1) : tRet te D σ H := h H (Exd.refl p H) hd _ fun v H1 r e1 d1 => k v H1 r e1 d1
theorem q_par {ts : TA} {i j : Nat} {v1 v2 : V} (h : EvA ts σ H [v1, v2]) (k : ∀ H1, Ex H H1 → tz D ((σ.set i (some v1)).set j (some v2)) H1) : tSeq (tPar i j ts) tz D σ H := h H (Ex.refl H) _ fun H1 e1 => ⟨v1, v2, rfl, k H1 e1⟩
theorem q_parDv {p : Addr} {i j : Nat} {R1 R2' : V → Prop} (h1 : Dv p ta σ H R1) (h2 : Dv p tb σ H R2') (hd : Dice p H) (k : ∀ v1 v2 H1, R1 v1 → R2' v2 → Exd p H H1 → Dice p H1 → tz D ((σ.set i (some v1)).set j (some v2)) H1) : tSeq (tPar i j (tCons ta (tCons tb tNil))) tz D σ H :=
  h1 H (Exd.refl p H) hd _ fun v1 H1 r1 e1 d1 => h2 H1 e1 d1 _ fun v2 H2 r2 e2 d2 => ⟨v1, v2, rfl, k v1 v2 H2 r1 r2 (e1.trans e2) d2⟩
/-! ### tests that are known, whatever the dice did -/
def DvF (p : Addr) (t : TT) (σ : L2.St) (H : Hp) (b : Bool) : Prop := ∀ H1, Exd p H H1 → Dice p H1 → ∀ Q : Bool → Hp → Prop, (∀ H2, Exd p H1 H2 → Dice p H2 → Q b H2) → t σ H1 Q
theorem dvf_et {p : Addr} {b : Bool} (h : ∀ H1, Exd p H H1 → Dice p H1 → EvT t σ H1 b) : DvF p t σ H b := fun H1 e d Q q => h H1 e d H1 (Ex.refl H1) Q fun H2 e2 => q H2 (Exd.of e2) (d.ex e2)
theorem dvf_or {p : Addr} {b : Bool} (h1 : DvF p t σ H false) (h2 : DvF p u σ H b) : DvF p (tOr t u) σ H b := fun H1 e d Q q => h1 H1 e d _ fun H2 e2 d2 => by
  rw [if_neg Bool.false_ne_true]
  exact h2 H2 (e.trans e2) d2 Q fun H3 e3 d3 => q H3 (e2.trans e3) d3
theorem dvf_not {p : Addr} {b : Bool} (h : DvF p t σ H b) : DvF p (tNot t) σ H (!b) := fun H1 e d Q q => h H1 e d _ fun H2 e2 d2 => q H2 e2 d2
theorem dvf_B {p : Addr} {b : Bool} (h : Dv p te σ H (fun v => v = .bl b)) : DvF p (tB te) σ H b := fun H1 e d Q q => h H1 e d _ fun v H2 hv e2 d2 => ⟨b, hv, q H2 e2 d2⟩
theorem q_whenF {p : Addr} (h : DvF p t σ H false) (hd : Dice p H) (k : ∀ H1, Exd p H H1 → Dice p H1 → tz D σ H1) : tSeq (tIfS t tu tNext) tz D σ H := h H (Exd.refl p H) hd _ fun H1 e1 d1 => by
  rw [if_neg Bool.false_ne_true]
  exact k H1 e1 d1
/-! ### tuples, whatever the dice did -/
def DvU (K : PySem.W.Frag) (p : Addr) (te : TE) (σ : L2.St) (H : Hp) (R : List V → Prop) : Prop := ∀ H1, Exd p H H1 → Dice p H1 → ∀ Q : VK, (∀ b xs H2, R xs → b ≠ p → Exd p H1 H2 → Dice p H2 → SqT K H2 b xs → Q (.ref b) H2) → te σ H1 Q
theorem Exd.tt {p a : Addr} {xs : List V} (e : Exd p H H') (n : a ≠ p) (h : SqT K H a xs) : SqT K H' a xs := by
  rcases h with (h | ⟨o, h⟩) | h
  · exact .inl (.inl (e _ _ n h))
  · exact .inl (.inr ⟨o, e _ _ n h⟩)
  · exact .inr h
theorem du_sl {p a : Addr} {i : Nat} {xs : List V} {lo hi : Option Int} {tl th : TO} (hs : σ[i]? = some (some (.ref a))) (hap : a ≠ p) (hT : SqT K H a xs) (hl : ∀ H1, EvO tl σ H1 lo) (hh : ∀ H1, EvO th σ H1 hi) (hc : HT.sIx xs.length 0 lo = 0 ∧ HT.sIx xs.length xs.length hi = xs.length → cutV xs lo hi = xs) :
    DvU K p (tSl (rSlA K) (tVar i) tl th) σ H (fun ys => ys = cutV xs lo hi) := fun H1 e d Q q => ⟨.ref a, hs, hl H1 H1 (Ex.refl H1) _ fun H2 e2 => hh H2 H2 (Ex.refl H2) _ fun H3 e3 => ⟨a, xs, rfl, ex_t (e2.trans e3) (e.tt hap hT),
  fun z => q a xs H3 (hc z).symm hap (Exd.of (e2.trans e3)) (d.ex (e2.trans e3)) (ex_t (e2.trans e3) (e.tt hap hT)),
  fun _ b hb => q b _ _ rfl ((d.ex (e2.trans e3)).ne hb) (Exd.of ((e2.trans e3).trans (Ex.new hb))) (d.ex ((e2.trans e3).trans (Ex.new hb))) (st_of upd_same)⟩⟩
theorem du_one {p : Addr} {R : V → Prop} (h : Dv p te σ H R) : DvU K p (tTup (tCons te tNil)) σ H (fun ys => ∃ v, ys = [v] ∧ R v) := fun H1 e d Q q => h H1 e d _ fun v H2 hv e2 d2 => ⟨by show 1 ≤ sizeLine; decide, fun b hb => q b [v] _ ⟨v, rfl, hv⟩ (d2.ne hb) (e2.trans (Exd.of (Ex.new hb))) (d2.ex (Ex.new hb)) (st_of upd_same)⟩
theorem du_cat {p : Addr} {R1 R2' R : List V → Prop} (h1 : DvU K p ta σ H R1) (h2 : DvU K p tb σ H R2') (hr : ∀ xs ys, R1 xs → R2' ys → R (xs ++ ys) ∧ xs.length + ys.length ≤ 100000) : DvU K p (tOp (rCatA K) ta tb) σ H R := fun H1 e d Q q =>
  h1 H1 e d _ fun a xs H2 hx ha e2 d2 h2x => h2 H2 (e.trans e2) d2 _ fun b ys H3 hy hb e3 d3 h3y => by
    obtain ⟨r1, r2⟩ := hr xs ys hx hy
    refine ⟨a, b, xs, ys, rfl, rfl, e3.tt ha h2x, h3y, sz_of r2, fun z => ?_, fun _ z => ?_, fun _ _ c hc => ?_⟩
    · subst z
      exact q b ys H3 r1 hb (e2.trans e3) d3 h3y
    · subst z
      rw [List.append_nil] at r1
      exact q a xs H3 r1 ha (e2.trans e3) d3 (e3.tt ha h2x)
    · exact q c _ _ r1 (d3.ne hc) ((e2.trans e3).trans (Exd.of (Ex.new hc))) (d3.ex (Ex.new hc)) (st_of upd_same)
theorem q_asgU2 {p : Addr} {i : Nat} {R : List V → Prop} (h : DvU K p te σ H R) (hd : Dice p H) (k : ∀ b xs H1, R xs → b ≠ p → Exd p H H1 → Dice p H1 → SqT K H1 b xs → tz D (σ.set i (some (.ref b))) H1) : tSeq (tAsg te (gName i)) tz D σ H := h H (Exd.refl p H) hd _ fun b xs H1 hx hb e1 d1 hT => k b xs H1 hx hb e1 d1 hT
def rTupL (K : PySem.W.Frag) : List V → Hp → VK → Prop := fun xs H Q => ∃ p ys, xs = [.ref p] ∧ SqL K H p ys ∧ ∀ l, H l = none → Q (.ref l) (upd H l (.tup ys))
theorem c_tupL {X : Cx} : CallR X (.type "tuple") (rTupL X.K) := callR_mono call_tuple_of fun vs H Q h => by
  obtain ⟨p, ys, e, hs, k⟩ := h
  exact ⟨p, ys, e, .inl ⟨hs, k⟩⟩
/-- [e for x in range(n)], each e drawn -/
theorem dl_lcR {p : Addr} {n j : Nat} {vs : List Nat} {R : V → Prop} {Q : VK} (hw : ∀ x, wipe ((wipe σ vs).set j (some x)) vs = wipe σ vs) (hn : n ≤ 1000) (he : ∀ i : Nat, i < n → Dv p te ((wipe σ vs).set j (some (.int (0 + (i : Int))))) H R) (hd : Dice p H)
    (k : ∀ l xs H2, (xs.length = n ∧ ∀ v ∈ xs, R v) → l ≠ p → Exd p H H2 → Dice p H2 → H2 l = some (.lst xs) → Q (.ref l) H2) : tLc (iRng1 (tCons (tC (.int n)) tNil)) (gName j) tYes te vs σ H Q :=
  ⟨n, rfl, by omega, by omega, fun Dl hD => by
    have hDp : Dl ≠ p := hd.ne hD
    rw [show ((n : Int).toNat) = n from Int.toNat_natCast n]
    refine lc_range (fun i H' => Exd p H H' ∧ Dice p H' ∧ ∃ acc, H' Dl = some (.lst acc) ∧ acc.length = i ∧ ∀ v ∈ acc, R v) ⟨Exd.of (Ex.new hD), hd.ex (Ex.new hD), [], upd_same, rfl, fun _ h => by cases h⟩ ?_ ?_
    · rintro i H' hi ⟨e', d', acc, hacc, hlen, hR⟩
      refine ⟨hw _, ?_⟩
      unfold tYes
      dsimp only
      rw [if_pos rfl]
      refine he i hi H' e' d' _ fun v H4 hv e4 d4 => ⟨acc, e4 _ _ hDp hacc, sz_lt (by omega), fun a o ha ho => ?_, ?_, acc ++ [v], upd_same, by rw [List.length_append, hlen]; rfl, fun x hx => ?_⟩
      · rw [upd_ne (ne_of_none ho hD)]
        exact e4 _ _ ha (e' _ _ ha ho)
      · obtain ⟨x, y, z, h⟩ := d4
        exact ⟨x, y, z, by rw [upd_ne (Ne.symm hDp)]; exact h⟩
      · rcases List.mem_append.mp hx with z | z
        · exact hR x z
        · rw [List.mem_singleton.mp z]; exact hv
    · rintro H' ⟨e', d', acc, hacc, hlen, hR⟩
      exact k Dl acc H' ⟨hlen, hR⟩ hDp e' d' hacc⟩
theorem du_tupLc {p : Addr} {n j : Nat} {vs : List Nat} {R : V → Prop} (hw : ∀ x, wipe ((wipe σ vs).set j (some x)) vs = wipe σ vs) (hn : n ≤ 1000) (he : ∀ i : Nat, i < n → Dv p te ((wipe σ vs).set j (some (.int (0 + (i : Int))))) H R) :
    DvU K p (tCB (rTupL K) (tCons (tLc (iRng1 (tCons (tC (.int n)) tNil)) (gName j) tYes te vs) tNil)) σ H (fun ys => ys.length = n ∧ ∀ v ∈ ys, R v) := fun H1 e d Q q =>
  dl_lcR (Q := fun x H2 => rTupL K [x] H2 Q) hw hn (fun i hi H2 e2 => he i hi H2 (e.trans e2)) d fun l xs H2 hx hl e2 d2 h2 => ⟨l, xs, rfl, sq_of h2, fun b hb => q b xs _ hx (d2.ne hb) (e2.trans (Exd.of (Ex.new hb))) (d2.ex (Ex.new hb)) (st_of upd_same)⟩
theorem q_parU {p : Addr} {i j : Nat} {R1 : V → Prop} {R2' : List V → Prop} (h1 : Dv p ta σ H R1) (h2 : DvU K p tb σ H R2') (hd : Dice p H) (k : ∀ v1 b xs H1, R1 v1 → R2' xs → b ≠ p → Exd p H H1 → Dice p H1 → SqT K H1 b xs → tz D ((σ.set i (some v1)).set j (some (.ref b))) H1) : tSeq (tPar i j (tCons ta (tCons tb tNil))) tz D σ H :=
  h1 H (Exd.refl p H) hd _ fun v1 H1 r1 e1 d1 => h2 H1 e1 d1 _ fun b xs H2 hx hb e2 d2 hT => ⟨v1, .ref b, rfl, k v1 b xs H2 r1 hx hb (e1.trans e2) d2 hT⟩
theorem s_retCallDv {p : Addr} {ok : List V → Hp → V → Prop} {E : XK} {R : V → Prop} {i j : Nat} {x1 x2 : V} (h1 : σ[i]? = some (some x1)) (h2 : σ[j]? = some (some x2)) (h3 : Dv p te σ H R) (hd : Dice p H) (k : ∀ v H1, R v → Exd p H H1 → Dice p H1 → ok [x1, x2, v] H1 z) (q : ∀ H1, Exd p H H1 → Dice p H1 → D.rt z H1) :
    tRet (tCall (Pure ok) [] E (tCons (tVar i) (tCons (tVar j) (tCons te tNil)))) D σ H := ⟨x1, h1, x2, h2, h3 H (Exd.refl p H) hd _ fun v H1 r e1 d1 => ⟨z, k v H1 r e1 d1, fun H2 e2 => q H2 (e1.trans (Exd.of e2)) (d1.ex e2)⟩⟩
theorem s_whenF {p : Addr} (h : DvF p t σ H false) (hd : Dice p H) (k : ∀ H1, Exd p H H1 → Dice p H1 → D.nx σ H1) : tIfS t tu tNext D σ H := h H (Exd.refl p H) hd _ fun H1 e1 d1 => by
  rw [if_neg Bool.false_ne_true]
  exact k H1 e1 d1
/-- what the dice did is nothing to a heap that has not got them -/
theorem Exd.out {p : Addr} {H0 : Hp} (e : Exd p H H') (e0 : Ex H0 H) (h : H0 p = Option.none) : Ex H0 H' := fun a o ho => e a o (fun z => by rw [z, h] at ho; cases ho) (e0 a o ho)
theorem dpa_ints : ∀ ns : List Int, DpAll K H (ns.map V.int) (ns.map PyData.int)
  | [] => .nil
  | n :: ns => .cons (.int n) (dpa_ints ns)
theorem evd_ints {ns : List Int} (h : EvL te σ H (ns.map V.int)) : EvD K te σ H (.list (ns.map PyData.int)) := fun H1 e Q q => h H1 e Q fun p H2 _ e2 h2 => q _ H2 e2 (.lst (sq_of h2) (dpa_ints ns))
end
end Vr
set_option Elab.async false
set_option linter.all false
set_option maxRecDepth 100000
set_option maxHeartbeats 4000000
namespace En
open PySem PySem.Spec PyProof.Rows L2 Evl Vr
theorem meets_newT (l : Addr) (items : Array Value) :
    Meets (Builtin.«enumerate.__new__» ⟨[.type "enumerate", .ref l], []⟩) (fun _ R s => s.heap.IsTuple l items ∧
      R (.ok (.ret (.ref (s.heap.push { cls := .type "tuple_iterator", data := .fields #[.ref l, .int 0 0] }).objs.size)))
        { s with heap := (s.heap.push { cls := .type "tuple_iterator", data := .fields #[.ref l, .int 0 0] }).push { cls := .type "enumerate", data := .fields #[.none, .bool false, .ref s.heap.objs.size, rawInt 0, .none, .none] } }) :=
  .of_wp fun prog w A R s h => by
    obtain ⟨hp, g, d, tk, os⟩ := s; obtain ⟨hl, h⟩ := h
    have hsub := sub_enumerate
    have q1 : ∀ {A' : Around} {E : Value → Shared → Prop} {Q : Value → Shared → Prop}, Q (.ref hp.objs.size) ⟨hp.push { cls := .type "tuple_iterator", data := .fields #[.ref l, .int 0 0] }, g, d, tk, os⟩ → wpAny (model prog w) A' (pyIter (.ref l)) Q E ⟨hp, g, d, tk, os⟩ :=
      fun q => wpAny_pyIter_tuple (s := ⟨hp, g, d, tk, os⟩) hl q
    wp_walk using q1
    refine wpAny_stack_any fun st => wpAny_pure ?_
    split
    · rename_i c _ _ _ _ _
      cases (c == Value.type "enumerate")
      · wp_walk using q1
        exact ⟨_, rfl, h⟩
      · wp_walk using q1
        exact ⟨_, rfl, h⟩
    · wp_walk using q1
      exact ⟨_, rfl, h⟩
theorem call_enumT {prog : Program} {w : World} {A : Around} {E : Value → Shared → Prop} {s : Shared} {l : Addr} {items : Array Value} {Q : Value → Shared → Prop} (hL : s.heap.IsTuple l items)
    (h : ∀ h', IsEnum h' (s.heap.objs.size + 1) s.heap.objs.size 0 .none → h'.IsTupleIter s.heap.objs.size l 0 → h'.objs.size = s.heap.objs.size + 2 →
      (∀ b o, s.heap.get? b = some o → h'.get? b = some o) → Q (.ref (s.heap.objs.size + 1)) { s with heap := h' }) :
    wpAny (model prog w) A (call (.type "enumerate") [.ref l]) Q E s := by
  refine callType_new F.called_enumerate (by decide) (F.typeCall_enumerate_1 _) (F.newCall_enumerate_1 _) (fun obj => F.args_object_init_2 obj _) F.entry_enumerate_new
    (meets_newT l items) ⟨hL, ?_⟩
  have hz : (s.heap.push { cls := .type "tuple_iterator", data := .fields #[.ref l, .int 0 0] }).objs.size = s.heap.objs.size + 1 := Heap.size_push ..
  show _ ∧ _
  rw [hz]
  have he : IsEnum ((s.heap.push { cls := .type "tuple_iterator", data := .fields #[.ref l, .int 0 0] }).push
      { cls := .type "enumerate", data := .fields #[.none, .bool false, .ref s.heap.objs.size, rawInt 0, .none, .none] }) (s.heap.objs.size + 1) s.heap.objs.size 0 .none := by
    have := Heap.get?_push_size (s.heap.push { cls := .type "tuple_iterator", data := .fields #[.ref l, .int 0 0] })
      (o := { cls := .type "enumerate", data := .fields #[.none, .bool false, .ref s.heap.objs.size, rawInt 0, .none, .none] }) rfl
    rw [hz] at this; exact this
  refine ⟨⟨_, he, rfl⟩, h _ he ⟨_, Heap.get?_push_of_some _ (Heap.get?_push_size _ rfl), rfl, rfl⟩ (by rw [Heap.size_push, hz]) fun b o x => Heap.get?_push_of_some _ (Heap.get?_push_of_some _ x)⟩
/-- the tuple at a, each item in a new pair -/
def IteT (K : PySem.W.Frag) (a : Addr) : It :=
  ⟨fun i H => ∃ (xs : List V) (x : V), SqT K H a xs ∧ xs[i]? = some x, fun i H v H' => ∃ T x, v = .ref T ∧ H T = none ∧ H' = upd H T (.tup [.int (i : Nat), x]) ∧ ∀ xs, SqT K H a xs → xs[i]? = some x, fun i H => ∃ xs : List V, SqT K H a xs ∧ xs.length ≤ i⟩
theorem turn_enumT {P : Program} {w : World} {K : PySem.W.Frag} {elts : List Expr} {kk : Nat} {tpos : Pos} (a e it : Addr) :
    Turn P w K (.Tuple elts kk tpos) (IteT K a) [e, it] e (fun i h => (∃ old, IsEnum h e it ((i : Nat) : Int) old) ∧ h.IsTupleIter it a i ∧ e ≠ it) where
  mem := by simp
  obj := fun i h st b hb => by
    obtain ⟨⟨old, he⟩, ⟨o, ho, hc, hd⟩, _⟩ := st
    have e' : b = e ∨ b = it := by simpa using hb
    rcases e' with z | z
    · rw [z]; exact ⟨_, he, fun v q => nomatch q⟩
    · rw [z]; exact ⟨o, ho, fun v q => by rw [hd] at q; cases q⟩
  keep := fun i h h' st k => let ⟨⟨old, he⟩, hi, hne⟩ := st; ⟨⟨old, k e (by simp) _ he⟩, hi.at fun o q => k it (by simp) o q, hne⟩
  item := by
    intro X hP hw hK hc i pins s σ H E I hf st hg
    subst hP hw hK
    obtain ⟨⟨old, he⟩, hit, hne⟩ := st
    obtain ⟨xs, x, hq, hx⟩ := hg
    obtain ⟨its, rv, p, hz⟩ := I.tuple hq
    have p : s.heap.IsTuple a its.toArray := p
    obtain ⟨u, hu, ru⟩ := rv.get hx
    have hel : e < s.heap.objs.size := Heap.lt_size he
    have hil : it < s.heap.objs.size := by obtain ⟨_, q, _⟩ := hit; exact Heap.lt_size q
    have hai : a ≠ it := by
      intro z
      obtain ⟨o, ho, hc1, _⟩ := hit
      obtain ⟨o2, ho2, hc2, _⟩ := p
      rw [z, ho] at ho2
      cases ho2
      rw [hc1] at hc2
      exact absurd hc2 (by decide)
    have hae : e ≠ a := by
      intro z
      obtain ⟨o2, ho2, hc2, _⟩ := p
      have he' : s.heap.get? e = _ := he
      rw [z, ho2] at he'
      cases he'
      exact absurd (show Value.type "enumerate" = Value.type "tuple" from hc2) (by decide)
    have hh : X.A.handled = none := I.ok.hd hc
    have Dr := Draws.tuple (prog := X.prog) (w := X.w) (A := X.A.in1) (by simp [hh]) it a hai its.toArray
    have hlt : i < its.toArray.size := by
      have := (List.getElem?_eq_some_iff.mp hu).1
      simpa using this
    refine wpAny_pyNext_enum_itemD Dr he ⟨hit, p⟩ hlt hne (by simp [hne, hae]) fun x' h' tk hPx ho hit' hT hsz hk => ?_
    have hxu : x' = u := by
      have h1 : its[i]? = some x' := by simpa using hPx
      rw [hu] at h1
      exact (Option.some.inj h1).symm
    subst hxu
    obtain ⟨hit', _⟩ := hit'
    refine ⟨_, rfl, wpAny_letOwnedTupleGo_enum (s := { s with heap := h', toks := tk + 1 }) ho fun h'' he' sb => ?_⟩
    have hT2 : h''.get? s.heap.objs.size = some { cls := .type "tuple", data := .seq #[.int i tk, x'] } := (sb.2 _ (Nat.ne_of_gt hel)).trans hT
    have new : ObjOk X.prog X.w (upd H s.heap.objs.size (.tup [.int (i : Nat), x])) h'' s.heap.objs.size (.tup [.int (i : Nat), x]) :=
      ⟨by show 2 ≤ sizeLine; decide, [.int i tk, x'], .cons ⟨_, rfl⟩ (.cons ru .nil), ⟨_, hT2, rfl, _, rfl⟩⟩
    have I1 : Inv X pins σ (upd H s.heap.objs.size (.tup [.int (i : Nat), x])) { s with heap := h'', toks := tk + 1 } :=
      I.turnedNew (ch := [e, it]) (fun b ob hb q => (sb.2 b (fun z => hb (by simp [z]))).trans (hk b ob (fun z => hb (by simp [z])) (fun z => hb (by simp [z])) q)) hf (Nat.le_refl _) new
    refine ⟨.ref s.heap.objs.size, _, I1, rfl, ⟨_, x, rfl, I.hok.fresh (Nat.le_refl _), rfl, fun ys hy => by rw [I.tuple_inj hy hq]; exact hx⟩, ⟨⟨x', ?_⟩, hit'.at fun o q => (sb.2 it (Ne.symm hne)).trans q, hne⟩, fun b hb => ?_⟩
    · have e1 : ((i + 1 : Nat) : Int) = (i : Int) + 1 := by omega
      rw [e1]; exact he'
    · have hb' : b < s.heap.objs.size := by
        have e' : b = e ∨ b = it := by simpa using hb
        rcases e' with z | z
        · rw [z]; exact hel
        · rw [z]; exact hil
      rw [upd_ne (Nat.ne_of_lt hb')]
      exact (hf b hb).1
  done := by
    intro X hP hw hK hc i pins s σ H E I hf st hg
    subst hP hw hK
    obtain ⟨⟨old, he⟩, hit, hne⟩ := st
    obtain ⟨xs, hq, hx⟩ := hg
    obtain ⟨its, rv, p, hz⟩ := I.tuple hq
    have p : s.heap.IsTuple a its.toArray := p
    obtain ⟨f0, f1, f2, f3, f4, f5⟩ := hf it (by simp)
    have hl := rv.length
    have hT : s.TypeIs (.ref e) "enumerate" := ⟨_, he, rfl⟩
    have hh : X.A.handled = none := I.ok.hd hc
    unfold pyNext
    refine wpAny_bind (wpAny_attempt (wpAny_callSpecial?_slot (name := Str.ofString "__next__") hT F.slot_enumerate_next
      (wpAny_call_entry F.slot_enumerate_next hT F.entry_enumerate_next ?_ (F.args_enumerate_next_1 _))))
    show wpAny _ _ (field (.ref e) 2 >>= _) _ _ _
    refine wpAny_bind (wpAny_field he rfl (x := .ref it) rfl ?_)
    refine wpAny_bind (wpAny_nextOf_tuple_end (by simp [hh]) hit p (by simp; omega) fun h' x he' hx' => ?_)
    obtain ⟨o, ho, hc⟩ := hx'
    refine wpAny_bind (wpAny_isInstance (T := "StopIteration") (b := true) ⟨o, ho, hc⟩ isSubtype_stop ?_)
    exact wpAny_pure ⟨rfl, I.turned (t' := s.toks) (fun b o hb q => he' b o hb q) f0 f1 f3 f4 f5⟩
  self := fun A i s Q E st h => let ⟨⟨_, he⟩, _⟩ := st; wpAny_pyIter_enum he h
def iEnumT (K : PySem.W.Frag) (ta : TA) : TI := fun σ H R => ta σ H fun vs H1 => ∃ a xs, vs = [.ref a] ∧ SqT K H1 a xs ∧ R (IteT K a) H1
theorem pi_enumT {X : Cx} {e : Expr} {ta : TA} {p pos tpos : Pos} {elts : List Expr} {kk : Nat} (hg : Gl X "enumerate") (hm : X.mg "enumerate" = none) (ha : PA X [e] ta) (hs : starEach [e] X.env = [(false, eval e X.env)] := by rfl) :
    PI X (.Tuple elts kk tpos) (.Call (.Name "enumerate" p) [e] [] pos) (iEnumT X.K ta) := by
  refine ⟨fun pins s σ H R I h => ?_⟩
  refine Call_ (ld_blt I hg hm boot_enumerate (PyProof.Rows.callWith_type1 (thn (ha.run pos pins s σ H _ I h) fun us s1 ⟨vs, H1, I1, r1, q1⟩ => ?_) hs rfl))
  obtain ⟨a, xs, ex, hq, q⟩ := q1
  subst ex
  cases r1 with
  | cons r rr =>
    cases rr
    cases r
    obtain ⟨its, rv, p', hz⟩ := I1.tuple hq
    have p' : s1.heap.IsTuple a its.toArray := p'
    refine call_enumT p' fun h' he hit hsz hk => wpAny_pyIter_enum he ?_
    have I2 : Inv X pins σ H1 { s1 with heap := h' } := I1.kept (t' := s1.toks) hk
    refine ⟨s1.heap.objs.size + 1, [s1.heap.objs.size + 1, s1.heap.objs.size], _, _, H1, rfl, I2, turn_enumT a (s1.heap.objs.size + 1) s1.heap.objs.size, ⟨⟨.none, he⟩, hit, Nat.succ_ne_self _⟩, fun b hb => ?_, q⟩
    have e' : b = s1.heap.objs.size + 1 ∨ b = s1.heap.objs.size := by simpa using hb
    have hle : s1.heap.objs.size ≤ b := by
      rcases e' with z | z
      · rw [z]; exact Nat.le_add_right _ _
      · rw [z]; exact Nat.le_refl _
    exact I1.fpOk hle (I1.hok.fresh hle)
theorem walk_enumT {K : PySem.W.Frag} {a : Addr} {xs : List V} : Walk (IteT K a) xs.length (fun H => SqT K H a xs) (YPair (fun i => some (.int (i : Nat))) (fun i => xs[i]?)) := by
  refine ⟨fun i _ hi q => ⟨xs, xs[i], q, by simp [hi]⟩, fun _ q => ⟨xs, q, Nat.le_refl _⟩, fun i H v H' _ q y => ?_⟩
  obtain ⟨T, x, h1, h2, h3, h4⟩ := y
  exact ⟨T, .int (i : Nat), x, h1, h2, h3, rfl, h4 xs q⟩
/-- [e for i, x in enumerate(tuple) if t] -/
theorem el_lcEnumT {σ : L2.St} {H : Hp} {te : TE} {t : TT} {K : PySem.W.Frag} {a : Addr} {xs : List V} {ta : TA} {j l : Nat} {vs : List Nat} (f : Nat → Bool) (v : Nat → V) (h : EvA ta σ H [.ref a]) (hx : SqT K H a xs) (hz : xs.length ≤ 40000)
    (hw : ∀ x y, wipe (((wipe σ vs).set j (some x)).set l (some y)) vs = wipe σ vs)
    (ht : ∀ (i : Nat) (x : V) H1, Ex H H1 → xs[i]? = some x → EvT t (((wipe σ vs).set j (some (.int (i : Nat)))).set l (some x)) H1 (f i)) (he : ∀ (i : Nat) (x : V) H1, Ex H H1 → xs[i]? = some x → f i = true → Ev te (((wipe σ vs).set j (some (.int (i : Nat)))).set l (some x)) H1 (v i)) :
    EvL (tLc (iEnumT K ta) (gTup K 2 (gCons (gName j) (gCons (gName l) gNil))) t te vs) σ H (given xs.length f v) := fun H0 e Q q => h H0 e _ fun H1 e1 => ⟨a, xs, rfl, ex_t (e.trans e1) hx, fun Dl hD =>
  lc_it walk_enumT (Cw H1 f v Dl) ⟨hD, Ex.new hD, upd_same⟩ (fun i H' _ p => ex_t ((e.trans e1).trans p.2.1) hx) (fun i x H' H'' hi p y => by
    obtain ⟨T, y1, y2, rfl, hT, rfl, h3, h4⟩ := y
    have h3 : y1 = .int (i : Nat) := (Option.some.inj h3).symm
    subst h3
    have eT : Ex H' (upd H' T (.tup [.int (i : Nat), y2])) := Ex.new hT
    refine ⟨T, [.int (i : Nat), y2], rfl, st_of upd_same, rfl, .int (i : Nat), [y2], rfl, y2, [], rfl, rfl, hw _ _, ?_⟩
    have p' : Cw H1 f v Dl i (upd H' T (.tup [.int (i : Nat), y2])) := ⟨p.1, p.2.1.trans eT, eT _ _ p.2.2⟩
    exact cw_turn p' (by omega) (ht i y2 H1 (e.trans e1) h4) (fun hf => he i y2 H1 (e.trans e1) h4 hf))
    (fun H' p => q Dl H' (fresh_back e1 p.1) (e1.trans p.2.1) p.2.2)⟩
end En
set_option Elab.async false
set_option linter.all false
set_option maxRecDepth 100000
set_option maxHeartbeats 4000000
namespace Wo
open PySem PySem.Spec PyProof.Rows L2 Evl Vr En
section
variable {X : Cx} {CX : CXT} {n f C : Addr} {fd : FuncData} {ps : List Str} {sp : Sp} {E : XK} {pins : List (Addr × Obj)} {σ : L2.St} {H : Hp} {s : Shared} {us : List Value} {vs : List V} {Q : VK}
theorem ix_tupK {X : Cx} {K : PySem.W.Frag} (h : X.K = K) : IxR X (rIxT K) := by subst h; exact ix_tup
theorem ix_listK {X : Cx} {K : PySem.W.Frag} (h : X.K = K) : IxR X (rIxL K) := by subst h; exact ix_list
/-- a def called from somewhere below the body -/
theorem call_sub {A : Around} {k : Nat} (sb : Sub X k A) (F : FnOk X.prog X.w X.K X.mg X.base CX k f fd ps sp) (hb : Binds X.K fd ps []) (hx : Passes CX X E) (I : Inv X pins σ H s) (r : Vals vs us) (h : sp vs H Q E) :
    wpAny (model X.prog X.w) A (call (.ref f) us) (EP X pins σ Q) X.xe s := by
  have e0 : Env0 X.prog X.w X.K X.mg X.base A X.stack s H := by
    have e := I.env0
    exact ⟨by rw [sb.fr]; exact e.frames, e.mod, e.bs, e.bsz, e.funs, e.frf, e.hok, e.bare⟩
  have hl := F.len _ _ _ _ h
  have hb' : BindsTo s fd ⟨us, []⟩ (ps.zip us) := by
    have := hb s us I.kIn (by rw [List.append_nil, ← r.length]; exact hl)
    simpa using this
  refine wpAny_call (codeAny_mono (F.run A X.stack s H ⟨us, []⟩ us vs Q E sb.room e0 hb' r h) fun r s' hq => ?_)
  cases r with
  | error e => exact hx pins σ H s e s' I hq
  | ok fl =>
    cases fl with
    | ret u => exact I.after hq
    | next => exact False.elim hq
    | brk => exact False.elim hq
    | cont => exact False.elim hq
/-- the bool that comes back -/
def backB (Q : VK) : VK := fun v H' => ∃ b, v = .bl b ∧ Q (.bl b) H'
def backN (Q : VK) : VK := fun v H' => ∃ b, v = .bl b ∧ Q (.bl (!b)) H'
/-- x in o, o's class with its own __contains__ -/
def rInO (C : Addr) (sp : Sp) (E : XK) : R2 := fun x y H Q => ∃ a dx fs, y = .ref a ∧ H a = some (.ins C dx fs) ∧ sp [.ref a, x] H (backB Q) E
def rNiO (C : Addr) (sp : Sp) (E : XK) : R2 := fun x y H Q => ∃ a dx fs, y = .ref a ∧ H a = some (.ins C dx fs) ∧ sp [.ref a, x] H (backN Q) E
theorem op_inO {k : Nat} (F : FnOk X.prog X.w X.K X.mg X.base CX k f fd ps sp) (hr : Room k X.A) (M : Meth X.K C "__contains__" f) (hb : Binds X.K fd ps []) (hx : Passes CX X E) : OpR X (compareOp .In) (rInO C sp E) := by
  intro pins s σ H x y v u Q I rx ry h
  obtain ⟨a, dx, fs, rfl, ha, h⟩ := h
  cases ry
  obtain ⟨mA, J, _⟩ := ins_get I.hok ha
  obtain ⟨od, J, _⟩ := J.look
  obtain ⟨m, hF⟩ := I.fr
  refine PySem.W.in_K hF I.ok.mod.kin J M.at_ M.fn ?_
  refine wpAny_mono (call_sub (vs := [.ref a, x]) ⟨hr, rfl⟩ F hb hx I (.cons rfl (.cons rx .nil)) h) (fun r s' z => ?_) fun _ _ z => z
  obtain ⟨w, H', I', rw', b, rfl, q⟩ := z
  cases rw'
  exact wpAny_truthy_bool ⟨.bl b, H', I', rfl, q⟩
theorem op_niO {k : Nat} (F : FnOk X.prog X.w X.K X.mg X.base CX k f fd ps sp) (hr : Room k X.A) (M : Meth X.K C "__contains__" f) (hb : Binds X.K fd ps []) (hx : Passes CX X E) : OpR X (compareOp .NotIn) (rNiO C sp E) := by
  intro pins s σ H x y v u Q I rx ry h
  obtain ⟨a, dx, fs, rfl, ha, h⟩ := h
  cases ry
  obtain ⟨mA, J, _⟩ := ins_get I.hok ha
  obtain ⟨od, J, _⟩ := J.look
  obtain ⟨m, hF⟩ := I.fr
  refine PySem.W.notIn_K hF I.ok.mod.kin J M.at_ M.fn ?_
  refine wpAny_mono (call_sub (vs := [.ref a, x]) ⟨hr, rfl⟩ F hb hx I (.cons rfl (.cons rx .nil)) h) (fun r s' z => ?_) fun _ _ z => z
  obtain ⟨w, H', I', rw', b, rfl, q⟩ := z
  cases rw'
  exact wpAny_truthy_bool ⟨.bl (!b), H', I', rfl, q⟩
/-- len(o) -/
def rLenO (C : Addr) (sp : Sp) (E : XK) : List V → Hp → VK → Prop := fun xs H Q => ∃ a dx fs, xs = [.ref a] ∧ H a = some (.ins C dx fs) ∧ sp [.ref a] H (fun v H' => ∃ n : Int, v = .int n ∧ 0 ≤ n ∧ n < 2 ^ 63 ∧ Q (.int n) H') E
theorem c_lenO {k : Nat} (F : FnOk X.prog X.w X.K X.mg X.base CX k f fd ps sp) (hr : Room (k + 1) X.A) (M : Meth X.K C "__len__" f) (hb : Binds X.K fd ps []) (hx : Passes CX X E) : CallR X (.builtin "len") (rLenO C sp E) := by
  intro pins s σ H xs us Q I r h
  obtain ⟨a, dx, fs, rfl, ha, h⟩ := h
  rw [Vals.ref1 r]
  obtain ⟨mA, J, _⟩ := ins_get I.hok ha
  obtain ⟨od, J, _⟩ := J.look
  obtain ⟨m, hF⟩ := I.fr
  refine PySem.W.len_K hF I.ok.mod.kin J M.at_ M.fn ?_
  have hs : Sub X k X.A.in1 := Sub.in1 ⟨hr, rfl⟩
  refine wpAny_mono (call_sub (vs := [.ref a]) hs F hb hx I (.cons rfl .nil) h) (fun r s' z => ?_) fun _ _ z => z
  obtain ⟨w, H', I', rw', n, rfl, h0, h1, q⟩ := z
  obtain ⟨t, rfl⟩ := rw'
  exact ⟨⟨h0, h1⟩, .int n, H', I'.tok _, ⟨_, rfl⟩, q⟩
end
section
variable {σ : L2.St} {H : Hp} {te ta tb to : TE} {ts tr : TA} {K : PySem.W.Frag} {a C dx : Addr} {fs : List (Str × V)} {f : Str} {v z x : V}
theorem ev_fld (h : Ev ta σ H (.ref a)) (ho : H a = some (.ins C dx fs)) (c : Cls K C) (n : NoAttr K C f) (l : fs.lookup f = some v) : Ev (tFld K ta f) σ H v := fun H1 e Q q =>
  h H1 e _ fun H2 e2 => ⟨a, C, dx, fs, v, rfl, (e.trans e2) _ _ ho, c, n, l, q H2 e2⟩
theorem ev_methP {m : Str} {ok : List V → Hp → V → Prop} {E : XK} {vs : List V} (h : Ev to σ H (.ref a)) (ho : H a = some (.ins C dx fs)) (hl : fs.lookup m = none) (ha : EvA ts σ H vs) (hok : ∀ H1, Ex H H1 → ok (.ref a :: vs) H1 z) : Ev (tMeth C m (Pure ok) [] E to ts) σ H z := fun H1 e Q q =>
  h H1 e _ fun H2 e2 => ⟨a, dx, fs, rfl, (e.trans e2) _ _ ho, hl, ha H2 (e.trans e2) _ fun H3 e3 => by
    rw [List.append_nil]
    exact ⟨z, hok H3 ((e.trans e2).trans e3), fun H4 e4 => q H4 ((e2.trans e3).trans e4)⟩⟩
theorem rv_inO {ok : List V → Hp → V → Prop} {E : XK} {b : Bool} (ho : H a = some (.ins C dx fs)) (hok : ∀ H1, Ex H H1 → ok [.ref a, x] H1 (.bl b)) : RV (rInO C (Pure ok) E) x (.ref a) H (.bl b) := fun H1 e Q q =>
  ⟨a, dx, fs, rfl, e _ _ ho, .bl b, hok H1 e, fun H2 e2 => ⟨b, rfl, q H2 e2⟩⟩
theorem rv_niO {ok : List V → Hp → V → Prop} {E : XK} {b : Bool} (ho : H a = some (.ins C dx fs)) (hok : ∀ H1, Ex H H1 → ok [.ref a, x] H1 (.bl b)) : RV (rNiO C (Pure ok) E) x (.ref a) H (.bl (!b)) := fun H1 e Q q =>
  ⟨a, dx, fs, rfl, e _ _ ho, .bl b, hok H1 e, fun H2 e2 => ⟨b, rfl, q H2 e2⟩⟩
theorem rc_lenO {ok : List V → Hp → V → Prop} {E : XK} {n : Int} (ho : H a = some (.ins C dx fs)) (h0 : 0 ≤ n) (h1 : n < 2 ^ 63) (hok : ∀ H1, Ex H H1 → ok [.ref a] H1 (.int n)) : RC (rLenO C (Pure ok) E) [.ref a] H (.int n) := fun H1 e Q q =>
  ⟨a, dx, fs, rfl, e _ _ ho, .int n, hok H1 e, fun H2 e2 => ⟨n, rfl, h0, h1, q H2 e2⟩⟩
end
end Wo
set_option Elab.async false
set_option linter.all false
set_option maxRecDepth 100000
set_option maxHeartbeats 4000000
namespace Wo
open PySem PySem.Spec PyProof.Rows L2 Evl Vr En
section
variable {σ : L2.St} {H H' : Hp} {te ta tb tc tn to : TE} {t : TT} {tr ts tk : TA} {tz tu : TS} {D : Ends} {K : PySem.W.Frag} {w : World} {x y z v : V} {g : TG}
def Tupd (ok : List V → Hp → List V → Prop) : Sp := fun vs H Q _ => ∃ xs, ok vs H xs ∧ ∀ p H', H p = none → Ex H H' → H' p = some (.tup xs) → Q (.ref p) H'
theorem eu_callT {ok : List V → Hp → List V → Prop} {E : XK} {ts : TA} {vs xs : List V} (h : EvA ts σ H vs) (ho : ∀ H1, Ex H H1 → ok vs H1 xs) : EvU (tCall (Tupd ok) [] E ts) σ H xs := fun H1 e Q q =>
  h H1 e _ fun H2 e2 => by
    show Tupd ok (vs ++ []) H2 Q E
    rw [List.append_nil]
    exact ⟨xs, ho H2 (e.trans e2), fun p H3 hp e3 h3 => q p H3 (fresh_back e2 hp) (e2.trans e3) h3⟩
theorem q_asg2T {i j : Nat} {p : Addr} {v1 v2 : V} (h : Ev te σ H (.ref p)) (hT : SqT K H p [v1, v2]) (k : ∀ H1, Ex H H1 → tz D ((σ.set i (some v1)).set j (some v2)) H1) : tSeq (tAsg te (gTup K 2 (gCons (gName i) (gCons (gName j) gNil)))) tz D σ H :=
  h H (Ex.refl H) _ fun H1 e => ⟨p, [v1, v2], rfl, ex_t e hT, rfl, v1, [v2], rfl, v2, [], rfl, rfl, k H1 e⟩
theorem q_asg4T {i j l m : Nat} {p : Addr} {v1 v2 v3 v4 : V} (h : Ev te σ H (.ref p)) (hT : SqT K H p [v1, v2, v3, v4]) (k : ∀ H1, Ex H H1 → tz D ((((σ.set i (some v1)).set j (some v2)).set l (some v3)).set m (some v4)) H1) : tSeq (tAsg te (gTup K 4 (gCons (gName i) (gCons (gName j) (gCons (gName l) (gCons (gName m) gNil)))))) tz D σ H :=
  h H (Ex.refl H) _ fun H1 e => ⟨p, [v1, v2, v3, v4], rfl, ex_t e hT, rfl, v1, _, rfl, v2, _, rfl, v3, _, rfl, v4, [], rfl, rfl, k H1 e⟩
def Lstd (ok : List V → Hp → List V → Prop) : Sp := fun vs H Q _ => ∃ xs, ok vs H xs ∧ ∀ p H', H p = none → Ex H H' → H' p = some (.lst xs) → Q (.ref p) H'
theorem el_callL {ok : List V → Hp → List V → Prop} {E : XK} {ts : TA} {vs xs : List V} (h : EvA ts σ H vs) (ho : ∀ H1, Ex H H1 → ok vs H1 xs) : EvL (tCall (Lstd ok) [] E ts) σ H xs := fun H1 e Q q =>
  h H1 e _ fun H2 e2 => by
    show Lstd ok (vs ++ []) H2 Q E
    rw [List.append_nil]
    exact ⟨xs, ho H2 (e.trans e2), fun p H3 hp e3 h3 => q p H3 (fresh_back e2 hp) (e2.trans e3) h3⟩
theorem eu_if {b : Bool} {xs : List V} (h : EvT t σ H b) (h1 : b = true → EvU ta σ H xs) (h2 : b = false → EvU tb σ H xs) : EvU (tIf t ta tb) σ H xs := fun H1 e Q q => h H1 e _ fun H2 e2 => by
  match b with
  | true =>
    rw [if_pos rfl]
    exact h1 rfl H2 (e.trans e2) Q fun p H3 hp e3 h3 => q p H3 (fresh_back e2 hp) (e2.trans e3) h3
  | false =>
    rw [if_neg Bool.false_ne_true]
    exact h2 rfl H2 (e.trans e2) Q fun p H3 hp e3 h3 => q p H3 (fresh_back e2 hp) (e2.trans e3) h3
theorem ea_starL {xs ys : List V} (h : EvL te σ H xs) (hr : ∀ H1, Ex H H1 → EvA tr σ H1 ys) : EvA (StX.tStar K te tr) σ H (xs ++ ys) := fun H1 e Q q =>
  h H1 e _ fun p H2 hp e2 h2 => ⟨p, xs, rfl, .inr (sq_of h2), hr H2 (e.trans e2) H2 (Ex.refl H2) _ fun H3 e3 => q H3 (e2.trans e3)⟩
theorem given_int (l : List Int) (g : Int → Bool) : given l.length (fun i => g (l.getD i 0)) (fun i => V.int (l.getD i 0)) = (l.filter g).map V.int := by
  unfold given
  have e : (List.range l.length).map (fun i => l.getD i 0) = l := by
    apply List.ext_getElem
    · simp
    · intro i h1 h2
      simp [List.getD_eq_getElem?_getD, List.getElem?_eq_getElem h2]
  conv => rhs; rw [← e, List.filter_map, List.map_map]
  rfl
theorem ev_callT {ok : List V → Hp → V → Prop} {E : XK} {xs vs : List V} (h1 : EvU ta σ H xs) (h2 : ∀ H1, Ex H H1 → EvA tr σ H1 vs) (ho : ∀ p H1, Ex H H1 → H1 p = some (.tup xs) → ok (.ref p :: vs) H1 z) : Ev (tCall (Pure ok) [] E (tCons ta tr)) σ H z := fun H1 e Q q =>
  h1 H1 e _ fun p H2 hp e2 hx => h2 H2 (e.trans e2) H2 (Ex.refl H2) _ fun H3 e3 => by
    show Pure ok ((.ref p :: vs) ++ []) H3 Q E
    rw [List.append_nil]
    exact ⟨z, ho p H3 ((e.trans e2).trans e3) (e3 _ _ hx), fun H4 e4 => q H4 ((e2.trans e3).trans e4)⟩
theorem ev_anyN {bs : List Bool} (ha : EvL ta σ H (bs.map V.bl)) : Ev (tCB (rAny K) (tCons ta tNil)) σ H (.bl (bs.any id)) := fun H1 e Q q =>
  ha H1 e _ fun p H2 _ e2 h2 => ⟨p, bs, rfl, sq_of h2, q H2 e2⟩
theorem ev_minN {ns : List Int} {m : Int} (ha : EvL ta σ H (ns.map V.int)) (hm : m ∈ ns) (hl : ∀ y ∈ ns, m ≤ y) : Ev (tCB (rMin K) (tCons ta tNil)) σ H (.int m) := fun H1 e Q q =>
  ha H1 e _ fun p H2 _ e2 h2 => ⟨p, ns, rfl, sq_of h2, List.length_pos_of_mem hm, fun m' h1 h3 => by
    have e4 : m' = m := Int.le_antisymm (h3 m hm) (hl m' h1)
    rw [e4]
    exact q H2 e2⟩
theorem el_lcT {a : Addr} {xs : List V} {tl : TE} {j : Nat} {vs : List Nat} (f : Nat → Bool) (v : Nat → V) (h : Ev tl σ H (.ref a)) (hx : SqT K H a xs) (hz : xs.length ≤ 40000) (hw : ∀ x, wipe ((wipe σ vs).set j (some x)) vs = wipe σ vs)
    (ht : ∀ (i : Nat) (x : V) H1, Ex H H1 → xs[i]? = some x → EvT t ((wipe σ vs).set j (some x)) H1 (f i)) (he : ∀ (i : Nat) (x : V) H1, Ex H H1 → xs[i]? = some x → f i = true → Ev te ((wipe σ vs).set j (some x)) H1 (v i)) :
    EvL (tLc (iTup K tl) (gName j) t te vs) σ H (given xs.length f v) := fun H0 e Q q => h H0 e _ fun H1 e1 => ⟨a, rfl, ⟨xs, ex_t (e.trans e1) hx⟩, fun Dl hD =>
  lc_tup (xs := xs) (Cw H1 f v Dl) ⟨hD, Ex.new hD, upd_same⟩ (fun i H' _ p => ex_t ((e.trans e1).trans p.2.1) hx) (fun i x H' hi p => ⟨hw x, cw_turn p (by have := (List.getElem?_eq_some_iff.mp hi).1; omega) (ht i x H1 (e.trans e1) hi) (fun hf => he i x H1 (e.trans e1) hi hf)⟩)
    (fun H' p => q Dl H' (fresh_back e1 p.1) (e1.trans p.2.1) p.2.2)⟩
theorem given_yes_map {α : Type} (l : List α) (d : α) (g : α → V) : given l.length (fun _ => true) (fun i => g (l.getD i d)) = l.map g := by
  unfold given
  rw [List.filter_eq_self.mpr (fun _ _ => rfl)]
  apply List.ext_getElem
  · simp
  · intro i h1 h2
    have h3 : i < l.length := by simpa using h2
    simp [List.getD_eq_getElem?_getD, List.getElem?_eq_getElem h3]
theorem rc_isiTup {a : Addr} {xs : List V} (h : SqT K H a xs) : RC (rIsi K) [.ref a, .ty "tuple"] H (.bl true) := fun H1 e Q q => by
  have ht : TyX K H1 (.ref a) (.type "tuple") := by
    rcases ex_t e h with h | ⟨o, its, n, h1, h2, _⟩
    · rcases h with h | ⟨d, h⟩
      · exact .base (.tup h)
      · exact .fTuple h
    · exact .kTuple h1 h2
  exact ⟨_, .ty "tuple", .type "tuple", .type "tuple", true, rfl, .ty _, ht, kit_ty (r := true) (by decide +kernel), q H1 (Ex.refl H1)⟩
theorem rc_lenT {a : Addr} {xs : List V} (h : SqT K H a xs) : RC (rLenS K) [.ref a] H (.int (xs.length : Int)) := fun H1 e _ q => ⟨a, xs, rfl, .inr (ex_t e h), q H1 (Ex.refl H1)⟩
theorem within_ok {lo hi n : Int} (h : lo ≤ n ∧ n ≤ hi) (hl : -1000000000 ≤ lo) (hh : hi ≤ 1000000000) : isWithin lo hi (.int n) = true := by
  unfold isWithin isIntV
  simp only [Bool.and_eq_true, decide_eq_true_eq]
  omega
theorem ev_allN {bs : List Bool} (ha : EvL ta σ H (bs.map V.bl)) : Ev (tCB (rAll K) (tCons ta tNil)) σ H (.bl (bs.all id)) := fun H1 e Q q =>
  ha H1 e _ fun p H2 _ e2 h2 => ⟨p, bs, rfl, sq_of h2, q H2 e2⟩
theorem ev_callVT {ok : List V → Hp → V → Prop} {E : XK} {x : V} {xs vs : List V} (h0 : Ev ta σ H x) (h1 : EvU tb σ H xs) (h2 : ∀ H1, Ex H H1 → EvA tr σ H1 vs) (ho : ∀ p H1, Ex H H1 → H1 p = some (.tup xs) → ok (x :: .ref p :: vs) H1 z) : Ev (tCall (Pure ok) [] E (tCons ta (tCons tb tr))) σ H z := fun H0 e0 Q q =>
  h0 H0 e0 _ fun H1 e1 => h1 H1 (e0.trans e1) _ fun p H2 hp e2 hx => h2 H2 ((e0.trans e1).trans e2) H2 (Ex.refl H2) _ fun H3 e3 => by
    show Pure ok ((x :: .ref p :: vs) ++ []) H3 Q E
    rw [List.append_nil]
    exact ⟨z, ho p H3 (((e0.trans e1).trans e2).trans e3) (e3 _ _ hx), fun H4 e4 => q H4 (((e1.trans e2).trans e3).trans e4)⟩
theorem given_filter {α : Type} (l : List α) (d : α) (g : α → Bool) (h : α → V) : given l.length (fun i => g (l.getD i d)) (fun i => h (l.getD i d)) = (l.filter g).map h := by
  unfold given
  have e : (List.range l.length).map (fun i => l.getD i d) = l := by
    apply List.ext_getElem
    · simp
    · intro i h1 h2
      simp [List.getD_eq_getElem?_getD, List.getElem?_eq_getElem h2]
  conv => rhs; rw [← e, List.filter_map, List.map_map]
  rfl
theorem lay_ints : ∀ ns : List Int, PyData.canLayAll0 (ns.map PyData.int) = true ∧ PyData.depthAll (ns.map PyData.int) = 0
  | [] => ⟨rfl, rfl⟩
  | n :: ns => by
    have h := lay_ints ns
    refine ⟨?_, ?_⟩
    · show (true && PyData.canLayAll0 (ns.map PyData.int)) = true
      rw [h.1]
      rfl
    · show max 0 (PyData.depthAll (ns.map PyData.int)) = 0
      rw [h.2]
      rfl
theorem shaped_ints (ns : List Int) : SeqAt.shaped (.list (ns.map PyData.int)) = true := by
  have h := lay_ints ns
  show (PyData.canLayAll0 (ns.map PyData.int) && decide (PyData.depthAll (ns.map PyData.int) + 1 ≤ 64)) = true
  rw [h.1, h.2]
  rfl
def DrawsT (ok : List V → Hp → Addr → (List V → Prop) → Prop) : Sp := fun vs H Q _ => ∃ p R, ok vs H p R ∧ Dice p H ∧ ∀ a xs H', R xs → a ≠ p → Exd p H H' → Dice p H' → H' a = some (.tup xs) → Q (.ref a) H'
theorem du_callT {ok : List V → Hp → Addr → (List V → Prop) → Prop} {E : XK} {ts : TA} {p : Addr} {R : List V → Prop} {vs : List V} (h : ∀ H1, Exd p H H1 → Dice p H1 → EvA ts σ H1 vs) (ho : ∀ H1, Exd p H H1 → Dice p H1 → ok vs H1 p R) : DvU K p (tCall (DrawsT ok) [] E ts) σ H R := fun H1 e d Q q =>
  h H1 e d H1 (Ex.refl H1) _ fun H2 e2 => by
    show DrawsT ok (vs ++ []) H2 Q E
    rw [List.append_nil]
    exact ⟨p, R, ho H2 (e.trans (Exd.of e2)) (d.ex e2), d.ex e2, fun a xs H3 hx ha e3 d3 h3 => q a xs H3 hx ha ((Exd.of e2).trans e3) d3 (st_of h3)⟩
theorem s_retT {p : Addr} {ts : TA} {R : List V → Prop} (h : DvA p ts σ H R) (hd : Dice p H) (hl : ∀ xs, R xs → xs.length ≤ 100000) (k : ∀ a xs H1, R xs → a ≠ p → Exd p H H1 → Dice p H1 → H1 a = some (.tup xs) → D.rt (.ref a) H1) : tRet (tTup ts) D σ H :=
  h H (Exd.refl p H) hd _ fun xs H1 hx e1 d1 => ⟨sz_of (hl xs hx), fun a ha => k a xs _ hx (d1.ne ha) (e1.trans (Exd.of (Ex.new ha))) (d1.ex (Ex.new ha)) upd_same⟩
theorem da_nil0 {p : Addr} : DvA p tNil σ H (fun vs => vs = []) := fun H1 e d Q q => q [] H1 rfl (Exd.refl p H1) d
theorem da_cons2 {p : Addr} {R1 : V → Prop} {R2' : List V → Prop} (h : Dv p te σ H R1) (hr : DvA p tr σ H R2') : DvA p (tCons te tr) σ H (fun vs => ∃ v ws, vs = v :: ws ∧ R1 v ∧ R2' ws) := fun H1 e d Q q =>
  h H1 e d _ fun v H2 r e2 d2 => hr H2 (e.trans e2) d2 _ fun ws H3 rs e3 d3 => q (v :: ws) H3 ⟨v, ws, rfl, r, rs⟩ (e2.trans e3) d3
theorem q_asgLc {p : Addr} {n i j : Nat} {vs : List Nat} {R : V → Prop} {tz : TS} (hw : ∀ x, wipe ((wipe σ vs).set j (some x)) vs = wipe σ vs) (hn : n ≤ 1000) (he : ∀ k : Nat, k < n → Dv p te ((wipe σ vs).set j (some (.int (0 + (k : Int))))) H R) (hd : Dice p H)
    (k : ∀ l xs H2, (xs.length = n ∧ ∀ v ∈ xs, R v) → l ≠ p → Exd p H H2 → Dice p H2 → H2 l = some (.lst xs) → tz D (σ.set i (some (.ref l))) H2) : tSeq (tAsg (tLc (iRng1 (tCons (tC (.int n)) tNil)) (gName j) tYes te vs) (gName i)) tz D σ H := dl_lcR (Q := fun v H2 => tz D (σ.set i (some v)) H2) hw hn he hd k
def reprV : V → Str
  | .int i => toString i
  | .bl b => if b then "True" else "False"
  | _ => "None"
def reprOk : V → Prop
  | .int i => i.natAbs.log2 < 1920
  | .bl _ => True
  | .non => True
  | _ => False
def rReprA : List V → Hp → VK → Prop := fun xs H Q => ∃ x, xs = [x] ∧ reprOk x ∧ Q (.str (reprV x)) H
theorem c_reprA {X : Cx} : CallR X (.builtin "repr") rReprA := by
  intro pins s σ H xs us Q I r h
  obtain ⟨x, rfl, hz, q⟩ := h
  match x, hz with
  | .int i, hz => 
    obtain ⟨u, rfl, t, rfl⟩ := vals1 r
    exact PySem.P.repr_of_int hz ⟨.str _, H, I.tok _, ⟨_, rfl⟩, q⟩
  | .bl b, _ =>
    obtain ⟨u, rfl, rfl⟩ := vals1 r
    exact PySem.P.repr_of_bool ⟨.str _, H, I.tok _, ⟨_, rfl⟩, q⟩
  | .non, _ =>
    obtain ⟨u, rfl, rfl⟩ := vals1 r
    exact PySem.P.repr_of_none ⟨.str _, H, I.tok _, ⟨_, rfl⟩, q⟩
theorem rc_reprA (h : reprOk x) : RC rReprA [x] H (.str (reprV x)) := fun H1 _ _ q => ⟨x, rfl, h, q H1 (Ex.refl H1)⟩
theorem el_cat {xs ys : List V} (h1 : EvL ta σ H xs) (h2 : EvL tb σ H ys) (hz : xs.length + ys.length ≤ 100000) : EvL (tOp rCat ta tb) σ H (xs ++ ys) := fun H1 e Q q =>
  h1 H1 e _ fun p H2 hp e2 hx => h2 H2 (e.trans e2) _ fun r H3 hr e3 hy => ⟨p, r, xs, ys, rfl, rfl, e3 _ _ hx, hy, sz_of hz, fun l hl =>
    q l _ (fresh_back (e2.trans e3) hl) ((e2.trans e3).trans (Ex.new hl)) upd_same⟩
theorem q_asg2UU {tz : TS} {i j : Nat} {xs ys : List V} (h1 : EvU ta σ H xs) (h2 : EvU tb σ H ys) (k : ∀ p r H1, H p = none → H r = none → Ex H H1 → H1 p = some (.tup xs) → H1 r = some (.tup ys) → tz D ((σ.set i (some (.ref p))).set j (some (.ref r))) H1) :
    tSeq (tAsg (tTup (tCons ta (tCons tb tNil))) (gTup K 2 (gCons (gName i) (gCons (gName j) gNil)))) tz D σ H :=
  h1 H (Ex.refl H) _ fun p H1 hp e1 hx => h2 H1 e1 _ fun r H2 hr e2 hy => ⟨by show 2 ≤ sizeLine; decide, fun t ht => ⟨t, [.ref p, .ref r], rfl, st_of upd_same, rfl, .ref p, [.ref r], rfl, .ref r, [], rfl, rfl,
    k p r _ hp (fresh_back e1 hr) ((e1.trans e2).trans (Ex.new ht)) (Ex.new ht _ _ (e2 _ _ hx)) (Ex.new ht _ _ hy)⟩⟩
theorem q_parUU {tz : TS} {i j : Nat} {xs ys : List V} (h1 : EvU ta σ H xs) (h2 : EvU tb σ H ys) (k : ∀ p r H1, H p = none → H r = none → Ex H H1 → H1 p = some (.tup xs) → H1 r = some (.tup ys) → tz D ((σ.set i (some (.ref p))).set j (some (.ref r))) H1) : tSeq (tPar i j (tCons ta (tCons tb tNil))) tz D σ H :=
  h1 H (Ex.refl H) _ fun p H1 hp e1 hx => h2 H1 e1 _ fun r H2 hr e2 hy => ⟨.ref p, .ref r, rfl, k p r H2 hp (fresh_back e1 hr) (e1.trans e2) (e2 _ _ hx) hy⟩
theorem bool_iff {a b : Bool} (h : a = true ↔ b = true) : a = b := by
  cases a <;> cases b <;> simp_all
theorem s_forDv {p : Addr} {R : List V → Prop} (h : DvA p ts σ H R) (hd : Dice p H) (hz : ∀ xs, R xs → xs.length ≤ 100000) (Pv : Addr → List V → Nat → L2.St → Hp → Prop) (h0 : ∀ t xs H1, R xs → t ≠ p → Exd p H H1 → Dice p H1 → H1 t = some (.tup xs) → Pv t xs 0 σ H1)
    (hl : ∀ t xs i σ' H', i ≤ xs.length → Pv t xs i σ' H' → SqT K H' t xs) (hs : ∀ t xs i x σ' H', R xs → xs[i]? = some x → Pv t xs i σ' H' → g x σ' H' fun σ2 H2 => tu { D with nx := Pv t xs (i + 1), ct := Pv t xs (i + 1), bk := D.nx } σ2 H2) (hd2 : ∀ t xs σ' H', Pv t xs xs.length σ' H' → D.nx σ' H') : tFor (iTup K (tTup ts)) g tu D σ H :=
  h H (Exd.refl p H) hd _ fun xs H1 hx e1 d1 => ⟨sz_of (hz xs hx), fun t ht => ⟨t, rfl, ⟨xs, st_of upd_same⟩, for_tup (Pv t xs) (h0 t xs _ hx (d1.ne ht) (e1.trans (Exd.of (Ex.new ht))) (d1.ex (Ex.new ht)) upd_same) (hl t xs) (fun i x σ' H' hi p' => hs t xs i x σ' H' hx hi p') (hd2 t xs)⟩⟩
theorem q_same {x : V} : (!decide (x = x)) = false := by simp
theorem shaped_tup (ns : List Int) : SeqAt.shaped (.tuple (ns.map PyData.int)) = true := by
  have h := lay_ints ns
  show (PyData.canLayAll0 (ns.map PyData.int) && decide (PyData.depthAll (ns.map PyData.int) + 1 ≤ 64)) = true
  rw [h.1, h.2]
  rfl
theorem eqv_ints : ∀ ns : List Int, PyData.eqvAll (ns.map PyData.int) (ns.map PyData.int) = true
  | [] => rfl
  | n :: ns => by
    show ((n == n) && PyData.eqvAll (ns.map PyData.int) (ns.map PyData.int)) = true
    rw [eqv_ints ns]
    simp
theorem eqv_tup (ns : List Int) : PyData.eqv (.tuple (ns.map PyData.int)) (.tuple (ns.map PyData.int)) = true := eqv_ints ns
theorem evd_intsU {ns : List Int} (h : EvU te σ H (ns.map V.int)) : EvD K te σ H (.tuple (ns.map PyData.int)) := fun H1 e Q q => h H1 e Q fun p H2 _ e2 h2 => q _ H2 e2 (.tup (st_of h2) (dpa_ints ns))
theorem evd_intsT {a : Addr} {ns : List Int} (h : Ev te σ H (.ref a)) (hT : SqT K H a (ns.map V.int)) : EvD K te σ H (.tuple (ns.map PyData.int)) := fun H1 e Q q => h H1 e Q fun H2 e2 => q _ H2 e2 (.tup (ex_t (e.trans e2) hT) (dpa_ints ns))
def DvN (p : Addr) (te : TE) (σ : L2.St) (H : Hp) (R : List V → Prop) : Prop := ∀ H1, Exd p H H1 → Dice p H1 → ∀ Q : VK, (∀ b xs H2, R xs → b ≠ p → Exd p H1 H2 → Dice p H2 → H2 b = some (.tup xs) → Q (.ref b) H2) → te σ H1 Q
theorem dn_callT {ok : List V → Hp → Addr → (List V → Prop) → Prop} {E : XK} {ts : TA} {p : Addr} {R : List V → Prop} {vs : List V} (h : ∀ H1, Exd p H H1 → Dice p H1 → EvA ts σ H1 vs) (ho : ∀ H1, Exd p H H1 → Dice p H1 → ok vs H1 p R) : DvN p (tCall (DrawsT ok) [] E ts) σ H R := fun H1 e d Q q =>
  h H1 e d H1 (Ex.refl H1) _ fun H2 e2 => by
    show DrawsT ok (vs ++ []) H2 Q E
    rw [List.append_nil]
    exact ⟨p, R, ho H2 (e.trans (Exd.of e2)) (d.ex e2), d.ex e2, fun a xs H3 hx ha e3 d3 h3 => q a xs H3 hx ha ((Exd.of e2).trans e3) d3 h3⟩
def EvAP (ta : TA) (σ : L2.St) (H : Hp) (P : List V → Hp → Prop) : Prop := ∀ H1, Ex H H1 → ∀ Q : List V → Hp → Prop, (∀ vs H2, Ex H1 H2 → P vs H2 → Q vs H2) → ta σ H1 Q
theorem ap_nil : EvAP tNil σ H (fun vs _ => vs = []) := fun H1 _ _ q => q [] H1 (Ex.refl H1) rfl
theorem ap_cons {P : List V → Hp → Prop} (h : Ev te σ H x) (hr : EvAP tr σ H P) : EvAP (tCons te tr) σ H (fun vs H' => ∃ ws, vs = x :: ws ∧ P ws H') := fun H1 e Q q =>
  h H1 e _ fun H2 e2 => hr H2 (e.trans e2) _ fun ws H3 e3 p => q (x :: ws) H3 (e2.trans e3) ⟨ws, rfl, p⟩
theorem ap_consU {P : List V → Hp → Prop} {xs : List V} (h : EvU te σ H xs) (hr : EvAP tr σ H P) : EvAP (tCons te tr) σ H (fun vs H' => ∃ p ws, vs = .ref p :: ws ∧ H' p = some (.tup xs) ∧ P ws H') := fun H1 e Q q =>
  h H1 e _ fun p H2 hp e2 h2 => hr H2 (e.trans e2) _ fun ws H3 e3 pw => q (.ref p :: ws) H3 (e2.trans e3) ⟨p, ws, rfl, e3 _ _ h2, pw⟩
theorem ev_callAP {ok : List V → Hp → V → Prop} {E : XK} {P : List V → Hp → Prop} (h : EvAP ts σ H P) (ho : ∀ vs H1, Ex H H1 → P vs H1 → ok vs H1 z) : Ev (tCall (Pure ok) [] E ts) σ H z := fun H1 e Q q =>
  h H1 e _ fun vs H2 e2 p => by
    show Pure ok (vs ++ []) H2 Q E
    rw [List.append_nil]
    exact ⟨z, ho vs H2 (e.trans e2) p, fun H3 e3 => q H3 (e2.trans e3)⟩
theorem eu_callAP {ok : List V → Hp → List V → Prop} {E : XK} {P : List V → Hp → Prop} {xs : List V} (h : EvAP ts σ H P) (ho : ∀ vs H1, Ex H H1 → P vs H1 → ok vs H1 xs) : EvU (tCall (Tupd ok) [] E ts) σ H xs := fun H1 e Q q =>
  h H1 e _ fun vs H2 e2 pw => by
    show Tupd ok (vs ++ []) H2 Q E
    rw [List.append_nil]
    exact ⟨xs, ho vs H2 (e.trans e2) pw, fun p H3 hp e3 h3 => q p H3 (fresh_back e2 hp) (e2.trans e3) h3⟩
theorem EvAP.mono {P P' : List V → Hp → Prop} (h : EvAP ts σ H P) (k : ∀ vs H1, P vs H1 → P' vs H1) : EvAP ts σ H P' := fun H1 e Q q => h H1 e Q fun vs H2 e2 p => q vs H2 e2 (k vs H2 p)
theorem q_asgD {i : Nat} {d : PyData} (h : EvD K te σ H d) (k : ∀ v H1, Ex H H1 → Dp K H1 v d → tz D (σ.set i (some v)) H1) : tSeq (tAsg te (gName i)) tz D σ H := h H (Ex.refl H) _ fun v H1 e p => k v H1 e p
theorem evd_var {i : Nat} {d : PyData} {v : V} (h : σ[i]? = some (some v)) (p : Dp K H v d) : EvD K (tVar i) σ H d := evd_of (ev_var h) fun H1 e => dp_ex e p
theorem q_asg3U {i j l : Nat} {xs ys zs : List V} (h1 : EvU ta σ H xs) (h2 : EvU tb σ H ys) (h3 : EvU tc σ H zs) (k : ∀ p r s H1, Ex H H1 → H1 p = some (.tup xs) → H1 r = some (.tup ys) → H1 s = some (.tup zs) → tz D (((σ.set i (some (.ref p))).set j (some (.ref r))).set l (some (.ref s))) H1) :
    tSeq (tAsg (tTup (tCons ta (tCons tb (tCons tc tNil)))) (gTup K 3 (gCons (gName i) (gCons (gName j) (gCons (gName l) gNil))))) tz D σ H :=
  h1 H (Ex.refl H) _ fun p H1 hp e1 hx => h2 H1 e1 _ fun r H2 hr e2 hy => h3 H2 (e1.trans e2) _ fun s H3 hs e3 hz => ⟨by show 3 ≤ sizeLine; decide, fun t ht => ⟨t, [.ref p, .ref r, .ref s], rfl, st_of upd_same, rfl, .ref p, [.ref r, .ref s], rfl, .ref r, [.ref s], rfl, .ref s, [], rfl, rfl,
    k p r s _ (((e1.trans e2).trans e3).trans (Ex.new ht)) (Ex.new ht _ _ (e3 _ _ (e2 _ _ hx))) (Ex.new ht _ _ (e3 _ _ hy)) (Ex.new ht _ _ hz)⟩⟩
theorem el_lcNT {xs : List V} {tl : TE} {j : Nat} {vs : List Nat} (f : Nat → Bool) (v : Nat → V) (h : EvU tl σ H xs) (hz : xs.length ≤ 40000) (hw : ∀ x, wipe ((wipe σ vs).set j (some x)) vs = wipe σ vs)
    (ht : ∀ (i : Nat) (x : V) H1, Ex H H1 → xs[i]? = some x → EvT t ((wipe σ vs).set j (some x)) H1 (f i)) (he : ∀ (i : Nat) (x : V) H1, Ex H H1 → xs[i]? = some x → f i = true → Ev te ((wipe σ vs).set j (some x)) H1 (v i)) :
    EvL (tLc (iTup K tl) (gName j) t te vs) σ H (given xs.length f v) := fun H0 e Q q => h H0 e _ fun a H1 ha e1 hx => ⟨a, rfl, ⟨xs, st_of hx⟩, fun Dl hD =>
  lc_tup (xs := xs) (Cw H1 f v Dl) ⟨hD, Ex.new hD, upd_same⟩ (fun i H' _ p => st_of (p.2.1 a _ hx)) (fun i x H' hi p => ⟨hw x, cw_turn p (by have := (List.getElem?_eq_some_iff.mp hi).1; omega) (ht i x H1 (e.trans e1) hi) (fun hf => he i x H1 (e.trans e1) hi hf)⟩)
    (fun H' p => q Dl H' (fresh_back e1 p.1) (e1.trans p.2.1) p.2.2)⟩
theorem dpa_bls {H : Hp} : ∀ bs : List Bool, DpAll K H (bs.map V.bl) (bs.map PyData.bool)
  | [] => .nil
  | b :: bs => .cons (.bl b) (dpa_bls bs)
theorem evd_bls {bs : List Bool} (h : EvL te σ H (bs.map V.bl)) : EvD K te σ H (.list (bs.map PyData.bool)) := fun H1 e Q q => h H1 e Q fun p H2 _ e2 h2 => q _ H2 e2 (.lst (sq_of h2) (dpa_bls bs))
theorem et_notN (h : Ev te σ H x) : EvT (tB (tNotN te)) σ H (!decide (x = .non)) := fun H1 e _ q => h H1 e _ fun H2 e2 => ⟨_, rfl, q H2 e2⟩
theorem ap_consL {P : List V → Hp → Prop} {xs : List V} (h : EvL te σ H xs) (hr : EvAP tr σ H P) : EvAP (tCons te tr) σ H (fun vs H' => ∃ p ws, vs = .ref p :: ws ∧ H' p = some (.lst xs) ∧ P ws H') := fun H1 e Q q =>
  h H1 e _ fun p H2 hp e2 h2 => hr H2 (e.trans e2) _ fun ws H3 e3 pw => q (.ref p :: ws) H3 (e2.trans e3) ⟨p, ws, rfl, e3 _ _ h2, pw⟩
theorem cut1 (xs : List V) : cutV xs (some 1) none = xs.drop 1 := by
  unfold cutV HT.sIx
  cases xs with
  | nil => rfl
  | cons x xs => simp
/-- [e for x, y in zip(list, list) if t] -/
theorem el_lcZip {xs ys : List V} {ta : TA} {j l : Nat} {vs : List Nat} (f : Nat → Bool) (v : Nat → V) (h : EvAP ta σ H (fun vs H1 => ∃ a b, vs = [.ref a, .ref b] ∧ SqL K H1 a xs ∧ SqL K H1 b ys)) (hz : xs.length ≤ 40000)
    (hw : ∀ x y, wipe (((wipe σ vs).set j (some x)).set l (some y)) vs = wipe σ vs)
    (ht : ∀ (i : Nat) (x y : V) H1, Ex H H1 → xs[i]? = some x → ys[i]? = some y → EvT t (((wipe σ vs).set j (some x)).set l (some y)) H1 (f i)) (he : ∀ (i : Nat) (x y : V) H1, Ex H H1 → xs[i]? = some x → ys[i]? = some y → f i = true → Ev te (((wipe σ vs).set j (some x)).set l (some y)) H1 (v i)) :
    EvL (tLc (iZip K ta) (gTup K 2 (gCons (gName j) (gCons (gName l) gNil))) t te vs) σ H (given (min xs.length ys.length) f v) := fun H0 e Q q => h H0 e _ fun us H1 e1 ⟨a, b, hv, hx, hy⟩ => ⟨a, b, xs, ys, hv, hx, hy, fun Dl hD =>
  lc_it (walk_zip rfl) (Cw H1 f v Dl) ⟨hD, Ex.new hD, upd_same⟩ (fun i H' _ p => ⟨ex_l p.2.1 hx, ex_l p.2.1 hy⟩) (fun i x H' H'' hi p y => by
    obtain ⟨T, y1, y2, rfl, hT, rfl, h3, h4⟩ := y
    have eT : Ex H' (upd H' T (.tup [y1, y2])) := Ex.new hT
    refine ⟨T, [y1, y2], rfl, st_of upd_same, rfl, y1, [y2], rfl, y2, [], rfl, rfl, hw _ _, ?_⟩
    have p' : Cw H1 f v Dl i (upd H' T (.tup [y1, y2])) := ⟨p.1, p.2.1.trans eT, eT _ _ p.2.2⟩
    exact cw_turn p' (by omega) (ht i y1 y2 H1 (e.trans e1) h3 h4) (fun hf => he i y1 y2 H1 (e.trans e1) h3 h4 hf))
    (fun H' p => q Dl H' (fresh_back e1 p.1) (e1.trans p.2.1) p.2.2)⟩
theorem ev_strM {z : Str} {g : Str → Bool} (h : Ev to σ H (.str z)) : Ev (tM0 (fun x xs H Q => ∃ a, x = .str a ∧ xs = [] ∧ True ∧ Q (.bl (g a)) H) to) σ H (.bl (g z)) := fun H1 e Q q => h H1 e _ fun H2 e2 => ⟨⟨z, rfl⟩, z, rfl, rfl, trivial, q H2 e2⟩
theorem rc_lenS {z : Str} (h : z.length ≤ 100000) : RC (fun xs H Q => ∃ z, xs = [V.str z] ∧ z.length ≤ sizeLine ∧ Q (.int z.length) H) [.str z] H (.int z.length) := fun H1 _ _ q => ⟨z, rfl, sz_of h, q H1 (Ex.refl H1)⟩
theorem et_yes : EvT tYes σ H true := fun H4 e4 Q' q' => q' H4 (Ex.refl H4)
end
end Wo
set_option Elab.async false
set_option linter.all false
set_option maxRecDepth 100000
set_option maxHeartbeats 4000000
namespace Wo
open PySem PySem.Spec PyProof.Rows L2 Evl Vr En
theorem op_eqDK {X : Cx} {K : PySem.W.Frag} {A0 : Around} (hu : A0.units + 64 < cLine) (hA : X.A = A0) (hK : X.K = K) : OpR X (compareOp .Eq) (rEqD K) := by subst hA hK; exact op_eqD hu
theorem op_neDK {X : Cx} {K : PySem.W.Frag} {A0 : Around} (hu : A0.units + 64 < cLine) (hA : X.A = A0) (hK : X.K = K) : OpR X (compareOp .NotEq) (rNeD K) := by subst hA hK; exact op_neD hu
section
variable {σ : L2.St} {H H' : Hp} {te ta tb tc tn to tl tk tv td ty tx : TE} {t : TT} {tr ts : TA} {tz tu : TS} {D : Ends} {K : PySem.W.Frag} {w : World} {x y z v : V} {g : TG} {a C dx p : Addr} {fs : List (Str × V)} {f : Str}
/-- o.f = value, the object as it was ahead but for this -/
theorem s_fld (hv : Ev tv σ H y) (ha : Ev ta σ H (.ref a)) (ho : H a = some (.ins C dx fs)) (c : Cls K C) (n : NoAttr K C f) (hl : fs.length < 1000) (k : ∀ H1, Ex H H1 → D.nx σ (upd H1 a (.ins C dx (putF f y fs)))) : sFld K ta tv f D σ H :=
  hv H (Ex.refl H) _ fun H1 e1 => ha H1 e1 _ fun H2 e2 => ⟨a, C, dx, fs, rfl, (e1.trans e2) _ _ ho, c, n, hl, k H2 (e1.trans e2)⟩
theorem q_fld (hv : Ev tv σ H y) (ha : Ev ta σ H (.ref a)) (ho : H a = some (.ins C dx fs)) (c : Cls K C) (n : NoAttr K C f) (hl : fs.length < 1000) (k : ∀ H1, Ex H H1 → tz D σ (upd H1 a (.ins C dx (putF f y fs)))) : tSeq (sFld K ta tv f) tz D σ H :=
  s_fld (D := { D with nx := tz D }) hv ha ho c n hl k
theorem q_fldU {xs : List V} (hv : EvU tv σ H xs) (ha : ∀ H1, Ev ta σ H1 (.ref a)) (ho : H a = some (.ins C dx fs)) (c : Cls K C) (n : NoAttr K C f) (hl : fs.length < 1000) (k : ∀ r H1, H r = none → Ex H H1 → H1 r = some (.tup xs) → tz D σ (upd H1 a (.ins C dx (putF f (.ref r) fs)))) : tSeq (sFld K ta tv f) tz D σ H :=
  hv H (Ex.refl H) _ fun r H1 hr e1 h1 => ha H1 H1 (Ex.refl H1) _ fun H2 e2 => ⟨a, C, dx, fs, rfl, (e1.trans e2) _ _ ho, c, n, hl, k r H2 hr (e1.trans e2) (e2 _ _ h1)⟩
theorem s_fldK {kvs : List (Key × V)} (hv : EvK tv σ H kvs) (ha : ∀ H1, Ev ta σ H1 (.ref a)) (ho : H a = some (.ins C dx fs)) (c : Cls K C) (n : NoAttr K C f) (hl : fs.length < 1000) (k : ∀ r H1, H r = none → Ex H H1 → H1 r = some (.dK kvs) → D.nx σ (upd H1 a (.ins C dx (putF f (.ref r) fs)))) : sFld K ta tv f D σ H :=
  hv H (Ex.refl H) _ fun r H1 hr e1 h1 => ha H1 H1 (Ex.refl H1) _ fun H2 e2 => ⟨a, C, dx, fs, rfl, (e1.trans e2) _ _ ho, c, n, hl, k r H2 hr (e1.trans e2) (e2 _ _ h1)⟩
/-- what stands at p is an instance: a tuple told of is another -/
theorem _root_.Vr.Exd.ti {b : Addr} {xs : List V} (e : Exd p H H') (hp : H p = some (.ins C dx fs)) (h : SqT K H b xs) : SqT K H' b xs := by
  rcases h with (h | ⟨o, h⟩) | h
  · exact .inl (.inl (e _ _ (fun z => by rw [z, hp] at h; cases h) h))
  · exact .inl (.inr ⟨o, e _ _ (fun z => by rw [z, hp] at h; cases h) h⟩)
  · exact .inr h
theorem eu_tupL {xs : List V} (h : EvL te σ H xs) : EvU (tCB (rTupL K) (tCons te tNil)) σ H xs := fun H1 e Q q => h H1 e _ fun p H2 hp e2 h2 => ⟨p, xs, rfl, sq_of h2, fun l hl => q l _ (fresh_back e2 hl) (e2.trans (Ex.new hl)) upd_same⟩
/-- {k: v for x in tuple}: the keys all new -/
theorem ek_dcT {xs : List V} {j : Nat} {vs : List Nat} (kvs : Nat → List (Key × V)) (h0 : kvs 0 = []) (h : Ev tl σ H (.ref a)) (hx : SqT K H a xs) (hz : ∀ i, i ≤ xs.length → (kvs i).length ≤ 1000) (hw : ∀ x, wipe ((wipe σ vs).set j (some x)) vs = wipe σ vs)
    (hs : ∀ (i : Nat) (x : V) H1, Ex H H1 → xs[i]? = some x → ∃ k v, Ev tk ((wipe σ vs).set j (some x)) H1 (kV k) ∧ (∀ H2, Ex H1 H2 → Ev tv ((wipe σ vs).set j (some x)) H2 v) ∧ putK (kvs i) k v = kvs (i + 1)) :
    EvK (tDc (iTup K tl) (gName j) tYes tk tv vs) σ H (kvs xs.length) := fun H0 e Q q => h H0 e _ fun H1 e1 => ⟨a, rfl, ⟨xs, ex_t (e.trans e1) hx⟩, fun Dl hD => by
  refine dc_tup (xs := xs) (fun i H' => H1 Dl = none ∧ Ex H1 H' ∧ H' Dl = some (.dK (kvs i))) ⟨hD, Ex.new hD, by rw [h0]; exact upd_same⟩ (fun i H' _ p => ex_t ((e.trans e1).trans p.2.1) hx) (fun i x H' hi p => ⟨hw x, ?_⟩) (fun H' p => q Dl H' (fresh_back e1 p.1) (e1.trans p.2.1) p.2.2)
  obtain ⟨p1, p2, p3⟩ := p
  have hil : i ≤ xs.length := by have := (List.getElem?_eq_some_iff.mp hi).1; omega
  obtain ⟨k, v, hk, hv, hp⟩ := hs i x H' ((e.trans e1).trans p2) hi
  unfold tYes
  dsimp only
  rw [if_pos rfl]
  refine hk H' (Ex.refl H') _ fun H2 e2 => hv H2 e2 H2 (Ex.refl H2) _ fun H3 e3 => ⟨kvs i, k, rfl, (e2.trans e3) _ _ p3, sz_lt (by have := hz i hil; omega), p1, Ex.mut ((p2.trans e2).trans e3) p1, ?_⟩
  rw [hp]
  exact upd_same⟩
theorem ev_dget {d : Addr} {kvs : List (Key × V)} {k : Key} (h1 : Ev td σ H (.ref d)) (h2 : Ev ty σ H (kV k)) (hd : H d = some (.dK kvs)) (hv : valV kvs k = some v) : Ev (tDGet td ty) σ H v := fun H1 e Q q =>
  h1 H1 e _ fun H2 e2 => h2 H2 (e.trans e2) _ fun H3 e3 => ⟨d, v, rfl, by rw [← hv]; exact DGet.k (((e.trans e2).trans e3) _ _ hd), q H3 (e2.trans e3)⟩
theorem ev_din {d : Addr} {kvs : List (Key × V)} {k : Key} (h1 : Ev ty σ H (kV k)) (h2 : Ev td σ H (.ref d)) (hd : H d = some (.dK kvs)) : Ev (tDIn ty td) σ H (.bl (valV kvs k).isSome) := fun H1 e Q q =>
  h1 H1 e _ fun H2 e2 => h2 H2 (e.trans e2) _ fun H3 e3 => ⟨d, _, rfl, DGet.k (((e.trans e2).trans e3) _ _ hd), q H3 (e2.trans e3)⟩
/-- a method that answers None, called for what it does: the object at p is made anew -/
theorem s_dropM {m : Str} {sp : Sp} {E : XK} {vs : List V} (h : Ev to σ H (.ref a)) (ho : H a = some (.ins C dx fs)) (hl : fs.lookup m = none) (ha : ∀ H1, Ex H H1 → EvA ts σ H1 vs) (k : ∀ H1, Ex H H1 → sp (.ref a :: vs) H1 (fun _ H2 => D.nx σ H2) E) : tDrop (tMeth C m sp [] E to ts) D σ H :=
  h H (Ex.refl H) _ fun H2 e2 => ⟨a, dx, fs, rfl, e2 _ _ ho, hl, ha H2 e2 H2 (Ex.refl H2) _ fun H3 e3 => by
    rw [List.append_nil]
    exact k H3 (e2.trans e3)⟩
theorem q_dropM {m : Str} {sp : Sp} {E : XK} {vs : List V} (h : Ev to σ H (.ref a)) (ho : H a = some (.ins C dx fs)) (hl : fs.lookup m = none) (ha : ∀ H1, Ex H H1 → EvA ts σ H1 vs) (k : ∀ H1, Ex H H1 → sp (.ref a :: vs) H1 (fun _ H2 => tz D σ H2) E) : tSeq (tDrop (tMeth C m sp [] E to ts)) tz D σ H :=
  s_dropM (D := { D with nx := tz D }) h ho hl ha k
end
end Wo
set_option Elab.async false
set_option linter.all false
set_option maxRecDepth 100000
set_option maxHeartbeats 4000000
namespace Wo
open PySem PySem.Spec PyProof.Rows L2 Evl Vr En
theorem c_listS {X : Cx} : CallR X (.type "list") (rListS X.K) := call_list_of
section
variable {σ : L2.St} {H H' : Hp} {te ta tb tc tn to tl tk tv td ty tx : TE} {t : TT} {tr ts : TA} {tz tu : TS} {D : Ends} {K : PySem.W.Frag} {w : World} {x y z v : V} {g : TG} {a C dx p : Addr} {fs : List (Str × V)} {f : Str}
theorem _root_.Vr.Exd.tlst {b : Addr} {xs ys : List V} (e : Exd p H H') (hp : H p = some (.lst ys)) (h : SqT K H b xs) : SqT K H' b xs := by
  rcases h with (h | ⟨o, h⟩) | h
  · exact .inl (.inl (e _ _ (fun z => by rw [z, hp] at h; cases h) h))
  · exact .inl (.inr ⟨o, e _ _ (fun z => by rw [z, hp] at h; cases h) h⟩)
  · exact .inr h
theorem el_listT {xs : List V} (ha : Ev ta σ H (.ref p)) (h : SqT K H p xs) : EvL (tCB (rListS K) (tCons ta tNil)) σ H xs := fun H1 e Q q =>
  ha H1 e _ fun H2 e2 => ⟨p, xs, rfl, .inr (ex_t (e.trans e2) h), fun l hl => q l _ (fresh_back e2 hl) (e2.trans (Ex.new hl)) upd_same⟩
/-- [new object for .. in tuple] -/
theorem lcT_new {xs : List V} {vs : List Nat} {Q : VK} (Pr : Nat → Addr → Hp → Prop) (hP : ∀ i r H H' Dl acc, H Dl = some (.lst acc) → Exd Dl H H' → Pr i r H → Pr i r H') (h : Ev tl σ H (.ref a)) (hx : SqT K H a xs) (hz : xs.length ≤ 40000)
    (hs : ∀ (i : Nat) (x : V) (H1 : Hp) (R : VK), Ex H H1 → xs[i]? = some x → (∀ r H2, Ex H1 H2 → Pr i r H2 → R (.ref r) H2) → g x (wipe σ vs) H1 fun σ2 H2 => wipe σ2 vs = wipe σ vs ∧ te σ2 H2 R)
    (k : ∀ l (rs : List Addr) H', H l = none → Ex H H' → H' l = some (.lst (rs.map V.ref)) → rs.length = xs.length → (∀ (i : Nat) r, rs[i]? = some r → Pr i r H') → Q (.ref l) H') : tLc (iTup K tl) g tYes te vs σ H Q := h H (Ex.refl H) _ fun H1 e1 => ⟨a, rfl, ⟨xs, ex_t e1 hx⟩, fun Dl hD => by
  refine lc_tup (xs := xs) (fun i H' => Ex H1 H' ∧ ∃ rs : List Addr, H' Dl = some (.lst (rs.map V.ref)) ∧ rs.length = i ∧ ∀ (j : Nat) r, rs[j]? = some r → Pr j r H') ⟨Ex.new hD, [], upd_same, rfl, fun j r h => by cases h⟩ (fun i H' _ p => ex_t (e1.trans p.1) hx) (fun i x H' hi p => ?_) (fun H' ⟨p1, rs, p2, p3, p4⟩ => k Dl rs H' (fresh_back e1 hD) (e1.trans p1) p2 p3 p4)
  obtain ⟨p1, rs, p2, p3, p4⟩ := p
  have hil : i < xs.length := (List.getElem?_eq_some_iff.mp hi).1
  refine hs i x H' _ (e1.trans p1) hi fun r H4 e4 hr => ?_
  have hD4 := e4 _ _ p2
  have xd : Exd Dl H4 (upd H4 Dl (.lst (rs.map V.ref ++ [.ref r]))) := Exd.upd
  refine ⟨rs.map V.ref, hD4, sz_lt (by rw [List.length_map]; omega), Ex.mut (p1.trans e4) hD, rs ++ [r], ?_, by rw [List.length_append, p3]; rfl, fun j r' hj => ?_⟩
  · rw [upd_same, List.map_append]
    rfl
  · refine hP j r' H4 _ Dl _ hD4 xd ?_
    by_cases hjl : j < i
    · rw [List.getElem?_append_left (by omega)] at hj
      exact hP j r' H' H4 Dl _ p2 (Exd.of e4) (p4 j r' hj)
    · have hj2 : j = i := by
        have := (List.getElem?_eq_some_iff.mp hj).1
        rw [List.length_append, p3, List.length_singleton] at this
        omega
      subst hj2
      rw [List.getElem?_append_right (by omega), p3, Nat.sub_self] at hj
      cases hj
      exact hr⟩
theorem ap_starT {P : List V → Hp → Prop} {xs : List V} (h : Ev te σ H (.ref p)) (hx : SqT K H p xs) (hr : EvAP tr σ H P) : EvAP (StX.tStar K te tr) σ H (fun vs H' => ∃ ws, vs = xs ++ ws ∧ P ws H') := fun H1 e Q q =>
  h H1 e _ fun H2 e2 => ⟨p, xs, rfl, .inl (ex_t (e.trans e2) hx), hr H2 (e.trans e2) _ fun ws H3 e3 pw => q (xs ++ ws) H3 (e2.trans e3) ⟨ws, rfl, pw⟩⟩
theorem q_asgTP {i : Nat} {P : List V → Hp → Prop} (h : EvAP ts σ H P) (hl : ∀ vs H1, P vs H1 → vs.length ≤ 100000) (k : ∀ r vs H2, Ex H H2 → P vs H2 → H2 r = none → tz D (σ.set i (some (.ref r))) (upd H2 r (.tup vs))) : tSeq (tAsg (tTup ts) (gName i)) tz D σ H :=
  h H (Ex.refl H) _ fun vs H2 e2 pv => ⟨sz_of (hl vs H2 pv), fun r hr => k r vs H2 e2 pv hr⟩
theorem s_retTP {P : List V → Hp → Prop} (h : EvAP ts σ H P) (hl : ∀ vs H1, P vs H1 → vs.length ≤ 100000) (k : ∀ r vs H2, Ex H H2 → P vs H2 → H2 r = none → D.rt (.ref r) (upd H2 r (.tup vs))) : tRet (tTup ts) D σ H :=
  h H (Ex.refl H) _ fun vs H2 e2 pv => ⟨sz_of (hl vs H2 pv), fun r hr => k r vs H2 e2 pv hr⟩
theorem eu_tupV {xs : List V} (h : Ev te σ H (.ref p)) (hx : SqL K H p xs) : EvU (tCB (rTupL K) (tCons te tNil)) σ H xs := fun H1 e Q q => h H1 e _ fun H2 e2 => ⟨p, xs, rfl, ex_l (e.trans e2) hx, fun l hl => q l _ (fresh_back e2 hl) (e2.trans (Ex.new hl)) upd_same⟩
/-- {k: new tuple} -/
def EvK1 (te : TE) (σ : L2.St) (H : Hp) (k : Key) (xs : List V) : Prop := ∀ H1, Ex H H1 → ∀ Q : VK, (∀ d r H2, Ex H1 H2 → H2 d = some (.dK [(k, .ref r)]) → H2 r = some (.tup xs) → Q (.ref d) H2) → te σ H1 Q
theorem ek1_disp {k : Key} {xs : List V} (hk : ∀ H1, Ex H H1 → Ev ta σ H1 (kV k)) (hv : ∀ H1, Ex H H1 → EvU tb σ H1 xs) : EvK1 (tDisp [(ta, tb)]) σ H k xs := fun H1 e Q q d hd => by
  have e1 : Ex H1 (upd H1 d (.dK [])) := Ex.new hd
  refine hk _ (e.trans e1) _ (Ex.refl _) _ fun H2 e2 => hv H2 ((e.trans e1).trans e2) H2 (Ex.refl H2) _ fun r H3 hr e3 h3 => ?_
  have hd3 := e3 _ _ (e2 _ _ (upd_same (H := H1) (a := d) (o := .dK [])))
  have hrd : r ≠ d := fun z => by rw [z, hd3] at h3; cases h3
  refine ⟨hd3, [(k, .ref r)], rfl, by show 1 ≤ 15; decide, ?_⟩
  refine q d r _ (Ex.mut ((e1.trans e2).trans e3) hd) upd_same (by rw [upd_ne hrd]; exact h3)
end
end Wo
set_option Elab.async false
set_option linter.all false
set_option maxRecDepth 100000
set_option maxHeartbeats 4000000
namespace Wo
open PySem PySem.Spec PyProof.Rows L2 Evl Vr En PySem.W
theorem ne_bind (v : Value) : bindSpecial (.builtin "object.__ne__") v = pure (.builtin "object.__ne__", [v]) := PySem.F.cmp_object.ne.bind v
section
variable {prog : Program} {w : PySem.World} {A : Around} {E : Value → Shared → Prop} {s : Shared} {K : Frag} {x C L f : Addr} {h₀ : Heap} {m : Str → Option Value} {ox : Obj} {od : Option Obj} {b tb : Value}
/-- a special name that stands for a built-in -/
theorem bound_b {M : Model} {i : String} {nm : Str} {as : List Value} {Q : Option Value → Shared → Prop} (X : K.In s.heap) (J : InstAt s.heap x ox C od) (hf : findIn K (.ref C) nm = some (some (.builtin i))) (hb : ∀ v, bindSpecial (.builtin i) v = pure (.builtin i, [v]))
    (k : wpAny M A (call (.builtin i) (.ref x :: as)) (fun v => Q (some v)) E s) : wpAny M A (callSpecialIfBound? (.ref x) nm as) Q E s := by
  have go : wpAny M A (call (.builtin i) ([.ref x] ++ as) >>= fun v => pure (some v)) Q E s := wpAny_bind (wpAny_mono k (fun _ _ z => wpAny_pure z) fun _ _ z => z)
  simp only [callSpecialIfBound?, bindSpecialIfBound?]
  refine wpAny_holding (wpAny_bind (wpAny_bind (wpAny_bind (J.type.here ((looks_findIn X hf).here ?_)))))
  simp only [hb]
  refine wpAny_bind (wpAny_askSetting (wpAny_ite ?_))
  split
  · exact wpAny_bind (wpAny_pure (wpAny_pure (by exact go)))
  · exact wpAny_tryCatch (wpAny_bind (wpAny_pure (wpAny_pure (by exact go))))
/-- a comparison that the left one answers -/
theorem cmp_left {op : CmpOp} {Q : Value → Shared → Prop} (hu : A.units < cLine) (X : K.In s.heap) (J : InstAt s.heap x ox C od) (hb : Looks (model prog w) s.heap (typeOf b) tb) (hn : notFirst K C tb = true)
    (one : wpAny (model prog w) A (tryCompare (.ref x) (cmpInfo op).2.1 b) (fun r s' => ∃ v, r = some v ∧ Q v s') E s) : wpAny (model prog w) A (richCompare op (.ref x) b) Q E s := by
  unfold richCompare
  simp only [oneThing_ref]
  refine wpAny_holding (wpAny_bind (wpAny_cRoomFor hu (wpAny_bind (J.type.here (wpAny_bind (hb.here ?_))))))
  by_cases e : tb = .ref C
  · subst e
    rw [show (Value.ref C != Value.ref C) = false from by simp]
    refine wpAny_bind (wpAny_pure ?_)
    rw [if_neg Bool.false_ne_true]
    exact wpAny_bind (wpAny_mono one (fun r s' ⟨v, hv, q⟩ => by subst hv; exact wpAny_pure q) fun _ _ z => z)
  · have e1 : (Value.ref C != tb) = true := by simpa using Ne.symm e
    have e2 : subIn K tb (.ref C) = some false := by
      unfold notFirst at hn
      simp only [Bool.or_eq_true, beq_iff_eq] at hn
      exact hn.resolve_left e
    rw [e1, if_pos rfl]
    refine wpAny_bind ((looks_subIn X e2).here ?_)
    rw [if_neg Bool.false_ne_true]
    exact wpAny_bind (wpAny_mono one (fun r s' ⟨v, hv, q⟩ => by subst hv; exact wpAny_pure q) fun _ _ z => z)
/-- != of what has its own == alone -/
theorem ne_left {Q : Value → Shared → Prop} (hu : A.units + 1 < cLine) (X : K.In s.heap) (J : InstAt s.heap x ox C od) (hb : Looks (model prog w) s.heap (typeOf b) tb) (hn : notFirst K C tb = true)
    (hne : findIn K (.ref C) "__ne__" = some (some (.builtin "object.__ne__"))) (hob : subIn K (.ref C) (.type "object") = some true) (hs : findIn K (.ref C) "__eq__" = some (some (.ref f))) (hf : isFn K (.ref f) = true)
    (k : wpAny (model prog w) A.in1 (call (.ref f) [.ref x, b]) (fun v s' => ∃ z, v = .bool z ∧ Q (.bool (!z)) s') E s) : wpAny (model prog w) A (richCompare .NotEq (.ref x) b) Q E s := by
  refine cmp_left (by omega) X J hb hn ?_
  unfold tryCompare
  refine wpAny_bind (bound_b X J hne ne_bind (wpAny_call (codeAny_call_builtin PySem.F.cmp_object.ne.plain PySem.F.cmpEntry_ne (check_slot PySem.F.cmpKind_ne PySem.F.cmpSplit_ne (J.type.andThen (looks_subIn X hob)) (PySem.F.cmpArgs_ne _ _) ?_))))
  unfold Builtin.«object.__ne__»
  refine wpAny_bind (wpAny_pure ?_)
  refine wpAny_bind (wpAny_cRoomFor (by show A.units + 1 < cLine; exact hu) ?_)
  refine wpAny_bind (m := callSpecialIfBound? _ _ _) (ifBound_K X J hs hf (wpAny_mono k (fun v s' ⟨z, hz, q⟩ => ?_) fun _ _ z => z))
  subst hz
  refine wpAny_bind (wpAny_truthy_bool ?_)
  exact wpAny_pure (wpAny_pure ⟨_, rfl, q⟩)
end
section
variable {X : Cx} {CX : CXT} {n f C : Addr} {fd : FuncData} {ps : List Str} {sp : Sp} {E : XK} {k : Nat}
/-- o == y, o's class with its own __eq__ -/
def rEqO (K : PySem.W.Frag) (C : Addr) (sp : Sp) (E : XK) : R2 := fun x y H Q => ∃ a dx fs tb, x = .ref a ∧ H a = some (.ins C dx fs) ∧ TyX K H y tb ∧ notFirst K C tb = true ∧ sp [.ref a, y] H (backB Q) E
def rNeO (K : PySem.W.Frag) (C : Addr) (sp : Sp) (E : XK) : R2 := fun x y H Q => ∃ a dx fs tb, x = .ref a ∧ H a = some (.ins C dx fs) ∧ TyX K H y tb ∧ notFirst K C tb = true ∧ sp [.ref a, y] H (backN Q) E
theorem op_eqO (F : FnOk X.prog X.w X.K X.mg X.base CX k f fd ps sp) (hr : Room k X.A) (M : Meth X.K C "__eq__" f) (hb : Binds X.K fd ps []) (hx : Passes CX X E) : OpR X (compareOp .Eq) (rEqO X.K C sp E) := by
  intro pins s σ H x y v u Q I rx ry h
  obtain ⟨a, dx, fs, tb, rfl, ha, ty, hn, h⟩ := h
  cases rx
  obtain ⟨mA, J, _⟩ := ins_get I.hok ha
  obtain ⟨od, J, _⟩ := J.look
  obtain ⟨m, hF⟩ := I.fr
  obtain ⟨P, Z, p, _⟩ := kit_of I ry ty
  refine cmp_K (op := .Eq) (tb := tb) hr.units0 hF I.ok.mod.kin J (Z.ty _ _ I.kIn p) hn M.at_ M.fn ?_
  refine wpAny_mono (call_sub (vs := [.ref a, y]) ⟨hr, rfl⟩ F hb hx I (.cons rfl (.cons ry .nil)) h) (fun r s' z => ?_) fun _ _ z => z
  obtain ⟨w, H', I', rw', b, rfl, q⟩ := z
  cases rw'
  exact ⟨.bl b, H', I', rfl, q⟩
theorem op_neO (F : FnOk X.prog X.w X.K X.mg X.base CX k f fd ps sp) (hr : Room (k + 1) X.A) (M : Meth X.K C "__eq__" f) (hne : findIn X.K (.ref C) "__ne__" = some (some (.builtin "object.__ne__"))) (hob : subIn X.K (.ref C) (.type "object") = some true) (hb : Binds X.K fd ps []) (hx : Passes CX X E) : OpR X (compareOp .NotEq) (rNeO X.K C sp E) := by
  intro pins s σ H x y v u Q I rx ry h
  obtain ⟨a, dx, fs, tb, rfl, ha, ty, hn, h⟩ := h
  cases rx
  obtain ⟨mA, J, _⟩ := ins_get I.hok ha
  obtain ⟨od, J, _⟩ := J.look
  obtain ⟨P, Z, p, _⟩ := kit_of I ry ty
  refine ne_left hr.in1.units0 I.kIn J (Z.ty _ _ I.kIn p) hn hne hob M.at_ M.fn ?_
  have sb : Sub X k X.A.in1 := Sub.in1 ⟨hr, rfl⟩
  refine wpAny_mono (call_sub (vs := [.ref a, y]) sb F hb hx I (.cons rfl (.cons ry .nil)) h) (fun r s' z => ?_) fun _ _ z => z
  obtain ⟨w, H', I', rw', b, rfl, q⟩ := z
  cases rw'
  exact ⟨b, rfl, .bl (!b), H', I', rfl, q⟩
end
section
variable {H : Hp} {K : PySem.W.Frag} {a C dx : Addr} {fs : List (Str × V)} {y : V} {E : XK} {ok : List V → Hp → V → Prop} {b : Bool} {tb : Value}
theorem rv_eqO (ho : H a = some (.ins C dx fs)) (ht : ∀ H1, Ex H H1 → TyX K H1 y tb) (hn : notFirst K C tb = true) (hok : ∀ H1, Ex H H1 → ok [.ref a, y] H1 (.bl b)) : RV (rEqO K C (Pure ok) E) (.ref a) y H (.bl b) := fun H1 e Q q =>
  ⟨a, dx, fs, tb, rfl, e _ _ ho, ht H1 e, hn, .bl b, hok H1 e, fun H2 e2 => ⟨b, rfl, q H2 e2⟩⟩
theorem rv_neO (ho : H a = some (.ins C dx fs)) (ht : ∀ H1, Ex H H1 → TyX K H1 y tb) (hn : notFirst K C tb = true) (hok : ∀ H1, Ex H H1 → ok [.ref a, y] H1 (.bl b)) : RV (rNeO K C (Pure ok) E) (.ref a) y H (.bl (!b)) := fun H1 e Q q =>
  ⟨a, dx, fs, tb, rfl, e _ _ ho, ht H1 e, hn, .bl b, hok H1 e, fun H2 e2 => ⟨b, rfl, q H2 e2⟩⟩
end
end Wo
set_option Elab.async false
set_option linter.all false
set_option maxRecDepth 100000
set_option maxHeartbeats 4000000
namespace Wo
open PySem PySem.Spec PyProof.Rows L2 Evl Vr En PySem.W
section
variable {prog : Program} {w : PySem.World} {A : Around} {E : Value → Shared → Prop} {s : Shared}
/-- a built-in type called, its __new__ followed in this very program -/
theorem ty_call {T i : String} {as : List Value} {Q : Value → Shared → Prop} (ft : TypeCalled T i "object.__init__") (hne : (some i != some "object.__new__") = true) (hct : checkTypeCall T ⟨as, []⟩ = pure ()) (hok : ∀ o, argsOk "object.__init__" ⟨o :: as, []⟩)
    (g : codeAny (model prog w) A.in1 (.call (.builtin i) ⟨.type T :: as, []⟩) (wants (fun o s1 => s1.TypeIs o T ∧ Q o s1) E) s) : wpAny (model prog w) A (call (.type T) as) Q E s := by
  obtain ⟨c, tl, k1⟩ := ft.mro
  have k2 := ft.made
  have k3 := ft.sub
  have k4 := ft.notType
  have k5 := ft.canCreate
  refine wpAny_call (codeAny_of_tree ?_)
  show wpAny (model prog w) A.in1 (callAny (.type T) ⟨as, []⟩) _ _ s
  refine wpAny_pure ⟨Code.quiet_builtin _ (by decide +kernel), codeAny_builtin PySem.F.entry_type_call ?_⟩
  rw [Around.under_plain (weight_type_call_type T as []) (units_type_call_type T as [])]
  repeat (any_goals (first | assumption | wp_step))
  refine codeAny_mono g fun r s1 hr => ?_
  cases r with
  | error e => exact hr
  | ok fl =>
    cases fl with
    | ret o =>
      obtain ⟨hT, hq⟩ := hr
      have k6 := ft.init.lookup
      have k7 := ft.init.bind o
      repeat (any_goals (first | assumption | wp_step))
      refine codeAny_mono (codeAny_call_builtin ft.init.plain PySem.F.entry_object_init (ft.init.check _ _ _ _ _ _ _ _ hT (hok o) (object_init_meets ft.init.lookup ft.made hne prog w A.in1 (wants (fun r s2 => r = .none ∧ Q o s2) E) s1 ⟨hT, rfl, hq⟩))) fun r2 s2 h2 => ?_
      cases r2 with
      | error e => exact h2
      | ok f2 =>
        cases f2 with
        | ret r =>
          obtain ⟨rfl, hq⟩ := h2
          repeat (any_goals (first | assumption | wp_step))
        | _ => exact h2.elim
    | _ => exact hr.elim
theorem str_call {v : Value} {Q : Value → Shared → Prop} (k : wpAny (model prog w) A.in1.in1 (Builtin.Str.strOf v) (fun r s1 => s1.TypeIs r "str" ∧ Q r s1) E s) : wpAny (model prog w) A (call (.type "str") [v]) Q E s := by
  refine ty_call PySem.F.called_str (by decide) (PySem.F.typeCall_str_1 _) (fun o => PySem.F.args_object_init_2 o _) (codeAny_call_builtin PySem.F.called_str.plain PySem.F.entry_str_new (wpAny_of_eq (PySem.F.newCall_str_1 _) ?_))
  rw [str_new_tree v]
  refine wpAny_bind (wpAny_pure ?_)
  refine wpAny_bind (wpAny_of_eq isSubtype_str_str ?_)
  exact wpAny_bind (wpAny_mono k (fun r s' h' => wpAny_pure h') fun _ _ e => e)
end
section
variable {X : Cx} {CX : CXT} {k f C : Addr} {fd : FuncData} {ps : List Str} {sp : Sp} {E : XK} {n : Nat}
/-- str(o), o's class with its own __str__ -/
def rStrO (C : Addr) (sp : Sp) (E : XK) : List V → Hp → VK → Prop := fun xs H Q => ∃ a dx fs, xs = [.ref a] ∧ H a = some (.ins C dx fs) ∧ sp [.ref a] H (fun v H' => ∃ z, v = .str z ∧ Q (.str z) H') E
theorem c_strO (F : FnOk X.prog X.w X.K X.mg X.base CX n f fd ps sp) (hr : Room (n + 2) X.A) (M : Meth X.K C "__str__" f) (hb : Binds X.K fd ps []) (hx : Passes CX X E) : CallR X (.type "str") (rStrO C sp E) := by
  intro pins s σ H xs us Q I r h
  obtain ⟨a, dx, fs, rfl, ha, h⟩ := h
  rw [Vals.ref1 r]
  obtain ⟨mA, J, _⟩ := ins_get I.hok ha
  obtain ⟨od, J, _⟩ := J.look
  refine str_call ?_
  unfold Builtin.Str.strOf
  rw [if_neg (show ¬ (Builtin.Str.isExactStr (Value.ref a) = true) from fun z => nomatch z)]
  have hs : Sub X n X.A.in1.in1 := Sub.in1 (Sub.in1 ⟨hr, rfl⟩)
  refine wpAny_bind (wpAny_cRoomFor hs.room.units0 ?_)
  refine wpAny_bind (m := callSpecial? (.ref a) (Str.ofString "__str__")) (special_fn I.kIn J M.at_ (beq_iff_eq.mp M.fn) (wpAny_mono (call_sub (vs := [.ref a]) hs F hb hx I (.cons rfl .nil) h) (fun v s' z => ?_) fun _ _ e => e))
  obtain ⟨w, H', I', rw', x, rfl, q⟩ := z
  obtain ⟨t, rfl⟩ := rw'
  exact wpAny_pure ⟨typeIs_str _ _ _, .str x, H', I', ⟨t, rfl⟩, q⟩
end
end Wo
set_option Elab.async false
set_option linter.all false
set_option maxRecDepth 100000
set_option maxHeartbeats 4000000
namespace Wo
open PySem PySem.Spec PyProof.Rows L2 Evl Vr En PySem.W
abbrev tiObj (t : Addr) (i : Nat) : Obj := { cls := .type "tuple_iterator", data := .fields #[.ref t, .int i 0] }
/-- an iterator over the tuple at t -/
def TiO (t it : Addr) (i : Nat) : HO := .ext fun h => h.get? it = some (tiObj t i)
section
variable {prog : Program} {w : PySem.World} {A : Around} {E : Value → Shared → Prop} {s : Shared} {it t : Addr} {i : Nat} {its : Array Value}
theorem ti_call {Q : Value → Shared → Prop} (ht : s.heap.IsTuple t its) (k : Q (.ref s.heap.objs.size) { s with heap := s.heap.push (tiObj t 0) }) : wpAny (model prog w) A (call (.builtin "iter") [.ref t]) Q E s := by
  refine Calls.call_function_entry (by decide +kernel) (by decide +kernel) kdk_entry_iter (kdk_args_iter _) ?_
  unfold Builtin.«iter»
  refine wpAny_bind (m := someArgs "iter" 1 2 _) (wpAny_of_eq (a := [Value.ref t]) (by first | rfl | kernel_rfl!) (wpAny_bind (m := pyIter (.ref t)) (wpAny_pyIter_tuple ht (wpAny_pure ⟨_, rfl, k⟩))))
theorem ti_next {x : Value} {Q : Option Value → Shared → Prop} (ho : s.heap.get? it = some (tiObj t i)) (ht : s.heap.IsTuple t its) (hx : its[i]? = some x)
    (k : Q (some x) { s with heap := s.heap.update it (Obj.mapFields (·.setIfInBounds 1 (rawInt ((i : Int) + 1)))) }) : wpAny (model prog w) A (pyNext (.ref it)) Q E s := by
  obtain ⟨ot, hot, _, nt, hdt⟩ := ht
  have hT : s.TypeIs (.ref it) "tuple_iterator" := ⟨_, ho, rfl⟩
  unfold pyNext
  refine wpAny_bind (wpAny_attempt (wpAny_callSpecial?_slot (name := Str.ofString "__next__") hT PySem.F.slot_tuple_iterator_next (wpAny_call_entry PySem.F.slot_tuple_iterator_next hT PySem.F.entry_tuple_iterator_next ?_ (PySem.F.args_tuple_iterator_next_1 _))))
  show wpAny (model prog w) A.in1 (field (.ref it) 0 >>= _) _ _ s
  refine wpAny_bind (wpAny_field ho rfl (x := .ref t) rfl ?_)
  rw [if_neg (show ¬ ((Value.ref t == Value.none) = true) from fun z => nomatch z)]
  refine wpAny_bind (m := field (.ref it) 1) (wpAny_field ho rfl (x := .int i 0) rfl ?_)
  refine wpAny_bind (m := seqItems? (.ref t)) (wpAny_seqItems hot hdt ?_)
  simp only [Int.toNat_natCast, hx]
  exact wpAny_bind (wpAny_setField ho rfl (by simp) (wpAny_pure ⟨x, rfl, wpAny_pure k⟩))
theorem ti_stop {Q : Option Value → Shared → Prop} (hh : A.handled = none) (ho : s.heap.get? it = some (tiObj t i)) (ht : s.heap.IsTuple t its) (hx : its[i]? = none)
    (k : ∀ h', (∀ b o, b ≠ it → s.heap.get? b = some o → h'.get? b = some o) → (∃ o, h'.get? it = some o) → Q none { s with heap := h' }) : wpAny (model prog w) A (pyNext (.ref it)) Q E s := by
  obtain ⟨ot, hot, _, nt, hdt⟩ := ht
  have hT : s.TypeIs (.ref it) "tuple_iterator" := ⟨_, ho, rfl⟩
  unfold pyNext
  refine wpAny_bind (wpAny_attempt (wpAny_callSpecial?_slot (name := Str.ofString "__next__") hT PySem.F.slot_tuple_iterator_next (wpAny_call_entry PySem.F.slot_tuple_iterator_next hT PySem.F.entry_tuple_iterator_next ?_ (PySem.F.args_tuple_iterator_next_1 _))))
  show wpAny (model prog w) A.in1 (field (.ref it) 0 >>= _) _ _ s
  refine wpAny_bind (wpAny_field ho rfl (x := .ref t) rfl ?_)
  rw [if_neg (show ¬ ((Value.ref t == Value.none) = true) from fun z => nomatch z)]
  refine wpAny_bind (m := field (.ref it) 1) (wpAny_field ho rfl (x := .int i 0) rfl ?_)
  refine wpAny_bind (m := seqItems? (.ref t)) (wpAny_seqItems hot hdt ?_)
  simp only [Int.toNat_natCast, hx]
  refine wpAny_bind (wpAny_rule (wpAny_bind (wpAny_setField ho rfl (by simp) ?_)))
  have e0 := Heap.get?_update_self (Obj.mapFields (·.setIfInBounds 0 Value.none)) ho (Obj.isFreed_of_fields (Obj.data_mapFields (o := tiObj t i) rfl _))
  show wpAny (model prog w) A.in1 (newExc (.type "StopIteration") [] >>= _) _ _ _
  refine wpAny_bind ?_
  simp only [newExc, newTuple]
  refine wpAny_bind (wpAny_newObj_type (wpAny_bind (m := firstArgMember _ _) (wpAny_of_eq (a := Value.none) (by first | rfl | (simp only [firstArgMember]; rfl)) (wpAny_newObj_type ?_ (by size_fits)))) (by size_fits))
  simp only [raiseNew]
  refine wpAny_bind (wpAny_handled ?_)
  rw [show A.in1.handled = none from hh]
  refine wpAny_bind (wpAny_pure (wpAny_throw ?_))
  refine wpAny_bind (wpAny_isInstance (T := "StopIteration") (b := true) ⟨_, Heap.get?_push_size _ rfl, rfl⟩ isSubtype_stop ?_)
  rw [if_pos rfl]
  refine wpAny_pure (k _ (fun b o hb e => ?_) ?_)
  · exact Heap.get?_push_of_some _ (Heap.get?_push_of_some _ ((Heap.get?_update_other s.heap _ (Ne.symm hb)).trans e))
  · exact ⟨_, Heap.get?_push_of_some _ (Heap.get?_push_of_some _ e0)⟩
end
section
variable {X : Cx} {pins : List (Addr × Obj)} {σ : L2.St} {H : Hp} {s : Shared} {it t q : Addr} {i : Nat}
theorem ti_ok {P : Program} {w : PySem.World} {H : Hp} {h : Heap} (e : h.get? it = some (tiObj t i)) : ObjOk P w H h it (TiO t it i) := ⟨e, ⟨_, e⟩, fun h1 h2 q k => k _ q⟩
theorem ti_get (I : Inv X pins σ H s) (e : H it = some (TiO t it i)) : s.heap.get? it = some (tiObj t i) := (I.hok it _ e).1
/-- iter(t), t a tuple -/
def rIterT (K : PySem.W.Frag) : List V → Hp → VK → Prop := fun xs H Q => ∃ (t : Addr) (zs : List V), xs = [.ref t] ∧ SqT K H t zs ∧ ∀ it, H it = none → Q (.ref it) (upd H it (TiO t it 0))
theorem c_iterT : CallR X (.builtin "iter") (rIterT X.K) := by
  intro pins s σ H xs us Q I r h
  obtain ⟨t, zs, rfl, ht, q⟩ := h
  rw [Vals.ref1 r]
  obtain ⟨its, rv, hT, _⟩ := I.tuple ht
  obtain ⟨o, h1, h2, h3⟩ := hT
  refine ti_call ⟨o, h1, h2, h3⟩ ?_
  exact ⟨.ref s.heap.objs.size, _, I.laid (t' := s.toks) (fun b u e => Heap.get?_push_of_some _ e) (Nat.le_refl _) (ti_ok (Heap.get?_push_size _ rfl)), rfl, q _ (I.hok.fresh (Nat.le_refl _))⟩
theorem ti_step (I : Inv X pins σ H s) (e : H it = some (TiO t it i)) : Inv X pins σ (upd H it (TiO t it (i + 1))) { s with heap := s.heap.update it (Obj.mapFields (·.setIfInBounds 1 (rawInt ((i : Int) + 1)))) } := by
  have ho := ti_get I e
  have hn := Heap.get?_update_self (Obj.mapFields (·.setIfInBounds 1 (rawInt ((i : Int) + 1)))) ho (Obj.isFreed_of_fields (Obj.data_mapFields (o := tiObj t i) rfl _))
  have hf : Obj.mapFields (·.setIfInBounds 1 (rawInt ((i : Int) + 1))) (tiObj t i) = tiObj t (i + 1) := by simp [Obj.mapFields, rawInt]
  rw [hf] at hn
  exact I.write (x := it) (e := it) (t' := s.toks) (by rw [e]; exact trivial) (.inl rfl) (fun b u hb hu => (Heap.get?_update_other s.heap _ (Ne.symm hb)).trans hu) ⟨_, hn⟩ (ti_ok hn)
/-- an iterator that is done -/
def TiX (it : Addr) : HO := .ext fun h => ∃ o, h.get? it = some o
theorem tx_ok {P : Program} {w : PySem.World} {H : Hp} {h : Heap} (e : ∃ o, h.get? it = some o) : ObjOk P w H h it (TiX it) := ⟨e, e, fun h1 h2 q k => let ⟨o, ho⟩ := q; ⟨o, k _ ho⟩⟩
theorem hint_split : splitId "tuple_iterator.__length_hint__" = some ("tuple_iterator", "__length_hint__") := by decide +kernel
theorem ti_hint {M : Model} {A : Around} {E : Value → Shared → Prop} {Q : Bool → Shared → Prop} (ho : s.heap.get? it = some (tiObj t i)) (h : Q false s) : wpAny M A (Builtin.List.listLengthHint (.ref it)) Q E s := by
  have hT : s.TypeIs (.ref it) "tuple_iterator" := ⟨_, ho, rfl⟩
  unfold Builtin.List.listLengthHint
  refine wpAny_bind (wpAny_specialOf hT PySem.F.nolen_tu ?_)
  show wpAny M A (specialOf (Value.ref it) (Str.ofString "__length_hint__") >>= _) _ _ _
  refine wpAny_bind (wpAny_specialOf hT PySem.F.hint_tu ?_)
  generalize hd : ("tuple_iterator.__length_hint__" : String) = d
  wp_delta
  rw [show splitId d = some ("tuple_iterator", "__length_hint__") from by rw [← hd]; exact hint_split]
  subst hd
  refine wpAny_bind (wpAny_isInstance (b := true) hT (by rw [isSubtype_type]; kernel_rfl) ?_)
  exact wpAny_pure h
theorem ti_loop {Rs : Result → Shared → Prop} {A1 : Around} {xs : List V} (hh : A1.handled = none) (hz : xs.length ≤ 40000) (hqi : q ≠ it) (hti : ∀ H', (∀ b, b ≠ q → b ≠ it → H' b = H b) → SqT X.K H' t xs)
    (hdone : ∀ H' s', Inv X pins σ H' s' → (∀ b, b ≠ q → b ≠ it → H' b = H b) → H' q = some (.lst xs) → Rs (.ok (.ret .none)) s') :
    ∀ (m i : Nat) (H' : Hp) (s : Shared), xs.length - i = m → i ≤ xs.length → Inv X pins σ H' s → (∀ b, b ≠ q → b ≠ it → H' b = H b) → H' q = some (.lst (xs.take i)) → H' it = some (TiO t it i) → codeAny (model X.prog X.w) A1 (.builtin "list.extend.loop" ⟨[.ref q, .ref it, .none], []⟩) Rs s := by
  intro m
  induction m with
  | zero =>
    intro i H' s hm hi I hO hq hit
    have hi' : i = xs.length := by omega
    subst hi'
    refine codeAny_builtin PySem.F.entry_extend_loop ?_
    rw [Around.under_plainId PySem.F.plain_extend_loop _]
    show wpAny (model X.prog X.w) A1.in1 (pyNext (.ref it) >>= _) _ _ s
    obtain ⟨its, rv, ⟨o, h1, h2, h3⟩, _⟩ := I.tuple (hti H' hO)
    refine wpAny_bind (ti_stop hh (ti_get I hit) ⟨o, h1, h2, h3⟩ (by simp [← rv.length]) fun h' k1 k2 => wpAny_pure ?_)
    refine hdone (upd H' it (TiX it)) _ (I.write (x := it) (e := it) (t' := s.toks) (by rw [hit]; exact trivial) (.inl rfl) k1 k2 (tx_ok k2)) (fun b hb hb2 => by rw [upd_ne hb2]; exact hO b hb hb2) ?_
    rw [upd_ne hqi, hq, List.take_of_length_le (Nat.le_refl _)]
  | succ m ih =>
    intro i H' s hm hi I hO hq hit
    have hlt : i < xs.length := by omega
    refine codeAny_builtin PySem.F.entry_extend_loop ?_
    rw [Around.under_plainId PySem.F.plain_extend_loop _]
    show wpAny (model X.prog X.w) A1.in1 (pyNext (.ref it) >>= _) _ _ s
    obtain ⟨its, rv, ⟨o, h1, h2, h3⟩, _⟩ := I.tuple (hti H' hO)
    obtain ⟨u, hu, ru⟩ := rv.get (List.getElem?_eq_getElem hlt)
    refine wpAny_bind (ti_next (ti_get I hit) ⟨o, h1, h2, h3⟩ (x := u) (by simpa using hu) ?_)
    have I1 := ti_step I hit
    have hq1 : upd H' it (TiO t it (i + 1)) q = some (.lst (xs.take i)) := by rw [upd_ne hqi]; exact hq
    obtain ⟨z, il, k, r2, hl, e⟩ := I1.lstM hq1
    have hll : il.length = i := by rw [← r2.length, List.length_take]; omega
    show wpAny (model X.prog X.w) A1.in1 (updateSeq q (·.push u) >>= _) _ _ _
    refine wpAny_bind (wpAny_updateSeq e rfl (wpAny_pure ⟨plainId_quiet PySem.F.plain_extend_loop _, ?_⟩) (by rw [List.size_toArray, hll, sizeLine_eq]; omega) (by show (il.toArray.push u).size ≤ sizeLine + 1; rw [Array.size_push, List.size_toArray, hll, sizeLine_eq]; omega))
    refine ih (i + 1) _ _ (by omega) hlt (I1.lset (its' := il ++ [u]) (ys := xs.take (i + 1)) (t' := s.toks) hq1 e (by simp) (by rw [List.take_succ_eq_append_getElem hlt]; exact r2.append (.cons ru .nil)) (by rw [List.length_take, sizeLine_eq]; omega)) (fun b hb hb2 => by rw [upd_ne hb, upd_ne hb2]; exact hO b hb hb2) upd_same (by rw [upd_ne (Ne.symm hqi)]; exact upd_same)
end
end Wo
set_option Elab.async false
set_option linter.all false
set_option maxRecDepth 100000
set_option maxHeartbeats 4000000
namespace Wo
open PySem PySem.Spec PyProof.Rows L2 Evl Vr En PySem.W
section
variable {X : Cx} {pins : List (Addr × Obj)} {σ : L2.St} {H : Hp} {s : Shared} {f f2 C a q : Addr} {fd fd2 : FuncData} {ps ps2 : List Str} {sp sp2 : Sp} {E : XK} {k n : Nat}
/-- a def that raises nothing, called anywhere -/
theorem call_sub0 {A : Around} {us : List Value} {vs : List V} {Q : VK} {Er : Value → Shared → Prop} (sb : Sub X k A) (F : FnOk X.prog X.w X.K X.mg X.base CX0 k f fd ps sp) (hb : Binds X.K fd ps []) (I : Inv X pins σ H s) (r : Vals vs us) (h : sp vs H Q E) :
    wpAny (model X.prog X.w) A (call (.ref f) us) (EP X pins σ Q) Er s := by
  have e := I.env0
  have z0 : Env0 X.prog X.w X.K X.mg X.base A X.stack s H := ⟨by rw [sb.fr]; exact e.frames, e.mod, e.bs, e.bsz, e.funs, e.frf, e.hok, e.bare⟩
  have z1 : BindsTo s fd ⟨us, []⟩ (ps.zip us) := by simpa using hb s us I.kIn (by rw [List.append_nil, ← r.length]; exact F.len _ _ _ _ h)
  refine wpAny_call (codeAny_mono (F.run A X.stack s H ⟨us, []⟩ us vs Q E sb.room z0 z1 r h) fun r s' hq => ?_)
  cases r with
  | error e => exact False.elim hq
  | ok fl => cases fl with
    | ret u => exact I.after hq
    | _ => exact False.elim hq
/-- what the own __iter__ gives: an iterator over a tuple, and then the list q of its things -/
def AftI (K : PySem.W.Frag) (a q : Addr) (sp2 : Sp) (E : XK) (Q : VK) : VK := fun v H' => ∃ (it t : Addr) (xs : List V), v = .ref it ∧ it ≠ q ∧ xs.length ≤ 40000 ∧ H' it = some (TiO t it 0) ∧
  sp2 [.ref a] H' (fun u H1 => ∃ m : Int, u = .int m ∧ 0 ≤ m ∧ m ≤ 40000 ∧ H1 it = some (TiO t it 0) ∧ H1 q = some (.lst []) ∧ (∀ H2, (∀ b, b ≠ q → b ≠ it → H2 b = H1 b) → SqT K H2 t xs) ∧ ∀ H2, (∀ b, b ≠ q → b ≠ it → H2 b = H1 b) → H2 q = some (.lst xs) → Q (.ref q) H2) E
/-- list(o), o's class with its own __iter__ and __len__ -/
def rListO (K : PySem.W.Frag) (C : Addr) (sp sp2 : Sp) (E : XK) : List V → Hp → VK → Prop := fun xs H Q => ∃ a dx fs, xs = [.ref a] ∧ H a = some (.ins C dx fs) ∧ ∀ q, H q = none → sp [.ref a] (upd H q (.lst [])) (fun v H' => H' a = some (.ins C dx fs) ∧ AftI K a q sp2 E Q v H') E
theorem long_no {m : Int} (h0 : 0 ≤ m) (h1 : m ≤ 40000) : Builtin.List.listTooLong m.toNat = false := by
  unfold Builtin.List.listTooLong
  have : m.toNat ≤ 40000 := by omega
  simp only [decide_eq_false_iff_not, sizeLine_eq]
  omega
theorem ol_hint {A : Around} {Q : Bool → Shared → Prop} {Er : Value → Shared → Prop} {dx : Addr} {fs : List (Str × V)} {R : Int → Hp → Prop} (sb : Sub X k A.in1) (F : FnOk X.prog X.w X.K X.mg X.base CX0 k f fd ps sp) (hs : findIn X.K (.ref C) "__len__" = some (some (.ref f))) (hf : isFn X.K (.ref f) = true) (hb : Binds X.K fd ps [])
    (I : Inv X pins σ H s) (ha : H a = some (.ins C dx fs)) (h : sp [.ref a] H (fun u H1 => ∃ m : Int, u = .int m ∧ 0 ≤ m ∧ m ≤ 40000 ∧ R m H1) E) (hq : ∀ b m H1 s1, Inv X pins σ H1 s1 → R m H1 → Q b s1) : wpAny (model X.prog X.w) A (Builtin.List.listLengthHint (.ref a)) Q Er s := by
  obtain ⟨mA, J, _⟩ := ins_get I.hok ha
  obtain ⟨od, J, _⟩ := J.look
  obtain ⟨m0, hF⟩ := I.fr
  unfold Builtin.List.listLengthHint
  refine wpAny_bind (wpAny_bind (J.type.here ((looks_findIn I.kIn hs).here ?_)))
  refine KFB.if_not rfl ?_
  rw [if_pos (by rfl)]
  refine wpAny_bind (wpAny_rule (wpAny_bind (wpAny_attempt (len_K hF I.ok.mod.kin J hs hf (wpAny_mono (call_sub0 (vs := [.ref a]) sb F hb I (.cons rfl .nil) h) (fun r s' z => ?_) fun _ _ z => z)))))
  obtain ⟨v, H', I', rv, m, rfl, h0, h1, hR⟩ := z
  obtain ⟨t, rfl⟩ := rv
  refine ⟨⟨h0, by omega⟩, ?_⟩
  refine wpAny_bind (m := asInt? _) (wpAny_pure ?_)
  dsimp only
  rw [if_neg (by rw [long_no h0 h1]; exact fun z => nomatch z)]
  exact wpAny_pure (hq _ m H' _ (I'.tok _) hR)
theorem oe_run {Q : VK} {A1 : Around} {dx : Addr} {fs : List (Str × V)} (hh : A1.handled = none) (sb : Sub X n A1.in1) (sb2 : Sub X k A1.in1.in1) (F : FnOk X.prog X.w X.K X.mg X.base CX0 n f fd ps sp) (M : Meth X.K C "__iter__" f) (hb : Binds X.K fd ps [])
    (F2 : FnOk X.prog X.w X.K X.mg X.base CX0 k f2 fd2 ps2 sp2) (M2 : Meth X.K C "__len__" f2) (hb2 : Binds X.K fd2 ps2 [])
    (I : Inv X pins σ H s) (ha : H a = some (.ins C dx fs)) (hq : H q = some (.lst [])) (h : sp [.ref a] H (fun v H' => H' a = some (.ins C dx fs) ∧ AftI X.K a q sp2 E Q v H') E) :
    wpAny (model X.prog X.w) A1.in1 (Builtin.List.listExtendWith (.ref q) (.ref a) .none) (fun fin s' => match fin with
      | .done g => wants (fun r s2 => r = .none ∧ EP X pins σ Q (.ref q) s2) X.xe (.ok g) s'
      | .again c' => c'.quiet = true ∧ codeAny (model X.prog X.w) A1 c' (wants (fun r s2 => r = .none ∧ EP X pins σ Q (.ref q) s2) X.xe) s') X.xe s := by
  have hne : q ≠ a := ne_of hq ha (fun z => nomatch z)
  obtain ⟨mA, J, _⟩ := ins_get I.hok ha
  obtain ⟨od, J, _⟩ := J.look
  obtain ⟨m0, hF⟩ := I.fr
  unfold Builtin.List.listExtendWith
  refine wpAny_bind (J.type.here ?_)
  rw [if_neg (by
    have z1 : Builtin.List.listSameRef (.ref q) (.ref a) = false := by simp [Builtin.List.listSameRef, hne]
    rw [z1]
    exact fun z => nomatch z)]
  refine wpAny_bind (owit_iter hF I.ok.mod.kin J M.at_ M.fn (wpAny_mono (call_sub0 (vs := [.ref a]) sb F hb I (.cons rfl .nil) h) (fun u s2 z => ?_) fun _ _ z => z))
  obtain ⟨v, H', I', rv, ha', it, t, xs, rfl, hiq, hz, hi0, h2⟩ := z
  cases rv
  have hT : s2.TypeIs (.ref it) "tuple_iterator" := ⟨_, ti_get I' hi0, rfl⟩
  unfold OwitIt
  refine wpAny_specialOf hT PySem.F.slot_tuple_iterator_next.lookup ?_
  refine wpAny_bind (wpAny_holding (ol_hint sb2 F2 M2.at_ M2.fn hb2 I' ha' h2 fun b m H1 s3 I1 ⟨hit, hq1, hti, hQ⟩ => ?_))
  have go : ∀ s4 : Shared, Inv X pins σ H1 s4 → codeAny (model X.prog X.w) A1 (.builtin "list.extend.loop" ⟨[.ref q, .ref it, .none], []⟩) (wants (fun r s2 => r = .none ∧ EP X pins σ Q (.ref q) s2) X.xe) s4 := fun s4 I4 =>
    ti_loop (t := t) (H := H1) (xs := xs) hh hz (Ne.symm hiq) hti (fun H2 s3 I2 o1 o2 => ⟨rfl, .ref q, H2, I2, rfl, hQ H2 o1 o2⟩) xs.length 0 H1 s4 rfl (Nat.zero_le _) I4 (fun _ _ _ => rfl) (by rw [List.take_zero]; exact hq1) hit
  refine wpAny_ite_split (fun _ => ?_) (fun _ => wpAny_pure ⟨plainId_quiet PySem.F.plain_extend_loop _, go _ I1⟩)
  refine wpAny_bind (wpAny_rule (wpAny_bind ?_))
  obtain ⟨z, il, c, r3, hl3, e3⟩ := I1.lstM hq1
  cases r3
  show wpAny (model X.prog X.w) _ (updateSeq q (·.push .none) >>= fun _ => updateSeq q (·.pop)) _ _ _
  refine wpAny_bind (wpAny_updateSeq e3 rfl ?_)
  have I2 := I1.lset (f := (·.push Value.none)) (its' := [Value.none]) (ys := [.non]) (t' := s3.toks) hq1 e3 (by simp) (.cons rfl .nil) (by rw [List.length_singleton, sizeLine_eq]; decide)
  obtain ⟨z4, il4, c4, r4, hl4, e4⟩ := I2.lstM upd_same
  obtain ⟨u4, rfl, ru4⟩ := r4.one
  refine wpAny_updateSeq e4 rfl ?_ (by show 1 ≤ sizeLine; rw [sizeLine_eq]; decide) (by show 0 ≤ sizeLine + 1; exact Nat.zero_le _)
  have I3 := I2.lset (f := (·.pop)) (its := [u4]) (its' := []) (ys := []) (t' := s3.toks) upd_same e4 (by rfl) .nil (Nat.zero_le _)
  rw [upd_upd] at I3
  have hH : upd H1 q (.lst []) = H1 := by
    funext b
    by_cases hb : b = q
    · rw [hb, upd_same, hq1]
    · exact upd_ne hb
  rw [hH] at I3
  exact wpAny_pure ⟨plainId_quiet PySem.F.plain_extend_loop _, go _ I3⟩
theorem c_listO (hc : X.calm = true) (F : FnOk X.prog X.w X.K X.mg X.base CX0 n f fd ps sp) (hr : Room (n + 2) X.A) (M : Meth X.K C "__iter__" f) (hb : Binds X.K fd ps []) (F2 : FnOk X.prog X.w X.K X.mg X.base CX0 k f2 fd2 ps2 sp2) (hr2 : Room (k + 3) X.A) (M2 : Meth X.K C "__len__" f2) (hb2 : Binds X.K fd2 ps2 []) (hx : Passes CX0 X E) : CallR X (.type "list") (rListO X.K C sp sp2 E) := by
  intro pins s σ H xs us Q I r h
  obtain ⟨a, dx, fs, rfl, ha, h⟩ := h
  rw [Vals.ref1 r]
  have sb : Sub X n X.A.in1.in1 := Sub.in1 (Sub.in1 ⟨hr, rfl⟩)
  have sb2 : Sub X k X.A.in1.in1.in1 := Sub.in1 (Sub.in1 (Sub.in1 ⟨hr2, rfl⟩))
  have fr : H s.heap.objs.size = none := I.hok.fresh (Nat.le_refl _)
  refine callType_codes (Q₁ := fun o s1 => o = .ref s.heap.objs.size ∧ s1 = { s with heap := s.heap.push { cls := .type "list", data := .seq #[] } }) PySem.F.called_list (PySem.F.typeCall_list_1 _) PySem.F.entry_list_init (code_list_new _ ⟨rfl, rfl⟩) fun o s1 h1 => ?_
  obtain ⟨rfl, rfl⟩ := h1
  have hS : (s.heap.push { cls := .type "list", data := .seq #[] }).get? s.heap.objs.size = some { cls := .type "list", data := .seq #[] } := Heap.get?_push_size _ rfl
  refine ⟨⟨_, hS, rfl⟩, PySem.F.args_list_init_2 _ _, ?_⟩
  have I1 : Inv X pins σ (upd H s.heap.objs.size (.lst [])) { s with heap := s.heap.push { cls := .type "list", data := .seq #[] } } := I.lnew (its := []) (t' := s.toks) .nil (Nat.zero_le _)
  show wpAny (model X.prog X.w) _ (Builtin.List.listItems (.ref s.heap.objs.size) >>= fun old => Builtin.List.listUpdate (.ref s.heap.objs.size) (fun _ => #[]) >>= fun _ => letGo old.toList.reverse >>= fun _ => Builtin.List.listExtendWith (.ref s.heap.objs.size) (.ref a) .none) _ _ _
  refine wpAny_bind ?_
  unfold Builtin.List.listItems
  refine wpAny_bind (wpAny_seqItems hS rfl (wpAny_pure ?_))
  show wpAny (model X.prog X.w) _ (updateSeq s.heap.objs.size (fun _ => #[]) >>= fun _ => letGo (#[] : Array Value).toList.reverse >>= fun _ => Builtin.List.listExtendWith (.ref s.heap.objs.size) (.ref a) .none) _ _ _
  refine wpAny_bind (wpAny_updateSeq hS rfl ?_)
  have I2 := I1.lset (f := fun _ => #[]) (its := []) (its' := []) (ys := []) (t' := s.toks) upd_same hS rfl .nil (Nat.zero_le _)
  rw [upd_upd] at I2
  refine wpAny_bind (wpAny_letGo ?_)
  exact oe_run (A1 := X.A.in1) (I.ok.hd hc) sb sb2 F M hb F2 M2 hb2 I2 (by rw [upd_ne (ne_of_none ha fr)]; exact ha) upd_same (h _ fr)
end
section
variable {X : Cx} {CX : CXT} {f C : Addr} {fd : FuncData} {ps : List Str} {sp : Sp} {E : XK} {k : Nat} {K : PySem.W.Frag}
theorem op_eqOK (hK : X.K = K) (F : FnOk X.prog X.w X.K X.mg X.base CX k f fd ps sp) (hr : Room k X.A) (M : Meth X.K C "__eq__" f) (hb : Binds X.K fd ps []) (hx : Passes CX X E) : OpR X (compareOp .Eq) (rEqO K C sp E) := by subst hK; exact op_eqO F hr M hb hx
theorem op_neOK (hK : X.K = K) (F : FnOk X.prog X.w X.K X.mg X.base CX k f fd ps sp) (hr : Room (k + 1) X.A) (M : Meth X.K C "__eq__" f) (hne : findIn X.K (.ref C) "__ne__" = some (some (.builtin "object.__ne__"))) (hob : subIn X.K (.ref C) (.type "object") = some true) (hb : Binds X.K fd ps []) (hx : Passes CX X E) : OpR X (compareOp .NotEq) (rNeO K C sp E) := by subst hK; exact op_neO F hr M hne hob hb hx
end
end Wo
set_option Elab.async false
set_option linter.all false
set_option maxRecDepth 100000
set_option maxHeartbeats 4000000
namespace Wo
open PySem PySem.Spec PyProof.Rows L2 Evl Vr En
/-- != of two tuples of the very same objects -/
def rNeS (K : PySem.W.Frag) : R2 := fun x y H Q => ∃ a b xs, x = .ref a ∧ y = .ref b ∧ SqT K H a xs ∧ SqT K H b xs ∧ (∀ v ∈ xs, v = .non ∨ ∃ r, v = .ref r) ∧ Q (.bl false) H
theorem same_val {v : V} {u u' : Value} (h : v = .non ∨ ∃ r, v = .ref r) (r : RelV v u) (r' : RelV v u') : u = u' := by
  rcases h with rfl | ⟨a, rfl⟩
  · cases r; cases r'; rfl
  · cases r; cases r'; rfl
theorem op_neS {X : Cx} (hu : X.A.units < cLine) : OpR X (compareOp .NotEq) (rNeS X.K) := by
  intro pins s σ H x y v u Q I rx ry h
  obtain ⟨a, b, xs, rfl, rfl, ha, hb, hs, q⟩ := h
  cases rx
  cases ry
  obtain ⟨its, rv, h1, _⟩ := I.tuple ha
  obtain ⟨its2, rv2, h2, _⟩ := I.tuple hb
  have t1 : s.heap.IsTuple a its.toArray := by obtain ⟨o, p1, p2, p3⟩ := h1; exact ⟨o, p1, p2, p3⟩
  have t2 : s.heap.IsTuple b its2.toArray := by obtain ⟨o, p1, p2, p3⟩ := h2; exact ⟨o, p1, p2, p3⟩
  have hsz : its.toArray.size = its2.toArray.size := by rw [List.size_toArray, List.size_toArray, ← rv.length, ← rv2.length]
  have hc := SeqAt.RcNeAt.tuples (A := X.A) (s := s) (e := fun _ => true) t1 t2 hu fun j g1 g2 => by
    have k1 : j < xs.length := by rw [rv.length]; simpa using g1
    obtain ⟨w1, e1, r1⟩ := rv.get (List.getElem?_eq_getElem k1)
    obtain ⟨w2, e2, r2⟩ := rv2.get (List.getElem?_eq_getElem k1)
    have f1 : its.toArray[j] = w1 := by
      have g1' : j < its.length := by simpa using g1
      rw [List.getElem?_eq_getElem g1'] at e1
      simpa using Option.some.inj e1
    have f2 : its2.toArray[j] = w2 := by
      have g2' : j < its2.length := by simpa using g2
      rw [List.getElem?_eq_getElem g2'] at e2
      simpa using Option.some.inj e2
    rw [f1, f2, same_val (hs _ (List.getElem_mem k1)) r1 r2]
    exact SeqAt.EqAt.same _
  have h3 : ((List.range (min its.toArray.size its2.toArray.size)).all fun _ => true) = true := List.all_eq_true.mpr fun _ _ => rfl
  have h4 : (!(((List.range (min its.toArray.size its2.toArray.size)).all fun _ => true) && its.toArray.size == its2.toArray.size)) = false := by
    rw [h3, hsz, beq_self_eq_true]
    rfl
  rw [h4] at hc
  exact hc X.prog X.w X.xe _ ⟨.bl false, H, I, rfl, q⟩
theorem op_neSK {X : Cx} {K : PySem.W.Frag} (hK : X.K = K) (hu : X.A.units < cLine) : OpR X (compareOp .NotEq) (rNeS K) := by subst hK; exact op_neS hu
end Wo
set_option Elab.async false
set_option linter.all false
set_option maxRecDepth 100000
set_option maxHeartbeats 4000000
namespace Sl
open PySem PySem.Spec PyProof.Rows L2
section
variable {P : Program} {w : World} {A : Around} {E : Value → Shared → Prop} {s : Shared}
/-- the object that set() begins with -/
abbrev blank (w : World) : Obj := { cls := .type "set", dict := none, data := .set #[] 0 (.fresh 0 0 (!w.params.followText "set-order")) }
/-- the new set is filled from a list of ints -/
theorem fill {l : Addr} {items : Array Value} {ns : List Int} (calm : A.handled = none) (isL : s.heap.IsList l items) (whole : IntsAre items.toList ns) (few : ns.length + 1 < scanBound) {R : Value → Shared → Prop}
    (k : ∀ (h2 : Heap) (tk c : Nat), SetR w h2 s.heap.objs.size (fun j => decide (j ∈ ns)) c → c ≤ ns.length → (∀ b o, s.heap.get? b = some o → h2.get? b = some o) → R .none { s with heap := h2, toks := tk }) :
    codeAny (model P w) A (.call (.builtin "set.__init__") ⟨[.ref s.heap.objs.size, .ref l], []⟩) (wants R E) { s with heap := s.heap.push (blank w) } := by
  have sz : items.size = ns.length := by have z := IntsAre.length whole; simpa only [Array.length_toList] using z
  have at0 : (s.heap.push (blank w)).get? s.heap.objs.size = some (blank w) := Heap.get?_push_size _ rfl
  have ty : Shared.TypeIs { s with heap := s.heap.push (blank w) } (.ref s.heap.objs.size) "set" := ⟨_, at0, rfl⟩
  have isL1 : (s.heap.push (blank w)).IsList l items := isL.push _
  have hl : l < s.heap.objs.size := by obtain ⟨o, e, _⟩ := isL; exact Heap.lt_size e
  refine codeAny_call_builtin F.called_set.init.plain F.entry_set_init (check_set_init_1 ty ?_)
  obtain ⟨ol, eol, cl, nl, dl⟩ := isL1
  obtain ⟨c0, d0, x0, s0⟩ := ol
  simp only at cl dl; subst cl dl
  have f1 := F.sub_list_set; have f2 := F.sub_list_frozenset
  have f3 : (Value.type "list" == Value.type "dict") = false := by decide
  have again : (s.heap.push (blank w)).IsList l items := ⟨_, eol, rfl, nl, rfl⟩
  unfold Builtin.«set.__init__» noKeywords Builtin.Frozenset.updateFrom
  generalize hI : pyIter = I0
  wp_walk
  subst hI
  refine wpAny_pyIter_list again (wpAny_bind (wpAny_runValue ?_))
  have c3 : A.in1.in1.in1.handled = none := by simp [calm]
  have s1 : (s.heap.push (blank w)).objs.size = s.heap.objs.size + 1 := Heap.size_push ..
  have nI : l ≠ (s.heap.push (blank w)).objs.size := fun z => absurd (z.trans s1) (Nat.ne_of_lt (Nat.lt_succ_of_lt hl))
  have nS : s.heap.objs.size ∉ [(s.heap.push (blank w)).objs.size, l] := by
    intro z; rcases List.mem_cons.mp z with z | z
    · exact absurd (z.trans s1) (Nat.ne_of_lt (Nat.lt_succ_self _))
    · exact absurd (List.mem_singleton.mp z) (Nat.ne_of_gt hl)
  have each : ∀ (i : Nat) (v : Value), items[i]? = some v → ∃ k t, ns[i]? = some k ∧ v = .int k t := fun i v hv => by
    have hi : i < ns.length := by have := (Array.getElem?_eq_some_iff.mp hv).1; omega
    obtain ⟨t, e⟩ := IntsAre.int_at whole i v (by rw [Array.getElem?_toList]; exact hv)
    exact ⟨ns[i], t, List.getElem?_eq_getElem hi, by rw [e, List.getD_eq_getElem?_getD, List.getElem?_eq_getElem hi]; rfl⟩
  have W := (Walks.list (prog := P) (w := w) (A := A.in1.in1) c3 (s.heap.push (blank w)).objs.size l nI items).toS
  refine set_update_ints W s.heap.objs.size nS ns sz few each (items.size - 0) 0 _ rfl (Nat.zero_le _) ⟨⟨_, Heap.get?_push_size _ rfl, rfl, rfl⟩, again.push _⟩ ⟨0, Nat.le_refl 0, ?_⟩ ?_
  · exact setR_new_at (Heap.get?_push_of_some _ at0)
  · rintro ⟨h2, g2, d2, t2, o2⟩ c mv hc hs
    have e1 : g2 = s.gens := mv.gens
    have e2 : d2 = s.drawn := mv.drawn
    have e3 : o2 = s.os := mv.os
    subst e1 e2 e3
    refine wpAny_pure (wpAny_pure ?_)
    rw [sz] at hc
    refine k h2 t2 c hs hc fun b o e => ?_
    have hb : b < s.heap.objs.size := Heap.lt_size e
    refine mv.heap b o (fun z => ?_) (Heap.get?_push_of_some _ (Heap.get?_push_of_some _ e))
    rcases List.mem_cons.mp z with z | z
    · exact absurd z (Nat.ne_of_lt hb)
    · exact absurd ((List.mem_singleton.mp z).trans s1) (Nat.ne_of_lt (Nat.lt_succ_of_lt hb))
theorem made {l : Addr} {items : Array Value} {ns : List Int} {Q : Value → Shared → Prop} (calm : A.handled = none) (isL : s.heap.IsList l items) (whole : IntsAre items.toList ns) (few : ns.length + 1 < scanBound)
    (k : ∀ (h2 : Heap) (tk c : Nat), SetR w h2 s.heap.objs.size (fun j => decide (j ∈ ns)) c → c ≤ ns.length → (∀ b o, s.heap.get? b = some o → h2.get? b = some o) → Q (.ref s.heap.objs.size) { s with heap := h2, toks := tk }) :
    wpAny (model P w) A (call (.type "set") [.ref l]) Q E s := by
  obtain ⟨c, tl, m0⟩ := F.called_set.mro
  have m1 := F.called_set.made; have m2 := F.called_set.sub
  refine wpAny_call (codeAny_of_tree (show wpAny _ _ (callAny (.type "set") _) _ _ _ from wpAny_pure ⟨Code.quiet_builtin _ (by decide +kernel), codeAny_builtin F.entry_type_call ?_⟩))
  rw [Around.under_plain (weight_type_call_type "set" [.ref l] []) rfl]
  have m3 := F.called_set.notType; have m4 := F.called_set.canCreate; have m5 := F.typeCall_set_1 (.ref l)
  repeat (any_goals (first | assumption | wp_step))
  refine codeAny_mono (code_set_led1 (Q₁ := fun v s1 => v = .ref s.heap.objs.size ∧ s1 = { s with heap := s.heap.push (blank w) }) (.ref l) (E := E) ⟨rfl, rfl⟩) fun r s1 hr => ?_
  match r, hr with
  | .error e, hr => exact hr
  | .ok .next, hr => exact hr.elim
  | .ok .brk, hr => exact hr.elim
  | .ok .cont, hr => exact hr.elim
  | .ok (.ret v), hr =>
    obtain ⟨rfl, rfl⟩ := hr
    have ty : Shared.TypeIs { s with heap := s.heap.push (blank w) } (.ref s.heap.objs.size) "set" := ⟨_, Heap.get?_push_size _ rfl, rfl⟩
    have i1 := F.called_set.init.lookup; have i2 := F.called_set.init.bind (.ref s.heap.objs.size)
    repeat (any_goals (first | assumption | wp_step))
    refine codeAny_mono (fill (R := fun v s2 => v = .none ∧ ∃ h2 tk c, s2 = { s with heap := h2, toks := tk } ∧ SetR w h2 s.heap.objs.size (fun j => decide (j ∈ ns)) c ∧ c ≤ ns.length ∧ ∀ b o, s.heap.get? b = some o → h2.get? b = some o) (E := E) (A := A.in1) (by simp [calm]) isL whole few fun h2 tk c x y z => ⟨rfl, h2, tk, c, rfl, x, y, z⟩) fun r s2 hr => ?_
    match r, hr with
    | .error e, hr => exact hr
    | .ok .next, hr => exact hr.elim
    | .ok .brk, hr => exact hr.elim
    | .ok .cont, hr => exact hr.elim
    | .ok (.ret v), hr =>
      obtain ⟨rfl, h2, tk, c, rfl, x, y, z⟩ := hr
      repeat (any_goals (first | assumption | wp_step))
      exact k _ _ _ x y z
end
/-- set(xs) of a list of ints, as a rule -/
def rSetL (K : PySem.W.Frag) (w : World) : List V → Hp → VK → Prop := fun xs H Q => ∃ (l : Addr) (ns : List Int), xs = [.ref l] ∧ SqL K H l (ns.map V.int) ∧ ns.length ≤ 1000 ∧ ∀ a c, H a = none → (∀ ms : List Int, (∀ k ∈ ns, k ∈ ms) → c ≤ ms.length) → Q (.ref a) (upd H a (SetO w a (fun j => decide (j ∈ ns)) c))
theorem ints_of : ∀ {ns : List Int} {us : List Value}, Vals (ns.map V.int) us → IntsAre us ns
  | [], _, .nil => .nil
  | n :: ns, _, .cons r t => by
    obtain ⟨k, rfl⟩ := r
    exact .cons n k (ints_of t)
theorem c_setL {X : Cx} (hc : X.calm = true) : CallR X (.type "set") (rSetL X.K X.w) := by
  intro pins s σ H xs us Q I r h
  obtain ⟨l, ns, rfl, hq, hl, q⟩ := h
  rw [Vals.ref1 r]
  obtain ⟨its, rv, pl, hz⟩ := I.list hq
  refine made (I.ok.hd hc) pl.isList (by simpa using ints_of rv) (by unfold scanBound; omega) fun h2 tk c hs hc2 hk => ?_
  have hn : H s.heap.objs.size = none := I.hok.fresh (Nat.le_refl _)
  have J : Inv X pins σ (upd H s.heap.objs.size (SetO X.w s.heap.objs.size (fun j => decide (j ∈ ns)) c)) { s with heap := h2, toks := tk } :=
    I.call (ch := []) (Un.laid hk (Nat.le_refl _) hn) (I.hok.laid hk (Nat.le_refl _) (setO_new hs)) I.bare (fun _ z => nomatch z)
  refine ⟨.ref s.heap.objs.size, _, J, rfl, q _ _ hn fun ms hm => ?_⟩
  obtain ⟨o, es, ep, t, _, _, _, _, nd, mem, _, _, sz, _⟩ := hs
  have z := nd.length_le_of_subset (l₂ := ms) fun k hk' => hm k (by simpa using (mem k).mpr hk')
  rw [List.length_map, Array.length_toList] at z
  omega
theorem sorted_one : ∀ {as bs : List Int}, as.Pairwise (· < ·) → bs.Pairwise (· < ·) → (∀ k, k ∈ as ↔ k ∈ bs) → as = bs
  | [], [], _, _, _ => rfl
  | [], b :: bs, _, _, h => nomatch (h b).mpr (List.mem_cons_self ..)
  | a :: as, [], _, _, h => nomatch (h a).mp (List.mem_cons_self ..)
  | a :: as, b :: bs, ha, hb, h => by
    rw [List.pairwise_cons] at ha hb
    have e : a = b := by
      rcases List.mem_cons.mp ((h a).mp (List.mem_cons_self ..)) with x | x
      · exact x
      · rcases List.mem_cons.mp ((h b).mpr (List.mem_cons_self ..)) with y | y
        · exact y.symm
        · have := hb.1 _ x; have := ha.1 _ y; omega
    subst e
    congr 1
    refine sorted_one ha.2 hb.2 fun k => ⟨fun x => ?_, fun x => ?_⟩
    · rcases List.mem_cons.mp ((h k).mp (List.mem_cons_of_mem _ x)) with y | y
      · have := ha.1 _ x; omega
      · exact y
    · rcases List.mem_cons.mp ((h k).mpr (List.mem_cons_of_mem _ x)) with y | y
      · have := hb.1 _ x; omega
      · exact y
end Sl
set_option Elab.async false
set_option linter.all false
set_option maxRecDepth 100000
set_option maxHeartbeats 4000000
namespace Wo
open PySem PySem.Spec PyProof.Rows L2 Evl Vr En
/-- set(xs), xs a list of ints: as many as they are, if no one stands twice -/
def rSetN (K : PySem.W.Frag) (w : World) : List V → Hp → VK → Prop := fun xs H Q => ∃ (l : Addr) (ns : List Int), xs = [.ref l] ∧ SqL K H l (ns.map V.int) ∧ ns.length ≤ 1000 ∧ ns.Nodup ∧ ∀ a, H a = none → Q (.ref a) (upd H a (SetO w a (fun j => decide (j ∈ ns)) ns.length))
theorem c_setN {X : Cx} (hc : X.calm = true) : CallR X (.type "set") (rSetN X.K X.w) := by
  intro pins s σ H xs us Q I r h
  obtain ⟨l, ns, rfl, hq, hl, hnd, q⟩ := h
  rw [Vals.ref1 r]
  obtain ⟨its, rv, pl, hz⟩ := I.list hq
  refine Sl.made (I.ok.hd hc) pl.isList (by simpa using Sl.ints_of rv) (by unfold scanBound; omega) fun h2 tk c hs hc2 hk => ?_
  have hn : H s.heap.objs.size = none := I.hok.fresh (Nat.le_refl _)
  have hc3 : c = ns.length := by
    obtain ⟨o, es, ep, t, _, _, _, _, nd, mem, _, _, sz, _⟩ := id hs
    have z : ns.length ≤ es.size := by
      have z0 := hnd.length_le_of_subset (l₂ := es.toList.map keyOf) fun k hk' => (mem k).mp (decide_eq_true hk')
      simpa using z0
    omega
  subst hc3
  have J : Inv X pins σ (upd H s.heap.objs.size (SetO X.w s.heap.objs.size (fun j => decide (j ∈ ns)) ns.length)) { s with heap := h2, toks := tk } :=
    I.call (ch := []) (Un.laid hk (Nat.le_refl _) hn) (I.hok.laid hk (Nat.le_refl _) (setO_new hs)) I.bare (fun _ z => nomatch z)
  exact ⟨.ref s.heap.objs.size, _, J, rfl, q _ hn⟩
/-- len of such a set -/
def rLenN (w : World) : List V → Hp → VK → Prop := fun xs H Q => ∃ (a : Addr) (S : Int → Bool) (n : Nat), xs = [.ref a] ∧ H a = some (SetO w a S n) ∧ Q (.int n) H
theorem c_lenN {X : Cx} : CallR X (.builtin "len") (rLenN X.w) := by
  intro pins s σ H xs us Q I r h
  obtain ⟨a, S, n, rfl, ha, q⟩ := h
  rw [Vals.ref1 r]
  obtain ⟨o, es, ep, t, ho, ex, hd, _, _, _, hlt, hf, sz, _⟩ := setO_get I ha
  subst sz
  exact call_len_set (o := o) (es := es) (ep := ep) (t := t) ho ex hd hf (by unfold scanBound at hlt; omega) ⟨.int es.size, H, I.tok _, ⟨_, rfl⟩, q⟩
end Wo
set_option Elab.async false
set_option linter.all false
set_option maxRecDepth 100000
set_option maxHeartbeats 4000000
set_option exponentiation.threshold 500
namespace Kz
open PySem PySem.Spec PyProof.Rows L2 Evl Vr
def top (i : Nat) : Stmt := PySem.Challenge.pw_settledplay_k06_whole_rows_of_things.main.body.getD i (.Pass ⟨0, 0, 0, 0⟩)
abbrev s_InvalidNumber___init__ : Stmt := inClass (top 4) 0
theorem sc_InvalidNumber___init__ : FnScope ["self", "given"] ["self", "given"] (defScope s_InvalidNumber___init__) := ⟨rfl, rfl, rfl, by decide +kernel, rfl, by decide +kernel, by decide +kernel⟩
abbrev s_UnknownName___init__ : Stmt := inClass (top 5) 0
theorem sc_UnknownName___init__ : FnScope ["self", "wanted"] ["self", "wanted"] (defScope s_UnknownName___init__) := ⟨rfl, rfl, rfl, by decide +kernel, rfl, by decide +kernel, by decide +kernel⟩
abbrev s_is_integer : Stmt := top 7
theorem sc_is_integer : FnScope ["value"] ["value"] (defScope s_is_integer) := ⟨rfl, rfl, rfl, by decide +kernel, rfl, by decide +kernel, by decide +kernel⟩
abbrev s_is_within : Stmt := top 8
theorem sc_is_within : FnScope ["value", "low", "high"] ["value", "low", "high"] (defScope s_is_within) := ⟨rfl, rfl, rfl, by decide +kernel, rfl, by decide +kernel, by decide +kernel⟩
abbrev s_is_whole : Stmt := top 9
theorem sc_is_whole : FnScope ["value"] ["value"] (defScope s_is_whole) := ⟨rfl, rfl, rfl, by decide +kernel, rfl, by decide +kernel, by decide +kernel⟩
abbrev s_is_name : Stmt := top 10
theorem sc_is_name : FnScope ["value"] ["value"] (defScope s_is_name) := ⟨rfl, rfl, rfl, by decide +kernel, rfl, by decide +kernel, by decide +kernel⟩
abbrev s_is_luck : Stmt := top 13
theorem sc_is_luck : FnScope ["value"] ["value"] (defScope s_is_luck) := ⟨rfl, rfl, rfl, by decide +kernel, rfl, by decide +kernel, by decide +kernel⟩
abbrev s_is_number : Stmt := top 16
theorem sc_is_number : FnScope ["value"] ["value"] (defScope s_is_number) := ⟨rfl, rfl, rfl, by decide +kernel, rfl, by decide +kernel, by decide +kernel⟩
abbrev s_World___init__ : Stmt := inClass (top 20) 0
theorem sc_World___init__ : FnScope ["self", "tick", "next_id", "luck", "things"] ["self", "tick", "next_id", "luck", "things"] (defScope s_World___init__) := ⟨rfl, rfl, rfl, by decide +kernel, rfl, by decide +kernel, by decide +kernel⟩
abbrev s_World__fill : Stmt := inClass (top 20) 1
theorem sc_World__fill : FnScope ["self", "tick", "next_id", "luck", "things", "thing"] ["self", "tick", "next_id", "luck", "things"] (defScope s_World__fill) := ⟨rfl, rfl, rfl, by decide +kernel, rfl, by decide +kernel, by decide +kernel⟩
abbrev s_World_ids : Stmt := inClass (top 20) 2
theorem sc_World_ids : FnScope ["self", "kind", "thing"] ["self", "kind"] (defScope s_World_ids) := ⟨rfl, rfl, rfl, by decide +kernel, rfl, by decide +kernel, by decide +kernel⟩
abbrev s_World_kind_of : Stmt := inClass (top 20) 3
theorem sc_World_kind_of : FnScope ["self", "thing"] ["self", "thing"] (defScope s_World_kind_of) := ⟨rfl, rfl, rfl, by decide +kernel, rfl, by decide +kernel, by decide +kernel⟩
abbrev s_World_numbers : Stmt := inClass (top 20) 4
theorem sc_World_numbers : FnScope ["self", "thing"] ["self", "thing"] (defScope s_World_numbers) := ⟨rfl, rfl, rfl, by decide +kernel, rfl, by decide +kernel, by decide +kernel⟩
abbrev s_World___contains__ : Stmt := inClass (top 20) 5
theorem sc_World___contains__ : FnScope ["self", "value"] ["self", "value"] (defScope s_World___contains__) := ⟨rfl, rfl, rfl, by decide +kernel, rfl, by decide +kernel, by decide +kernel⟩
abbrev s_World___len__ : Stmt := inClass (top 20) 6
theorem sc_World___len__ : FnScope ["self"] ["self"] (defScope s_World___len__) := ⟨rfl, rfl, rfl, by decide +kernel, rfl, by decide +kernel, by decide +kernel⟩
abbrev s_World___iter__ : Stmt := inClass (top 20) 7
theorem sc_World___iter__ : FnScope ["self"] ["self"] (defScope s_World___iter__) := ⟨rfl, rfl, rfl, by decide +kernel, rfl, by decide +kernel, by decide +kernel⟩
abbrev s_World___eq__ : Stmt := inClass (top 20) 8
theorem sc_World___eq__ : FnScope ["self", "other"] ["self", "other"] (defScope s_World___eq__) := ⟨rfl, rfl, rfl, by decide +kernel, rfl, by decide +kernel, by decide +kernel⟩
abbrev s_World___str__ : Stmt := inClass (top 20) 9
theorem sc_World___str__ : FnScope ["self"] ["self"] (defScope s_World___str__) := ⟨rfl, rfl, rfl, by decide +kernel, rfl, by decide +kernel, by decide +kernel⟩
abbrev s_properties_of : Stmt := top 21
theorem sc_properties_of : FnScope ["world"] ["world"] (defScope s_properties_of) := ⟨rfl, rfl, rfl, by decide +kernel, rfl, by decide +kernel, by decide +kernel⟩
abbrev s_world_of : Stmt := top 22
theorem sc_world_of : FnScope ["tick", "next_id", "luck", "things", "world"] ["tick", "next_id", "luck", "things"] (defScope s_world_of) := ⟨rfl, rfl, rfl, by decide +kernel, rfl, by decide +kernel, by decide +kernel⟩
abbrev s_are_things : Stmt := top 23
theorem sc_are_things : FnScope ["value", "thing"] ["value"] (defScope s_are_things) := ⟨rfl, rfl, rfl, by decide +kernel, rfl, by decide +kernel, by decide +kernel⟩
abbrev s_is_thing : Stmt := top 24
theorem sc_is_thing : FnScope ["value"] ["value"] (defScope s_is_thing) := ⟨rfl, rfl, rfl, by decide +kernel, rfl, by decide +kernel, by decide +kernel⟩
abbrev s_are_numbers : Stmt := top 25
theorem sc_are_numbers : FnScope ["value", "number"] ["value"] (defScope s_are_numbers) := ⟨rfl, rfl, rfl, by decide +kernel, rfl, by decide +kernel, by decide +kernel⟩
abbrev s_are_in_sequence : Stmt := top 26
theorem sc_are_in_sequence : FnScope ["things", "next_id", "ids", "thing", "low", "high"] ["things", "next_id"] (defScope s_are_in_sequence) := ⟨rfl, rfl, rfl, by decide +kernel, rfl, by decide +kernel, by decide +kernel⟩
abbrev s_need_world : Stmt := top 27
theorem sc_need_world : FnScope ["value"] ["value"] (defScope s_need_world) := ⟨rfl, rfl, rfl, by decide +kernel, rfl, by decide +kernel, by decide +kernel⟩
abbrev s_need_thing : Stmt := top 28
theorem sc_need_thing : FnScope ["world", "thing"] ["world", "thing"] (defScope s_need_thing) := ⟨rfl, rfl, rfl, by decide +kernel, rfl, by decide +kernel, by decide +kernel⟩
abbrev s_made : Stmt := top 29
theorem sc_made : FnScope ["world", "kind", "numbers", "things"] ["world", "kind", "numbers"] (defScope s_made) := ⟨rfl, rfl, rfl, by decide +kernel, rfl, by decide +kernel, by decide +kernel⟩
abbrev s_dropped : Stmt := top 30
theorem sc_dropped : FnScope ["world", "thing", "things", "kept"] ["world", "thing"] (defScope s_dropped) := ⟨rfl, rfl, rfl, by decide +kernel, rfl, by decide +kernel, by decide +kernel⟩
abbrev s_changed : Stmt := top 31
theorem sc_changed : FnScope ["world", "thing", "place", "number", "numbers"] ["world", "thing", "place", "number"] (defScope s_changed) := ⟨rfl, rfl, rfl, by decide +kernel, rfl, by decide +kernel, by decide +kernel⟩
abbrev s_with_numbers : Stmt := top 32
theorem sc_with_numbers : FnScope ["world", "numbers", "things", "thing", "kind", "former"] ["world", "numbers"] (defScope s_with_numbers) := ⟨rfl, rfl, rfl, by decide +kernel, rfl, by decide +kernel, by decide +kernel⟩
abbrev s_law_dice : Stmt := top 34
theorem sc_law_dice : FnScope ["script", "spot", "cell", "left"] ["script", "spot"] (defScope s_law_dice) := ⟨rfl, rfl, rfl, by decide +kernel, rfl, by decide +kernel, by decide +kernel⟩
abbrev s_law_roll : Stmt := top 35
theorem sc_law_roll : FnScope ["dice", "total", "found", "one", "two"] ["dice", "total"] (defScope s_law_roll) := ⟨rfl, rfl, rfl, by decide +kernel, rfl, by decide +kernel, by decide +kernel⟩
abbrev s_law_pick : Stmt := top 36
theorem sc_law_pick : FnScope ["dice", "items"] ["dice", "items"] (defScope s_law_pick) := ⟨rfl, rfl, rfl, by decide +kernel, rfl, by decide +kernel, by decide +kernel⟩
abbrev s_law_near : Stmt := top 37
theorem sc_law_near : FnScope ["dice", "most"] ["dice", "most"] (defScope s_law_near) := ⟨rfl, rfl, rfl, by decide +kernel, rfl, by decide +kernel, by decide +kernel⟩
abbrev s_law_wd_plain : Stmt := top 38
theorem sc_law_wd_plain : FnScope ["world"] ["world"] (defScope s_law_wd_plain) := ⟨rfl, rfl, rfl, by decide +kernel, rfl, by decide +kernel, by decide +kernel⟩
abbrev s_law_number : Stmt := top 39
theorem sc_law_number : FnScope ["dice"] ["dice"] (defScope s_law_number) := ⟨rfl, rfl, rfl, by decide +kernel, rfl, by decide +kernel, by decide +kernel⟩
abbrev s_law_numbers : Stmt := top 40
theorem sc_law_numbers : FnScope ["dice", "spot"] ["dice"] (defScope s_law_numbers) := ⟨rfl, rfl, rfl, by decide +kernel, rfl, by decide +kernel, by decide +kernel⟩
abbrev s_law_kind_drawn : Stmt := top 41
theorem sc_law_kind_drawn : FnScope ["dice"] ["dice"] (defScope s_law_kind_drawn) := ⟨rfl, rfl, rfl, by decide +kernel, rfl, by decide +kernel, by decide +kernel⟩
abbrev s_law_world_drawn : Stmt := top 42
theorem sc_law_world_drawn : FnScope ["dice", "things", "ahead", "turn", "here", "tick"] ["dice"] (defScope s_law_world_drawn) := ⟨rfl, rfl, rfl, by decide +kernel, rfl, by decide +kernel, by decide +kernel⟩
abbrev s_law_is_told : Stmt := top 43
theorem sc_law_is_told : FnScope ["world", "plain", "thing", "ids", "kind", "numbers", "odd", "value"] ["world", "plain"] (defScope s_law_is_told) := ⟨rfl, rfl, rfl, by decide +kernel, rfl, by decide +kernel, by decide +kernel⟩
abbrev s_law_made : Stmt := top 44
theorem sc_law_made : FnScope ["dice", "world", "plain", "kind", "numbers", "told"] ["dice", "world", "plain"] (defScope s_law_made) := ⟨rfl, rfl, rfl, by decide +kernel, rfl, by decide +kernel, by decide +kernel⟩
abbrev s_law_done : Stmt := top 45
theorem sc_law_done : FnScope ["dice", "world", "plain", "way", "thing", "kind", "numbers", "place", "number", "later", "one"] ["dice", "world", "plain"] (defScope s_law_done) := ⟨rfl, rfl, rfl, by decide +kernel, rfl, by decide +kernel, by decide +kernel⟩
abbrev s_law_is_alone : Stmt := top 46
theorem sc_law_is_alone : FnScope ["world", "plain", "same", "others", "one"] ["world", "plain"] (defScope s_law_is_alone) := ⟨rfl, rfl, rfl, by decide +kernel, rfl, by decide +kernel, by decide +kernel⟩
abbrev s_law_right : Stmt := top 47
theorem sc_law_right : FnScope ["dice", "plain", "world", "given", "turn", "done", "thing"] ["dice"] (defScope s_law_right) := ⟨rfl, rfl, rfl, by decide +kernel, rfl, by decide +kernel, by decide +kernel⟩
abbrev s_law : Stmt := top 48
theorem sc_law : FnScope ["script", "spot", "first", "more", "thing", "full", "at"] ["script"] (defScope s_law) := ⟨rfl, rfl, rfl, by decide +kernel, rfl, by decide +kernel, by decide +kernel⟩
structure Txt (K : PySem.W.Frag) (mg : Str → Option Value) (w : World) where
  C_World : Addr
  cl_World : Cls K C_World
  g_World : mg "World" = some (.ref C_World)
  n_World_tick : NoAttr K C_World "tick"
  n_World_next_id : NoAttr K C_World "next_id"
  n_World_luck : NoAttr K C_World "luck"
  n_World_things : NoAttr K C_World "things"
  n_World_order : NoAttr K C_World "order"
  n_World_table : NoAttr K C_World "table"
  a_is_integer : Addr
  fd_is_integer : FuncData
  F_is_integer : Fun K "is_integer" "is_integer" s_is_integer a_is_integer fd_is_integer
  g_is_integer : mg "is_integer" = some (.ref a_is_integer)
  b_is_integer : Binds K fd_is_integer ["value"] []
  a_is_within : Addr
  fd_is_within : FuncData
  F_is_within : Fun K "is_within" "is_within" s_is_within a_is_within fd_is_within
  g_is_within : mg "is_within" = some (.ref a_is_within)
  b_is_within : Binds K fd_is_within ["value", "low", "high"] []
  a_is_whole : Addr
  fd_is_whole : FuncData
  F_is_whole : Fun K "is_whole" "is_whole" s_is_whole a_is_whole fd_is_whole
  g_is_whole : mg "is_whole" = some (.ref a_is_whole)
  b_is_whole : Binds K fd_is_whole ["value"] []
  a_is_name : Addr
  fd_is_name : FuncData
  F_is_name : Fun K "is_name" "is_name" s_is_name a_is_name fd_is_name
  g_is_name : mg "is_name" = some (.ref a_is_name)
  b_is_name : Binds K fd_is_name ["value"] []
  a_is_luck : Addr
  fd_is_luck : FuncData
  F_is_luck : Fun K "is_luck" "is_luck" s_is_luck a_is_luck fd_is_luck
  g_is_luck : mg "is_luck" = some (.ref a_is_luck)
  b_is_luck : Binds K fd_is_luck ["value"] []
  a_is_number : Addr
  fd_is_number : FuncData
  F_is_number : Fun K "is_number" "is_number" s_is_number a_is_number fd_is_number
  g_is_number : mg "is_number" = some (.ref a_is_number)
  b_is_number : Binds K fd_is_number ["value"] []
  a_World___init__ : Addr
  fd_World___init__ : FuncData
  F_World___init__ : Fun K "__init__" "World.__init__" s_World___init__ a_World___init__ fd_World___init__
  m_World___init__ : Meth K C_World "__init__" a_World___init__
  b_World___init__ : Binds K fd_World___init__ ["self", "tick", "next_id", "luck", "things"] []
  a_World__fill : Addr
  fd_World__fill : FuncData
  F_World__fill : Fun K "_fill" "World._fill" s_World__fill a_World__fill fd_World__fill
  m_World__fill : Meth K C_World "_fill" a_World__fill
  b_World__fill : Binds K fd_World__fill ["self", "tick", "next_id", "luck", "things"] []
  a_World_ids : Addr
  fd_World_ids : FuncData
  F_World_ids : Fun K "ids" "World.ids" s_World_ids a_World_ids fd_World_ids
  m_World_ids : Meth K C_World "ids" a_World_ids
  b_World_ids : Binds K fd_World_ids ["self", "kind"] []
  a_World_kind_of : Addr
  fd_World_kind_of : FuncData
  F_World_kind_of : Fun K "kind_of" "World.kind_of" s_World_kind_of a_World_kind_of fd_World_kind_of
  m_World_kind_of : Meth K C_World "kind_of" a_World_kind_of
  b_World_kind_of : Binds K fd_World_kind_of ["self", "thing"] []
  a_World_numbers : Addr
  fd_World_numbers : FuncData
  F_World_numbers : Fun K "numbers" "World.numbers" s_World_numbers a_World_numbers fd_World_numbers
  m_World_numbers : Meth K C_World "numbers" a_World_numbers
  b_World_numbers : Binds K fd_World_numbers ["self", "thing"] []
  a_World___contains__ : Addr
  fd_World___contains__ : FuncData
  F_World___contains__ : Fun K "__contains__" "World.__contains__" s_World___contains__ a_World___contains__ fd_World___contains__
  m_World___contains__ : Meth K C_World "__contains__" a_World___contains__
  b_World___contains__ : Binds K fd_World___contains__ ["self", "value"] []
  a_World___len__ : Addr
  fd_World___len__ : FuncData
  F_World___len__ : Fun K "__len__" "World.__len__" s_World___len__ a_World___len__ fd_World___len__
  m_World___len__ : Meth K C_World "__len__" a_World___len__
  b_World___len__ : Binds K fd_World___len__ ["self"] []
  a_World___iter__ : Addr
  fd_World___iter__ : FuncData
  F_World___iter__ : Fun K "__iter__" "World.__iter__" s_World___iter__ a_World___iter__ fd_World___iter__
  m_World___iter__ : Meth K C_World "__iter__" a_World___iter__
  b_World___iter__ : Binds K fd_World___iter__ ["self"] []
  a_World___eq__ : Addr
  fd_World___eq__ : FuncData
  F_World___eq__ : Fun K "__eq__" "World.__eq__" s_World___eq__ a_World___eq__ fd_World___eq__
  m_World___eq__ : Meth K C_World "__eq__" a_World___eq__
  b_World___eq__ : Binds K fd_World___eq__ ["self", "other"] []
  a_World___str__ : Addr
  fd_World___str__ : FuncData
  F_World___str__ : Fun K "__str__" "World.__str__" s_World___str__ a_World___str__ fd_World___str__
  m_World___str__ : Meth K C_World "__str__" a_World___str__
  b_World___str__ : Binds K fd_World___str__ ["self"] []
  a_properties_of : Addr
  fd_properties_of : FuncData
  F_properties_of : Fun K "properties_of" "properties_of" s_properties_of a_properties_of fd_properties_of
  g_properties_of : mg "properties_of" = some (.ref a_properties_of)
  b_properties_of : Binds K fd_properties_of ["world"] []
  a_world_of : Addr
  fd_world_of : FuncData
  F_world_of : Fun K "world_of" "world_of" s_world_of a_world_of fd_world_of
  g_world_of : mg "world_of" = some (.ref a_world_of)
  b_world_of : Binds K fd_world_of ["tick", "next_id", "luck", "things"] []
  a_are_things : Addr
  fd_are_things : FuncData
  F_are_things : Fun K "are_things" "are_things" s_are_things a_are_things fd_are_things
  g_are_things : mg "are_things" = some (.ref a_are_things)
  b_are_things : Binds K fd_are_things ["value"] []
  a_is_thing : Addr
  fd_is_thing : FuncData
  F_is_thing : Fun K "is_thing" "is_thing" s_is_thing a_is_thing fd_is_thing
  g_is_thing : mg "is_thing" = some (.ref a_is_thing)
  b_is_thing : Binds K fd_is_thing ["value"] []
  a_are_numbers : Addr
  fd_are_numbers : FuncData
  F_are_numbers : Fun K "are_numbers" "are_numbers" s_are_numbers a_are_numbers fd_are_numbers
  g_are_numbers : mg "are_numbers" = some (.ref a_are_numbers)
  b_are_numbers : Binds K fd_are_numbers ["value"] []
  a_are_in_sequence : Addr
  fd_are_in_sequence : FuncData
  F_are_in_sequence : Fun K "are_in_sequence" "are_in_sequence" s_are_in_sequence a_are_in_sequence fd_are_in_sequence
  g_are_in_sequence : mg "are_in_sequence" = some (.ref a_are_in_sequence)
  b_are_in_sequence : Binds K fd_are_in_sequence ["things", "next_id"] []
  a_need_world : Addr
  fd_need_world : FuncData
  F_need_world : Fun K "need_world" "need_world" s_need_world a_need_world fd_need_world
  g_need_world : mg "need_world" = some (.ref a_need_world)
  b_need_world : Binds K fd_need_world ["value"] []
  a_need_thing : Addr
  fd_need_thing : FuncData
  F_need_thing : Fun K "need_thing" "need_thing" s_need_thing a_need_thing fd_need_thing
  g_need_thing : mg "need_thing" = some (.ref a_need_thing)
  b_need_thing : Binds K fd_need_thing ["world", "thing"] []
  a_made : Addr
  fd_made : FuncData
  F_made : Fun K "made" "made" s_made a_made fd_made
  g_made : mg "made" = some (.ref a_made)
  b_made : Binds K fd_made ["world", "kind", "numbers"] []
  a_dropped : Addr
  fd_dropped : FuncData
  F_dropped : Fun K "dropped" "dropped" s_dropped a_dropped fd_dropped
  g_dropped : mg "dropped" = some (.ref a_dropped)
  b_dropped : Binds K fd_dropped ["world", "thing"] []
  a_changed : Addr
  fd_changed : FuncData
  F_changed : Fun K "changed" "changed" s_changed a_changed fd_changed
  g_changed : mg "changed" = some (.ref a_changed)
  b_changed : Binds K fd_changed ["world", "thing", "place", "number"] []
  a_with_numbers : Addr
  fd_with_numbers : FuncData
  F_with_numbers : Fun K "with_numbers" "with_numbers" s_with_numbers a_with_numbers fd_with_numbers
  g_with_numbers : mg "with_numbers" = some (.ref a_with_numbers)
  b_with_numbers : Binds K fd_with_numbers ["world", "numbers"] []
  a_law_dice : Addr
  fd_law_dice : FuncData
  F_law_dice : Fun K "_law_dice" "_law_dice" s_law_dice a_law_dice fd_law_dice
  g_law_dice : mg "_law_dice" = some (.ref a_law_dice)
  b_law_dice : Binds K fd_law_dice ["script", "spot"] []
  a_law_roll : Addr
  fd_law_roll : FuncData
  F_law_roll : Fun K "_law_roll" "_law_roll" s_law_roll a_law_roll fd_law_roll
  g_law_roll : mg "_law_roll" = some (.ref a_law_roll)
  b_law_roll : Binds K fd_law_roll ["dice", "total"] []
  a_law_pick : Addr
  fd_law_pick : FuncData
  F_law_pick : Fun K "_law_pick" "_law_pick" s_law_pick a_law_pick fd_law_pick
  g_law_pick : mg "_law_pick" = some (.ref a_law_pick)
  b_law_pick : Binds K fd_law_pick ["dice", "items"] []
  a_law_near : Addr
  fd_law_near : FuncData
  F_law_near : Fun K "_law_near" "_law_near" s_law_near a_law_near fd_law_near
  g_law_near : mg "_law_near" = some (.ref a_law_near)
  b_law_near : Binds K fd_law_near ["dice", "most"] []
  a_law_wd_plain : Addr
  fd_law_wd_plain : FuncData
  F_law_wd_plain : Fun K "_law_wd_plain" "_law_wd_plain" s_law_wd_plain a_law_wd_plain fd_law_wd_plain
  g_law_wd_plain : mg "_law_wd_plain" = some (.ref a_law_wd_plain)
  b_law_wd_plain : Binds K fd_law_wd_plain ["world"] []
  a_law_number : Addr
  fd_law_number : FuncData
  F_law_number : Fun K "_law_number" "_law_number" s_law_number a_law_number fd_law_number
  g_law_number : mg "_law_number" = some (.ref a_law_number)
  b_law_number : Binds K fd_law_number ["dice"] []
  a_law_numbers : Addr
  fd_law_numbers : FuncData
  F_law_numbers : Fun K "_law_numbers" "_law_numbers" s_law_numbers a_law_numbers fd_law_numbers
  g_law_numbers : mg "_law_numbers" = some (.ref a_law_numbers)
  b_law_numbers : Binds K fd_law_numbers ["dice"] []
  a_law_kind_drawn : Addr
  fd_law_kind_drawn : FuncData
  F_law_kind_drawn : Fun K "_law_kind_drawn" "_law_kind_drawn" s_law_kind_drawn a_law_kind_drawn fd_law_kind_drawn
  g_law_kind_drawn : mg "_law_kind_drawn" = some (.ref a_law_kind_drawn)
  b_law_kind_drawn : Binds K fd_law_kind_drawn ["dice"] []
  a_law_world_drawn : Addr
  fd_law_world_drawn : FuncData
  F_law_world_drawn : Fun K "_law_world_drawn" "_law_world_drawn" s_law_world_drawn a_law_world_drawn fd_law_world_drawn
  g_law_world_drawn : mg "_law_world_drawn" = some (.ref a_law_world_drawn)
  b_law_world_drawn : Binds K fd_law_world_drawn ["dice"] []
  a_law_is_told : Addr
  fd_law_is_told : FuncData
  F_law_is_told : Fun K "_law_is_told" "_law_is_told" s_law_is_told a_law_is_told fd_law_is_told
  g_law_is_told : mg "_law_is_told" = some (.ref a_law_is_told)
  b_law_is_told : Binds K fd_law_is_told ["world", "plain"] []
  a_law_made : Addr
  fd_law_made : FuncData
  F_law_made : Fun K "_law_made" "_law_made" s_law_made a_law_made fd_law_made
  g_law_made : mg "_law_made" = some (.ref a_law_made)
  b_law_made : Binds K fd_law_made ["dice", "world", "plain"] []
  a_law_done : Addr
  fd_law_done : FuncData
  F_law_done : Fun K "_law_done" "_law_done" s_law_done a_law_done fd_law_done
  g_law_done : mg "_law_done" = some (.ref a_law_done)
  b_law_done : Binds K fd_law_done ["dice", "world", "plain"] []
  a_law_is_alone : Addr
  fd_law_is_alone : FuncData
  F_law_is_alone : Fun K "_law_is_alone" "_law_is_alone" s_law_is_alone a_law_is_alone fd_law_is_alone
  g_law_is_alone : mg "_law_is_alone" = some (.ref a_law_is_alone)
  b_law_is_alone : Binds K fd_law_is_alone ["world", "plain"] []
  a_law_right : Addr
  fd_law_right : FuncData
  F_law_right : Fun K "_law_right" "_law_right" s_law_right a_law_right fd_law_right
  g_law_right : mg "_law_right" = some (.ref a_law_right)
  b_law_right : Binds K fd_law_right ["dice"] []
  mk_World : Mk K C_World a_World___init__
  z_abs : mg "abs" = none
  z_max : mg "max" = none
  z_min : mg "min" = none
  z_int : mg "int" = none
  z_len : mg "len" = none
  z_range : mg "range" = none
  z_isinstance : mg "isinstance" = none
  z_str : mg "str" = none
  z_bool : mg "bool" = none
  z_tuple : mg "tuple" = none
  z_list : mg "list" = none
  z_set : mg "set" = none
  z_all : mg "all" = none
  z_zip : mg "zip" = none
  z_iter : mg "iter" = none
  t_MODULUS : Tok
  g_MODULUS : mg "MODULUS" = some (.int 999999937 t_MODULUS)
  t_MOST : Tok
  g_MOST : mg "MOST" = some (.int 1000000000 t_MOST)
  t_MAX_THINGS : Tok
  g_MAX_THINGS : mg "MAX_THINGS" = some (.int 12 t_MAX_THINGS)
  t_MAX_FIELDS : Tok
  g_MAX_FIELDS : mg "MAX_FIELDS" = some (.int 8 t_MAX_FIELDS)
  ha_World : PySem.W.findIn K (.ref C_World) "__class__" = some (some (.builtin "object.__class__"))
  hn_World : PySem.W.specialIn K (.builtin "object.__class__") "__get__" = some (some (.builtin "getset_descriptor.__get__"))
  ht_World : PySem.W.takesIn K (.builtin "object.__class__") = some true
  hm_World : PySem.W.mroIn K C_World (.type "object") = some true
  hc_World : (PySem.W.clsIn K C_World).isSome = true
  hy_World : PySem.W.typeIn K (.ref C_World) = some (.type "type")
  hs_World_tuple : PySem.W.subIn K (.type "tuple") (.ref C_World) = some false
  hs_World_NoneType : PySem.W.subIn K (.type "NoneType") (.ref C_World) = some false
  hs_World_str : PySem.W.subIn K (.type "str") (.ref C_World) = some false
  ne_World : PySem.W.findIn K (.ref C_World) "__ne__" = some (some (.builtin "object.__ne__"))
  ob_World : PySem.W.subIn K (.ref C_World) (.type "object") = some true
end Kz
set_option Elab.async false
set_option linter.all false
set_option maxRecDepth 100000
set_option maxHeartbeats 4000000
set_option exponentiation.threshold 500
namespace Kz
open PySem PySem.Spec PyProof.Rows L2 Evl Vr
local macro_rules | `(tactic| walk_at "sc") => `(tactic| first | (with_reducible assumption) | (with_reducible exact sc_mul (by omega)) | (with_reducible exact sc_mulr (by omega)) | (with_reducible exact sc_div (by omega) (by decide)) | (show (0 : Int) < _; omega) | (show _ ≠ (0 : Int); omega) | (with_reducible rfl) | decide)
local macro_rules | `(tactic| walk_at "sq") => `(tactic| first | assumption | exact sq_of (by assumption) | exact st_of (by assumption))
local macro_rules | `(tactic| walk_at "pl") => `(tactic| first | assumption | exact pl_int | exact pl_bl | exact pl_str | exact pl_non | exact pl_lst (by assumption) | exact pl_tup (by assumption) | exact pl_dK (by assumption))
local macro_rules | `(tactic| walk_at "rv") => `(tactic| first
  | with_reducible exact rv_I0
  | with_reducible exact ru_neg
  | ((with_reducible apply rv_I); walk_at "sc")
  | ((with_reducible apply rv_ixL); walk_at "sq"; first | rfl | assumption)
  | ((with_reducible apply rv_ixT); walk_at "sq"; first | rfl | assumption)
  | ((with_reducible apply rv_eq); rfl) | ((with_reducible apply rv_ne); rfl))
local macro_rules | `(tactic| walk_at "rc") => `(tactic| first
  | with_reducible exact rc_I1 | with_reducible exact rc_B1 | with_reducible exact rc_I2 | ((with_reducible apply rc_repr); walk_at "sc") | ((with_reducible apply rc_lenL); walk_at "sq")
  | ((with_reducible apply rc_isiInt); walk_at "pl") | ((with_reducible apply rc_isiBool); walk_at "pl"))
local macro_rules | `(tactic| walk_at "ea") => `(tactic| first
  | with_reducible exact ea_nil | ((with_reducible apply ea_cons); walk_at "ev"; walk_at "ea"))
local macro_rules | `(tactic| walk_at "pow") => `(tactic| first
  | with_reducible exact ev_pow (a := 10) (b := 9) (c := 1000000000) (by decide +kernel) (by decide +kernel)
  | with_reducible exact ev_pow (a := 10) (b := 10) (c := 10000000000) (by decide +kernel) (by decide +kernel)
  | with_reducible exact ev_pow (a := 10) (b := 12) (c := 1000000000000) (by decide +kernel) (by decide +kernel)
  | with_reducible exact ev_pow (a := 10) (b := 17) (c := 100000000000000000) (by decide +kernel) (by decide +kernel)
  | with_reducible exact ev_pow (a := 10) (b := 20) (c := 100000000000000000000) (by decide +kernel) (by decide +kernel)
  | with_reducible exact ev_pow (a := 10) (b := 29) (c := 100000000000000000000000000000) (by decide +kernel) (by decide +kernel)
  | with_reducible exact ev_pow (a := 10) (b := 30) (c := 1000000000000000000000000000000) (by decide +kernel) (by decide +kernel)
  | with_reducible exact ev_pow (a := 10) (b := 40) (c := 10000000000000000000000000000000000000000) (by decide +kernel) (by decide +kernel)
  | with_reducible exact ev_pow (a := 10) (b := 57) (c := 1000000000000000000000000000000000000000000000000000000000) (by decide +kernel) (by decide +kernel)
  | with_reducible exact ev_pow (a := 10) (b := 58) (c := 10000000000000000000000000000000000000000000000000000000000) (by decide +kernel) (by decide +kernel)
  | with_reducible exact ev_pow (a := 10) (b := 59) (c := 100000000000000000000000000000000000000000000000000000000000) (by decide +kernel) (by decide +kernel)
  | with_reducible exact ev_pow (a := 10) (b := 60) (c := 1000000000000000000000000000000000000000000000000000000000000) (by decide +kernel) (by decide +kernel))
local macro_rules | `(tactic| walk_at "call") => `(tactic| (intro H9 e9; first | exact ⟨_, rfl, rfl⟩ | exact ⟨_, _, rfl, rfl⟩ | exact ⟨_, _, _, rfl, rfl⟩ | exact ⟨_, rfl, by walk_at "pl", rfl⟩ | (refine ⟨_, _, _, rfl, ?_, rfl⟩; first | exact Plain.ex e9 (by assumption) | walk_at "pl") | (refine ⟨_, rfl, ?_, rfl⟩; first | exact Plain.ex e9 (by assumption) | walk_at "pl")))
local macro_rules | `(tactic| walk_at "ev") => `(tactic| first
  | with_reducible exact ev_c
  | exact ev_var rfl
  | walk_at "pow"
  | ((with_reducible apply ev_op); walk_at "ev"; walk_at "ev"; walk_at "rv")
  | ((with_reducible apply ev_un); walk_at "ev"; walk_at "rv")
  | ((with_reducible apply ev_cb); walk_at "ea"; walk_at "rc")
  | ((with_reducible apply ev_callP); walk_at "ea"; walk_at "call")
  | ((with_reducible apply ev_chain); walk_at "ev"; walk_at "ev"; walk_at "rv"; walk_at "ev"; walk_at "rv")
  | ((with_reducible apply ev_andV); walk_at "ev"; intro _; walk_at "ev")
  | ((with_reducible apply ev_orV); walk_at "ev"; intro _; walk_at "ev")
  | ((with_reducible apply ev_ite); walk_at "et"; intro _; walk_at "ev"; intro _; walk_at "ev")
  | ((with_reducible apply ev_notV); walk_at "ev"))
local macro_rules | `(tactic| walk_at "et") => `(tactic| first
  | ((with_reducible apply et_test); walk_at "ev")
  | ((with_reducible apply et_B); walk_at "ev")
  | ((with_reducible apply et_and); walk_at "et"; intro _; walk_at "et")
  | ((with_reducible apply et_or); walk_at "et"; intro _; walk_at "et")
  | ((with_reducible apply et_not); walk_at "et"))
section
variable {P : Program} {w : World} {K : PySem.W.Frag} {mg : Str → Option Value} {base : Heap}
def kIsInteger (K : PySem.W.Frag) (vs : List V) (H : Hp) (z : V) : Prop := ∃ x, vs = [x] ∧ Plain K H x ∧ z = .bl (isIntV x)
theorem ok_is_integer (T : Txt K mg w) : FnOk P w K mg base CX0 1 T.a_is_integer T.fd_is_integer ["value"] (Pure (kIsInteger K)) := by
  refine T.F_is_integer.ok sc_is_integer (fun vs H Q E h => ?_) (fun cdv A outer s H vs Q E hr h => ?_)
  · obtain ⟨_, ⟨a, rfl, _⟩, _⟩ := h; rfl
  · obtain ⟨_, ⟨x, rfl, hp, rfl⟩, q⟩ := h
    refine ⟨_, (pss_one (ps_ret (pe_and (pe_callB call_isi (by rfl) T.z_isinstance (by decide +kernel) (pa_cons (pv 0) (pa_cons (pe_bltn (v := .ty "int") (by rfl) T.z_int (by decide +kernel) rfl) pa_nil))) (pe_and (pe_not (pe_callB call_isi (by rfl) T.z_isinstance (by decide +kernel) (pa_cons (pv 0) (pa_cons (pe_bltn (v := .ty "bool") (by rfl) T.z_bool (by decide +kernel) rfl) pa_nil)))) (pe_one (pe_chain op_lt op_lt (pe_un un_neg (pe_op op_pow pe_int pe_int)) (pv 0) (pe_op op_pow pe_int pe_int))))))), ?_⟩
    refine s_ret (v := .bl (isIntV x)) ?_ q
    cases x with
    | int i =>
      apply ev_is
      walk_at "ev"
      show V.bl (true && (!false && (decide (-1000000000000000000000000000000000000000000000000000000000000 < i) && decide (i < 1000000000000000000000000000000000000000000000000000000000000)))) = _
      rfl
    | bl b =>
      refine ev_andV (a := true) (b := false) (by apply ev_is; walk_at "ev"; rfl) fun _ => ?_
      exact ev_andV (a := false) (b := false) (by apply ev_is; walk_at "ev"; rfl) (fun h => by cases h)
    | non => exact ev_andV (a := false) (b := false) (by apply ev_is; walk_at "ev"; rfl) (fun h => by cases h)
    | str _ => exact ev_andV (a := false) (b := false) (by apply ev_is; walk_at "ev"; rfl) (fun h => by cases h)
    | byt _ => exact ev_andV (a := false) (b := false) (by apply ev_is; walk_at "ev"; rfl) (fun h => by cases h)
    | flt _ => exact ev_andV (a := false) (b := false) (by apply ev_is; walk_at "ev"; rfl) (fun h => by cases h)
    | ref _ => exact ev_andV (a := false) (b := false) (by apply ev_is; walk_at "ev"; rfl) (fun h => by cases h)
    | ty _ => exact ev_andV (a := false) (b := false) (by apply ev_is; walk_at "ev"; rfl) (fun h => by cases h)
def kIsWithin (K : PySem.W.Frag) (vs : List V) (H : Hp) (z : V) : Prop := ∃ x lo hi, vs = [x, .int lo, .int hi] ∧ Plain K H x ∧ z = .bl (isWithin lo hi x)
theorem ok_is_within (T : Txt K mg w) : FnOk P w K mg base CX0 2 T.a_is_within T.fd_is_within ["value", "low", "high"] (Pure (kIsWithin K)) := by
  have G_is_integer := ok_is_integer (P := P) (w := w) (base := base) T
  refine T.F_is_within.ok sc_is_within (fun vs H Q E h => ?_) (fun cdv A outer s H vs Q E hr h => ?_)
  · obtain ⟨_, ⟨a, _, _, rfl, _⟩, _⟩ := h; rfl
  · obtain ⟨_, ⟨x, lo, hi, rfl, hp, rfl⟩, q⟩ := h
    refine ⟨_, (pss_one (ps_ret (pe_and (pe_call G_is_integer (hr.mono (by decide)) (by rfl) T.g_is_integer T.F_is_integer.kp T.b_is_integer .nil pass0 (pa_cons (pv 0) pa_nil)) (pe_one (pe_chain op_le op_le (pv 1) (pv 0) (pv 2)))))), ?_⟩
    refine s_ret (v := .bl (isWithin lo hi x)) ?_ q
    cases x with
    | int i => apply ev_is; walk_at "ev"; rfl
    | bl b => exact ev_andV (a := false) (b := false) (by apply ev_is; walk_at "ev"; rfl) (fun h => by cases h)
    | non => exact ev_andV (a := false) (b := false) (by apply ev_is; walk_at "ev"; rfl) (fun h => by cases h)
    | str _ => exact ev_andV (a := false) (b := false) (by apply ev_is; walk_at "ev"; rfl) (fun h => by cases h)
    | byt _ => exact ev_andV (a := false) (b := false) (by apply ev_is; walk_at "ev"; rfl) (fun h => by cases h)
    | flt _ => exact ev_andV (a := false) (b := false) (by apply ev_is; walk_at "ev"; rfl) (fun h => by cases h)
    | ref _ => exact ev_andV (a := false) (b := false) (by apply ev_is; walk_at "ev"; rfl) (fun h => by cases h)
    | ty _ => exact ev_andV (a := false) (b := false) (by apply ev_is; walk_at "ev"; rfl) (fun h => by cases h)
def kRoll (vs : List V) (_ : Hp) (p : Addr) (R : V → Prop) : Prop := ∃ t : Int, vs = [.ref p, .int t] ∧ 0 < t ∧ t.natAbs < 2 ^ 400 ∧ R = fun v => ∃ r : Int, v = .int r ∧ 0 ≤ r ∧ r < t
theorem ok_roll (T : Txt K mg w) : FnOk P w K mg base CX0 1 T.a_law_roll T.fd_law_roll ["dice", "total"] (Draws kRoll) := by
  refine T.F_law_roll.ok sc_law_roll (fun vs H Q E h => ?_) (fun cdv A outer s H vs Q E hr h => ?_)
  · obtain ⟨p, _, ⟨t, rfl, _⟩, _⟩ := h; rfl
  · obtain ⟨p, _, ⟨t, rfl, h0, h1, rfl⟩, ⟨a, b, c, hp⟩, q0⟩ := h
    have q : ∀ (r : Int) H', 0 ≤ r → r < t → Exd p H H' → Dice p H' → Q (.int r) H' := fun r H' a b => q0 _ H' ⟨r, rfl, a, b⟩
    refine ⟨_, (pss_cons (ps_if (pt_cmpR op_gt (pe_ix ix_list (pv 0) pe_int (fun _ _ => rfl)) pe_int (nomark _)) (pss_cons (ps_set (i := 2) sc_law_roll.nd rfl (.inl rfl) (pe_op op_mod (pe_callTy c_int (by rfl) T.z_int (by decide +kernel) (pa_cons (pe_ix ix_list (pv 0) pe_int (fun _ _ => rfl)) pa_nil)) (pv 1)))
  (pss_cons (ps_asg (pe_op op_fdivW (pe_ix ix_list (pv 0) pe_int (fun _ _ => rfl)) (pv 1)) (pg_sub (pv 0) pe_int set_list))
  (pss_one (ps_ret (pv 2))))) pss_nil)
  (pss_cons (ps_asg (pe_op op_add (pe_ix ix_list (pv 0) pe_int (fun _ _ => rfl)) pe_int) (pg_sub (pv 0) pe_int set_list))
  (pss_cons (ps_set (i := 3) sc_law_roll.nd rfl (.inl rfl) (pe_op op_mod (pe_callTy c_int (by rfl) T.z_int (by decide +kernel) (pa_cons (pe_op op_add (pe_ix ix_list (pv 0) pe_int (fun _ _ => rfl)) (pe_op op_mul pe_int (pe_ix ix_list (pv 0) pe_int (fun _ _ => rfl)))) pa_nil)) pe_int))
  (pss_cons (ps_set (i := 4) sc_law_roll.nd rfl (.inl rfl) (pe_op op_add (pe_op op_mul (pe_op op_mod (pe_callTy c_int (by rfl) T.z_int (by decide +kernel) (pa_cons (pe_op op_add (pe_op op_mul (pv 3) (pv 3)) (pe_op op_mul pe_int (pe_ix ix_list (pv 0) pe_int (fun _ _ => rfl)))) pa_nil)) pe_int) pe_int) (pv 3)))
  (pss_one (ps_ret (pe_op op_mod (pe_callTy c_int (by rfl) T.z_int (by decide +kernel) (pa_cons (pe_op op_fdivW (pv 4) pe_int) pa_nil)) (pv 1)))))))), ?_⟩
    have cd : CDivW a t := wide_div h0 h1 (by decide) (by decide)
    apply q_when
    case h => walk_at "et"
    · intro hb H1 e1
      have hp := e1 _ _ hp
      apply q_asg
      case h => walk_at "ev"
      intro H2 e2
      have hp := e2 _ _ hp
      refine q_setL (j := 0) hp (v := .int (a / t)) (by walk_at "ev") (ev_var rfl) ev_c (by show 0 < 3; decide) fun H3 e3 => ?_
      refine ⟨_, rfl, q _ _ (Int.emod_nonneg _ (by omega)) (Int.emod_lt_of_pos _ h0) ?_ ⟨_, _, _, upd_same⟩⟩
      exact (Exd.of (e1.trans (e2.trans e3))).trans Exd.upd
    · intro hb H1 e1
      have hp := e1 _ _ hp
      refine q_setL (j := 2) hp (v := .int (c + 1)) (by walk_at "ev") (ev_var rfl) ev_c (by show 2 < 3; decide) fun H3 e3 => ?_
      have hq : (upd H3 p (.lst ([.int a, .int b, .int c].set 2 (.int (c + 1))))) p = some (.lst [.int a, .int b, .int (c + 1)]) := upd_same
      have ex := (Exd.of (e1.trans e3)).trans (Exd.upd (p := p) (o := .lst ([.int a, .int b, .int c].set 2 (.int (c + 1)))))
      generalize upd H3 p (.lst ([.int a, .int b, .int c].set 2 (.int (c + 1)))) = H4 at hq ex
      apply q_asg
      case h => walk_at "ev"
      intro H5 e5
      have hq := e5 _ _ hq
      generalize ho : (b + 67867979 * (c + 1)) % 2305843009213693723 = one
      have ho1 : 0 ≤ one := by rw [← ho]; exact Int.emod_nonneg _ (by omega)
      have ho2 : one < 2305843009213693723 := by rw [← ho]; exact Int.emod_lt_of_pos _ (by omega)
      have cm : CMul one one := .inl (by constructor <;> omega)
      apply q_asg
      case h => walk_at "ev"
      intro H6 e6
      have hq := e6 _ _ hq
      apply s_ret
      case h => walk_at "ev"
      intro H7 e7
      exact q _ _ (Int.emod_nonneg _ (by omega)) (Int.emod_lt_of_pos _ h0) (ex.trans (Exd.of (e5.trans (e6.trans e7)))) ⟨_, _, _, e7 _ _ hq⟩
def spDice (K : PySem.W.Frag) : Sp := fun vs H Q _ => ∃ (a : Addr) (ns : List Int) (sp : Nat), vs = [.ref a, .int sp] ∧ SqL K H a (ns.map V.int) ∧ ∀ p H', H p = none → Ex H H' → Dice p H' → Q (.ref p) H'
theorem ok_dice (T : Txt K mg w) : FnOk P w K mg base CX0 1 T.a_law_dice T.fd_law_dice ["script", "spot"] (spDice K) := by
  refine T.F_law_dice.ok sc_law_dice (fun vs H Q E h => ?_) (fun cdv A outer s H vs Q E hr h => ?_)
  · obtain ⟨_, _, _, rfl, _⟩ := h; rfl
  · obtain ⟨a, ns, sp, rfl, hS, q⟩ := h
    refine ⟨_, (pss_cons (ps_set (i := 2) sc_law_dice.nd rfl (.inl rfl) (pe_ifExp (pt_cmpR op_lt (pv 1) (pe_callB c_len (by rfl) T.z_len PySem.boot_len (pa_cons (pv 0) pa_nil)) (nomark _)) (pe_callTy c_int (by rfl) T.z_int (by decide +kernel) (pa_cons (pe_ix ix_list (pv 0) (pv 1) (fun _ _ => rfl)) pa_nil)) (pe_op op_add (pe_op op_mul pe_int (pv 1)) pe_int)))
  (pss_cons (ps_set (i := 3) sc_law_dice.nd rfl (.inl rfl) (pe_op op_mod (pe_callB (c_max rfl) (by rfl) T.z_max (by decide +kernel) (pa_cons pe_int (pa_cons (pe_op op_sub (pe_callB c_abs (by rfl) T.z_abs (by decide +kernel) (pa_cons (pv 2) pa_nil)) (pe_op op_pow pe_int pe_int)) pa_nil))) (pe_op op_mulW (pe_op op_pow pe_int pe_int) (pe_op op_pow pe_int pe_int))))
  (pss_one (ps_ret (pe_lst (pa_cons (pv 3) (pa_cons (pe_op op_add (pe_op op_add (pe_op op_add (pe_op op_mul (pe_op op_mod (pe_callB c_abs (by rfl) T.z_abs (by decide +kernel) (pa_cons (pv 2) pa_nil)) pe_int) pe_int) (pe_op op_mul pe_int (pv 1))) (pe_op op_mul pe_int (pe_callTy c_intB (by rfl) T.z_int (by decide +kernel) (pa_cons (pe_cmpR op_lt (pv 2) pe_int (nomark _)) pa_nil)))) pe_int) (pa_cons pe_int pa_nil)))))))), ?_⟩
    refine q_asgI ?_ fun cell H1 e1 => ?_
    · by_cases hs : sp < ns.length
      · have hx : (ns.map V.int)[sp]? = some (.int ns[sp]) := by rw [List.getElem?_map, List.getElem?_eq_getElem hs]; rfl
        have hi : atI (ns.map V.int) (sp : Int) = some (.int ns[sp]) := atI_nat hx
        refine ⟨ns[sp], ev_if (b := true) ?_ (fun _ => by walk_at "ev") (fun h => by cases h)⟩
        apply et_is
        walk_at "et"
        rw [List.length_map]
        exact decide_eq_true (by omega)
      · refine ⟨_, ev_if (b := false) ?_ (fun h => by cases h) (fun _ => by walk_at "ev")⟩
        apply et_is
        walk_at "et"
        rw [List.length_map]
        exact decide_eq_false (by omega)
    refine q_asgI ⟨_, ev_op (y := .int 1000000000000000000000000000000000000000000000000000000000000000000000000000000000000000000000000000000000000000000000) (by walk_at "ev") (ev_is (ev_op (by walk_at "pow") (by walk_at "pow") (rv_I (by unfold CMulW; decide +kernel))) (by decide +kernel)) (rv_I (by decide))⟩ fun left H2 e2 => ?_
    have hm : ∀ n : Int, CMul (n % 1152921504606846817) 83 := fun n => .inr (by omega)
    have hm2 := hm (if cell < 0 then -cell else cell)
    refine s_retL (el_lst (by walk_at "ea") (by show 3 ≤ 100000; decide)) fun p H3 hp e3 h3 => ?_
    exact q p H3 (fresh_back (e1.trans e2) hp) ((e1.trans e2).trans e3) ⟨_, _, _, h3⟩
def kPick (K : PySem.W.Frag) (vs : List V) (H : Hp) (p : Addr) (R : V → Prop) : Prop := ∃ (a : Addr) (xs : List V), vs = [.ref p, .ref a] ∧ a ≠ p ∧ SqL K H a xs ∧ 0 < xs.length ∧ xs.length < 1000000 ∧ R = fun v => v ∈ xs
theorem ok_pick (T : Txt K mg w) : FnOk P w K mg base CX0 2 T.a_law_pick T.fd_law_pick ["dice", "items"] (Draws (kPick K)) := by
  have G_law_roll := ok_roll (P := P) (w := w) (base := base) T
  refine T.F_law_pick.ok sc_law_pick (fun vs H Q E h => ?_) (fun cdv A outer s H vs Q E hr h => ?_)
  · obtain ⟨p, _, ⟨_, _, rfl, _⟩, _⟩ := h; rfl
  · obtain ⟨p, _, ⟨a, xs, rfl, hne, hS, hl, hl2, rfl⟩, hd, q⟩ := h
    refine ⟨_, (pss_one (ps_ret (pe_ix ix_list (pv 1) (pe_call G_law_roll (hr.mono (by decide)) (by rfl) T.g_law_roll T.F_law_roll.kp T.b_law_roll .nil pass0 (pa_cons (pv 0) (pa_cons (pe_callB c_len (by rfl) T.z_len PySem.boot_len (pa_cons (pv 1) pa_nil)) pa_nil))) (fun _ _ => rfl)))), ?_⟩
    refine ⟨.ref a, rfl, ?_⟩
    refine goA (vs := [.ref p, .int xs.length]) (by walk_at "ea") fun H1 e1 => ?_
    refine ⟨p, _, ⟨(xs.length : Int), rfl, by omega, by rw [Int.natAbs_natCast]; exact Nat.lt_trans hl2 (by decide), rfl⟩, hd.ex e1, ?_⟩
    rintro v H2 ⟨r, rfl, hr0, hr1⟩ e2 d2
    obtain ⟨n, rfl⟩ := Int.eq_ofNat_of_zero_le hr0
    have hn : n < xs.length := by omega
    refine ⟨a, xs, n, xs[n], rfl, rfl, e2.l hne (ex_l e1 hS), atI_nat (List.getElem?_eq_getElem hn), ?_⟩
    exact q _ H2 (List.getElem_mem hn) ((Exd.of e1).trans e2) d2
end
end Kz
set_option Elab.async false
set_option linter.all false
set_option maxRecDepth 100000
set_option maxHeartbeats 4000000
set_option exponentiation.threshold 500
namespace Kz
open PySem PySem.Spec PyProof.Rows L2 Evl Vr
local macro_rules | `(tactic| walk_at "sc") => `(tactic| first | (with_reducible assumption) | (with_reducible exact sc_mul (by omega)) | (with_reducible exact sc_mulr (by omega)) | (with_reducible exact sc_div (by omega) (by decide)) | (show (0 : Int) < _; omega) | (show _ ≠ (0 : Int); omega) | (with_reducible rfl) | decide)
local macro_rules | `(tactic| walk_at "sq") => `(tactic| first | assumption | exact sq_of (by assumption) | exact st_of (by assumption))
local macro_rules | `(tactic| walk_at "pl") => `(tactic| first | assumption | exact pl_int | exact pl_bl | exact pl_str | exact pl_non | exact pl_lst (by assumption) | exact pl_tup (by assumption) | exact pl_dK (by assumption))
local macro_rules | `(tactic| walk_at "rv") => `(tactic| first
  | with_reducible exact rv_I0
  | with_reducible exact ru_neg
  | ((with_reducible apply rv_I); walk_at "sc")
  | ((with_reducible apply rv_ixL); walk_at "sq"; first | rfl | assumption)
  | ((with_reducible apply rv_ixT); walk_at "sq"; first | rfl | assumption)
  | ((with_reducible apply rv_eq); rfl) | ((with_reducible apply rv_ne); rfl))
local macro_rules | `(tactic| walk_at "rc") => `(tactic| first
  | with_reducible exact rc_I1 | with_reducible exact rc_B1 | with_reducible exact rc_I2 | ((with_reducible apply rc_repr); walk_at "sc") | ((with_reducible apply rc_lenL); walk_at "sq")
  | ((with_reducible apply rc_isiInt); walk_at "pl") | ((with_reducible apply rc_isiBool); walk_at "pl"))
local macro_rules | `(tactic| walk_at "ea") => `(tactic| first
  | with_reducible exact ea_nil | ((with_reducible apply ea_cons); walk_at "ev"; walk_at "ea"))
local macro_rules | `(tactic| walk_at "pow") => `(tactic| first
  | with_reducible exact ev_pow (a := 10) (b := 9) (c := 1000000000) (by decide +kernel) (by decide +kernel)
  | with_reducible exact ev_pow (a := 10) (b := 10) (c := 10000000000) (by decide +kernel) (by decide +kernel)
  | with_reducible exact ev_pow (a := 10) (b := 12) (c := 1000000000000) (by decide +kernel) (by decide +kernel)
  | with_reducible exact ev_pow (a := 10) (b := 17) (c := 100000000000000000) (by decide +kernel) (by decide +kernel)
  | with_reducible exact ev_pow (a := 10) (b := 20) (c := 100000000000000000000) (by decide +kernel) (by decide +kernel)
  | with_reducible exact ev_pow (a := 10) (b := 29) (c := 100000000000000000000000000000) (by decide +kernel) (by decide +kernel)
  | with_reducible exact ev_pow (a := 10) (b := 30) (c := 1000000000000000000000000000000) (by decide +kernel) (by decide +kernel)
  | with_reducible exact ev_pow (a := 10) (b := 40) (c := 10000000000000000000000000000000000000000) (by decide +kernel) (by decide +kernel)
  | with_reducible exact ev_pow (a := 10) (b := 57) (c := 1000000000000000000000000000000000000000000000000000000000) (by decide +kernel) (by decide +kernel)
  | with_reducible exact ev_pow (a := 10) (b := 58) (c := 10000000000000000000000000000000000000000000000000000000000) (by decide +kernel) (by decide +kernel)
  | with_reducible exact ev_pow (a := 10) (b := 59) (c := 100000000000000000000000000000000000000000000000000000000000) (by decide +kernel) (by decide +kernel)
  | with_reducible exact ev_pow (a := 10) (b := 60) (c := 1000000000000000000000000000000000000000000000000000000000000) (by decide +kernel) (by decide +kernel))
local macro_rules | `(tactic| walk_at "call") => `(tactic| (intro H9 e9; first | exact ⟨_, rfl, rfl⟩ | exact ⟨_, _, rfl, rfl⟩ | exact ⟨_, _, _, rfl, rfl⟩ | exact ⟨_, rfl, by walk_at "pl", rfl⟩ | (refine ⟨_, _, _, rfl, ?_, rfl⟩; first | exact Plain.ex e9 (by assumption) | walk_at "pl") | (refine ⟨_, rfl, ?_, rfl⟩; first | exact Plain.ex e9 (by assumption) | walk_at "pl")))
local macro_rules | `(tactic| walk_at "ev") => `(tactic| first
  | with_reducible exact ev_c
  | exact ev_var rfl
  | walk_at "pow"
  | ((with_reducible apply ev_op); walk_at "ev"; walk_at "ev"; walk_at "rv")
  | ((with_reducible apply ev_un); walk_at "ev"; walk_at "rv")
  | ((with_reducible apply ev_cb); walk_at "ea"; walk_at "rc")
  | ((with_reducible apply ev_callP); walk_at "ea"; walk_at "call")
  | ((with_reducible apply ev_chain); walk_at "ev"; walk_at "ev"; walk_at "rv"; walk_at "ev"; walk_at "rv")
  | ((with_reducible apply ev_andV); walk_at "ev"; intro _; walk_at "ev")
  | ((with_reducible apply ev_orV); walk_at "ev"; intro _; walk_at "ev")
  | ((with_reducible apply ev_ite); walk_at "et"; intro _; walk_at "ev"; intro _; walk_at "ev")
  | ((with_reducible apply ev_notV); walk_at "ev"))
local macro_rules | `(tactic| walk_at "et") => `(tactic| first
  | ((with_reducible apply et_test); walk_at "ev")
  | ((with_reducible apply et_B); walk_at "ev")
  | ((with_reducible apply et_and); walk_at "et"; intro _; walk_at "et")
  | ((with_reducible apply et_or); walk_at "et"; intro _; walk_at "et")
  | ((with_reducible apply et_not); walk_at "et"))
open En Wo
def num (n : Int) : Prop := -1000000000 ≤ n ∧ n ≤ 1000000000
def whole (n : Int) : Prop := 0 ≤ n ∧ n < 1000000000000000000000000000000000000000000000000000000000000
def nameOk (z : Str) : Prop := 1 ≤ z.length ∧ z.length ≤ 8 ∧ Txt.isascii z = true ∧ Txt.isalpha z = true ∧ Txt.islower z = true
/-- a thing -/
structure Tg where
  id : Int
  kd : Str
  ns : List Int
  deriving DecidableEq
def Tg.ok (t : Tg) : Prop := whole t.id ∧ nameOk t.kd ∧ 1 ≤ t.ns.length ∧ t.ns.length ≤ 8 ∧ ∀ n ∈ t.ns, num n
def NsAt (K : PySem.W.Frag) (H : Hp) (r : Addr) (ns : List Int) : Prop := SqT K H r (ns.map V.int)
def TgAt (K : PySem.W.Frag) (H : Hp) (r : Addr) (t : Tg) : Prop := ∃ rn, SqT K H r [.int t.id, .str t.kd, .ref rn] ∧ NsAt K H rn t.ns
/-- the tuples rs of the things ts -/
def RsAt (K : PySem.W.Frag) (H : Hp) (rs : List Addr) (ts : List Tg) : Prop := rs.length = ts.length ∧ ∀ (i : Nat) (r : Addr) (t : Tg), rs[i]? = some r → ts[i]? = some t → TgAt K H r t
def TsAt (K : PySem.W.Frag) (H : Hp) (a : Addr) (ts : List Tg) : Prop := ∃ rs, SqT K H a (rs.map V.ref) ∧ RsAt K H rs ts
def TsOk (ts : List Tg) : Prop := ts.length ≤ 12 ∧ ∀ t ∈ ts, t.ok
theorem TgAt.ex {K : PySem.W.Frag} {H H' : Hp} {r : Addr} {t : Tg} (e : Ex H H') (h : TgAt K H r t) : TgAt K H' r t := by
  obtain ⟨rn, h1, h2⟩ := h
  exact ⟨rn, ex_t e h1, ex_t e h2⟩
theorem RsAt.ex {K : PySem.W.Frag} {H H' : Hp} {rs : List Addr} {ts : List Tg} (e : Ex H H') (h : RsAt K H rs ts) : RsAt K H' rs ts := ⟨h.1, fun i r t a b => (h.2 i r t a b).ex e⟩
theorem TsAt.ex {K : PySem.W.Frag} {H H' : Hp} {a : Addr} {ts : List Tg} (e : Ex H H') (h : TsAt K H a ts) : TsAt K H' a ts := by
  obtain ⟨rs, h1, h2⟩ := h
  exact ⟨rs, ex_t e h1, h2.ex e⟩
/-- the i-th of the tuples -/
theorem RsAt.at {K : PySem.W.Frag} {H : Hp} {rs : List Addr} {ts : List Tg} (h : RsAt K H rs ts) {i : Nat} {x : V} (hx : (rs.map V.ref)[i]? = some x) : ∃ r t, x = .ref r ∧ rs[i]? = some r ∧ ts[i]? = some t ∧ TgAt K H r t := by
  rw [List.getElem?_map] at hx
  cases h1 : rs[i]? with
  | none => rw [h1] at hx; cases hx
  | some r =>
    rw [h1] at hx
    have hi : i < ts.length := by have := (List.getElem?_eq_some_iff.mp h1).1; have := h.1; omega
    exact ⟨r, ts[i], (Option.some.inj hx).symm, rfl, List.getElem?_eq_getElem hi, h.2 i r _ h1 (List.getElem?_eq_getElem hi)⟩
/-- ids that ascend, all of them below the next one -/
def asc : List Int → Int → Prop
  | [], _ => True
  | [i], n => i < n
  | i :: j :: r, n => i < j ∧ asc (j :: r) n
theorem whole_is {n : Int} (h : whole n) : isIntV (.int n) = true := by
  obtain ⟨h0, h1⟩ := h
  unfold isIntV
  simp only [Bool.and_eq_true, decide_eq_true_eq]
  omega
section
variable {H : Hp} {K : PySem.W.Frag} {z : Str}
theorem isi_str : RC (rIsi K) [.str z, .ty "str"] H (.bl true) := fun H1 e Q q => ⟨.str z, .ty "str", .type "str", .type "str", true, rfl, .ty _, .base (.str z), kit_ty (r := true) (by decide +kernel), q H1 (Ex.refl H1)⟩
end
section
variable {P : Program} {w : World} {K : PySem.W.Frag} {mg : Str → Option Value} {base : Heap}
def kWhole (vs : List V) (_ : Hp) (z : V) : Prop := ∃ n : Int, vs = [.int n] ∧ whole n ∧ z = .bl true
theorem ok_is_whole (T : Txt K mg w) : FnOk P w K mg base CX0 2 T.a_is_whole T.fd_is_whole ["value"] (Pure kWhole) := by
  have G_is_integer := ok_is_integer (P := P) (w := w) (base := base) T
  refine T.F_is_whole.ok sc_is_whole (fun vs H Q E h => ?_) (fun cdv A outer s H vs Q E hr h => ?_)
  · obtain ⟨_, ⟨_, rfl, _⟩, _⟩ := h; rfl
  · obtain ⟨_, ⟨n, rfl, hn, rfl⟩, q⟩ := h
    refine ⟨_, (pss_one (ps_ret (pe_and (pe_call G_is_integer (hr.mono (by decide)) (by rfl) T.g_is_integer T.F_is_integer.kp T.b_is_integer .nil pass0 (pa_cons (pv 0) pa_nil)) (pe_one (pe_cmpR op_ge (pv 0) pe_int (nomark _)))))), ?_⟩
    exact s_ret (v := .bl true) (ev_is (ev_andV (a := true) (b := true) (ev_callP (vs := [.int n]) (by walk_at "ea") fun H1 e1 => ⟨.int n, rfl, pl_int, by rw [whole_is hn]⟩) fun _ => ev_is (ev_op (ev_var rfl) ev_c rv_I0) (by obtain ⟨h0, _⟩ := hn; rw [decide_eq_true (by omega)])) rfl) q
theorem ok_is_luck (T : Txt K mg w) : FnOk P w K mg base CX0 3 T.a_is_luck T.fd_is_luck ["value"] (Pure fun vs _ z => ∃ n : Int, vs = [.int n] ∧ 0 ≤ n ∧ n < 999999937 ∧ z = .bl true) := by
  have G_is_within := ok_is_within (P := P) (w := w) (base := base) T
  refine T.F_is_luck.ok sc_is_luck (fun vs H Q E h => ?_) (fun cdv A outer s H vs Q E hr h => ?_)
  · obtain ⟨_, ⟨_, rfl, _⟩, _⟩ := h; rfl
  · obtain ⟨_, ⟨n, rfl, h0, h1, rfl⟩, q⟩ := h
    refine ⟨_, (pss_one (ps_ret (pe_call G_is_within (hr.mono (by decide)) (by rfl) T.g_is_within T.F_is_within.kp T.b_is_within .nil pass0 (pa_cons (pv 0) (pa_cons pe_int (pa_cons (pe_op op_sub (pe_glob (v := .int 999999937) rfl T.g_MODULUS ⟨_, rfl⟩) pe_int) pa_nil)))))), ?_⟩
    exact s_ret (v := .bl true) (ev_callP (vs := [.int n, .int 0, .int (999999937 - 1)]) (by walk_at "ea") fun H1 e1 => ⟨.int n, _, _, rfl, pl_int, by rw [within_ok (by omega) (by omega) (by omega)]⟩) q
theorem ok_is_number (T : Txt K mg w) : FnOk P w K mg base CX0 3 T.a_is_number T.fd_is_number ["value"] (Pure fun vs _ z => ∃ n : Int, vs = [.int n] ∧ num n ∧ z = .bl true) := by
  have G_is_within := ok_is_within (P := P) (w := w) (base := base) T
  refine T.F_is_number.ok sc_is_number (fun vs H Q E h => ?_) (fun cdv A outer s H vs Q E hr h => ?_)
  · obtain ⟨_, ⟨_, rfl, _⟩, _⟩ := h; rfl
  · obtain ⟨_, ⟨n, rfl, hn, rfl⟩, q⟩ := h
    refine ⟨_, (pss_one (ps_ret (pe_call G_is_within (hr.mono (by decide)) (by rfl) T.g_is_within T.F_is_within.kp T.b_is_within .nil pass0 (pa_cons (pv 0) (pa_cons (pe_un un_neg (pe_glob (v := .int 1000000000) rfl T.g_MOST ⟨_, rfl⟩)) (pa_cons (pe_glob (v := .int 1000000000) rfl T.g_MOST ⟨_, rfl⟩) pa_nil)))))), ?_⟩
    exact s_ret (v := .bl true) (ev_callP (vs := [.int n, .int (-1000000000), .int 1000000000]) (by walk_at "ea") fun H1 e1 => ⟨.int n, _, _, rfl, pl_int, by rw [within_ok hn (by omega) (by omega)]⟩) q
theorem ok_is_name (T : Txt K mg w) : FnOk P w K mg base CX0 1 T.a_is_name T.fd_is_name ["value"] (Pure fun vs _ z => ∃ s : Str, vs = [.str s] ∧ nameOk s ∧ z = .bl true) := by
  refine T.F_is_name.ok sc_is_name (fun vs H Q E h => ?_) (fun cdv A outer s H vs Q E hr h => ?_)
  · obtain ⟨_, ⟨_, rfl, _⟩, _⟩ := h; rfl
  · obtain ⟨_, ⟨z, rfl, ⟨h1, h2, h3, h4, h5⟩, rfl⟩, q⟩ := h
    refine ⟨_, (pss_cons (ps_if (PW.pt (pw_or (pt_not (pt_val (pe_callB call_isi (by rfl) T.z_isinstance (by decide +kernel) (pa_cons (pv 0) (pa_cons (pe_bltn (v := .ty "str") (by rfl) T.z_str (by decide +kernel) rfl) pa_nil))))) (pw_or1 (pt_not (pt_chain op_le op_le pe_int (pe_callB call_len_str (by rfl) T.z_len PySem.boot_len (pa_cons (pv 0) pa_nil)) pe_int))))) (pss_one (ps_ret pe_bl)) pss_nil)
  (pss_one (ps_ret (pe_and (pe_m0 PySem.F.slot_str_isascii PySem.F.type_str_isascii mt_isascii (pv 0)) (pe_and (pe_m0 PySem.F.slot_str_isalpha PySem.F.type_str_isalpha mt_isalpha (pv 0)) (pe_one (pe_m0 PySem.F.slot_str_islower PySem.F.type_str_islower mt_islower (pv 0)))))))), ?_⟩
    refine q_when (b := false) (et_or (a := false) (b := false) (et_is (et_not (et_B (ev_cb (vs := [.str z, .ty "str"]) (by walk_at "ea") isi_str))) rfl) fun _ => et_is (et_not (et_test (ev_chain (a := true) (b := true) ev_c (ev_cb (vs := [.str z]) (by walk_at "ea") (rc_lenS (by omega))) (fun H1 e Q q => by
        refine rv_I0 (i := 1) (j := (z.length : Int)) (g := fun i j => .bl (decide (i ≤ j))) H1 e Q fun H2 e2 => ?_
        rw [decide_eq_true (by omega)]
        exact q H2 e2) ev_c (fun H1 e Q q => by
        refine rv_I0 (i := (z.length : Int)) (j := 8) (g := fun i j => .bl (decide (i ≤ j))) H1 e Q fun H2 e2 => ?_
        rw [decide_eq_true (by omega)]
        exact q H2 e2)))) rfl) (fun h => by cases h) fun _ H1 e1 => ?_
    exact s_ret (v := .bl true) (ev_is (ev_andV (a := true) (b := true) (ev_is (ev_strM (ev_var rfl)) (by rw [h3])) fun _ => ev_is (ev_andV (a := true) (b := true) (ev_is (ev_strM (ev_var rfl)) (by rw [h4])) fun _ => ev_is (ev_strM (ev_var rfl)) (by rw [h5])) rfl) rfl) fun H2 e2 => q H2 (e1.trans e2)
/-- at a reference the numbers of a thing -/
def kNumbers (K : PySem.W.Frag) (vs : List V) (H : Hp) (z : V) : Prop := ∃ (r : Addr) (ns : List Int), vs = [.ref r] ∧ NsAt K H r ns ∧ 1 ≤ ns.length ∧ ns.length ≤ 8 ∧ (∀ n ∈ ns, num n) ∧ z = .bl true
theorem ok_are_numbers (T : Txt K mg w) : FnOk P w K mg base CX0 4 T.a_are_numbers T.fd_are_numbers ["value"] (Pure (kNumbers K)) := by
  have G_is_number := ok_is_number (P := P) (w := w) (base := base) T
  refine T.F_are_numbers.ok sc_are_numbers (fun vs H Q E h => ?_) (fun cdv A outer s H vs Q E hr h => ?_)
  · obtain ⟨_, ⟨_, _, rfl, _⟩, _⟩ := h; rfl
  · obtain ⟨_, ⟨r, ns, rfl, hN, h1, h2, hn, rfl⟩, q⟩ := h
    refine ⟨_, (pss_cons (ps_if (PW.pt (pw_or (pt_not (pt_val (pe_callB call_isi (by rfl) T.z_isinstance (by decide +kernel) (pa_cons (pv 0) (pa_cons (pe_bltn (v := .ty "tuple") (by rfl) T.z_tuple (by decide +kernel) rfl) pa_nil))))) (pw_or1 (pt_not (pt_chain op_le op_le pe_int (pe_callB c_len (by rfl) T.z_len PySem.boot_len (pa_cons (pv 0) pa_nil)) (pe_glob (v := .int 8) rfl T.g_MAX_FIELDS ⟨_, rfl⟩)))))) (pss_one (ps_ret pe_bl)) pss_nil)
  (pss_one (ps_ret (pe_callB (cr_all rfl) (by rfl) T.z_all (by decide +kernel) (pa_cons (pe_lc (own := [("number", 1)]) (g := gName 1) (by rfl) sc_are_numbers.nd (pi_tup (pv 0)) (blkOk_by (own := [("number", 1)]) (N := ["value", "number"]) (sc := defScope s_are_numbers) (by decide +kernel)) (fun _ _ _ _ _ => pg_name (i := 1) sc_are_numbers.nd rfl (Or.inl rfl)) (fun _ _ _ _ _ => pts_nil) (fun _ _ _ _ _ => (pe_call G_is_number (hr.mono (by decide)) (by rfl) T.g_is_number T.F_is_number.kp T.b_is_number .nil pass0 (pa_cons (pv 1) pa_nil)))) pa_nil))))), ?_⟩
    have hl : (ns.map V.int).length = ns.length := List.length_map ..
    refine q_when (b := false) (et_or (a := false) (b := false) (et_is (et_not (et_B (ev_cb (vs := [.ref r, .ty "tuple"]) (by walk_at "ea") (rc_isiTup hN)))) rfl) fun _ => et_is (et_not (et_test (ev_chain (a := true) (b := true) ev_c (ev_cb (vs := [.ref r]) (by walk_at "ea") (rc_lenT hN)) (fun H1 e Q q => by
        refine rv_I0 (i := 1) (g := fun i j => .bl (decide (i ≤ j))) H1 e Q fun H2 e2 => ?_
        rw [decide_eq_true (by omega)]
        exact q H2 e2) ev_c (fun H1 e Q q => by
        refine rv_I0 (j := 8) (g := fun i j => .bl (decide (i ≤ j))) H1 e Q fun H2 e2 => ?_
        rw [decide_eq_true (by omega)]
        exact q H2 e2)))) rfl) (fun h => by cases h) fun _ H1 e1 => ?_
    refine s_ret (v := .bl true) (ev_is (ev_allN (bs := ns.map fun _ => true) ?_) (by simp)) fun H2 e2 => q H2 (e1.trans e2)
    have e : given (ns.map V.int).length (fun _ => true) (fun i => V.bl true) = (ns.map fun _ => true).map V.bl := by
      rw [hl, given_yes_map ns 0 fun _ => V.bl true, List.map_map]
      rfl
    rw [← e]
    refine el_lcT (fun _ => true) (fun i => V.bl true) (ev_var rfl) (ex_t e1 hN) (by rw [hl]; omega) (fun _ => rfl) (fun i x H2 e2 hx => et_yes) fun i x H2 e2 hx _ => ?_
    rw [List.getElem?_map] at hx
    cases h : ns[i]? with
    | none => rw [h] at hx; cases hx
    | some n =>
      rw [h] at hx
      obtain rfl : x = .int n := (Option.some.inj hx).symm
      exact ev_callP (vs := [.int n]) (by walk_at "ea") fun H3 e3 => ⟨n, rfl, hn n (List.mem_of_getElem? h), rfl⟩
def kThing (K : PySem.W.Frag) (vs : List V) (H : Hp) (z : V) : Prop := ∃ (r : Addr) (t : Tg), vs = [.ref r] ∧ TgAt K H r t ∧ t.ok ∧ z = .bl true
theorem ok_is_thing (T : Txt K mg w) : FnOk P w K mg base CX0 5 T.a_is_thing T.fd_is_thing ["value"] (Pure (kThing K)) := by
  have G_is_whole := ok_is_whole (P := P) (w := w) (base := base) T
  have G_is_name := ok_is_name (P := P) (w := w) (base := base) T
  have G_are_numbers := ok_are_numbers (P := P) (w := w) (base := base) T
  refine T.F_is_thing.ok sc_is_thing (fun vs H Q E h => ?_) (fun cdv A outer s H vs Q E hr h => ?_)
  · obtain ⟨_, ⟨_, _, rfl, _⟩, _⟩ := h; rfl
  · obtain ⟨_, ⟨r, t, rfl, ⟨rn, hT, hN⟩, ⟨k1, k2, k3, k4, k5⟩, rfl⟩, q⟩ := h
    refine ⟨_, (pss_cons (ps_if (PW.pt (pw_or (pt_not (pt_val (pe_callB call_isi (by rfl) T.z_isinstance (by decide +kernel) (pa_cons (pv 0) (pa_cons (pe_bltn (v := .ty "tuple") (by rfl) T.z_tuple (by decide +kernel) rfl) pa_nil))))) (pw_or1 (pt_cmpR op_ne (pe_callB c_len (by rfl) T.z_len PySem.boot_len (pa_cons (pv 0) pa_nil)) pe_int (nomark _))))) (pss_one (ps_ret pe_bl)) pss_nil)
  (pss_one (ps_ret (pe_and (pe_call G_is_whole (hr.mono (by decide)) (by rfl) T.g_is_whole T.F_is_whole.kp T.b_is_whole .nil pass0 (pa_cons (pe_ix ix_tup (pv 0) pe_int (fun _ _ => rfl)) pa_nil)) (pe_and (pe_call G_is_name (hr.mono (by decide)) (by rfl) T.g_is_name T.F_is_name.kp T.b_is_name .nil pass0 (pa_cons (pe_ix ix_tup (pv 0) pe_int (fun _ _ => rfl)) pa_nil)) (pe_one (pe_call G_are_numbers (hr.mono (by decide)) (by rfl) T.g_are_numbers T.F_are_numbers.kp T.b_are_numbers .nil pass0 (pa_cons (pe_ix ix_tup (pv 0) pe_int (fun _ _ => rfl)) pa_nil)))))))), ?_⟩
    have i0 : atI [V.int t.id, .str t.kd, .ref rn] 0 = some (.int t.id) := rfl
    have i1 : atI [V.int t.id, .str t.kd, .ref rn] 1 = some (.str t.kd) := rfl
    have i2 : atI [V.int t.id, .str t.kd, .ref rn] 2 = some (.ref rn) := rfl
    refine q_when (b := false) (et_or (a := false) (b := false) (et_is (et_not (et_B (ev_cb (vs := [.ref r, .ty "tuple"]) (by walk_at "ea") (rc_isiTup hT)))) rfl) fun _ => et_is (et_test (ev_op (ev_cb (vs := [.ref r]) (by walk_at "ea") (rc_lenT hT)) ev_c (rv_ne rfl))) (show (!decide (V.int ((3 : Nat) : Int) = V.int 3)) = false by decide)) (fun h => by cases h) fun _ H1 e1 => ?_
    have hT := ex_t e1 hT
    exact s_ret (v := .bl true) (ev_is (ev_andV (a := true) (b := true) (ev_callP (vs := [.int t.id]) (by walk_at "ea") fun H2 e2 => ⟨_, rfl, k1, rfl⟩) fun _ => ev_is (ev_andV (a := true) (b := true) (ev_callP (vs := [.str t.kd]) (by walk_at "ea") fun H2 e2 => ⟨_, rfl, k2, rfl⟩) fun _ => ev_callP (vs := [.ref rn]) (by walk_at "ea") fun H2 e2 => ⟨rn, t.ns, rfl, ex_t (e1.trans e2) hN, k3, k4, k5, rfl⟩) rfl) rfl) fun H2 e2 => q H2 (e1.trans e2)
def kThings (K : PySem.W.Frag) (vs : List V) (H : Hp) (z : V) : Prop := ∃ (a : Addr) (ts : List Tg), vs = [.ref a] ∧ TsAt K H a ts ∧ TsOk ts ∧ z = .bl true
theorem ok_are_things (T : Txt K mg w) : FnOk P w K mg base CX0 6 T.a_are_things T.fd_are_things ["value"] (Pure (kThings K)) := by
  have G_is_thing := ok_is_thing (P := P) (w := w) (base := base) T
  refine T.F_are_things.ok sc_are_things (fun vs H Q E h => ?_) (fun cdv A outer s H vs Q E hr h => ?_)
  · obtain ⟨_, ⟨_, _, rfl, _⟩, _⟩ := h; rfl
  · obtain ⟨_, ⟨a, ts, rfl, ⟨rs, hT, hR⟩, ⟨k1, k2⟩, rfl⟩, q⟩ := h
    refine ⟨_, (pss_cons (ps_if (PW.pt (pw_or (pt_not (pt_val (pe_callB call_isi (by rfl) T.z_isinstance (by decide +kernel) (pa_cons (pv 0) (pa_cons (pe_bltn (v := .ty "tuple") (by rfl) T.z_tuple (by decide +kernel) rfl) pa_nil))))) (pw_or1 (pt_cmpR op_gt (pe_callB c_len (by rfl) T.z_len PySem.boot_len (pa_cons (pv 0) pa_nil)) (pe_glob (v := .int 12) rfl T.g_MAX_THINGS ⟨_, rfl⟩) (nomark _))))) (pss_one (ps_ret pe_bl)) pss_nil)
  (pss_one (ps_ret (pe_callB (cr_all rfl) (by rfl) T.z_all (by decide +kernel) (pa_cons (pe_lc (own := [("thing", 1)]) (g := gName 1) (by rfl) sc_are_things.nd (pi_tup (pv 0)) (blkOk_by (own := [("thing", 1)]) (N := ["value", "thing"]) (sc := defScope s_are_things) (by decide +kernel)) (fun _ _ _ _ _ => pg_name (i := 1) sc_are_things.nd rfl (Or.inl rfl)) (fun _ _ _ _ _ => pts_nil) (fun _ _ _ _ _ => (pe_call G_is_thing (hr.mono (by decide)) (by rfl) T.g_is_thing T.F_is_thing.kp T.b_is_thing .nil pass0 (pa_cons (pv 1) pa_nil)))) pa_nil))))), ?_⟩
    have hl : (rs.map V.ref).length = ts.length := by rw [List.length_map, hR.1]
    refine q_when (b := false) (et_or (a := false) (b := false) (et_is (et_not (et_B (ev_cb (vs := [.ref a, .ty "tuple"]) (by walk_at "ea") (rc_isiTup hT)))) rfl) fun _ => et_is (et_test (ev_op (ev_cb (vs := [.ref a]) (by walk_at "ea") (rc_lenT hT)) ev_c rv_I0)) (decide_eq_false (by omega))) (fun h => by cases h) fun _ H1 e1 => ?_
    refine s_ret (v := .bl true) (ev_is (ev_allN (bs := ts.map fun _ => true) ?_) (by simp)) fun H2 e2 => q H2 (e1.trans e2)
    have e : given (rs.map V.ref).length (fun _ => true) (fun i => V.bl true) = (ts.map fun _ => true).map V.bl := by
      rw [hl, given_yes_map ts ⟨0, "", []⟩ fun _ => V.bl true, List.map_map]
      rfl
    rw [← e]
    refine el_lcT (fun _ => true) (fun i => V.bl true) (ev_var rfl) (ex_t e1 hT) (by omega) (fun _ => rfl) (fun i x H2 e2 hx => et_yes) fun i x H2 e2 hx _ => ?_
    obtain ⟨r, t, rfl, _, ht, hA⟩ := hR.at hx
    exact ev_callP (vs := [.ref r]) (by walk_at "ea") fun H3 e3 => ⟨r, t, rfl, hA.ex ((e1.trans e2).trans e3), k2 t (List.mem_of_getElem? ht), rfl⟩
end
end Kz
set_option Elab.async false
set_option linter.all false
set_option maxRecDepth 100000
set_option maxHeartbeats 4000000
set_option exponentiation.threshold 500
namespace Kz
open PySem PySem.Spec PyProof.Rows L2 Evl Vr
local macro_rules | `(tactic| walk_at "sc") => `(tactic| first | (with_reducible assumption) | (with_reducible exact sc_mul (by omega)) | (with_reducible exact sc_mulr (by omega)) | (with_reducible exact sc_div (by omega) (by decide)) | (show (0 : Int) < _; omega) | (show _ ≠ (0 : Int); omega) | (with_reducible rfl) | decide)
local macro_rules | `(tactic| walk_at "sq") => `(tactic| first | assumption | exact sq_of (by assumption) | exact st_of (by assumption))
local macro_rules | `(tactic| walk_at "pl") => `(tactic| first | assumption | exact pl_int | exact pl_bl | exact pl_str | exact pl_non | exact pl_lst (by assumption) | exact pl_tup (by assumption) | exact pl_dK (by assumption))
local macro_rules | `(tactic| walk_at "rv") => `(tactic| first
  | with_reducible exact rv_I0
  | with_reducible exact ru_neg
  | ((with_reducible apply rv_I); walk_at "sc")
  | ((with_reducible apply rv_ixL); walk_at "sq"; first | rfl | assumption)
  | ((with_reducible apply rv_ixT); walk_at "sq"; first | rfl | assumption)
  | ((with_reducible apply rv_eq); rfl) | ((with_reducible apply rv_ne); rfl))
local macro_rules | `(tactic| walk_at "rc") => `(tactic| first
  | with_reducible exact rc_I1 | with_reducible exact rc_B1 | with_reducible exact rc_I2 | ((with_reducible apply rc_repr); walk_at "sc") | ((with_reducible apply rc_lenL); walk_at "sq")
  | ((with_reducible apply rc_isiInt); walk_at "pl") | ((with_reducible apply rc_isiBool); walk_at "pl"))
local macro_rules | `(tactic| walk_at "ea") => `(tactic| first
  | with_reducible exact ea_nil | ((with_reducible apply ea_cons); walk_at "ev"; walk_at "ea"))
local macro_rules | `(tactic| walk_at "pow") => `(tactic| first
  | with_reducible exact ev_pow (a := 10) (b := 9) (c := 1000000000) (by decide +kernel) (by decide +kernel)
  | with_reducible exact ev_pow (a := 10) (b := 10) (c := 10000000000) (by decide +kernel) (by decide +kernel)
  | with_reducible exact ev_pow (a := 10) (b := 12) (c := 1000000000000) (by decide +kernel) (by decide +kernel)
  | with_reducible exact ev_pow (a := 10) (b := 17) (c := 100000000000000000) (by decide +kernel) (by decide +kernel)
  | with_reducible exact ev_pow (a := 10) (b := 20) (c := 100000000000000000000) (by decide +kernel) (by decide +kernel)
  | with_reducible exact ev_pow (a := 10) (b := 29) (c := 100000000000000000000000000000) (by decide +kernel) (by decide +kernel)
  | with_reducible exact ev_pow (a := 10) (b := 30) (c := 1000000000000000000000000000000) (by decide +kernel) (by decide +kernel)
  | with_reducible exact ev_pow (a := 10) (b := 40) (c := 10000000000000000000000000000000000000000) (by decide +kernel) (by decide +kernel)
  | with_reducible exact ev_pow (a := 10) (b := 57) (c := 1000000000000000000000000000000000000000000000000000000000) (by decide +kernel) (by decide +kernel)
  | with_reducible exact ev_pow (a := 10) (b := 58) (c := 10000000000000000000000000000000000000000000000000000000000) (by decide +kernel) (by decide +kernel)
  | with_reducible exact ev_pow (a := 10) (b := 59) (c := 100000000000000000000000000000000000000000000000000000000000) (by decide +kernel) (by decide +kernel)
  | with_reducible exact ev_pow (a := 10) (b := 60) (c := 1000000000000000000000000000000000000000000000000000000000000) (by decide +kernel) (by decide +kernel))
local macro_rules | `(tactic| walk_at "call") => `(tactic| (intro H9 e9; first | exact ⟨_, rfl, rfl⟩ | exact ⟨_, _, rfl, rfl⟩ | exact ⟨_, _, _, rfl, rfl⟩ | exact ⟨_, rfl, by walk_at "pl", rfl⟩ | (refine ⟨_, _, _, rfl, ?_, rfl⟩; first | exact Plain.ex e9 (by assumption) | walk_at "pl") | (refine ⟨_, rfl, ?_, rfl⟩; first | exact Plain.ex e9 (by assumption) | walk_at "pl")))
local macro_rules | `(tactic| walk_at "ev") => `(tactic| first
  | with_reducible exact ev_c
  | exact ev_var rfl
  | walk_at "pow"
  | ((with_reducible apply ev_op); walk_at "ev"; walk_at "ev"; walk_at "rv")
  | ((with_reducible apply ev_un); walk_at "ev"; walk_at "rv")
  | ((with_reducible apply ev_cb); walk_at "ea"; walk_at "rc")
  | ((with_reducible apply ev_callP); walk_at "ea"; walk_at "call")
  | ((with_reducible apply ev_chain); walk_at "ev"; walk_at "ev"; walk_at "rv"; walk_at "ev"; walk_at "rv")
  | ((with_reducible apply ev_andV); walk_at "ev"; intro _; walk_at "ev")
  | ((with_reducible apply ev_orV); walk_at "ev"; intro _; walk_at "ev")
  | ((with_reducible apply ev_ite); walk_at "et"; intro _; walk_at "ev"; intro _; walk_at "ev")
  | ((with_reducible apply ev_notV); walk_at "ev"))
local macro_rules | `(tactic| walk_at "et") => `(tactic| first
  | ((with_reducible apply et_test); walk_at "ev")
  | ((with_reducible apply et_B); walk_at "ev")
  | ((with_reducible apply et_and); walk_at "et"; intro _; walk_at "et")
  | ((with_reducible apply et_or); walk_at "et"; intro _; walk_at "et")
  | ((with_reducible apply et_not); walk_at "et"))
open En Wo
def Tg.ids (ts : List Tg) : List Int := ts.map Tg.id
/-- ids that ascend, all of them below the next one -/
def Asc (ts : List Tg) (n : Int) : Prop := (Tg.ids ts ++ [n]).Pairwise (· < ·)
theorem tg_len (ts : List Tg) : (Tg.ids ts).length = ts.length := List.length_map ..
section
variable {σ : L2.St} {H : Hp} {t : TT} {te tl : TE} {K : PySem.W.Frag}
/-- [e for x in things if t], the things told by their references -/
theorem el_lcTs {a : Addr} {rs : List Addr} {ts : List Tg} {j : Nat} {vs : List Nat} (f : Tg → Bool) (v : Addr → Tg → V) (g : Tg → V) (h : Ev tl σ H (.ref a)) (hT : SqT K H a (rs.map V.ref)) (hR : RsAt K H rs ts) (hz : ts.length ≤ 40000) (hw : ∀ x, wipe ((wipe σ vs).set j (some x)) vs = wipe σ vs)
    (ht : ∀ (r : Addr) (t' : Tg) H1, Ex H H1 → TgAt K H1 r t' → t' ∈ ts → EvT t ((wipe σ vs).set j (some (.ref r))) H1 (f t')) (he : ∀ (r : Addr) (t' : Tg) H1, Ex H H1 → TgAt K H1 r t' → t' ∈ ts → f t' = true → Ev te ((wipe σ vs).set j (some (.ref r))) H1 (g t')) :
    EvL (tLc (iTup K tl) (gName j) t te vs) σ H ((ts.filter f).map g) := by
  have e : given (rs.map V.ref).length (fun i => f (ts.getD i ⟨0, "", []⟩)) (fun i => g (ts.getD i ⟨0, "", []⟩)) = (ts.filter f).map g := by
    rw [List.length_map, hR.1, given_filter ts ⟨0, "", []⟩ f g]
  rw [← e]
  refine el_lcT _ _ h hT (by rw [List.length_map, hR.1]; omega) hw (fun i x H1 e1 hx => ?_) fun i x H1 e1 hx hf => ?_
  · obtain ⟨r, t', rfl, _, h2, hA⟩ := hR.at hx
    have hd : ts.getD i ⟨0, "", []⟩ = t' := by rw [List.getD_eq_getElem?_getD, h2]; rfl
    rw [hd]
    exact ht r t' H1 e1 (hA.ex e1) (List.mem_of_getElem? h2)
  · obtain ⟨r, t', rfl, _, h2, hA⟩ := hR.at hx
    have hd : ts.getD i ⟨0, "", []⟩ = t' := by rw [List.getD_eq_getElem?_getD, h2]; rfl
    rw [hd] at hf ⊢
    exact he r t' H1 e1 (hA.ex e1) (List.mem_of_getElem? h2) hf
theorem ev_tg0 {te : TE} {r : Addr} {t' : Tg} (h : Ev te σ H (.ref r)) (hA : TgAt K H r t') : Ev (tOp (rIxT K) te (tC (.int 0))) σ H (.int t'.id) := by
  obtain ⟨rn, h1, _⟩ := hA
  exact ev_op h ev_c (rv_ixT h1 rfl)
theorem ev_tg1 {te : TE} {r : Addr} {t' : Tg} (h : Ev te σ H (.ref r)) (hA : TgAt K H r t') : Ev (tOp (rIxT K) te (tC (.int 1))) σ H (.str t'.kd) := by
  obtain ⟨rn, h1, _⟩ := hA
  exact ev_op h ev_c (rv_ixT h1 rfl)
end
section
variable {P : Program} {w : World} {K : PySem.W.Frag} {mg : Str → Option Value} {base : Heap}
def kSeq (K : PySem.W.Frag) (vs : List V) (H : Hp) (z : V) : Prop := ∃ (a : Addr) (ts : List Tg) (n : Int), vs = [.ref a, .int n] ∧ TsAt K H a ts ∧ ts.length ≤ 12 ∧ Asc ts n ∧ z = .bl true
theorem ok_are_in_sequence (T : Txt K mg w) : FnOk P w K mg base CX0 1 T.a_are_in_sequence T.fd_are_in_sequence ["things", "next_id"] (Pure (kSeq K)) := by
  refine T.F_are_in_sequence.ok sc_are_in_sequence (fun vs H Q E h => ?_) (fun cdv A outer s H vs Q E hr h => ?_)
  · obtain ⟨_, ⟨_, _, _, rfl, _⟩, _⟩ := h; rfl
  · obtain ⟨_, ⟨a, ts, n, rfl, ⟨rs, hT, hR⟩, hl, hA, rfl⟩, q⟩ := h
    refine ⟨_, (pss_cons (ps_set (i := 2) sc_are_in_sequence.nd rfl (.inl rfl) (pe_op op_cat (pe_lc (own := [("thing", 3)]) (g := gName 3) (by rfl) sc_are_in_sequence.nd (pi_tup (pv 0)) (blkOk_by (own := [("thing", 3)]) (N := ["things", "next_id", "ids", "thing", "low", "high"]) (sc := defScope s_are_in_sequence) (by decide +kernel)) (fun _ _ _ _ _ => pg_name (i := 3) sc_are_in_sequence.nd rfl (Or.inl rfl)) (fun _ _ _ _ _ => pts_nil) (fun _ _ _ _ _ => (pe_ix (ix_tupK (K := K) rfl) (pv 3) pe_int (fun _ _ => rfl)))) (pe_lst (pa_cons (pv 1) pa_nil))))
  (pss_one (ps_ret (pe_callB (cr_all rfl) (by rfl) T.z_all (by decide +kernel) (pa_cons (pe_lc (own := [("low", 4), ("high", 5)]) (g := gTup _ 2 (gCons (gName 4) (gCons (gName 5) gNil))) (by rfl) sc_are_in_sequence.nd (pi_zip rfl T.z_zip (pa_cons (pv 2) (pa_cons (pe_slice sl_list (pv 2) (po_some pe_int) po_none) pa_nil))) (blkOk_by (own := [("low", 4), ("high", 5)]) (N := ["things", "next_id", "ids", "thing", "low", "high"]) (sc := defScope s_are_in_sequence) (by decide +kernel)) (fun _ _ _ _ _ => pg_tup rfl (pgs_cons (pg_name (i := 4) sc_are_in_sequence.nd rfl (Or.inl rfl)) (pgs_cons (pg_name (i := 5) sc_are_in_sequence.nd rfl (Or.inl rfl)) pgs_nil))) (fun _ _ _ _ _ => pts_nil) (fun _ _ _ _ _ => (pe_cmpR op_lt (pv 4) (pv 5) (nomark _)))) pa_nil))))), ?_⟩
    refine q_asgL (xs := (Tg.ids ts ++ [n]).map V.int) (by
      have e : (Tg.ids ts ++ [n]).map V.int = (ts.filter fun _ => true).map (fun t => V.int t.id) ++ [.int n] := by
        rw [List.filter_eq_self.mpr (fun _ _ => rfl), List.map_append]
        unfold Tg.ids
        rw [List.map_map]
        rfl
      rw [e]
      exact el_cat (el_lcTs (fun _ => true) (fun _ t => V.int t.id) (fun t => V.int t.id) (ev_var rfl) hT hR (by omega) (fun _ => rfl) (fun r t H1 e1 _ _ => et_yes) fun r t H1 e1 hA _ _ => ev_tg0 (ev_var rfl) hA) (el_lst (by walk_at "ea") (by show 1 ≤ 100000; decide)) (by
        rw [List.filter_eq_self.mpr (fun _ _ => rfl), List.length_map]
        show _ + 1 ≤ _
        omega)) fun l H1 hl1 e1 h1 => ?_
    have hL := sq_of (K := K) h1
    have len : (Tg.ids ts ++ [n]).length = ts.length + 1 := by rw [List.length_append, tg_len]; rfl
    generalize hI : Tg.ids ts ++ [n] = ids at *
    unfold Asc at hA
    rw [hI] at hA
    refine s_ret (v := .bl true) (ev_is (ev_allN (bs := (List.range (min (ids.map V.int).length ((ids.map V.int).drop 1).length)).map fun _ => true) ?_) (by simp)) fun H2 e2 => q H2 (e1.trans e2)
    have e : given (min (ids.map V.int).length ((ids.map V.int).drop 1).length) (fun _ => true) (fun _ => V.bl true) = ((List.range (min (ids.map V.int).length ((ids.map V.int).drop 1).length)).map fun _ => true).map V.bl := by
      unfold given
      rw [List.filter_eq_self.mpr (fun _ _ => rfl), List.map_map]
      rfl
    rw [← e]
    refine el_lcZip (fun _ => true) (fun _ => V.bl true) ?_ (by rw [List.length_map]; omega) (fun _ _ => rfl) (fun i x y H2 e2 hx hy => et_yes) fun i x y H2 e2 hx hy _ => ?_
    · have hsl := el_sl (K := K) (te := tVar 2) (σ := [some (.ref a), some (.int n), some (.ref l), none, none, none]) (ev_var (i := 2) rfl) (eo_some (ev_c (v := .int 1))) eo_none hL
      rw [cut1] at hsl
      exact fun H2 e2 Q2 q2 => (ap_cons (ev_var rfl) (ap_consL hsl ap_nil)) H2 e2 Q2 fun vs H3 e3 ⟨ws, h1', p, ws2, h2', h3', h4'⟩ => q2 vs H3 e3 ⟨l, p, by rw [h1', h2', h4'], ex_l (e2.trans e3) hL, sq_of h3'⟩
    · rw [List.getElem?_map] at hx
      rw [List.getElem?_drop, List.getElem?_map] at hy
      cases h2 : ids[i]? with
      | none => rw [h2] at hx; cases hx
      | some u =>
        cases h3 : ids[1 + i]? with
        | none => rw [h3] at hy; cases hy
        | some u2 =>
          rw [h2] at hx
          rw [h3] at hy
          obtain rfl : x = .int u := (Option.some.inj hx).symm
          obtain rfl : y = .int u2 := (Option.some.inj hy).symm
          obtain ⟨h4, h5⟩ := List.getElem?_eq_some_iff.mp h2
          obtain ⟨h6, h7⟩ := List.getElem?_eq_some_iff.mp h3
          have h8 := List.pairwise_iff_getElem.mp hA i (1 + i) h4 h6 (by omega)
          rw [h5, h7] at h8
          exact ev_is (ev_op (ev_var rfl) (ev_var rfl) rv_I0) (by rw [decide_eq_true h8])
/-! ### a world -/
structure Wd where
  t : Int
  n : Int
  l : Int
  ts : List Tg
  deriving DecidableEq
def Wd.ok (W : Wd) : Prop := whole W.t ∧ whole W.n ∧ (0 ≤ W.l ∧ W.l < 999999937) ∧ TsOk W.ts ∧ Asc W.ts W.n
abbrev wfs (W : Wd) (aT aO aD : Addr) : List (Str × V) := [("tick", .int W.t), ("next_id", .int W.n), ("luck", .int W.l), ("things", .ref aT), ("order", .ref aO), ("table", .ref aD)]
/-- the pairs of the table -/
def tab : List Addr → List Tg → List (Key × V)
  | r :: rs, t :: ts => (.inl t.id, .ref r) :: tab rs ts
  | _, _ => []
structure WAt (K : PySem.W.Frag) (C : Addr) (H : Hp) (p : Addr) (W : Wd) (rs : List Addr) (aT aO aD : Addr) : Prop where
  ob : ∃ dx, H p = some (.ins C dx (wfs W aT aO aD))
  th : SqT K H aT (rs.map V.ref)
  ra : RsAt K H rs W.ts
  od : SqT K H aO ((Tg.ids W.ts).map V.int)
  tb : H aD = some (.dK (tab rs W.ts))
/-- a world stands at p -/
def WdAt (K : PySem.W.Frag) (C : Addr) (H : Hp) (p : Addr) (W : Wd) : Prop := ∃ rs aT aO aD, WAt K C H p W rs aT aO aD
theorem WAt.ex {C p aT aO aD : Addr} {H H' : Hp} {W : Wd} {rs : List Addr} (e : Ex H H') (h : WAt K C H p W rs aT aO aD) : WAt K C H' p W rs aT aO aD := by
  obtain ⟨⟨dx, h1⟩, h2, h3, h4, h5⟩ := h
  exact ⟨⟨dx, e _ _ h1⟩, ex_t e h2, h3.ex e, ex_t e h4, e _ _ h5⟩
theorem WdAt.ex {C p : Addr} {H H' : Hp} {W : Wd} (e : Ex H H') (h : WdAt K C H p W) : WdAt K C H' p W := by
  obtain ⟨rs, aT, aO, aD, h⟩ := h
  exact ⟨rs, aT, aO, aD, h.ex e⟩
end
end Kz
set_option Elab.async false
set_option linter.all false
set_option maxRecDepth 100000
set_option maxHeartbeats 4000000
set_option exponentiation.threshold 500
namespace Kz
open PySem PySem.Spec PyProof.Rows L2 Evl Vr
local macro_rules | `(tactic| walk_at "sc") => `(tactic| first | (with_reducible assumption) | (with_reducible exact sc_mul (by omega)) | (with_reducible exact sc_mulr (by omega)) | (with_reducible exact sc_div (by omega) (by decide)) | (show (0 : Int) < _; omega) | (show _ ≠ (0 : Int); omega) | (with_reducible rfl) | decide)
local macro_rules | `(tactic| walk_at "sq") => `(tactic| first | assumption | exact sq_of (by assumption) | exact st_of (by assumption))
local macro_rules | `(tactic| walk_at "pl") => `(tactic| first | assumption | exact pl_int | exact pl_bl | exact pl_str | exact pl_non | exact pl_lst (by assumption) | exact pl_tup (by assumption) | exact pl_dK (by assumption))
local macro_rules | `(tactic| walk_at "rv") => `(tactic| first
  | with_reducible exact rv_I0
  | with_reducible exact ru_neg
  | ((with_reducible apply rv_I); walk_at "sc")
  | ((with_reducible apply rv_ixL); walk_at "sq"; first | rfl | assumption)
  | ((with_reducible apply rv_ixT); walk_at "sq"; first | rfl | assumption)
  | ((with_reducible apply rv_eq); rfl) | ((with_reducible apply rv_ne); rfl))
local macro_rules | `(tactic| walk_at "rc") => `(tactic| first
  | with_reducible exact rc_I1 | with_reducible exact rc_B1 | with_reducible exact rc_I2 | ((with_reducible apply rc_repr); walk_at "sc") | ((with_reducible apply rc_lenL); walk_at "sq")
  | ((with_reducible apply rc_isiInt); walk_at "pl") | ((with_reducible apply rc_isiBool); walk_at "pl"))
local macro_rules | `(tactic| walk_at "ea") => `(tactic| first
  | with_reducible exact ea_nil | ((with_reducible apply ea_cons); walk_at "ev"; walk_at "ea"))
local macro_rules | `(tactic| walk_at "pow") => `(tactic| first
  | with_reducible exact ev_pow (a := 10) (b := 9) (c := 1000000000) (by decide +kernel) (by decide +kernel)
  | with_reducible exact ev_pow (a := 10) (b := 10) (c := 10000000000) (by decide +kernel) (by decide +kernel)
  | with_reducible exact ev_pow (a := 10) (b := 12) (c := 1000000000000) (by decide +kernel) (by decide +kernel)
  | with_reducible exact ev_pow (a := 10) (b := 17) (c := 100000000000000000) (by decide +kernel) (by decide +kernel)
  | with_reducible exact ev_pow (a := 10) (b := 20) (c := 100000000000000000000) (by decide +kernel) (by decide +kernel)
  | with_reducible exact ev_pow (a := 10) (b := 29) (c := 100000000000000000000000000000) (by decide +kernel) (by decide +kernel)
  | with_reducible exact ev_pow (a := 10) (b := 30) (c := 1000000000000000000000000000000) (by decide +kernel) (by decide +kernel)
  | with_reducible exact ev_pow (a := 10) (b := 40) (c := 10000000000000000000000000000000000000000) (by decide +kernel) (by decide +kernel)
  | with_reducible exact ev_pow (a := 10) (b := 57) (c := 1000000000000000000000000000000000000000000000000000000000) (by decide +kernel) (by decide +kernel)
  | with_reducible exact ev_pow (a := 10) (b := 58) (c := 10000000000000000000000000000000000000000000000000000000000) (by decide +kernel) (by decide +kernel)
  | with_reducible exact ev_pow (a := 10) (b := 59) (c := 100000000000000000000000000000000000000000000000000000000000) (by decide +kernel) (by decide +kernel)
  | with_reducible exact ev_pow (a := 10) (b := 60) (c := 1000000000000000000000000000000000000000000000000000000000000) (by decide +kernel) (by decide +kernel))
local macro_rules | `(tactic| walk_at "call") => `(tactic| (intro H9 e9; first | exact ⟨_, rfl, rfl⟩ | exact ⟨_, _, rfl, rfl⟩ | exact ⟨_, _, _, rfl, rfl⟩ | exact ⟨_, rfl, by walk_at "pl", rfl⟩ | (refine ⟨_, _, _, rfl, ?_, rfl⟩; first | exact Plain.ex e9 (by assumption) | walk_at "pl") | (refine ⟨_, rfl, ?_, rfl⟩; first | exact Plain.ex e9 (by assumption) | walk_at "pl")))
local macro_rules | `(tactic| walk_at "ev") => `(tactic| first
  | with_reducible exact ev_c
  | exact ev_var rfl
  | walk_at "pow"
  | ((with_reducible apply ev_op); walk_at "ev"; walk_at "ev"; walk_at "rv")
  | ((with_reducible apply ev_un); walk_at "ev"; walk_at "rv")
  | ((with_reducible apply ev_cb); walk_at "ea"; walk_at "rc")
  | ((with_reducible apply ev_callP); walk_at "ea"; walk_at "call")
  | ((with_reducible apply ev_chain); walk_at "ev"; walk_at "ev"; walk_at "rv"; walk_at "ev"; walk_at "rv")
  | ((with_reducible apply ev_andV); walk_at "ev"; intro _; walk_at "ev")
  | ((with_reducible apply ev_orV); walk_at "ev"; intro _; walk_at "ev")
  | ((with_reducible apply ev_ite); walk_at "et"; intro _; walk_at "ev"; intro _; walk_at "ev")
  | ((with_reducible apply ev_notV); walk_at "ev"))
local macro_rules | `(tactic| walk_at "et") => `(tactic| first
  | ((with_reducible apply et_test); walk_at "ev")
  | ((with_reducible apply et_B); walk_at "ev")
  | ((with_reducible apply et_and); walk_at "et"; intro _; walk_at "et")
  | ((with_reducible apply et_or); walk_at "et"; intro _; walk_at "et")
  | ((with_reducible apply et_not); walk_at "et"))
open En Wo
theorem len_putF (f : Str) (v : V) : ∀ fs : List (Str × V), (putF f v fs).length ≤ fs.length + 1
  | [] => Nat.le_refl _
  | (g, x) :: r => by
    have := len_putF f v r
    show (if g = f then (g, v) :: r else (g, x) :: putF f v r).length ≤ _
    split
    · simp
    · simp only [List.length_cons]; omega
def FsOk (fs : List (Str × V)) : Prop := fs = [] ∨ ∃ W a b c, fs = wfs W a b c
theorem FsOk.len {fs : List (Str × V)} (h : FsOk fs) : fs.length ≤ 6 := by
  rcases h with rfl | ⟨W, a, b, c, rfl⟩
  · exact Nat.zero_le _
  · exact Nat.le_refl _
theorem fs_fin {fs : List (Str × V)} (h : FsOk fs) (W : Wd) (a o d : Addr) : putF "table" (.ref d) (putF "order" (.ref o) (putF "things" (.ref a) (putF "luck" (.int W.l) (putF "next_id" (.int W.n) (putF "tick" (.int W.t) fs))))) = wfs W a o d := by
  rcases h with rfl | ⟨W0, a0, b0, c0, rfl⟩
  · rfl
  · rfl
theorem RsAt.ti {K : PySem.W.Frag} {C p dx : Addr} {fs : List (Str × V)} {H H' : Hp} {rs : List Addr} {ts : List Tg} (e : Exd p H H') (hp : H p = some (.ins C dx fs)) (h : RsAt K H rs ts) : RsAt K H' rs ts := ⟨h.1, fun i r t a b => by
  obtain ⟨rn, h1, h2⟩ := h.2 i r t a b
  exact ⟨rn, e.ti hp h1, e.ti hp h2⟩⟩
theorem tab_len : ∀ (rs : List Addr) (ts : List Tg), rs.length = ts.length → (tab rs ts).length = ts.length
  | [], [], _ => rfl
  | r :: rs, t :: ts, h => by
    show (tab rs ts).length + 1 = ts.length + 1
    rw [tab_len rs ts (by simpa using h)]
  | [], _ :: _, h => by cases h
  | _ :: _, [], h => by cases h
theorem tab_app : ∀ (rs : List Addr) (ts : List Tg) (r : Addr) (t : Tg), rs.length = ts.length → tab (rs ++ [r]) (ts ++ [t]) = tab rs ts ++ [(.inl t.id, .ref r)]
  | [], [], _, _, _ => rfl
  | r :: rs, t :: ts, r', t', h => by
    show _ :: tab (rs ++ [r']) (ts ++ [t']) = _ :: (tab rs ts ++ [_])
    rw [tab_app rs ts r' t' (by simpa using h)]
  | [], _ :: _, _, _, h => by cases h
  | _ :: _, [], _, _, h => by cases h
theorem tab_no : ∀ (rs : List Addr) (ts : List Tg) (i : Int), (∀ t ∈ ts, t.id ≠ i) → valV (tab rs ts) (.inl i : Key) = none
  | [], _, _, _ => rfl
  | _ :: _, [], _, _ => rfl
  | r :: rs, t :: ts, i, h => by
    show valV ((Sum.inl t.id, V.ref r) :: tab rs ts) (.inl i : Key) = none
    rw [valV_neg (fun z => h t (List.mem_cons_self ..) (Sum.inl.inj z))]
    exact tab_no rs ts i fun t' ht => h t' (List.mem_cons_of_mem _ ht)
theorem tab_at : ∀ (rs : List Addr) (ts : List Tg) (j : Nat) (r : Addr) (t : Tg), (Tg.ids ts).Nodup → rs[j]? = some r → ts[j]? = some t → valV (tab rs ts) (.inl t.id : Key) = some (.ref r)
  | [], _, _, _, _, _, h, _ => by cases h
  | _ :: _, [], _, _, _, _, _, h => by cases h
  | r0 :: rs, t0 :: ts, 0, r, t, _, h1, h2 => by
    cases h1
    cases h2
    exact valV_pos (p := (Sum.inl t0.id, V.ref r0)) rfl
  | r0 :: rs, t0 :: ts, j + 1, r, t, hn, h1, h2 => by
    have hn' : t0.id ∉ Tg.ids ts ∧ (Tg.ids ts).Nodup := List.nodup_cons.mp hn
    have ht : t ∈ ts := List.mem_of_getElem? (by simpa using h2 : ts[j]? = some t)
    show valV ((Sum.inl t0.id, V.ref r0) :: tab rs ts) (.inl t.id : Key) = _
    rw [valV_neg (fun z => hn'.1 (by rw [Sum.inl.inj z]; exact List.mem_map_of_mem ht))]
    exact tab_at rs ts j r t hn'.2 (by simpa using h1) (by simpa using h2)
theorem Asc.nodup {ts : List Tg} {n : Int} (h : Asc ts n) : (Tg.ids ts).Nodup := by
  have h1 := (List.pairwise_append.mp h).1
  exact h1.imp fun h => Int.ne_of_lt h
theorem take_succ {α : Type} {l : List α} {i : Nat} {x : α} (h : l[i]? = some x) : l.take (i + 1) = l.take i ++ [x] := by
  obtain ⟨h1, h2⟩ := List.getElem?_eq_some_iff.mp h
  rw [← List.take_append_getElem h1, h2]
section
variable {P : Program} {w : World} {K : PySem.W.Frag} {mg : Str → Option Value} {base : Heap}
def spFill (K : PySem.W.Frag) (C : Addr) : Sp := fun vs H Q _ => ∃ (p aT dx : Addr) (W : Wd) (rs : List Addr) (fs : List (Str × V)), vs = [.ref p, .int W.t, .int W.n, .int W.l, .ref aT] ∧ H p = some (.ins C dx fs) ∧ FsOk fs ∧ SqT K H aT (rs.map V.ref) ∧ RsAt K H rs W.ts ∧ W.ts.length ≤ 12 ∧ Asc W.ts W.n ∧
  ∀ H' aO aD, Exd p H H' → WAt K C H' p W rs aT aO aD → Q .non H'
theorem ok_fill (T : Txt K mg w) : FnOk P w K mg base CX0 1 T.a_World__fill T.fd_World__fill ["self", "tick", "next_id", "luck", "things"] (spFill K T.C_World) := by
  refine T.F_World__fill.ok sc_World__fill (fun vs H Q E h => ?_) (fun cdv A outer s H vs Q E hr h => ?_)
  · obtain ⟨_, _, _, _, _, _, rfl, _⟩ := h; rfl
  · obtain ⟨p, aT, dx, W, rs, fs, rfl, hp, hf, hT, hR, hl, hA, q⟩ := h
    refine ⟨_, (pss_cons (ps_fld (pv 0) (pv 1) rfl)
  (pss_cons (ps_fld (pv 0) (pv 2) rfl)
  (pss_cons (ps_fld (pv 0) (pv 3) rfl)
  (pss_cons (ps_fld (pv 0) (pv 4) rfl)
  (pss_cons (ps_fld (pv 0) (pe_callTy c_tupL (by rfl) T.z_tuple (by decide +kernel) (pa_cons (pe_lc (own := [("thing", 5)]) (g := gName 5) (by rfl) sc_World__fill.nd (pi_tup (pv 4)) (blkOk_by (own := [("thing", 5)]) (N := ["self", "tick", "next_id", "luck", "things", "thing"]) (sc := defScope s_World__fill) (by decide +kernel)) (fun _ _ _ _ _ => pg_name (i := 5) sc_World__fill.nd rfl (Or.inl rfl)) (fun _ _ _ _ _ => pts_nil) (fun _ _ _ _ _ => (pe_ix (ix_tupK (K := K) rfl) (pv 5) pe_int (fun _ _ => rfl)))) pa_nil)) rfl)
  (pss_one (ps_fld (pv 0) (pe_dc (own := [("thing", 5)]) (g := gName 5) (by rfl) sc_World__fill.nd (pi_tup (pv 4)) (blkOk_by (own := [("thing", 5)]) (N := ["self", "tick", "next_id", "luck", "things", "thing"]) (sc := defScope s_World__fill) (by decide +kernel)) (fun _ _ _ _ _ => pg_name (i := 5) sc_World__fill.nd rfl (Or.inl rfl)) (fun _ _ _ _ _ => pts_nil) (fun _ _ _ _ _ => (pe_ix (ix_tupK (K := K) rfl) (pv 5) pe_int (fun _ _ => rfl))) (fun _ _ _ _ _ => (pv 5))) rfl))))))), ?_⟩
    have l0 := hf.len
    have cl := T.cl_World
    refine q_fld (ev_var rfl) (ev_var rfl) hp cl T.n_World_tick (by omega) fun H1 e1 => ?_
    have x1 := (Exd.of (p := p) e1).trans (Exd.upd (p := p) (o := .ins T.C_World dx (putF "tick" (.int W.t) fs)))
    have l1 := len_putF "tick" (.int W.t) fs
    generalize hg1 : putF "tick" (.int W.t) fs = f1 at *
    refine q_fld (ev_var rfl) (ev_var rfl) upd_same cl T.n_World_next_id (by omega) fun H2 e2 => ?_
    have x2 := (x1.trans (Exd.of e2)).trans (Exd.upd (p := p) (o := .ins T.C_World dx (putF "next_id" (.int W.n) f1)))
    have l2 := len_putF "next_id" (.int W.n) f1
    generalize hg2 : putF "next_id" (.int W.n) f1 = f2 at *
    refine q_fld (ev_var rfl) (ev_var rfl) upd_same cl T.n_World_luck (by omega) fun H3 e3 => ?_
    have x3 := (x2.trans (Exd.of e3)).trans (Exd.upd (p := p) (o := .ins T.C_World dx (putF "luck" (.int W.l) f2)))
    have l3 := len_putF "luck" (.int W.l) f2
    generalize hg3 : putF "luck" (.int W.l) f2 = f3 at *
    refine q_fld (ev_var rfl) (ev_var rfl) upd_same cl T.n_World_things (by omega) fun H4 e4 => ?_
    have x4 := (x3.trans (Exd.of e4)).trans (Exd.upd (p := p) (o := .ins T.C_World dx (putF "things" (.ref aT) f3)))
    have l4 := len_putF "things" (.ref aT) f3
    generalize hg4 : putF "things" (.ref aT) f3 = f4 at *
    have hT4 := x4.ti hp hT
    have hR4 := hR.ti x4 hp
    refine q_fldU (xs := (Tg.ids W.ts).map V.int) (eu_tupL (by
      have e : (Tg.ids W.ts).map V.int = (W.ts.filter fun _ => true).map (fun t => V.int t.id) := by
        rw [List.filter_eq_self.mpr (fun _ _ => rfl)]
        unfold Tg.ids
        rw [List.map_map]
        rfl
      rw [e]
      exact el_lcTs (fun _ => true) (fun _ t => V.int t.id) (fun t => V.int t.id) (ev_var rfl) hT4 hR4 (by omega) (fun _ => rfl) (fun r t H1 e1 _ _ => et_yes) fun r t H1 e1 hA _ _ => ev_tg0 (ev_var rfl) hA)) (fun _ => ev_var rfl) upd_same cl T.n_World_order (by omega) fun aO H5 _ e5 hO => ?_
    have x5 := (x4.trans (Exd.of e5)).trans (Exd.upd (p := p) (o := .ins T.C_World dx (putF "order" (.ref aO) f4)))
    have l5 := len_putF "order" (.ref aO) f4
    have hpO : aO ≠ p := fun z => by
      have := e5 _ _ (upd_same (H := H4) (a := p) (o := .ins T.C_World dx f4))
      rw [← z, hO] at this
      cases this
    have hO5 : (upd H5 p (.ins T.C_World dx (putF "order" (.ref aO) f4))) aO = some (.tup ((Tg.ids W.ts).map V.int)) := by rw [upd_ne hpO]; exact hO
    generalize hg5 : putF "order" (.ref aO) f4 = f5 at *
    have hT5 := x5.ti hp hT
    have hR5 := hR.ti x5 hp
    have hlen : (rs.map V.ref).length = W.ts.length := by rw [List.length_map, hR.1]
    refine s_fldK (kvs := tab rs W.ts) ?_ (fun _ => ev_var rfl) upd_same cl T.n_World_table (by omega) fun aD H6 _ e6 hD => ?_
    · have e : tab rs W.ts = (fun i => tab (rs.take i) (W.ts.take i)) (rs.map V.ref).length := by
        show _ = tab (rs.take (rs.map V.ref).length) (W.ts.take (rs.map V.ref).length)
        rw [hlen, List.take_of_length_le (by rw [hR.1]; exact Nat.le_refl _), List.take_of_length_le (Nat.le_refl _)]
      rw [e]
      refine ek_dcT (fun i => tab (rs.take i) (W.ts.take i)) rfl (ev_var rfl) hT5 (fun i hi => ?_) (fun _ => rfl) fun i x H7 e7 hx => ?_
      · rw [tab_len _ _ (by rw [List.length_take, List.length_take, hR.1]), List.length_take]
        omega
      · obtain ⟨r, t, rfl, h1, h2, hA7⟩ := hR5.at hx
        refine ⟨.inl t.id, .ref r, ev_tg0 (ev_var rfl) (hA7.ex e7), fun H8 _ => ev_var rfl, ?_⟩
        have e1 := take_succ h1
        have e2 := take_succ h2
        have nd := hA.nodup
        rw [putK_new, e1, e2, tab_app _ _ _ _ (by rw [List.length_take, List.length_take, hR.1])]
        refine tab_no _ _ _ fun t' ht' z => ?_
        have nd' : (Tg.ids (W.ts.take (i + 1))).Nodup := by
          have : (Tg.ids (W.ts.take (i + 1))).Sublist (Tg.ids W.ts) := (List.take_sublist _ _).map _
          exact this.nodup nd
        rw [e2] at nd'
        unfold Tg.ids at nd'
        rw [List.map_append] at nd'
        exact (List.nodup_append.mp nd').2.2 _ (List.mem_map_of_mem ht') _ (List.mem_singleton.mpr rfl) z
    · have x6 := (x5.trans (Exd.of e6)).trans (Exd.upd (p := p) (o := .ins T.C_World dx (putF "table" (.ref aD) f5)))
      have hpD : aD ≠ p := fun z => by
        have := e6 _ _ (upd_same (H := H5) (a := p) (o := .ins T.C_World dx f5))
        rw [← z, hD] at this
        cases this
      refine q _ aO aD x6 ⟨⟨dx, ?_⟩, x6.ti hp hT, hR.ti x6 hp, st_of ?_, by rw [upd_ne hpD]; exact hD⟩
      · rw [upd_same, ← hg5, ← hg4, ← hg3, ← hg2, ← hg1, fs_fin hf]
      · rw [upd_ne hpO]
        exact e6 _ _ hO5
end
end Kz
set_option Elab.async false
set_option linter.all false
set_option maxRecDepth 100000
set_option maxHeartbeats 4000000
set_option exponentiation.threshold 500
namespace Kz
open PySem PySem.Spec PyProof.Rows L2 Evl Vr
local macro_rules | `(tactic| walk_at "sc") => `(tactic| first | (with_reducible assumption) | (with_reducible exact sc_mul (by omega)) | (with_reducible exact sc_mulr (by omega)) | (with_reducible exact sc_div (by omega) (by decide)) | (show (0 : Int) < _; omega) | (show _ ≠ (0 : Int); omega) | (with_reducible rfl) | decide)
local macro_rules | `(tactic| walk_at "sq") => `(tactic| first | assumption | exact sq_of (by assumption) | exact st_of (by assumption))
local macro_rules | `(tactic| walk_at "pl") => `(tactic| first | assumption | exact pl_int | exact pl_bl | exact pl_str | exact pl_non | exact pl_lst (by assumption) | exact pl_tup (by assumption) | exact pl_dK (by assumption))
local macro_rules | `(tactic| walk_at "rv") => `(tactic| first
  | with_reducible exact rv_I0
  | with_reducible exact ru_neg
  | ((with_reducible apply rv_I); walk_at "sc")
  | ((with_reducible apply rv_ixL); walk_at "sq"; first | rfl | assumption)
  | ((with_reducible apply rv_ixT); walk_at "sq"; first | rfl | assumption)
  | ((with_reducible apply rv_eq); rfl) | ((with_reducible apply rv_ne); rfl))
local macro_rules | `(tactic| walk_at "rc") => `(tactic| first
  | with_reducible exact rc_I1 | with_reducible exact rc_B1 | with_reducible exact rc_I2 | ((with_reducible apply rc_repr); walk_at "sc") | ((with_reducible apply rc_lenL); walk_at "sq")
  | ((with_reducible apply rc_isiInt); walk_at "pl") | ((with_reducible apply rc_isiBool); walk_at "pl"))
local macro_rules | `(tactic| walk_at "ea") => `(tactic| first
  | with_reducible exact ea_nil | ((with_reducible apply ea_cons); walk_at "ev"; walk_at "ea"))
local macro_rules | `(tactic| walk_at "pow") => `(tactic| first
  | with_reducible exact ev_pow (a := 10) (b := 9) (c := 1000000000) (by decide +kernel) (by decide +kernel)
  | with_reducible exact ev_pow (a := 10) (b := 10) (c := 10000000000) (by decide +kernel) (by decide +kernel)
  | with_reducible exact ev_pow (a := 10) (b := 12) (c := 1000000000000) (by decide +kernel) (by decide +kernel)
  | with_reducible exact ev_pow (a := 10) (b := 17) (c := 100000000000000000) (by decide +kernel) (by decide +kernel)
  | with_reducible exact ev_pow (a := 10) (b := 20) (c := 100000000000000000000) (by decide +kernel) (by decide +kernel)
  | with_reducible exact ev_pow (a := 10) (b := 29) (c := 100000000000000000000000000000) (by decide +kernel) (by decide +kernel)
  | with_reducible exact ev_pow (a := 10) (b := 30) (c := 1000000000000000000000000000000) (by decide +kernel) (by decide +kernel)
  | with_reducible exact ev_pow (a := 10) (b := 40) (c := 10000000000000000000000000000000000000000) (by decide +kernel) (by decide +kernel)
  | with_reducible exact ev_pow (a := 10) (b := 57) (c := 1000000000000000000000000000000000000000000000000000000000) (by decide +kernel) (by decide +kernel)
  | with_reducible exact ev_pow (a := 10) (b := 58) (c := 10000000000000000000000000000000000000000000000000000000000) (by decide +kernel) (by decide +kernel)
  | with_reducible exact ev_pow (a := 10) (b := 59) (c := 100000000000000000000000000000000000000000000000000000000000) (by decide +kernel) (by decide +kernel)
  | with_reducible exact ev_pow (a := 10) (b := 60) (c := 1000000000000000000000000000000000000000000000000000000000000) (by decide +kernel) (by decide +kernel))
local macro_rules | `(tactic| walk_at "call") => `(tactic| (intro H9 e9; first | exact ⟨_, rfl, rfl⟩ | exact ⟨_, _, rfl, rfl⟩ | exact ⟨_, _, _, rfl, rfl⟩ | exact ⟨_, rfl, by walk_at "pl", rfl⟩ | (refine ⟨_, _, _, rfl, ?_, rfl⟩; first | exact Plain.ex e9 (by assumption) | walk_at "pl") | (refine ⟨_, rfl, ?_, rfl⟩; first | exact Plain.ex e9 (by assumption) | walk_at "pl")))
local macro_rules | `(tactic| walk_at "ev") => `(tactic| first
  | with_reducible exact ev_c
  | exact ev_var rfl
  | walk_at "pow"
  | ((with_reducible apply ev_op); walk_at "ev"; walk_at "ev"; walk_at "rv")
  | ((with_reducible apply ev_un); walk_at "ev"; walk_at "rv")
  | ((with_reducible apply ev_cb); walk_at "ea"; walk_at "rc")
  | ((with_reducible apply ev_callP); walk_at "ea"; walk_at "call")
  | ((with_reducible apply ev_chain); walk_at "ev"; walk_at "ev"; walk_at "rv"; walk_at "ev"; walk_at "rv")
  | ((with_reducible apply ev_andV); walk_at "ev"; intro _; walk_at "ev")
  | ((with_reducible apply ev_orV); walk_at "ev"; intro _; walk_at "ev")
  | ((with_reducible apply ev_ite); walk_at "et"; intro _; walk_at "ev"; intro _; walk_at "ev")
  | ((with_reducible apply ev_notV); walk_at "ev"))
local macro_rules | `(tactic| walk_at "et") => `(tactic| first
  | ((with_reducible apply et_test); walk_at "ev")
  | ((with_reducible apply et_B); walk_at "ev")
  | ((with_reducible apply et_and); walk_at "et"; intro _; walk_at "et")
  | ((with_reducible apply et_or); walk_at "et"; intro _; walk_at "et")
  | ((with_reducible apply et_not); walk_at "et"))
open En Wo
def W0 : Wd := ⟨0, 0, 0, []⟩
/-- a new world -/
def EvW (K : PySem.W.Frag) (C : Addr) (te : TE) (σ : L2.St) (H : Hp) (W : Wd) : Prop := ∀ H1, Ex H H1 → ∀ Q : VK, (∀ p H2, H1 p = none → Ex H1 H2 → WdAt K C H2 p W → Q (.ref p) H2) → te σ H1 Q
/-- promises of defs that answer with a new world -/
def Wnew (K : PySem.W.Frag) (C : Addr) (ok : List V → Hp → Wd → Prop) : Sp := fun vs H Q _ => ∃ W, ok vs H W ∧ ∀ p H', H p = none → Ex H H' → WdAt K C H' p W → Q (.ref p) H'
def spInit (K : PySem.W.Frag) (C : Addr) : Sp := fun vs H Q _ => ∃ (p aT dx : Addr) (W : Wd) (rs : List Addr), vs = [.ref p, .int W.t, .int W.n, .int W.l, .ref aT] ∧ H p = some (.ins C dx []) ∧ W.ok ∧ SqT K H aT (rs.map V.ref) ∧ RsAt K H rs W.ts ∧
  ∀ H' aO aD, Exd p H H' → WAt K C H' p W rs aT aO aD → Q .non H'
section
variable {σ : L2.St} {H : Hp} {te : TE} {ts : TA} {D : Ends} {K : PySem.W.Frag} {C : Addr} {tz : TS} {W : Wd} {E : XK}
theorem ew_make (h : EvAP ts σ H (fun vs H' => ∃ aT, vs = [.int W.t, .int W.n, .int W.l, .ref aT] ∧ TsAt K H' aT W.ts)) (ok : W.ok) : EvW K C (tMake C (spInit K C) [] E ts) σ H W := fun H1 e Q q => h H1 e _ fun vs H2 e2 ⟨aT, hv, rs, hT, hR⟩ x dx hx hdx hne => by
  have hn : (upd H2 dx (.own x)) x = none := by rw [upd_ne (Ne.symm hne)]; exact hx
  have eN : Ex H2 (upd (upd H2 dx (.own x)) x (.ins C dx [])) := (Ex.new hdx).trans (Ex.new hn)
  rw [List.append_nil, hv]
  exact ⟨x, aT, dx, W, rs, rfl, upd_same, ok, ex_t eN hT, hR.ex eN, fun H' aO aD xd hW => ⟨rfl, q x H' (fresh_back e2 hx) (xd.out (e2.trans eN) (fresh_back e2 hx)) ⟨rs, aT, aO, aD, hW⟩⟩⟩
theorem ew_call {ok : List V → Hp → Wd → Prop} {P : List V → Hp → Prop} (h : EvAP ts σ H P) (ho : ∀ vs H1, Ex H H1 → P vs H1 → ok vs H1 W) : EvW K C (tCall (Wnew K C ok) [] E ts) σ H W := fun H1 e Q q => h H1 e _ fun vs H2 e2 hp => by
  show Wnew K C ok (vs ++ []) H2 Q E
  rw [List.append_nil]
  exact ⟨W, ho vs H2 (e.trans e2) hp, fun p H3 hp e3 h3 => q p H3 (fresh_back e2 hp) (e2.trans e3) h3⟩
theorem ap_of {vs : List V} (h : EvA ts σ H vs) : EvAP ts σ H (fun us _ => us = vs) := fun H1 e Q q => h H1 e Q fun H2 e2 => q vs H2 e2 rfl
theorem q_asgW {i : Nat} (h : EvW K C te σ H W) (k : ∀ p H1, H p = none → Ex H H1 → WdAt K C H1 p W → tz D (σ.set i (some (.ref p))) H1) : tSeq (tAsg te (gName i)) tz D σ H := h H (Ex.refl H) _ fun p H1 hp e hW => k p H1 hp e hW
theorem s_retW (h : EvW K C te σ H W) (k : ∀ p H1, H p = none → Ex H H1 → WdAt K C H1 p W → D.rt (.ref p) H1) : tRet te D σ H := h H (Ex.refl H) _ fun p H1 hp e hW => k p H1 hp e hW
end
theorem w0_ok : W0.ok := ⟨⟨by decide, by decide⟩, ⟨by decide, by decide⟩, ⟨by decide, by decide⟩, ⟨by decide, fun _ h => by cases h⟩, List.pairwise_singleton ..⟩
def inW (W : Wd) : V → Bool
  | .int i => decide (i ∈ Tg.ids W.ts)
  | _ => false
theorem tab_some : ∀ (rs : List Addr) (ts : List Tg) (i : Int), rs.length = ts.length → (valV (tab rs ts) (.inl i : Key)).isSome = decide (i ∈ Tg.ids ts)
  | [], [], _, _ => rfl
  | [], _ :: _, _, h => by cases h
  | _ :: _, [], _, h => by cases h
  | r :: rs, t :: ts, i, h => by
    show (valV ((Sum.inl t.id, V.ref r) :: tab rs ts) (.inl i : Key)).isSome = decide (i ∈ t.id :: Tg.ids ts)
    by_cases e : t.id = i
    · rw [valV_pos (by rw [← e])]
      simp [e]
    · rw [valV_neg (fun z => e (Sum.inl.inj z)), tab_some rs ts i (by simpa using h)]
      simp [Ne.symm e]
section
variable {P : Program} {w : World} {K : PySem.W.Frag} {mg : Str → Option Value} {base : Heap}
theorem ok_init (T : Txt K mg w) : FnOk P w K mg base CX0 7 T.a_World___init__ T.fd_World___init__ ["self", "tick", "next_id", "luck", "things"] (spInit K T.C_World) := by
  have G_is_whole := ok_is_whole (P := P) (w := w) (base := base) T
  have G_is_luck := ok_is_luck (P := P) (w := w) (base := base) T
  have G_are_things := ok_are_things (P := P) (w := w) (base := base) T
  have G_are_in_sequence := ok_are_in_sequence (P := P) (w := w) (base := base) T
  have G_World__fill := ok_fill (P := P) (w := w) (base := base) T
  refine T.F_World___init__.ok sc_World___init__ (fun vs H Q E h => ?_) (fun cdv A outer s H vs Q E hr h => ?_)
  · obtain ⟨_, _, _, _, _, rfl, _⟩ := h; rfl
  · obtain ⟨p, aT, dx, W, rs, rfl, hp, ⟨k1, k2, ⟨k3, k4⟩, k5, k6⟩, hT, hR, q⟩ := h
    refine ⟨_, (pss_cons (ps_if (pt_not (PW.pt (pw_and (pt_val (pe_call G_is_whole (hr.mono (by decide)) (by rfl) T.g_is_whole T.F_is_whole.kp T.b_is_whole .nil pass0 (pa_cons (pv 1) pa_nil))) (pw_and (pt_val (pe_call G_is_whole (hr.mono (by decide)) (by rfl) T.g_is_whole T.F_is_whole.kp T.b_is_whole .nil pass0 (pa_cons (pv 2) pa_nil))) (pw_and (pt_val (pe_call G_is_luck (hr.mono (by decide)) (by rfl) T.g_is_luck T.F_is_luck.kp T.b_is_luck .nil pass0 (pa_cons (pv 3) pa_nil))) (pw_and1 (pt_val (pe_call G_are_things (hr.mono (by decide)) (by rfl) T.g_are_things T.F_are_things.kp T.b_are_things .nil pass0 (pa_cons (pv 4) pa_nil))))))))) (pss_one ps_never) pss_nil)
  (pss_cons (ps_if (pt_not (pt_val (pe_call G_are_in_sequence (hr.mono (by decide)) (by rfl) T.g_are_in_sequence T.F_are_in_sequence.kp T.b_are_in_sequence .nil pass0 (pa_cons (pv 4) (pa_cons (pv 2) pa_nil))))) (pss_one ps_never) pss_nil)
  (pss_one (ps_expr (pe_meth (pv 0) T.cl_World T.m_World__fill G_World__fill (hr.mono (by decide)) T.b_World__fill .nil pass0 (pa_cons (pv 1) (pa_cons (pv 2) (pa_cons (pv 3) (pa_cons (pv 4) pa_nil))))))))), ?_⟩
    refine q_when (b := false) (et_is (et_not (et_and (a := true) (b := true) (et_B (ev_callP (vs := [.int W.t]) (by walk_at "ea") fun H1 e1 => ⟨_, rfl, k1, rfl⟩)) fun _ => et_is (et_and (a := true) (b := true) (et_B (ev_callP (vs := [.int W.n]) (by walk_at "ea") fun H1 e1 => ⟨_, rfl, k2, rfl⟩)) fun _ => et_is (et_and (a := true) (b := true) (et_B (ev_callP (vs := [.int W.l]) (by walk_at "ea") fun H1 e1 => ⟨_, rfl, k3, k4, rfl⟩)) fun _ => et_B (ev_callP (vs := [.ref aT]) (by walk_at "ea") fun H1 e1 => ⟨aT, W.ts, rfl, ⟨rs, ex_t e1 hT, hR.ex e1⟩, k5, rfl⟩)) rfl) rfl)) rfl) (fun h => by cases h) fun _ H1 e1 => ?_
    refine q_when (b := false) (et_is (et_not (et_B (b := true) (ev_callP (vs := [.ref aT, .int W.n]) (by walk_at "ea") fun H2 e2 => ⟨aT, W.ts, W.n, rfl, ⟨rs, ex_t (e1.trans e2) hT, hR.ex (e1.trans e2)⟩, k5.1, k6, rfl⟩))) rfl) (fun h => by cases h) fun _ H2 e2 => ?_
    have e2 := e1.trans e2
    exact s_dropM (ev_var rfl) (e2 _ _ hp) rfl (fun H3 e3 => by walk_at "ea") fun H3 e3 => ⟨p, aT, dx, W, rs, [], rfl, (e2.trans e3) _ _ hp, .inl rfl, ex_t (e2.trans e3) hT, hR.ex (e2.trans e3), k5.1, k6, fun H4 aO aD x4 h4 => q H4 aO aD ((Exd.of (e2.trans e3)).trans x4) h4⟩
def kWorldOf (K : PySem.W.Frag) (vs : List V) (H : Hp) (W : Wd) : Prop := ∃ aT, vs = [.int W.t, .int W.n, .int W.l, .ref aT] ∧ TsAt K H aT W.ts ∧ W.ts.length ≤ 12 ∧ Asc W.ts W.n
theorem ok_world_of (T : Txt K mg w) : FnOk P w K mg base CX0 9 T.a_world_of T.fd_world_of ["tick", "next_id", "luck", "things"] (Wnew K T.C_World (kWorldOf K)) := by
  have G_World___init__ := ok_init (P := P) (w := w) (base := base) T
  have G_World__fill := ok_fill (P := P) (w := w) (base := base) T
  refine T.F_world_of.ok sc_world_of (fun vs H Q E h => ?_) (fun cdv A outer s H vs Q E hr h => ?_)
  · obtain ⟨_, ⟨_, rfl, _⟩, _⟩ := h; rfl
  · obtain ⟨W, ⟨aT, rfl, ⟨rs, hT, hR⟩, hl, hA⟩, q⟩ := h
    refine ⟨_, (pss_cons (ps_set (i := 4) sc_world_of.nd rfl (.inl rfl) (pe_make T.mk_World G_World___init__ (hr.mono (by decide)) (by rfl) T.g_World T.b_World___init__ .nil pass0 (pa_cons pe_int (pa_cons pe_int (pa_cons pe_int (pa_cons (pe_tup pa_nil) pa_nil))))))
  (pss_cons (ps_expr (pe_meth (pv 4) T.cl_World T.m_World__fill G_World__fill (hr.mono (by decide)) T.b_World__fill .nil pass0 (pa_cons (pv 0) (pa_cons (pv 1) (pa_cons (pv 2) (pa_cons (pv 3) pa_nil))))))
  (pss_one (ps_ret (pv 4))))), ?_⟩
    refine q_asgW (W := W0) (ew_make ((ap_cons ev_c (ap_cons ev_c (ap_cons ev_c (ap_consU (eu_tup ea_nil (by decide)) ap_nil)))).mono fun vs H1 ⟨_, h1, _, h2, _, h3, t, _, h4, ht, h5⟩ => ⟨t, by rw [h1, h2, h3, h4, h5]; rfl, [], st_of ht, rfl, fun i r t' h _ => by cases h⟩) w0_ok) fun p H1 hp e1 hW => ?_
    obtain ⟨_, _, _, _, ⟨dx, hob⟩, _, _, _, _⟩ := hW
    refine q_dropM (ev_var rfl) hob rfl (fun H3 e3 => by walk_at "ea") fun H3 e3 => ⟨p, aT, dx, W, rs, _, rfl, e3 _ _ hob, .inr ⟨W0, _, _, _, rfl⟩, ex_t (e1.trans e3) hT, hR.ex (e1.trans e3), hl, hA, fun H4 aO aD x4 h4 => ?_⟩
    exact s_ret (ev_var rfl) fun H5 e5 => q p H5 hp ((x4.out (e1.trans e3) hp).trans e5) ⟨rs, aT, aO, aD, h4.ex e5⟩
/-! ### the looks at a world -/
def kIn (K : PySem.W.Frag) (C : Addr) (vs : List V) (H : Hp) (z : V) : Prop := ∃ (p : Addr) (x : V) (W : Wd), vs = [.ref p, x] ∧ WdAt K C H p W ∧ Plain K H x ∧ z = .bl (inW W x)
theorem ok_contains (T : Txt K mg w) : FnOk P w K mg base CX0 1 T.a_World___contains__ T.fd_World___contains__ ["self", "value"] (Pure (kIn K T.C_World)) := by
  refine T.F_World___contains__.ok sc_World___contains__ (fun vs H Q E h => ?_) (fun cdv A outer s H vs Q E hr h => ?_)
  · obtain ⟨_, ⟨_, _, _, rfl, _⟩, _⟩ := h; rfl
  · obtain ⟨_, ⟨p, x, W, rfl, ⟨rs, aT, aO, aD, ⟨dx, hob⟩, hT, hR, hO, hD⟩, hx, rfl⟩, q⟩ := h
    refine ⟨_, (pss_one (ps_ret (pe_and (pe_callB call_isi (by rfl) T.z_isinstance (by decide +kernel) (pa_cons (pv 1) (pa_cons (pe_bltn (v := .ty "int") (by rfl) T.z_int (by decide +kernel) rfl) pa_nil))) (pe_and (pe_not (pe_callB call_isi (by rfl) T.z_isinstance (by decide +kernel) (pa_cons (pv 1) (pa_cons (pe_bltn (v := .ty "bool") (by rfl) T.z_bool (by decide +kernel) rfl) pa_nil)))) (pe_one (pe_cmp (pc_din (hu_of hr) (pv 1) (pe_fld (pv 0) rfl)) rfl)))))), ?_⟩
    refine s_ret (v := .bl (inW W x)) ?_ q
    have i1 : ∀ {H1 σ}, Ex H H1 → σ[1]? = some (some x) → Ev (tCB (rIsi K) (tCons (tVar 1) (tCons (tC (.ty "int")) tNil))) σ H1 (.bl (isIB x)) := fun e h => ev_cb (ea_cons (ev_var h) (ea_cons ev_c ea_nil)) (rc_isiInt (hx.ex e))
    have i2 : ∀ {H1 σ}, Ex H H1 → σ[1]? = some (some x) → Ev (tCB (rIsi K) (tCons (tVar 1) (tCons (tC (.ty "bool")) tNil))) σ H1 (.bl (isB x)) := fun e h => ev_cb (ea_cons (ev_var h) (ea_cons ev_c ea_nil)) (rc_isiBool (hx.ex e))
    cases x with
    | int i =>
      exact ev_is (ev_andV (a := true) (b := decide (i ∈ Tg.ids W.ts)) (i1 (Ex.refl H) rfl) fun _ => ev_is (ev_andV (a := true) (b := decide (i ∈ Tg.ids W.ts)) (ev_is (ev_notV (i2 (Ex.refl H) rfl)) rfl) fun _ => ev_is (ev_din (k := .inl i) (ev_var rfl) (ev_fld (ev_var rfl) hob T.cl_World T.n_World_table rfl) hD) (by rw [tab_some _ _ _ hR.1])) (by simp)) (by simp [inW])
    | bl b => exact ev_is (ev_andV (a := true) (b := false) (i1 (Ex.refl H) rfl) fun _ => ev_is (ev_andV (a := false) (b := false) (ev_is (ev_notV (i2 (Ex.refl H) rfl)) rfl) (fun h => by cases h)) rfl) rfl
    | non => exact ev_is (ev_andV (a := false) (b := false) (i1 (Ex.refl H) rfl) (fun h => by cases h)) rfl
    | str _ => exact ev_is (ev_andV (a := false) (b := false) (i1 (Ex.refl H) rfl) (fun h => by cases h)) rfl
    | byt _ => exact ev_is (ev_andV (a := false) (b := false) (i1 (Ex.refl H) rfl) (fun h => by cases h)) rfl
    | flt _ => exact ev_is (ev_andV (a := false) (b := false) (i1 (Ex.refl H) rfl) (fun h => by cases h)) rfl
    | ref _ => exact ev_is (ev_andV (a := false) (b := false) (i1 (Ex.refl H) rfl) (fun h => by cases h)) rfl
    | ty _ => exact ev_is (ev_andV (a := false) (b := false) (i1 (Ex.refl H) rfl) (fun h => by cases h)) rfl
def kLen (K : PySem.W.Frag) (C : Addr) (vs : List V) (H : Hp) (z : V) : Prop := ∃ (p : Addr) (W : Wd), vs = [.ref p] ∧ WdAt K C H p W ∧ z = .int W.ts.length
theorem ok_len (T : Txt K mg w) : FnOk P w K mg base CX0 1 T.a_World___len__ T.fd_World___len__ ["self"] (Pure (kLen K T.C_World)) := by
  refine T.F_World___len__.ok sc_World___len__ (fun vs H Q E h => ?_) (fun cdv A outer s H vs Q E hr h => ?_)
  · obtain ⟨_, ⟨_, _, rfl, _⟩, _⟩ := h; rfl
  · obtain ⟨_, ⟨p, W, rfl, ⟨rs, aT, aO, aD, ⟨dx, hob⟩, hT, hR, hO, hD⟩, rfl⟩, q⟩ := h
    refine ⟨_, (pss_one (ps_ret (pe_callB c_len (by rfl) T.z_len PySem.boot_len (pa_cons (pe_fld (pv 0) rfl) pa_nil)))), ?_⟩
    refine s_ret (v := .int W.ts.length) (ev_is (ev_cb (vs := [.ref aT]) (ea_cons (ev_fld (ev_var rfl) hob T.cl_World T.n_World_things rfl) ea_nil) (rc_lenT hT)) (by rw [List.length_map, hR.1])) q
end
end Kz
set_option Elab.async false
set_option linter.all false
set_option maxRecDepth 100000
set_option maxHeartbeats 4000000
set_option exponentiation.threshold 500
namespace Kz
open PySem PySem.Spec PyProof.Rows L2 Evl Vr
local macro_rules | `(tactic| walk_at "sc") => `(tactic| first | (with_reducible assumption) | (with_reducible exact sc_mul (by omega)) | (with_reducible exact sc_mulr (by omega)) | (with_reducible exact sc_div (by omega) (by decide)) | (show (0 : Int) < _; omega) | (show _ ≠ (0 : Int); omega) | (with_reducible rfl) | decide)
local macro_rules | `(tactic| walk_at "sq") => `(tactic| first | assumption | exact sq_of (by assumption) | exact st_of (by assumption))
local macro_rules | `(tactic| walk_at "pl") => `(tactic| first | assumption | exact pl_int | exact pl_bl | exact pl_str | exact pl_non | exact pl_lst (by assumption) | exact pl_tup (by assumption) | exact pl_dK (by assumption))
local macro_rules | `(tactic| walk_at "rv") => `(tactic| first
  | with_reducible exact rv_I0
  | with_reducible exact ru_neg
  | ((with_reducible apply rv_I); walk_at "sc")
  | ((with_reducible apply rv_ixL); walk_at "sq"; first | rfl | assumption)
  | ((with_reducible apply rv_ixT); walk_at "sq"; first | rfl | assumption)
  | ((with_reducible apply rv_eq); rfl) | ((with_reducible apply rv_ne); rfl))
local macro_rules | `(tactic| walk_at "rc") => `(tactic| first
  | with_reducible exact rc_I1 | with_reducible exact rc_B1 | with_reducible exact rc_I2 | ((with_reducible apply rc_repr); walk_at "sc") | ((with_reducible apply rc_lenL); walk_at "sq")
  | ((with_reducible apply rc_isiInt); walk_at "pl") | ((with_reducible apply rc_isiBool); walk_at "pl"))
local macro_rules | `(tactic| walk_at "ea") => `(tactic| first
  | with_reducible exact ea_nil | ((with_reducible apply ea_cons); walk_at "ev"; walk_at "ea"))
local macro_rules | `(tactic| walk_at "pow") => `(tactic| first
  | with_reducible exact ev_pow (a := 10) (b := 9) (c := 1000000000) (by decide +kernel) (by decide +kernel)
  | with_reducible exact ev_pow (a := 10) (b := 10) (c := 10000000000) (by decide +kernel) (by decide +kernel)
  | with_reducible exact ev_pow (a := 10) (b := 12) (c := 1000000000000) (by decide +kernel) (by decide +kernel)
  | with_reducible exact ev_pow (a := 10) (b := 17) (c := 100000000000000000) (by decide +kernel) (by decide +kernel)
  | with_reducible exact ev_pow (a := 10) (b := 20) (c := 100000000000000000000) (by decide +kernel) (by decide +kernel)
  | with_reducible exact ev_pow (a := 10) (b := 29) (c := 100000000000000000000000000000) (by decide +kernel) (by decide +kernel)
  | with_reducible exact ev_pow (a := 10) (b := 30) (c := 1000000000000000000000000000000) (by decide +kernel) (by decide +kernel)
  | with_reducible exact ev_pow (a := 10) (b := 40) (c := 10000000000000000000000000000000000000000) (by decide +kernel) (by decide +kernel)
  | with_reducible exact ev_pow (a := 10) (b := 57) (c := 1000000000000000000000000000000000000000000000000000000000) (by decide +kernel) (by decide +kernel)
  | with_reducible exact ev_pow (a := 10) (b := 58) (c := 10000000000000000000000000000000000000000000000000000000000) (by decide +kernel) (by decide +kernel)
  | with_reducible exact ev_pow (a := 10) (b := 59) (c := 100000000000000000000000000000000000000000000000000000000000) (by decide +kernel) (by decide +kernel)
  | with_reducible exact ev_pow (a := 10) (b := 60) (c := 1000000000000000000000000000000000000000000000000000000000000) (by decide +kernel) (by decide +kernel))
local macro_rules | `(tactic| walk_at "call") => `(tactic| (intro H9 e9; first | exact ⟨_, rfl, rfl⟩ | exact ⟨_, _, rfl, rfl⟩ | exact ⟨_, _, _, rfl, rfl⟩ | exact ⟨_, rfl, by walk_at "pl", rfl⟩ | (refine ⟨_, _, _, rfl, ?_, rfl⟩; first | exact Plain.ex e9 (by assumption) | walk_at "pl") | (refine ⟨_, rfl, ?_, rfl⟩; first | exact Plain.ex e9 (by assumption) | walk_at "pl")))
local macro_rules | `(tactic| walk_at "ev") => `(tactic| first
  | with_reducible exact ev_c
  | exact ev_var rfl
  | walk_at "pow"
  | ((with_reducible apply ev_op); walk_at "ev"; walk_at "ev"; walk_at "rv")
  | ((with_reducible apply ev_un); walk_at "ev"; walk_at "rv")
  | ((with_reducible apply ev_cb); walk_at "ea"; walk_at "rc")
  | ((with_reducible apply ev_callP); walk_at "ea"; walk_at "call")
  | ((with_reducible apply ev_chain); walk_at "ev"; walk_at "ev"; walk_at "rv"; walk_at "ev"; walk_at "rv")
  | ((with_reducible apply ev_andV); walk_at "ev"; intro _; walk_at "ev")
  | ((with_reducible apply ev_orV); walk_at "ev"; intro _; walk_at "ev")
  | ((with_reducible apply ev_ite); walk_at "et"; intro _; walk_at "ev"; intro _; walk_at "ev")
  | ((with_reducible apply ev_notV); walk_at "ev"))
local macro_rules | `(tactic| walk_at "et") => `(tactic| first
  | ((with_reducible apply et_test); walk_at "ev")
  | ((with_reducible apply et_B); walk_at "ev")
  | ((with_reducible apply et_and); walk_at "et"; intro _; walk_at "et")
  | ((with_reducible apply et_or); walk_at "et"; intro _; walk_at "et")
  | ((with_reducible apply et_not); walk_at "et"))
open En Wo
section
variable {P : Program} {w : World} {K : PySem.W.Frag} {mg : Str → Option Value} {base : Heap}
/-- what isinstance says of a world -/
theorem rc_isiW (T : Txt K mg w) {H : Hp} {p dx : Addr} {fs : List (Str × V)} (h : H p = some (.ins T.C_World dx fs)) : RC (rIsi K) [.ref p, .ref T.C_World] H (.bl true) := fun H1 e Q q =>
  ⟨.ref p, .ref T.C_World, .ref T.C_World, .ref T.C_World, true, rfl, .own _, .base (.ins (e _ _ h) T.cl_World T.ha_World T.hn_World T.ht_World T.hm_World), by unfold PySem.W.kitOne; simp, q H1 (Ex.refl H1)⟩
theorem ok_need_world (T : Txt K mg w) : FnOk P w K mg base CX0 1 T.a_need_world T.fd_need_world ["value"] (Pure fun vs H z => ∃ (p : Addr) (W : Wd), vs = [.ref p] ∧ WdAt K T.C_World H p W ∧ z = .non) := by
  refine T.F_need_world.ok sc_need_world (fun vs H Q E h => ?_) (fun cdv A outer s H vs Q E hr h => ?_)
  · obtain ⟨_, ⟨_, _, rfl, _⟩, _⟩ := h; rfl
  · obtain ⟨_, ⟨p, W, rfl, ⟨rs, aT, aO, aD, ⟨dx, hob⟩, _⟩, rfl⟩, q⟩ := h
    refine ⟨_, (pss_one (ps_if (pt_not (pt_val (pe_callB call_isi (by rfl) T.z_isinstance (by decide +kernel) (pa_cons (pv 0) (pa_cons (pe_glob (v := .ref _) rfl T.g_World rfl) pa_nil))))) (pss_one ps_never) pss_nil)), ?_⟩
    exact s_when (b := false) (et_is (et_not (et_B (ev_cb (vs := [.ref p, .ref T.C_World]) (by walk_at "ea") (rc_isiW T hob)))) rfl) (fun h => by cases h) (fun _ H1 e1 => q H1 e1)
theorem in_world (T : Txt K mg w) {H : Hp} {p : Addr} {W : Wd} {i : Int} {E : XK} (h : WdAt K T.C_World H p W) (hi : i ∈ Tg.ids W.ts) : RV (rNiO T.C_World (Pure (kIn K T.C_World)) E) (.int i) (.ref p) H (.bl false) := by
  obtain ⟨rs, aT, aO, aD, ⟨dx, hob⟩, hT, hR, hO, hD⟩ := h
  have h1 := rv_niO (E := E) (x := .int i) (b := true) (ok := kIn K T.C_World) hob fun H1 e => ⟨p, .int i, W, rfl, ⟨rs, aT, aO, aD, ⟨dx, e _ _ hob⟩, ex_t e hT, hR.ex e, ex_t e hO, e _ _ hD⟩, pl_int, by simp [inW, hi]⟩
  exact h1
theorem ok_need_thing (T : Txt K mg w) : FnOk P w K mg base CX0 2 T.a_need_thing T.fd_need_thing ["world", "thing"] (Pure fun vs H z => ∃ (p : Addr) (W : Wd) (i : Int), vs = [.ref p, .int i] ∧ WdAt K T.C_World H p W ∧ i ∈ Tg.ids W.ts ∧ z = .non) := by
  have G_World___contains__ := ok_contains (P := P) (w := w) (base := base) T
  refine T.F_need_thing.ok sc_need_thing (fun vs H Q E h => ?_) (fun cdv A outer s H vs Q E hr h => ?_)
  · obtain ⟨_, ⟨_, _, _, rfl, _⟩, _⟩ := h; rfl
  · obtain ⟨_, ⟨p, W, i, rfl, hW, hi, rfl⟩, q⟩ := h
    refine ⟨_, (pss_one (ps_if (pt_cmpR (op_niO G_World___contains__ (hr.mono (by decide)) T.m_World___contains__ T.b_World___contains__ pass0) (pv 1) (pv 0) (by rfl)) (pss_one ps_never) pss_nil)), ?_⟩
    exact s_when (b := false) (et_test (ev_op (ev_var rfl) (ev_var rfl) (in_world T hW hi))) (fun h => by cases h) (fun _ H1 e1 => q H1 e1)
/-- the thing at the place j -/
structure ThAt (K : PySem.W.Frag) (C : Addr) (H : Hp) (p : Addr) (W : Wd) (t : Tg) (rn : Addr) : Prop where
  ex : ∃ (rs : List Addr) (aT aO aD : Addr) (j : Nat) (r : Addr), WAt K C H p W rs aT aO aD ∧ rs[j]? = some r ∧ W.ts[j]? = some t ∧ SqT K H r [.int t.id, .str t.kd, .ref rn] ∧ NsAt K H rn t.ns
theorem ThAt.mono {C p rn : Addr} {H H' : Hp} {W : Wd} {t : Tg} (e : Ex H H') (h : ThAt K C H p W t rn) : ThAt K C H' p W t rn := by
  obtain ⟨rs, aT, aO, aD, j, r, h1, h2, h3, h4, h5⟩ := h
  exact ⟨rs, aT, aO, aD, j, r, h1.ex e, h2, h3, ex_t e h4, ex_t e h5⟩
theorem WdAt.thing {C p : Addr} {H : Hp} {W : Wd} {t : Tg} (h : WdAt K C H p W) (ht : t ∈ W.ts) : ∃ rn, ThAt K C H p W t rn := by
  obtain ⟨rs, aT, aO, aD, hW⟩ := h
  obtain ⟨j, hj⟩ := List.getElem?_of_mem ht
  have hjl : j < rs.length := by have := (List.getElem?_eq_some_iff.mp hj).1; have := hW.ra.1; omega
  obtain ⟨rn, h1, h2⟩ := hW.ra.2 j rs[j] t (List.getElem?_eq_getElem hjl) hj
  exact ⟨rn, rs, aT, aO, aD, j, rs[j], hW, List.getElem?_eq_getElem hjl, hj, h1, h2⟩
theorem ThAt.mem {C p rn : Addr} {H : Hp} {W : Wd} {t : Tg} (h : ThAt K C H p W t rn) : t ∈ W.ts ∧ t.id ∈ Tg.ids W.ts := by
  obtain ⟨rs, aT, aO, aD, j, r, h1, h2, h3, h4, h5⟩ := h
  exact ⟨List.mem_of_getElem? h3, List.mem_map_of_mem (List.mem_of_getElem? h3)⟩
def kKind (K : PySem.W.Frag) (C : Addr) (vs : List V) (H : Hp) (z : V) : Prop := ∃ (p : Addr) (W : Wd) (t : Tg) (rn : Addr), vs = [.ref p, .int t.id] ∧ ThAt K C H p W t rn ∧ (Tg.ids W.ts).Nodup ∧ z = .str t.kd
theorem ok_kind_of (T : Txt K mg w) : FnOk P w K mg base CX0 2 T.a_World_kind_of T.fd_World_kind_of ["self", "thing"] (Pure (kKind K T.C_World)) := by
  have G_World___contains__ := ok_contains (P := P) (w := w) (base := base) T
  refine T.F_World_kind_of.ok sc_World_kind_of (fun vs H Q E h => ?_) (fun cdv A outer s H vs Q E hr h => ?_)
  · obtain ⟨_, ⟨_, _, _, _, rfl, _⟩, _⟩ := h; rfl
  · obtain ⟨_, ⟨p, W, t, rn, rfl, hA, nd, rfl⟩, q⟩ := h
    refine ⟨_, (pss_cons (ps_if (pt_cmpR (op_niO G_World___contains__ (hr.mono (by decide)) T.m_World___contains__ T.b_World___contains__ pass0) (pv 1) (pv 0) (by rfl)) (pss_one ps_never) pss_nil)
  (pss_one (ps_ret (pe_ix ix_tup (pe_dget (hu_of hr) (pe_fld (pv 0) rfl) (pv 1) (fun _ _ => rfl)) pe_int (fun _ _ => rfl))))), ?_⟩
    have hm := hA.mem.2
    obtain ⟨rs, aT, aO, aD, j, r, hW, h2, h3, h4, h5⟩ := hA
    refine q_when (b := false) (et_test (ev_op (ev_var rfl) (ev_var rfl) (in_world T ⟨rs, aT, aO, aD, hW⟩ hm))) (fun h => by cases h) (fun _ H1 e1 => ?_)
    obtain ⟨⟨dx, hob⟩, _, _, _, hD⟩ := hW.ex e1
    exact s_ret (v := .str t.kd) (ev_op (ev_dget (k := .inl t.id) (ev_fld (ev_var rfl) hob T.cl_World T.n_World_table rfl) (ev_var rfl) hD (tab_at _ _ j r t nd h2 h3)) ev_c (rv_ixT (ex_t e1 h4) rfl)) fun H2 e2 => q H2 (e1.trans e2)
def kNums (K : PySem.W.Frag) (C : Addr) (vs : List V) (H : Hp) (z : V) : Prop := ∃ (p : Addr) (W : Wd) (t : Tg) (rn : Addr), vs = [.ref p, .int t.id] ∧ ThAt K C H p W t rn ∧ (Tg.ids W.ts).Nodup ∧ z = .ref rn
theorem ok_numbers_of (T : Txt K mg w) : FnOk P w K mg base CX0 2 T.a_World_numbers T.fd_World_numbers ["self", "thing"] (Pure (kNums K T.C_World)) := by
  have G_World___contains__ := ok_contains (P := P) (w := w) (base := base) T
  refine T.F_World_numbers.ok sc_World_numbers (fun vs H Q E h => ?_) (fun cdv A outer s H vs Q E hr h => ?_)
  · obtain ⟨_, ⟨_, _, _, _, rfl, _⟩, _⟩ := h; rfl
  · obtain ⟨_, ⟨p, W, t, rn, rfl, hA, nd, rfl⟩, q⟩ := h
    refine ⟨_, (pss_cons (ps_if (pt_cmpR (op_niO G_World___contains__ (hr.mono (by decide)) T.m_World___contains__ T.b_World___contains__ pass0) (pv 1) (pv 0) (by rfl)) (pss_one ps_never) pss_nil)
  (pss_one (ps_ret (pe_ix ix_tup (pe_dget (hu_of hr) (pe_fld (pv 0) rfl) (pv 1) (fun _ _ => rfl)) pe_int (fun _ _ => rfl))))), ?_⟩
    have hm := hA.mem.2
    obtain ⟨rs, aT, aO, aD, j, r, hW, h2, h3, h4, h5⟩ := hA
    refine q_when (b := false) (et_test (ev_op (ev_var rfl) (ev_var rfl) (in_world T ⟨rs, aT, aO, aD, hW⟩ hm))) (fun h => by cases h) (fun _ H1 e1 => ?_)
    obtain ⟨⟨dx, hob⟩, _, _, _, hD⟩ := hW.ex e1
    exact s_ret (v := .ref rn) (ev_op (ev_dget (k := .inl t.id) (ev_fld (ev_var rfl) hob T.cl_World T.n_World_table rfl) (ev_var rfl) hD (tab_at _ _ j r t nd h2 h3)) ev_c (rv_ixT (ex_t e1 h4) rfl)) fun H2 e2 => q H2 (e1.trans e2)
end
end Kz
set_option Elab.async false
set_option linter.all false
set_option maxRecDepth 100000
set_option maxHeartbeats 4000000
set_option exponentiation.threshold 500
namespace Kz
open PySem PySem.Spec PyProof.Rows L2 Evl Vr
local macro_rules | `(tactic| walk_at "sc") => `(tactic| first | (with_reducible assumption) | (with_reducible exact sc_mul (by omega)) | (with_reducible exact sc_mulr (by omega)) | (with_reducible exact sc_div (by omega) (by decide)) | (show (0 : Int) < _; omega) | (show _ ≠ (0 : Int); omega) | (with_reducible rfl) | decide)
local macro_rules | `(tactic| walk_at "sq") => `(tactic| first | assumption | exact sq_of (by assumption) | exact st_of (by assumption))
local macro_rules | `(tactic| walk_at "pl") => `(tactic| first | assumption | exact pl_int | exact pl_bl | exact pl_str | exact pl_non | exact pl_lst (by assumption) | exact pl_tup (by assumption) | exact pl_dK (by assumption))
local macro_rules | `(tactic| walk_at "rv") => `(tactic| first
  | with_reducible exact rv_I0
  | with_reducible exact ru_neg
  | ((with_reducible apply rv_I); walk_at "sc")
  | ((with_reducible apply rv_ixL); walk_at "sq"; first | rfl | assumption)
  | ((with_reducible apply rv_ixT); walk_at "sq"; first | rfl | assumption)
  | ((with_reducible apply rv_eq); rfl) | ((with_reducible apply rv_ne); rfl))
local macro_rules | `(tactic| walk_at "rc") => `(tactic| first
  | with_reducible exact rc_I1 | with_reducible exact rc_B1 | with_reducible exact rc_I2 | ((with_reducible apply rc_repr); walk_at "sc") | ((with_reducible apply rc_lenL); walk_at "sq")
  | ((with_reducible apply rc_isiInt); walk_at "pl") | ((with_reducible apply rc_isiBool); walk_at "pl"))
local macro_rules | `(tactic| walk_at "ea") => `(tactic| first
  | with_reducible exact ea_nil | ((with_reducible apply ea_cons); walk_at "ev"; walk_at "ea"))
local macro_rules | `(tactic| walk_at "pow") => `(tactic| first
  | with_reducible exact ev_pow (a := 10) (b := 9) (c := 1000000000) (by decide +kernel) (by decide +kernel)
  | with_reducible exact ev_pow (a := 10) (b := 10) (c := 10000000000) (by decide +kernel) (by decide +kernel)
  | with_reducible exact ev_pow (a := 10) (b := 12) (c := 1000000000000) (by decide +kernel) (by decide +kernel)
  | with_reducible exact ev_pow (a := 10) (b := 17) (c := 100000000000000000) (by decide +kernel) (by decide +kernel)
  | with_reducible exact ev_pow (a := 10) (b := 20) (c := 100000000000000000000) (by decide +kernel) (by decide +kernel)
  | with_reducible exact ev_pow (a := 10) (b := 29) (c := 100000000000000000000000000000) (by decide +kernel) (by decide +kernel)
  | with_reducible exact ev_pow (a := 10) (b := 30) (c := 1000000000000000000000000000000) (by decide +kernel) (by decide +kernel)
  | with_reducible exact ev_pow (a := 10) (b := 40) (c := 10000000000000000000000000000000000000000) (by decide +kernel) (by decide +kernel)
  | with_reducible exact ev_pow (a := 10) (b := 57) (c := 1000000000000000000000000000000000000000000000000000000000) (by decide +kernel) (by decide +kernel)
  | with_reducible exact ev_pow (a := 10) (b := 58) (c := 10000000000000000000000000000000000000000000000000000000000) (by decide +kernel) (by decide +kernel)
  | with_reducible exact ev_pow (a := 10) (b := 59) (c := 100000000000000000000000000000000000000000000000000000000000) (by decide +kernel) (by decide +kernel)
  | with_reducible exact ev_pow (a := 10) (b := 60) (c := 1000000000000000000000000000000000000000000000000000000000000) (by decide +kernel) (by decide +kernel))
local macro_rules | `(tactic| walk_at "call") => `(tactic| (intro H9 e9; first | exact ⟨_, rfl, rfl⟩ | exact ⟨_, _, rfl, rfl⟩ | exact ⟨_, _, _, rfl, rfl⟩ | exact ⟨_, rfl, by walk_at "pl", rfl⟩ | (refine ⟨_, _, _, rfl, ?_, rfl⟩; first | exact Plain.ex e9 (by assumption) | walk_at "pl") | (refine ⟨_, rfl, ?_, rfl⟩; first | exact Plain.ex e9 (by assumption) | walk_at "pl")))
local macro_rules | `(tactic| walk_at "ev") => `(tactic| first
  | with_reducible exact ev_c
  | exact ev_var rfl
  | walk_at "pow"
  | ((with_reducible apply ev_op); walk_at "ev"; walk_at "ev"; walk_at "rv")
  | ((with_reducible apply ev_un); walk_at "ev"; walk_at "rv")
  | ((with_reducible apply ev_cb); walk_at "ea"; walk_at "rc")
  | ((with_reducible apply ev_callP); walk_at "ea"; walk_at "call")
  | ((with_reducible apply ev_chain); walk_at "ev"; walk_at "ev"; walk_at "rv"; walk_at "ev"; walk_at "rv")
  | ((with_reducible apply ev_andV); walk_at "ev"; intro _; walk_at "ev")
  | ((with_reducible apply ev_orV); walk_at "ev"; intro _; walk_at "ev")
  | ((with_reducible apply ev_ite); walk_at "et"; intro _; walk_at "ev"; intro _; walk_at "ev")
  | ((with_reducible apply ev_notV); walk_at "ev"))
local macro_rules | `(tactic| walk_at "et") => `(tactic| first
  | ((with_reducible apply et_test); walk_at "ev")
  | ((with_reducible apply et_B); walk_at "ev")
  | ((with_reducible apply et_and); walk_at "et"; intro _; walk_at "et")
  | ((with_reducible apply et_or); walk_at "et"; intro _; walk_at "et")
  | ((with_reducible apply et_not); walk_at "et"))
open En Wo
def Wd.add (W : Wd) (kd : Str) (ns : List Int) : Wd := ⟨W.t, W.n + 1, W.l, W.ts ++ [⟨W.n, kd, ns⟩]⟩
def Wd.drop (W : Wd) (i : Int) : Wd := ⟨W.t, W.n, W.l, W.ts.filter fun t => !decide (t.id = i)⟩
def Tg.chg (i : Int) (ns : List Int) (t : Tg) : Tg := if t.id = i then ⟨t.id, t.kd, ns⟩ else t
def Wd.chg (W : Wd) (i : Int) (ns : List Int) : Wd := ⟨W.t, W.n, W.l, W.ts.map (Tg.chg i ns)⟩
theorem asc_add {ts : List Tg} {n : Int} (h : Asc ts n) (kd : Str) (ns : List Int) : Asc (ts ++ [⟨n, kd, ns⟩]) (n + 1) := by
  unfold Asc Tg.ids at *
  rw [List.map_append]
  rw [List.pairwise_append] at h ⊢
  obtain ⟨h1, h2, h3⟩ := h
  refine ⟨List.pairwise_append.mpr ⟨h1, List.pairwise_singleton .., fun a ha b hb => h3 a ha b hb⟩, List.pairwise_singleton .., fun a ha b hb => ?_⟩
  rw [List.mem_singleton.mp hb]
  rcases List.mem_append.mp ha with z | z
  · have := h3 a z n (List.mem_singleton.mpr rfl)
    omega
  · have e : a = n := by simpa using z
    omega
theorem asc_sub {ts ts' : List Tg} {n : Int} (h : Asc ts n) (hs : (Tg.ids ts').Sublist (Tg.ids ts)) : Asc ts' n := h.sublist (hs.append (List.Sublist.refl _))
theorem asc_drop {ts : List Tg} {n : Int} (h : Asc ts n) (f : Tg → Bool) : Asc (ts.filter f) n := asc_sub h (List.Sublist.map _ List.filter_sublist)
theorem chg_ids (i : Int) (ns : List Int) (ts : List Tg) : Tg.ids (ts.map (Tg.chg i ns)) = Tg.ids ts := by
  unfold Tg.ids
  rw [List.map_map]
  apply List.map_congr_left
  intro t _
  show (Tg.chg i ns t).id = t.id
  unfold Tg.chg
  split <;> rfl
theorem asc_chg {ts : List Tg} {n : Int} (h : Asc ts n) (i : Int) (ns : List Int) : Asc (ts.map (Tg.chg i ns)) n := by
  unfold Asc
  rw [chg_ids]
  exact h
/-- refs and things, chosen by the place -/
theorem pick_things {K : PySem.W.Frag} {H : Hp} {rs : List Addr} {ts : List Tg} (hR : RsAt K H rs ts) (f : Tg → Bool) : ∃ rs' : List Addr, given rs.length (fun i => f (ts.getD i ⟨0, "", []⟩)) (fun i => V.ref (rs.getD i 0)) = rs'.map V.ref ∧ RsAt K H rs' (ts.filter f) := by
  have hf : (ts.filter f) = ((List.range ts.length).filter fun i => f (ts.getD i ⟨0, "", []⟩)).map fun i => ts.getD i ⟨0, "", []⟩ := by
    have e : (List.range ts.length).map (fun i => ts.getD i ⟨0, "", []⟩) = ts := by
      apply List.ext_getElem
      · simp
      · intro i h1 h2
        simp [List.getD_eq_getElem?_getD, List.getElem?_eq_getElem h2]
    conv => lhs; rw [← e, List.filter_map]
    rfl
  refine ⟨((List.range rs.length).filter fun i => f (ts.getD i ⟨0, "", []⟩)).map fun i => rs.getD i 0, ?_, ?_, ?_⟩
  · unfold given
    rw [List.map_map]
    rfl
  · rw [hf, List.length_map, List.length_map, hR.1]
  · intro j r t h1 h2
    rw [hf] at h2
    rw [List.getElem?_map] at h1 h2
    rw [hR.1] at h1
    cases h : ((List.range ts.length).filter fun i => f (ts.getD i ⟨0, "", []⟩))[j]? with
    | none => rw [h] at h1; cases h1
    | some i =>
      rw [h] at h1 h2
      have hm := List.mem_of_getElem? h
      have hi : i < ts.length := by simpa using (List.mem_filter.mp hm).1
      have hi2 : i < rs.length := by rw [hR.1]; exact hi
      have e1 : r = rs[i] := by
        have : r = rs.getD i 0 := (Option.some.inj h1).symm
        rw [List.getD_eq_getElem?_getD, List.getElem?_eq_getElem hi2] at this
        exact this
      have e2 : t = ts[i] := by
        have : t = ts.getD i ⟨0, "", []⟩ := (Option.some.inj h2).symm
        rw [List.getD_eq_getElem?_getD, List.getElem?_eq_getElem hi] at this
        exact this
      rw [e1, e2]
      exact hR.2 i _ _ (List.getElem?_eq_getElem hi2) (List.getElem?_eq_getElem hi)
section
variable {σ : L2.St} {H : Hp} {te : TE} {ts : TA} {K : PySem.W.Frag} {C : Addr} {W : Wd}
theorem ap_consW {P : List V → Hp → Prop} (h : EvW K C te σ H W) (hr : EvAP ts σ H P) : EvAP (tCons te ts) σ H (fun vs H' => ∃ p ws, vs = .ref p :: ws ∧ WdAt K C H' p W ∧ P ws H') := fun H1 e Q q =>
  h H1 e _ fun p H2 hp e2 hW => hr H2 (e.trans e2) _ fun ws H3 e3 pw => q (.ref p :: ws) H3 (e2.trans e3) ⟨p, ws, rfl, hW.ex e3, pw⟩
end
section
variable {P : Program} {w : World} {K : PySem.W.Frag} {mg : Str → Option Value} {base : Heap}
theorem len_world (T : Txt K mg w) {H : Hp} {p : Addr} {W : Wd} {E : XK} {σ : L2.St} {te : TE} (h : WdAt K T.C_World H p W) (hl : W.ts.length ≤ 100) (ha : Ev te σ H (.ref p)) : Ev (tCB (rLenO T.C_World (Pure (kLen K T.C_World)) E) (tCons te tNil)) σ H (.int W.ts.length) := by
  obtain ⟨rs, aT, aO, aD, ⟨dx, hob⟩, h2, h3, h4, h5⟩ := h
  exact ev_cb (ea_cons ha ea_nil) (rc_lenO hob (by omega) (by omega) fun H1 e => ⟨p, W, rfl, ⟨rs, aT, aO, aD, ⟨dx, e _ _ hob⟩, ex_t e h2, h3.ex e, ex_t e h4, e _ _ h5⟩, rfl⟩)
/-- what made answers: a pair of a world and an id, or None -/
def MadeR (K : PySem.W.Frag) (C : Addr) (H : Hp) (r p : Addr) (W : Wd) (kd : Str) (ns : List Int) : Prop := (W.ts.length = 12 ∧ H r = some (.tup [.ref p, .non])) ∨ (W.ts.length < 12 ∧ ∃ p', WdAt K C H p' (W.add kd ns) ∧ H r = some (.tup [.ref p', .int W.n]))
def spMade (K : PySem.W.Frag) (C : Addr) : Sp := fun vs H Q _ => ∃ (p rn : Addr) (W : Wd) (kd : Str) (ns : List Int), vs = [.ref p, .str kd, .ref rn] ∧ WdAt K C H p W ∧ W.ts.length ≤ 12 ∧ Asc W.ts W.n ∧ nameOk kd ∧ NsAt K H rn ns ∧ 1 ≤ ns.length ∧ ns.length ≤ 8 ∧ (∀ n ∈ ns, num n) ∧
  ∀ r H', H r = none → Ex H H' → MadeR K C H' r p W kd ns → Q (.ref r) H'
theorem ok_made (T : Txt K mg w) : FnOk P w K mg base CX0 10 T.a_made T.fd_made ["world", "kind", "numbers"] (spMade K T.C_World) := by
  have G_need_world := ok_need_world (P := P) (w := w) (base := base) T
  have G_is_name := ok_is_name (P := P) (w := w) (base := base) T
  have G_are_numbers := ok_are_numbers (P := P) (w := w) (base := base) T
  have G_World___len__ := ok_len (P := P) (w := w) (base := base) T
  have G_world_of := ok_world_of (P := P) (w := w) (base := base) T
  refine T.F_made.ok sc_made (fun vs H Q E h => ?_) (fun cdv A outer s H vs Q E hr h => ?_)
  · obtain ⟨_, _, _, _, _, rfl, _⟩ := h; rfl
  · obtain ⟨p, rn, W, kd, ns, rfl, hW, hl, hA, hk, hN, n1, n2, n3, q⟩ := h
    refine ⟨_, (pss_cons (ps_expr (pe_call G_need_world (hr.mono (by decide)) (by rfl) T.g_need_world T.F_need_world.kp T.b_need_world .nil pass0 (pa_cons (pv 0) pa_nil)))
  (pss_cons (ps_if (PW.pt (pw_or (pt_not (pt_val (pe_call G_is_name (hr.mono (by decide)) (by rfl) T.g_is_name T.F_is_name.kp T.b_is_name .nil pass0 (pa_cons (pv 1) pa_nil)))) (pw_or1 (pt_not (pt_val (pe_call G_are_numbers (hr.mono (by decide)) (by rfl) T.g_are_numbers T.F_are_numbers.kp T.b_are_numbers .nil pass0 (pa_cons (pv 2) pa_nil))))))) (pss_one ps_never) pss_nil)
  (pss_cons (ps_if (pt_cmpR op_eq (pe_callB (c_lenO G_World___len__ (hr.mono (by decide)) T.m_World___len__ T.b_World___len__ pass0) (by rfl) T.z_len PySem.boot_len (pa_cons (pv 0) pa_nil)) (pe_glob (v := .int 12) rfl T.g_MAX_THINGS ⟨_, rfl⟩) (nomark _)) (pss_one (ps_ret (pe_tup (pa_cons (pv 0) (pa_cons pe_non pa_nil))))) pss_nil)
  (pss_cons (ps_set (i := 3) sc_made.nd rfl (.inl rfl) (pe_tup (StX.pa_star (pe_fld (pv 0) rfl) (pa_cons (pe_tup (pa_cons (pe_fld (pv 0) rfl) (pa_cons (pv 1) (pa_cons (pv 2) pa_nil)))) pa_nil))))
  (pss_one (ps_ret (pe_tup (pa_cons (pe_call G_world_of (hr.mono (by decide)) (by rfl) T.g_world_of T.F_world_of.kp T.b_world_of .nil pass0 (pa_cons (pe_fld (pv 0) rfl) (pa_cons (pe_op op_add (pe_fld (pv 0) rfl) pe_int) (pa_cons (pe_fld (pv 0) rfl) (pa_cons (pv 3) pa_nil))))) (pa_cons (pe_fld (pv 0) rfl) pa_nil))))))))), ?_⟩
    refine q_drop (v := .non) (ev_callP (vs := [.ref p]) (by walk_at "ea") fun H1 e1 => ⟨p, W, rfl, hW.ex e1, rfl⟩) fun H1 e1 => ?_
    refine q_when (b := false) (et_or (a := false) (b := false) (et_is (et_not (et_B (b := true) (ev_callP (vs := [.str kd]) (by walk_at "ea") fun H2 e2 => ⟨kd, rfl, hk, rfl⟩))) rfl) fun _ => et_is (et_not (et_B (b := true) (ev_callP (vs := [.ref rn]) (by walk_at "ea") fun H2 e2 => ⟨rn, ns, rfl, ex_t (e1.trans e2) hN, n1, n2, n3, rfl⟩))) rfl) (fun h => by cases h) fun _ H2 e2 => ?_
    have e2 := e1.trans e2
    refine q_when (b := decide (V.int W.ts.length = V.int 12)) (et_test (ev_op (len_world T (hW.ex e2) (by omega) (ev_var rfl)) ev_c (rv_eq rfl))) (fun hx H3 e3 => ?_) fun hx H3 e3 => ?_
    · have h12 : W.ts.length = 12 := Int.ofNat.inj (V.int.inj (of_decide_eq_true hx))
      exact s_retU (xs := [.ref p, .non]) (eu_tup (by walk_at "ea") (by show 2 ≤ 100000; decide)) fun r H4 hr4 e4 h4 => q r H4 (fresh_back (e2.trans e3) hr4) ((e2.trans e3).trans e4) (.inl ⟨h12, h4⟩)
    have h12 : W.ts.length < 12 := by
      have : W.ts.length ≠ 12 := fun z => of_decide_eq_false hx (by rw [z]; rfl)
      omega
    have e3 := e2.trans e3
    obtain ⟨rs, aT, aO, aD, hW3⟩ := hW.ex e3
    obtain ⟨⟨dx, hob⟩, hT, hR, hO, hD⟩ := id hW3
    have rl : rs.length = W.ts.length := hR.1
    refine q_asgTP (P := fun vs H' => ∃ t, vs = rs.map V.ref ++ [.ref t] ∧ H' t = some (.tup [.int W.n, .str kd, .ref rn])) ((ap_starT (ev_fld (ev_var rfl) hob T.cl_World T.n_World_things rfl) hT (ap_consU (eu_tup (ea_cons (ev_fld (ev_var rfl) hob T.cl_World T.n_World_next_id rfl) (ea_cons (ev_var rfl) (ea_cons (ev_var rfl) ea_nil))) (by show 3 ≤ 100000; decide)) ap_nil)).mono fun vs H1 ⟨ws, h1, t, ws2, h2, ht, h3⟩ => ⟨t, by rw [h1, h2, h3], ht⟩) (fun vs H1 ⟨t, h, _⟩ => by rw [h, List.length_append, List.length_map]; show _ + 1 ≤ _; omega) fun a vs H4 e4 ⟨t, hv, ht⟩ ha => ?_
    subst hv
    have e5 : Ex H4 (upd H4 a (.tup (rs.map V.ref ++ [.ref t]))) := Ex.new ha
    have hA5 : (upd H4 a (.tup (rs.map V.ref ++ [.ref t]))) a = some (.tup ((rs ++ [t]).map V.ref)) := by rw [upd_same, List.map_append]; rfl
    generalize upd H4 a (.tup (rs.map V.ref ++ [.ref t])) = H5 at e5 hA5
    have ht5 := e5 _ _ ht
    have e45 := e4.trans e5
    have hob5 := e45 _ _ hob
    have hts : TsAt K H5 a (W.add kd ns).ts := ⟨rs ++ [t], st_of hA5, by rw [List.length_append, rl]; show _ + 1 = (W.ts ++ [_]).length; rw [List.length_append]; rfl, fun i r t' h1 h2 => by
      have h2 : (W.ts ++ [⟨W.n, kd, ns⟩])[i]? = some t' := h2
      by_cases hi : i < W.ts.length
      · rw [List.getElem?_append_left (by omega)] at h1 h2
        exact (hR.2 i r t' h1 h2).ex e45
      · have hi2 : i = W.ts.length := by
          have := (List.getElem?_eq_some_iff.mp h1).1
          rw [List.length_append, rl, List.length_singleton] at this
          omega
        subst hi2
        rw [List.getElem?_append_right (by omega), rl, Nat.sub_self] at h1
        rw [List.getElem?_append_right (by omega), Nat.sub_self] at h2
        cases h1
        cases h2
        exact ⟨rn, st_of ht5, ex_t (e3.trans e45) hN⟩⟩
    refine s_retTP (P := fun vs H' => ∃ p', vs = [.ref p', .int W.n] ∧ WdAt K T.C_World H' p' (W.add kd ns)) ((ap_consW (ew_call (ok := kWorldOf K) (W := W.add kd ns) (ap_of (vs := [.int W.t, .int (W.n + 1), .int W.l, .ref a]) (ea_cons (ev_fld (ev_var rfl) hob5 T.cl_World T.n_World_tick rfl) (ea_cons (ev_op (ev_fld (ev_var rfl) hob5 T.cl_World T.n_World_next_id rfl) ev_c rv_I0) (ea_cons (ev_fld (ev_var rfl) hob5 T.cl_World T.n_World_luck rfl) (ea_cons (ev_var rfl) ea_nil))))) fun vs H6 e6 hv => ⟨a, hv, hts.ex e6, by show (W.ts ++ [_]).length ≤ 12; rw [List.length_append]; show _ + 1 ≤ 12; omega, asc_add hA kd ns⟩) (ap_cons (ev_fld (ev_var rfl) hob5 T.cl_World T.n_World_next_id rfl) ap_nil)).mono fun vs H6 ⟨p', ws, h1, h2, ws2, h3, h4⟩ => ⟨p', by rw [h1, h3, h4], h2⟩) (fun vs H1 ⟨p', h, _⟩ => by rw [h]; show 2 ≤ 100000; decide) fun r vs H6 e6 ⟨p', hv, hw⟩ hr6 => ?_
    subst hv
    have e7 : Ex H6 (upd H6 r (.tup [.ref p', .int W.n])) := Ex.new hr6
    have eA := (e3.trans e45).trans e6
    exact q r _ (fresh_back eA hr6) (eA.trans e7) (.inr ⟨h12, p', hw.ex e7, upd_same⟩)
def kDropped (K : PySem.W.Frag) (C : Addr) (vs : List V) (H : Hp) (W' : Wd) : Prop := ∃ (p : Addr) (W : Wd) (i : Int), vs = [.ref p, .int i] ∧ WdAt K C H p W ∧ W.ts.length ≤ 12 ∧ Asc W.ts W.n ∧ i ∈ Tg.ids W.ts ∧ W' = W.drop i
theorem ok_dropped (T : Txt K mg w) : FnOk P w K mg base CX0 10 T.a_dropped T.fd_dropped ["world", "thing"] (Wnew K T.C_World (kDropped K T.C_World)) := by
  have G_need_world := ok_need_world (P := P) (w := w) (base := base) T
  have G_need_thing := ok_need_thing (P := P) (w := w) (base := base) T
  have G_world_of := ok_world_of (P := P) (w := w) (base := base) T
  refine T.F_dropped.ok sc_dropped (fun vs H Q E h => ?_) (fun cdv A outer s H vs Q E hr h => ?_)
  · obtain ⟨_, ⟨_, _, _, rfl, _⟩, _⟩ := h; rfl
  · obtain ⟨_, ⟨p, W, i, rfl, hW, hl, hA, hi, rfl⟩, q⟩ := h
    refine ⟨_, (pss_cons (ps_expr (pe_call G_need_world (hr.mono (by decide)) (by rfl) T.g_need_world T.F_need_world.kp T.b_need_world .nil pass0 (pa_cons (pv 0) pa_nil)))
  (pss_cons (ps_expr (pe_call G_need_thing (hr.mono (by decide)) (by rfl) T.g_need_thing T.F_need_thing.kp T.b_need_thing .nil pass0 (pa_cons (pv 0) (pa_cons (pv 1) pa_nil))))
  (pss_cons (ps_set (i := 2) sc_dropped.nd rfl (.inl rfl) (pe_callTy c_tupL (by rfl) T.z_tuple (by decide +kernel) (pa_cons (pe_lc (own := [("kept", 3)]) (g := gName 3) (by rfl) sc_dropped.nd (pi_tup (pe_fld (pv 0) rfl)) (blkOk_by (own := [("kept", 3)]) (N := ["world", "thing", "things", "kept"]) (sc := defScope s_dropped) (by decide +kernel)) (fun _ _ _ _ _ => pg_name (i := 3) sc_dropped.nd rfl (Or.inl rfl)) (fun _ _ _ _ _ => (pts_one (pt_cmpR op_ne (pe_ix (ix_tupK (K := K) rfl) (pv 3) pe_int (fun _ _ => rfl)) (pv 1) (nomark _)))) (fun _ _ _ _ _ => (pv 3))) pa_nil)))
  (pss_one (ps_ret (pe_call G_world_of (hr.mono (by decide)) (by rfl) T.g_world_of T.F_world_of.kp T.b_world_of .nil pass0 (pa_cons (pe_fld (pv 0) rfl) (pa_cons (pe_fld (pv 0) rfl) (pa_cons (pe_fld (pv 0) rfl) (pa_cons (pv 2) pa_nil)))))))))), ?_⟩
    refine q_drop (v := .non) (ev_callP (vs := [.ref p]) (by walk_at "ea") fun H1 e1 => ⟨p, W, rfl, hW.ex e1, rfl⟩) fun H1 e1 => ?_
    refine q_drop (v := .non) (ev_callP (vs := [.ref p, .int i]) (by walk_at "ea") fun H2 e2 => ⟨p, W, i, rfl, hW.ex (e1.trans e2), hi, rfl⟩) fun H2 e2 => ?_
    have e2 := e1.trans e2
    obtain ⟨rs, aT, aO, aD, hW2⟩ := hW.ex e2
    obtain ⟨⟨dx, hob⟩, hT, hR, hO, hD⟩ := id hW2
    obtain ⟨rs', hg, hR'⟩ := pick_things hR (fun t => !decide (t.id = i))
    refine q_asgU (xs := rs'.map V.ref) (eu_tupL (by
      rw [← hg]
      have hln : rs.length = (rs.map V.ref).length := (List.length_map ..).symm
      rw [hln]
      refine el_lcT _ _ (ev_fld (ev_var rfl) hob T.cl_World T.n_World_things rfl) hT (by rw [List.length_map, hR.1]; omega) (fun _ => rfl) (fun j x H3 e3 hx => ?_) fun j x H3 e3 hx _ => ?_
      · obtain ⟨r, t, rfl, h1, h2, hA3⟩ := hR.at hx
        have hd : W.ts.getD j ⟨0, "", []⟩ = t := by rw [List.getD_eq_getElem?_getD, h2]; rfl
        rw [hd]
        refine et_is (et_test (ev_op (ev_tg0 (ev_var rfl) (hA3.ex e3)) (ev_var rfl) (rv_ne rfl))) ?_
        congr 1
        exact decide_eq_decide.mpr ⟨V.int.inj, fun h => by rw [h]⟩
      · obtain ⟨r, t, rfl, h1, h2, hA3⟩ := hR.at hx
        have hd : rs.getD j 0 = r := by rw [List.getD_eq_getElem?_getD, h1]; rfl
        rw [hd]
        exact ev_var rfl)) fun a H3 ha e3 h3 => ?_
    have hob3 := e3 _ _ hob
    have hts : TsAt K H3 a (W.drop i).ts := ⟨rs', st_of h3, hR'.ex e3⟩
    refine s_retW (C := T.C_World) (W := W.drop i) (ew_call (ok := kWorldOf K) (ap_of (vs := [.int W.t, .int W.n, .int W.l, .ref a]) (ea_cons (ev_fld (ev_var rfl) hob3 T.cl_World T.n_World_tick rfl) (ea_cons (ev_fld (ev_var rfl) hob3 T.cl_World T.n_World_next_id rfl) (ea_cons (ev_fld (ev_var rfl) hob3 T.cl_World T.n_World_luck rfl) (ea_cons (ev_var rfl) ea_nil))))) fun vs H4 e4 hv => ⟨a, hv, hts.ex e4, Nat.le_trans (List.length_filter_le ..) hl, asc_drop hA _⟩) fun p' H4 hp' e4 h4 => q p' H4 (fresh_back (e2.trans e3) hp') ((e2.trans e3).trans e4) h4
end
end Kz
set_option Elab.async false
set_option linter.all false
set_option maxRecDepth 100000
set_option maxHeartbeats 4000000
set_option exponentiation.threshold 500
namespace Kz
open PySem PySem.Spec PyProof.Rows L2 Evl Vr
local macro_rules | `(tactic| walk_at "sc") => `(tactic| first | (with_reducible assumption) | (with_reducible exact sc_mul (by omega)) | (with_reducible exact sc_mulr (by omega)) | (with_reducible exact sc_div (by omega) (by decide)) | (show (0 : Int) < _; omega) | (show _ ≠ (0 : Int); omega) | (with_reducible rfl) | decide)
local macro_rules | `(tactic| walk_at "sq") => `(tactic| first | assumption | exact sq_of (by assumption) | exact st_of (by assumption))
local macro_rules | `(tactic| walk_at "pl") => `(tactic| first | assumption | exact pl_int | exact pl_bl | exact pl_str | exact pl_non | exact pl_lst (by assumption) | exact pl_tup (by assumption) | exact pl_dK (by assumption))
local macro_rules | `(tactic| walk_at "rv") => `(tactic| first
  | with_reducible exact rv_I0
  | with_reducible exact ru_neg
  | ((with_reducible apply rv_I); walk_at "sc")
  | ((with_reducible apply rv_ixL); walk_at "sq"; first | rfl | assumption)
  | ((with_reducible apply rv_ixT); walk_at "sq"; first | rfl | assumption)
  | ((with_reducible apply rv_eq); rfl) | ((with_reducible apply rv_ne); rfl))
local macro_rules | `(tactic| walk_at "rc") => `(tactic| first
  | with_reducible exact rc_I1 | with_reducible exact rc_B1 | with_reducible exact rc_I2 | ((with_reducible apply rc_repr); walk_at "sc") | ((with_reducible apply rc_lenL); walk_at "sq")
  | ((with_reducible apply rc_isiInt); walk_at "pl") | ((with_reducible apply rc_isiBool); walk_at "pl"))
local macro_rules | `(tactic| walk_at "ea") => `(tactic| first
  | with_reducible exact ea_nil | ((with_reducible apply ea_cons); walk_at "ev"; walk_at "ea"))
local macro_rules | `(tactic| walk_at "pow") => `(tactic| first
  | with_reducible exact ev_pow (a := 10) (b := 9) (c := 1000000000) (by decide +kernel) (by decide +kernel)
  | with_reducible exact ev_pow (a := 10) (b := 10) (c := 10000000000) (by decide +kernel) (by decide +kernel)
  | with_reducible exact ev_pow (a := 10) (b := 12) (c := 1000000000000) (by decide +kernel) (by decide +kernel)
  | with_reducible exact ev_pow (a := 10) (b := 17) (c := 100000000000000000) (by decide +kernel) (by decide +kernel)
  | with_reducible exact ev_pow (a := 10) (b := 20) (c := 100000000000000000000) (by decide +kernel) (by decide +kernel)
  | with_reducible exact ev_pow (a := 10) (b := 29) (c := 100000000000000000000000000000) (by decide +kernel) (by decide +kernel)
  | with_reducible exact ev_pow (a := 10) (b := 30) (c := 1000000000000000000000000000000) (by decide +kernel) (by decide +kernel)
  | with_reducible exact ev_pow (a := 10) (b := 40) (c := 10000000000000000000000000000000000000000) (by decide +kernel) (by decide +kernel)
  | with_reducible exact ev_pow (a := 10) (b := 57) (c := 1000000000000000000000000000000000000000000000000000000000) (by decide +kernel) (by decide +kernel)
  | with_reducible exact ev_pow (a := 10) (b := 58) (c := 10000000000000000000000000000000000000000000000000000000000) (by decide +kernel) (by decide +kernel)
  | with_reducible exact ev_pow (a := 10) (b := 59) (c := 100000000000000000000000000000000000000000000000000000000000) (by decide +kernel) (by decide +kernel)
  | with_reducible exact ev_pow (a := 10) (b := 60) (c := 1000000000000000000000000000000000000000000000000000000000000) (by decide +kernel) (by decide +kernel))
local macro_rules | `(tactic| walk_at "call") => `(tactic| (intro H9 e9; first | exact ⟨_, rfl, rfl⟩ | exact ⟨_, _, rfl, rfl⟩ | exact ⟨_, _, _, rfl, rfl⟩ | exact ⟨_, rfl, by walk_at "pl", rfl⟩ | (refine ⟨_, _, _, rfl, ?_, rfl⟩; first | exact Plain.ex e9 (by assumption) | walk_at "pl") | (refine ⟨_, rfl, ?_, rfl⟩; first | exact Plain.ex e9 (by assumption) | walk_at "pl")))
local macro_rules | `(tactic| walk_at "ev") => `(tactic| first
  | with_reducible exact ev_c
  | exact ev_var rfl
  | walk_at "pow"
  | ((with_reducible apply ev_op); walk_at "ev"; walk_at "ev"; walk_at "rv")
  | ((with_reducible apply ev_un); walk_at "ev"; walk_at "rv")
  | ((with_reducible apply ev_cb); walk_at "ea"; walk_at "rc")
  | ((with_reducible apply ev_callP); walk_at "ea"; walk_at "call")
  | ((with_reducible apply ev_chain); walk_at "ev"; walk_at "ev"; walk_at "rv"; walk_at "ev"; walk_at "rv")
  | ((with_reducible apply ev_andV); walk_at "ev"; intro _; walk_at "ev")
  | ((with_reducible apply ev_orV); walk_at "ev"; intro _; walk_at "ev")
  | ((with_reducible apply ev_ite); walk_at "et"; intro _; walk_at "ev"; intro _; walk_at "ev")
  | ((with_reducible apply ev_notV); walk_at "ev"))
local macro_rules | `(tactic| walk_at "et") => `(tactic| first
  | ((with_reducible apply et_test); walk_at "ev")
  | ((with_reducible apply et_B); walk_at "ev")
  | ((with_reducible apply et_and); walk_at "et"; intro _; walk_at "et")
  | ((with_reducible apply et_or); walk_at "et"; intro _; walk_at "et")
  | ((with_reducible apply et_not); walk_at "et"))
open En Wo
section
variable {σ : L2.St} {H : Hp} {te tl : TE} {tz : TS} {D : Ends} {K : PySem.W.Frag} {a : Addr} {g : TG}
theorem q_asgLcT {xs : List V} {vs : List Nat} {i : Nat} (Pr : Nat → Addr → Hp → Prop) (hP : ∀ i r H H' Dl acc, H Dl = some (.lst acc) → Exd Dl H H' → Pr i r H → Pr i r H') (h : Ev tl σ H (.ref a)) (hx : SqT K H a xs) (hz : xs.length ≤ 40000)
    (hs : ∀ (i : Nat) (x : V) (H1 : Hp) (R : VK), Ex H H1 → xs[i]? = some x → (∀ r H2, Ex H1 H2 → Pr i r H2 → R (.ref r) H2) → g x (wipe σ vs) H1 fun σ2 H2 => wipe σ2 vs = wipe σ vs ∧ te σ2 H2 R)
    (k : ∀ l (rs : List Addr) H', H l = none → Ex H H' → H' l = some (.lst (rs.map V.ref)) → rs.length = xs.length → (∀ (i : Nat) r, rs[i]? = some r → Pr i r H') → tz D (σ.set i (some (.ref l))) H') : tSeq (tAsg (tLc (iTup K tl) g tYes te vs) (gName i)) tz D σ H :=
  lcT_new (Q := fun v H2 => tz D (σ.set i (some v)) H2) Pr hP h hx hz hs k
end
section
variable {P : Program} {w : World} {K : PySem.W.Frag} {mg : Str → Option Value} {base : Heap}
theorem setNs_map (ns : List Int) (j : Nat) (n : Int) : (ns.map V.int).set j (.int n) = (ns.set j n).map V.int := by rw [List.map_set]
def kWith (K : PySem.W.Frag) (C : Addr) (vs : List V) (H : Hp) (W' : Wd) : Prop := ∃ (p d rn : Addr) (W : Wd) (i : Int) (ns : List Int), vs = [.ref p, .ref d] ∧ WdAt K C H p W ∧ W.ts.length ≤ 12 ∧ Asc W.ts W.n ∧ H d = some (.dK [(.inl i, .ref rn)]) ∧ NsAt K H rn ns ∧ W' = W.chg i ns
theorem ok_with_numbers (T : Txt K mg w) : FnOk P w K mg base CX0 10 T.a_with_numbers T.fd_with_numbers ["world", "numbers"] (Wnew K T.C_World (kWith K T.C_World)) := by
  have G_world_of := ok_world_of (P := P) (w := w) (base := base) T
  refine T.F_with_numbers.ok sc_with_numbers (fun vs H Q E h => ?_) (fun cdv A outer s H vs Q E hr h => ?_)
  · obtain ⟨_, ⟨_, _, _, _, _, _, rfl, _⟩, _⟩ := h; rfl
  · obtain ⟨_, ⟨p, d, rn, W, i, ns, rfl, hW, hl, hA, hd, hN, rfl⟩, q⟩ := h
    refine ⟨_, (pss_cons (ps_setLc (i := 2) (own := [("thing", 3), ("kind", 4), ("former", 5)]) (g := gTup _ 3 (gCons (gName 3) (gCons (gName 4) (gCons (gName 5) gNil)))) (by rfl) sc_with_numbers.nd rfl rfl (sw_true rfl rfl rfl (by decide +kernel)) (pi_tup (pe_fld (pv 0) rfl)) (blkOk_by (own := [("thing", 3), ("kind", 4), ("former", 5)]) (N := ["world", "numbers", "things", "thing", "kind", "former"]) (sc := defScope s_with_numbers) (by decide +kernel)) (fun _ _ _ _ _ => pg_tup rfl (pgs_cons (pg_name (i := 3) sc_with_numbers.nd rfl (Or.inl rfl)) (pgs_cons (pg_name (i := 4) sc_with_numbers.nd rfl (Or.inl rfl)) (pgs_cons (pg_name (i := 5) sc_with_numbers.nd rfl (Or.inl rfl)) pgs_nil)))) (fun _ _ _ _ _ => pts_nil) (fun _ _ _ _ _ => (pe_tup (pa_cons (pv 3) (pa_cons (pv 4) (pa_cons (pe_dget2 (hu_of hr) (pv 1) (pv 3) (pv 5) ⟨rfl, rfl, rfl, rfl⟩) pa_nil))))))
  (pss_one (ps_ret (pe_call G_world_of (hr.mono (by decide)) (by rfl) T.g_world_of T.F_world_of.kp T.b_world_of .nil pass0 (pa_cons (pe_fld (pv 0) rfl) (pa_cons (pe_fld (pv 0) rfl) (pa_cons (pe_fld (pv 0) rfl) (pa_cons (pe_callTy c_tupL (by rfl) T.z_tuple (by decide +kernel) (pa_cons (pv 2) pa_nil)) pa_nil)))))))), ?_⟩
    obtain ⟨rs, aT, aO, aD, hW2⟩ := hW
    obtain ⟨⟨dx, hob⟩, hT, hR, hO, hD⟩ := id hW2
    have hlen : (rs.map V.ref).length = W.ts.length := by rw [List.length_map, hR.1]
    refine q_asgLcT (K := K) (xs := rs.map V.ref) (fun j r H' => ∃ t, W.ts[j]? = some t ∧ TgAt K H' r (Tg.chg i ns t)) (fun j r H1 H2 Dl acc hDl x ⟨t, h1, rn', h2, h3⟩ => ⟨t, h1, rn', x.tlst hDl h2, x.tlst hDl h3⟩) (ev_fld (ta := tVar 0) (ev_var rfl) hob T.cl_World T.n_World_things rfl) hT (by omega) (fun j x H1 R e1 hx hk => ?_) fun l rs' H1 hl1 e1 h1 hlen1 hP => ?_
    · obtain ⟨r, t, rfl, h1, h2, rn', h3, h4⟩ := hR.at hx
      refine ⟨r, [.int t.id, .str t.kd, .ref rn'], rfl, ex_t e1 h3, rfl, .int t.id, _, rfl, .str t.kd, _, rfl, .ref rn', [], rfl, rfl, rfl, ?_⟩
      have hv : valV [((Sum.inl i : Key), V.ref rn)] (.inl t.id : Key) = if t.id = i then some (.ref rn) else none := by
        by_cases e : t.id = i
        · rw [if_pos e, e]; exact valV_pos (p := ((Sum.inl i : Key), V.ref rn)) rfl
        · rw [if_neg e, valV_neg (fun z => e (Sum.inl.inj z).symm)]; rfl
      refine ⟨.int t.id, rfl, .str t.kd, rfl, .ref d, rfl, d, rfl, .inl ⟨_, .inl (e1 _ _ hd)⟩, .int t.id, rfl, .ref rn', rfl, valV [((Sum.inl i : Key), V.ref rn)] (.inl t.id : Key), DGet.k (k := .inl t.id) (e1 _ _ hd), by show 3 ≤ sizeLine; decide, fun r' hr' => ?_⟩
      refine hk r' _ (Ex.new hr') ⟨t, h2, ?_⟩
      rw [hv]
      unfold Tg.chg
      split
      · exact ⟨rn, st_of upd_same, ex_t (e1.trans (Ex.new hr')) hN⟩
      · exact ⟨rn', st_of upd_same, ex_t (e1.trans (Ex.new hr')) h4⟩
    · have hob1 := e1 _ _ hob
      have hts : RsAt K H1 rs' (W.chg i ns).ts := ⟨by rw [hlen1, hlen]; exact (List.length_map ..).symm, fun j r t' h2 h3 => by
        obtain ⟨t, h4, h5⟩ := hP j r h2
        have h3 : (W.ts.map (Tg.chg i ns))[j]? = some t' := h3
        rw [List.getElem?_map, h4] at h3
        cases h3
        exact h5⟩
      refine s_retW (C := T.C_World) (W := W.chg i ns) (ew_call (ok := kWorldOf K) (P := fun vs H' => ∃ a, vs = [.int W.t, .int W.n, .int W.l, .ref a] ∧ H' a = some (.tup (rs'.map V.ref))) ((ap_cons (ev_fld (ev_var rfl) hob1 T.cl_World T.n_World_tick rfl) (ap_cons (ev_fld (ev_var rfl) hob1 T.cl_World T.n_World_next_id rfl) (ap_cons (ev_fld (ev_var rfl) hob1 T.cl_World T.n_World_luck rfl) (ap_consU (eu_tupV (ev_var rfl) (sq_of h1)) ap_nil)))).mono fun vs H2 ⟨_, z1, _, z2, _, z3, a, _, z4, z5, z6⟩ => ⟨a, by rw [z1, z2, z3, z4, z6], z5⟩) fun vs H4 e4 ⟨a, hv, ha⟩ => ⟨a, hv, ⟨rs', st_of ha, hts.ex e4⟩, by show (W.ts.map _).length ≤ 12; rw [List.length_map]; exact hl, asc_chg hA i ns⟩) fun p' H4 hp' e4 h4 => q p' H4 (fresh_back e1 hp') (e1.trans e4) h4
def kChanged (K : PySem.W.Frag) (C : Addr) (vs : List V) (H : Hp) (W' : Wd) : Prop := ∃ (p : Addr) (W : Wd) (t : Tg) (j : Nat) (n : Int), vs = [.ref p, .int t.id, .int j, .int n] ∧ WdAt K C H p W ∧ W.ts.length ≤ 12 ∧ Asc W.ts W.n ∧ t ∈ W.ts ∧ t.ns.length ≤ 8 ∧ j < t.ns.length ∧ num n ∧ W' = W.chg t.id (t.ns.set j n)
theorem ok_changed (T : Txt K mg w) : FnOk P w K mg base CX0 11 T.a_changed T.fd_changed ["world", "thing", "place", "number"] (Wnew K T.C_World (kChanged K T.C_World)) := by
  have G_need_world := ok_need_world (P := P) (w := w) (base := base) T
  have G_need_thing := ok_need_thing (P := P) (w := w) (base := base) T
  have G_World_numbers := ok_numbers_of (P := P) (w := w) (base := base) T
  have G_is_whole := ok_is_whole (P := P) (w := w) (base := base) T
  have G_is_number := ok_is_number (P := P) (w := w) (base := base) T
  have G_with_numbers := ok_with_numbers (P := P) (w := w) (base := base) T
  refine T.F_changed.ok sc_changed (fun vs H Q E h => ?_) (fun cdv A outer s H vs Q E hr h => ?_)
  · obtain ⟨_, ⟨_, _, _, _, _, rfl, _⟩, _⟩ := h; rfl
  · obtain ⟨_, ⟨p, W, t, j, n, rfl, hW, hl, hA, ht, h8, hj, hn, rfl⟩, q⟩ := h
    refine ⟨_, (pss_cons (ps_expr (pe_call G_need_world (hr.mono (by decide)) (by rfl) T.g_need_world T.F_need_world.kp T.b_need_world .nil pass0 (pa_cons (pv 0) pa_nil)))
  (pss_cons (ps_expr (pe_call G_need_thing (hr.mono (by decide)) (by rfl) T.g_need_thing T.F_need_thing.kp T.b_need_thing .nil pass0 (pa_cons (pv 0) (pa_cons (pv 1) pa_nil))))
  (pss_cons (ps_set (i := 4) sc_changed.nd rfl (.inl rfl) (pe_callTy c_listS (by rfl) T.z_list (by decide +kernel) (pa_cons (pe_meth (pv 0) T.cl_World T.m_World_numbers G_World_numbers (hr.mono (by decide)) T.b_World_numbers .nil pass0 (pa_cons (pv 1) pa_nil)) pa_nil)))
  (pss_cons (ps_if (PW.pt (pw_or (pt_not (pt_val (pe_call G_is_whole (hr.mono (by decide)) (by rfl) T.g_is_whole T.F_is_whole.kp T.b_is_whole .nil pass0 (pa_cons (pv 2) pa_nil)))) (pw_or1 (pt_cmpR op_ge (pv 2) (pe_callB c_len (by rfl) T.z_len PySem.boot_len (pa_cons (pv 4) pa_nil)) (nomark _))))) (pss_one ps_never) pss_nil)
  (pss_cons (ps_if (pt_not (pt_val (pe_call G_is_number (hr.mono (by decide)) (by rfl) T.g_is_number T.F_is_number.kp T.b_is_number .nil pass0 (pa_cons (pv 3) pa_nil)))) (pss_one ps_never) pss_nil)
  (pss_cons (ps_asg (pv 3) (pg_sub (pv 4) (pv 2) set_list))
  (pss_one (ps_ret (pe_call G_with_numbers (hr.mono (by decide)) (by rfl) T.g_with_numbers T.F_with_numbers.kp T.b_with_numbers .nil pass0 (pa_cons (pv 0) (pa_cons (pe_disp (pps_cons (pv 1) (pe_callTy c_tupL (by rfl) T.z_tuple (by decide +kernel) (pa_cons (pv 4) pa_nil)) pps_nil) (by rfl) (by rfl) (fun z => by cases z) (by decide)) pa_nil))))))))))), ?_⟩
    have hid : t.id ∈ Tg.ids W.ts := List.mem_map_of_mem ht
    refine q_drop (v := .non) (ev_callP (vs := [.ref p]) (by walk_at "ea") fun H1 e1 => ⟨p, W, rfl, hW.ex e1, rfl⟩) fun H1 e1 => ?_
    refine q_drop (v := .non) (ev_callP (vs := [.ref p, .int t.id]) (by walk_at "ea") fun H2 e2 => ⟨p, W, t.id, rfl, hW.ex (e1.trans e2), hid, rfl⟩) fun H2 e2 => ?_
    have e2 := e1.trans e2
    obtain ⟨rn, hTh⟩ := (hW.ex e2).thing ht
    obtain ⟨rs, aT, aO, aD, jj, r, hW2, z2, z3, z4, hN⟩ := id hTh.ex
    obtain ⟨⟨dx, hob⟩, _, _, _, _⟩ := id hW2
    refine q_asgL (xs := t.ns.map V.int) (el_listT (p := rn) (ev_methP (ok := kNums K T.C_World) (vs := [.int t.id]) (ev_var rfl) hob rfl (by walk_at "ea") fun H3 e3 => ⟨p, W, t, rn, rfl, hTh.mono e3, hA.nodup, rfl⟩) hN) fun l H3 hl3 e3 h3 => ?_
    have hlen : (t.ns.map V.int).length = t.ns.length := List.length_map ..
    refine q_when (b := false) (et_or (a := false) (b := false) (et_is (et_not (et_B (b := true) (ev_callP (vs := [.int j]) (by walk_at "ea") fun H4 e4 => ⟨j, rfl, ⟨by omega, by omega⟩, rfl⟩))) rfl) fun _ => et_is (et_test (ev_op (ev_var rfl) (ev_cb (vs := [.ref l]) (by walk_at "ea") (rc_lenL (sq_of h3))) rv_I0)) (decide_eq_false (by rw [hlen]; omega))) (fun h => by cases h) fun _ H4 e4 => ?_
    refine q_when (b := false) (et_is (et_not (et_B (b := true) (ev_callP (vs := [.int n]) (by walk_at "ea") fun H5 e5 => ⟨n, rfl, hn, rfl⟩))) rfl) (fun h => by cases h) fun _ H5 e5 => ?_
    have e35 := e4.trans e5
    refine q_setL (l := l) (j := j) (e35 _ _ h3) (v := .int n) (ev_var rfl) (ev_var rfl) (ev_var rfl) (by rw [hlen]; exact hj) fun H6 e6 => ?_
    have hL : (upd H6 l (.lst ((t.ns.map V.int).set j (.int n)))) l = some (.lst ((t.ns.set j n).map V.int)) := by rw [upd_same, setNs_map]
    have e26 : Ex H2 (upd H6 l (.lst ((t.ns.map V.int).set j (.int n)))) := Ex.mut ((e3.trans e35).trans e6) hl3
    generalize upd H6 l (.lst ((t.ns.map V.int).set j (.int n))) = H7 at hL e26
    have e7 := e2.trans e26
    have hk1 := ek1_disp (σ := [some (.ref p), some (.int t.id), some (.int j), some (.int n), some (.ref l)]) (H := H7) (k := .inl t.id) (xs := (t.ns.set j n).map V.int) (ta := tVar 1) (tb := tCB (rTupL K) (tCons (tVar 4) tNil)) (fun _ _ => ev_var rfl) (fun H1 e1 => eu_tupV (p := l) (ev_var rfl) (sq_of (e1 _ _ hL)))
    refine s_retW (C := T.C_World) (W := W.chg t.id (t.ns.set j n)) (ew_call (ok := kWith K T.C_World) (P := fun vs H' => ∃ d r, vs = [.ref p, .ref d] ∧ H' d = some (.dK [(.inl t.id, .ref r)]) ∧ H' r = some (.tup ((t.ns.set j n).map V.int))) (fun H8 e8 Q8 q8 => ⟨.ref p, rfl, hk1 H8 e8 _ fun d r H9 e9 h9 h10 => q8 _ H9 e9 ⟨d, r, rfl, h9, h10⟩⟩) fun vs H8 e8 ⟨d, r, hv, h9, h10⟩ => ⟨p, d, r, W, t.id, t.ns.set j n, hv, hW.ex (e7.trans e8), hl, hA, h9, st_of h10, rfl⟩) fun p' H8 hp' e8 h8' => q p' H8 (fresh_back e7 hp') (e7.trans e8) h8'
end
end Kz
set_option Elab.async false
set_option linter.all false
set_option maxRecDepth 100000
set_option maxHeartbeats 4000000
set_option exponentiation.threshold 500
namespace Kz
open PySem PySem.Spec PyProof.Rows L2 Evl Vr
local macro_rules | `(tactic| walk_at "sc") => `(tactic| first | (with_reducible assumption) | (with_reducible exact sc_mul (by omega)) | (with_reducible exact sc_mulr (by omega)) | (with_reducible exact sc_div (by omega) (by decide)) | (show (0 : Int) < _; omega) | (show _ ≠ (0 : Int); omega) | (with_reducible rfl) | decide)
local macro_rules | `(tactic| walk_at "sq") => `(tactic| first | assumption | exact sq_of (by assumption) | exact st_of (by assumption))
local macro_rules | `(tactic| walk_at "pl") => `(tactic| first | assumption | exact pl_int | exact pl_bl | exact pl_str | exact pl_non | exact pl_lst (by assumption) | exact pl_tup (by assumption) | exact pl_dK (by assumption))
local macro_rules | `(tactic| walk_at "rv") => `(tactic| first
  | with_reducible exact rv_I0
  | with_reducible exact ru_neg
  | ((with_reducible apply rv_I); walk_at "sc")
  | ((with_reducible apply rv_ixL); walk_at "sq"; first | rfl | assumption)
  | ((with_reducible apply rv_ixT); walk_at "sq"; first | rfl | assumption)
  | ((with_reducible apply rv_eq); rfl) | ((with_reducible apply rv_ne); rfl))
local macro_rules | `(tactic| walk_at "rc") => `(tactic| first
  | with_reducible exact rc_I1 | with_reducible exact rc_B1 | with_reducible exact rc_I2 | ((with_reducible apply rc_repr); walk_at "sc") | ((with_reducible apply rc_lenL); walk_at "sq")
  | ((with_reducible apply rc_isiInt); walk_at "pl") | ((with_reducible apply rc_isiBool); walk_at "pl"))
local macro_rules | `(tactic| walk_at "ea") => `(tactic| first
  | with_reducible exact ea_nil | ((with_reducible apply ea_cons); walk_at "ev"; walk_at "ea"))
local macro_rules | `(tactic| walk_at "pow") => `(tactic| first
  | with_reducible exact ev_pow (a := 10) (b := 9) (c := 1000000000) (by decide +kernel) (by decide +kernel)
  | with_reducible exact ev_pow (a := 10) (b := 10) (c := 10000000000) (by decide +kernel) (by decide +kernel)
  | with_reducible exact ev_pow (a := 10) (b := 12) (c := 1000000000000) (by decide +kernel) (by decide +kernel)
  | with_reducible exact ev_pow (a := 10) (b := 17) (c := 100000000000000000) (by decide +kernel) (by decide +kernel)
  | with_reducible exact ev_pow (a := 10) (b := 20) (c := 100000000000000000000) (by decide +kernel) (by decide +kernel)
  | with_reducible exact ev_pow (a := 10) (b := 29) (c := 100000000000000000000000000000) (by decide +kernel) (by decide +kernel)
  | with_reducible exact ev_pow (a := 10) (b := 30) (c := 1000000000000000000000000000000) (by decide +kernel) (by decide +kernel)
  | with_reducible exact ev_pow (a := 10) (b := 40) (c := 10000000000000000000000000000000000000000) (by decide +kernel) (by decide +kernel)
  | with_reducible exact ev_pow (a := 10) (b := 57) (c := 1000000000000000000000000000000000000000000000000000000000) (by decide +kernel) (by decide +kernel)
  | with_reducible exact ev_pow (a := 10) (b := 58) (c := 10000000000000000000000000000000000000000000000000000000000) (by decide +kernel) (by decide +kernel)
  | with_reducible exact ev_pow (a := 10) (b := 59) (c := 100000000000000000000000000000000000000000000000000000000000) (by decide +kernel) (by decide +kernel)
  | with_reducible exact ev_pow (a := 10) (b := 60) (c := 1000000000000000000000000000000000000000000000000000000000000) (by decide +kernel) (by decide +kernel))
local macro_rules | `(tactic| walk_at "call") => `(tactic| (intro H9 e9; first | exact ⟨_, rfl, rfl⟩ | exact ⟨_, _, rfl, rfl⟩ | exact ⟨_, _, _, rfl, rfl⟩ | exact ⟨_, rfl, by walk_at "pl", rfl⟩ | (refine ⟨_, _, _, rfl, ?_, rfl⟩; first | exact Plain.ex e9 (by assumption) | walk_at "pl") | (refine ⟨_, rfl, ?_, rfl⟩; first | exact Plain.ex e9 (by assumption) | walk_at "pl")))
local macro_rules | `(tactic| walk_at "ev") => `(tactic| first
  | with_reducible exact ev_c
  | exact ev_var rfl
  | walk_at "pow"
  | ((with_reducible apply ev_op); walk_at "ev"; walk_at "ev"; walk_at "rv")
  | ((with_reducible apply ev_un); walk_at "ev"; walk_at "rv")
  | ((with_reducible apply ev_cb); walk_at "ea"; walk_at "rc")
  | ((with_reducible apply ev_callP); walk_at "ea"; walk_at "call")
  | ((with_reducible apply ev_chain); walk_at "ev"; walk_at "ev"; walk_at "rv"; walk_at "ev"; walk_at "rv")
  | ((with_reducible apply ev_andV); walk_at "ev"; intro _; walk_at "ev")
  | ((with_reducible apply ev_orV); walk_at "ev"; intro _; walk_at "ev")
  | ((with_reducible apply ev_ite); walk_at "et"; intro _; walk_at "ev"; intro _; walk_at "ev")
  | ((with_reducible apply ev_notV); walk_at "ev"))
local macro_rules | `(tactic| walk_at "et") => `(tactic| first
  | ((with_reducible apply et_test); walk_at "ev")
  | ((with_reducible apply et_B); walk_at "ev")
  | ((with_reducible apply et_and); walk_at "et"; intro _; walk_at "et")
  | ((with_reducible apply et_or); walk_at "et"; intro _; walk_at "et")
  | ((with_reducible apply et_not); walk_at "et"))
open En Wo
def Tg.dat (t : Tg) : PyData := .tuple [.int t.id, .str t.kd, .tuple (t.ns.map PyData.int)]
def tsDat (ts : List Tg) : PyData := .tuple (ts.map Tg.dat)
def Wd.dat (W : Wd) : PyData := .tuple [.int W.t, .int W.n, .int W.l, tsDat W.ts]
theorem eqvAll_map {α : Type} [DecidableEq α] (f : α → PyData) (hf : ∀ a b, PyData.eqv (f a) (f b) = decide (a = b)) : ∀ xs ys : List α, PyData.eqvAll (xs.map f) (ys.map f) = decide (xs = ys)
  | [], [] => rfl
  | [], _ :: _ => rfl
  | _ :: _, [] => rfl
  | x :: xs, y :: ys => by
    show (PyData.eqv (f x) (f y) && PyData.eqvAll (xs.map f) (ys.map f)) = _
    rw [hf, eqvAll_map f hf xs ys]
    by_cases h1 : x = y <;> by_cases h2 : xs = ys <;> simp [h1, h2]
theorem eqv_int (a b : Int) : PyData.eqv (.int a) (.int b) = decide (a = b) := by
  show (a == b) = _
  by_cases h : a = b <;> simp [h]
theorem eqv_str (a b : Str) : PyData.eqv (.str a) (.str b) = decide (a = b) := by
  show (a == b) = _
  by_cases h : a = b <;> simp [h]
theorem eqv_nsD (ns ms : List Int) : PyData.eqv (.tuple (ns.map PyData.int)) (.tuple (ms.map PyData.int)) = decide (ns = ms) := eqvAll_map PyData.int eqv_int ns ms
theorem eqv_nsL (ns ms : List Int) : PyData.eqv (.list (ns.map PyData.int)) (.list (ms.map PyData.int)) = decide (ns = ms) := eqvAll_map PyData.int eqv_int ns ms
theorem eqv_tg (a b : Tg) : PyData.eqv a.dat b.dat = decide (a = b) := by
  show (PyData.eqv (.int a.id) (.int b.id) && (PyData.eqv (.str a.kd) (.str b.kd) && (PyData.eqv (.tuple (a.ns.map PyData.int)) (.tuple (b.ns.map PyData.int)) && true))) = _
  rw [eqv_int, eqv_str, eqv_nsD]
  cases a
  cases b
  simp only [Tg.mk.injEq, Bool.and_true]
  by_cases h1 : ‹_› = ‹_› <;> simp_all
theorem eqv_ts (a b : List Tg) : PyData.eqv (tsDat a) (tsDat b) = decide (a = b) := eqvAll_map Tg.dat eqv_tg a b
theorem eqv_wd (a b : Wd) : PyData.eqv a.dat b.dat = decide (a = b) := by
  show (PyData.eqv (.int a.t) (.int b.t) && (PyData.eqv (.int a.n) (.int b.n) && (PyData.eqv (.int a.l) (.int b.l) && (PyData.eqv (tsDat a.ts) (tsDat b.ts) && true)))) = _
  rw [eqv_int, eqv_int, eqv_int, eqv_ts]
  cases a
  cases b
  simp [Wd.mk.injEq]
/-- the names of the kinds are texts -/
def KdsOk (ts : List Tg) : Prop := ∀ t ∈ ts, PyData.strOk t.kd = true
theorem lay_tg {t : Tg} (hk : PyData.strOk t.kd = true) : PyData.canLay0 t.dat = true ∧ PyData.depth t.dat ≤ 2 := by
  have h := lay_ints t.ns
  refine ⟨?_, ?_⟩
  · show (true && (PyData.strOk t.kd && (PyData.canLayAll0 (t.ns.map PyData.int) && true))) = true
    rw [h.1, hk]
    rfl
  · show max 0 (max 0 (max (PyData.depthAll (t.ns.map PyData.int) + 1) 0)) + 1 ≤ 2
    rw [h.2]
    decide
theorem lay_tgs : ∀ {ts : List Tg}, KdsOk ts → PyData.canLayAll0 (ts.map Tg.dat) = true ∧ PyData.depthAll (ts.map Tg.dat) ≤ 2
  | [], _ => ⟨rfl, Nat.zero_le _⟩
  | t :: ts, hk => by
    have h1 := lay_tg (hk t (List.mem_cons_self ..))
    have h2 := lay_tgs (ts := ts) fun t' h => hk t' (List.mem_cons_of_mem _ h)
    refine ⟨?_, ?_⟩
    · show (PyData.canLay0 t.dat && PyData.canLayAll0 (ts.map Tg.dat)) = true
      rw [h1.1, h2.1]
      rfl
    · show max (PyData.depth t.dat) (PyData.depthAll (ts.map Tg.dat)) ≤ 2
      have := h1.2
      have := h2.2
      omega
theorem lay_ts {ts : List Tg} (hk : KdsOk ts) : PyData.canLay0 (tsDat ts) = true ∧ PyData.depth (tsDat ts) ≤ 3 := by
  have h := lay_tgs hk
  refine ⟨h.1, ?_⟩
  show PyData.depthAll (ts.map Tg.dat) + 1 ≤ 3
  have := h.2
  omega
theorem lay_wd {W : Wd} (hk : KdsOk W.ts) : PyData.canLay0 W.dat = true ∧ PyData.depth W.dat ≤ 4 := by
  have h := lay_ts hk
  refine ⟨?_, ?_⟩
  · show (true && (true && (true && (PyData.canLay0 (tsDat W.ts) && true)))) = true
    rw [h.1]
    rfl
  · show max 0 (max 0 (max 0 (max (PyData.depth (tsDat W.ts)) 0))) + 1 ≤ 4
    have := h.2
    omega
theorem shaped_of_le {d : PyData} {n : Nat} (h : PyData.canLay0 d = true ∧ PyData.depth d ≤ n) (hn : n ≤ 64) : SeqAt.shaped d = true := by
  unfold SeqAt.shaped
  rw [h.1, decide_eq_true (by omega)]
  rfl
theorem shaped_wd {W : Wd} (hk : KdsOk W.ts) : SeqAt.shaped W.dat = true := shaped_of_le (lay_wd hk) (by decide)
theorem shaped_ts {ts : List Tg} (hk : KdsOk ts) : SeqAt.shaped (tsDat ts) = true := shaped_of_le (lay_ts hk) (by decide)
theorem kitF {K : PySem.W.Frag} {C : Addr} {n : String} (c : (PySem.W.clsIn K C).isSome = true) (y : PySem.W.typeIn K (.ref C) = some (.type "type")) (h : PySem.W.subIn K (.type n) (.ref C) = some false) : PySem.W.kitOne K (.type n) (.ref C) = some false := by
  unfold PySem.W.kitOne PySem.W.kitCls
  rw [if_neg (by simp)]
  show (if ((PySem.W.clsIn K C).isSome && PySem.W.typeIn K (.ref C) == some (.type "type")) = true then PySem.W.subIn K (.type n) (.ref C) else none) = some false
  rw [c, y, h]
  simp
section
variable {σ : L2.St} {H H' : Hp} {te ta tb : TE} {ts : TA} {K : PySem.W.Frag} {C p a : Addr} {W : Wd}
theorem TgAt.dp {r : Addr} {t : Tg} (h : TgAt K H r t) : Dp K H (.ref r) t.dat := by
  obtain ⟨rn, h1, h2⟩ := h
  exact .tup h1 (.cons (.int _) (.cons (.str _) (.cons (.tup h2 (dpa_ints _)) .nil)))
theorem RsAt.dpa : ∀ {rs : List Addr} {ts : List Tg}, RsAt K H rs ts → DpAll K H (rs.map V.ref) (ts.map Tg.dat)
  | [], [], _ => .nil
  | [], _ :: _, h => by cases h.1
  | _ :: _, [], h => by cases h.1
  | r :: rs, t :: ts, h => .cons (TgAt.dp (h.2 0 r t rfl rfl)) (RsAt.dpa ⟨by have := h.1; simpa using this, fun i r' t' h1 h2 => h.2 (i + 1) r' t' h1 h2⟩)
theorem TsAt.dp {ts : List Tg} (h : TsAt K H a ts) : Dp K H (.ref a) (tsDat ts) := by
  obtain ⟨rs, h1, h2⟩ := h
  exact .tup h1 h2.dpa
/-- a plain world -/
def PlAt (K : PySem.W.Frag) (H : Hp) (a : Addr) (W : Wd) : Prop := ∃ aT, SqT K H a [.int W.t, .int W.n, .int W.l, .ref aT] ∧ TsAt K H aT W.ts
theorem PlAt.ex (e : Ex H H') (h : PlAt K H a W) : PlAt K H' a W := by
  obtain ⟨aT, h1, h2⟩ := h
  exact ⟨aT, ex_t e h1, h2.ex e⟩
theorem PlAt.dp (h : PlAt K H a W) : Dp K H (.ref a) W.dat := by
  obtain ⟨aT, h1, h2⟩ := h
  exact .tup h1 (.cons (.int _) (.cons (.int _) (.cons (.int _) (.cons h2.dp .nil))))
/-- a new plain world -/
def EvP (K : PySem.W.Frag) (te : TE) (σ : L2.St) (H : Hp) (W : Wd) : Prop := ∀ H1, Ex H H1 → ∀ Q : VK, (∀ p H2, H1 p = none → Ex H1 H2 → PlAt K H2 p W → Q (.ref p) H2) → te σ H1 Q
def Plnew (K : PySem.W.Frag) (ok : List V → Hp → Wd → Prop) : Sp := fun vs H Q _ => ∃ W, ok vs H W ∧ ∀ p H', H p = none → Ex H H' → PlAt K H' p W → Q (.ref p) H'
theorem ep_call {ok : List V → Hp → Wd → Prop} {E : XK} {vs : List V} (h : EvA ts σ H vs) (ho : ∀ H1, Ex H H1 → ok vs H1 W) : EvP K (tCall (Plnew K ok) [] E ts) σ H W := fun H1 e Q q => h H1 e _ fun H2 e2 => by
  show Plnew K ok (vs ++ []) H2 Q E
  rw [List.append_nil]
  exact ⟨W, ho H2 (e.trans e2), fun p H3 hp e3 h3 => q p H3 (fresh_back e2 hp) (e2.trans e3) h3⟩
theorem evd_P (h : EvP K te σ H W) : EvD K te σ H W.dat := fun H1 e Q q => h H1 e _ fun p H2 _ e2 hW => q _ H2 e2 hW.dp
theorem evd_PV (h : Ev te σ H (.ref a)) (hW : PlAt K H a W) : EvD K te σ H W.dat := evd_of h fun H1 e => (hW.ex e).dp
end
section
variable {P : Program} {w : World} {K : PySem.W.Frag} {mg : Str → Option Value} {base : Heap}
def kProps (K : PySem.W.Frag) (C : Addr) (vs : List V) (H : Hp) (W : Wd) : Prop := ∃ p, vs = [.ref p] ∧ WdAt K C H p W
theorem ok_properties_of (T : Txt K mg w) : FnOk P w K mg base CX0 1 T.a_properties_of T.fd_properties_of ["world"] (Plnew K (kProps K T.C_World)) := by
  refine T.F_properties_of.ok sc_properties_of (fun vs H Q E h => ?_) (fun cdv A outer s H vs Q E hr h => ?_)
  · obtain ⟨_, ⟨_, rfl, _⟩, _⟩ := h; rfl
  · obtain ⟨W, ⟨p, rfl, ⟨rs, aT, aO, aD, ⟨dx, hob⟩, hT, hR, hO, hD⟩⟩, q⟩ := h
    refine ⟨_, (pss_one (ps_ret (pe_tup (pa_cons (pe_fld (pv 0) rfl) (pa_cons (pe_fld (pv 0) rfl) (pa_cons (pe_fld (pv 0) rfl) (pa_cons (pe_fld (pv 0) rfl) pa_nil))))))), ?_⟩
    exact s_retU (xs := [.int W.t, .int W.n, .int W.l, .ref aT]) (eu_tup (ea_cons (ev_fld (ev_var rfl) hob T.cl_World T.n_World_tick rfl) (ea_cons (ev_fld (ev_var rfl) hob T.cl_World T.n_World_next_id rfl) (ea_cons (ev_fld (ev_var rfl) hob T.cl_World T.n_World_luck rfl) (ea_cons (ev_fld (ev_var rfl) hob T.cl_World T.n_World_things rfl) ea_nil)))) (by show 4 ≤ 100000; decide)) fun r H1 hr e1 h1 => q r H1 hr e1 ⟨aT, st_of h1, rs, ex_t e1 hT, hR.ex e1⟩
theorem ok__law_wd_plain (T : Txt K mg w) : FnOk P w K mg base CX0 1 T.a_law_wd_plain T.fd_law_wd_plain ["world"] (Plnew K (kProps K T.C_World)) := by
  refine T.F_law_wd_plain.ok sc_law_wd_plain (fun vs H Q E h => ?_) (fun cdv A outer s H vs Q E hr h => ?_)
  · obtain ⟨_, ⟨_, rfl, _⟩, _⟩ := h; rfl
  · obtain ⟨W, ⟨p, rfl, ⟨rs, aT, aO, aD, ⟨dx, hob⟩, hT, hR, hO, hD⟩⟩, q⟩ := h
    refine ⟨_, (pss_one (ps_ret (pe_tup (pa_cons (pe_fld (pv 0) rfl) (pa_cons (pe_fld (pv 0) rfl) (pa_cons (pe_fld (pv 0) rfl) (pa_cons (pe_fld (pv 0) rfl) pa_nil))))))), ?_⟩
    exact s_retU (xs := [.int W.t, .int W.n, .int W.l, .ref aT]) (eu_tup (ea_cons (ev_fld (ev_var rfl) hob T.cl_World T.n_World_tick rfl) (ea_cons (ev_fld (ev_var rfl) hob T.cl_World T.n_World_next_id rfl) (ea_cons (ev_fld (ev_var rfl) hob T.cl_World T.n_World_luck rfl) (ea_cons (ev_fld (ev_var rfl) hob T.cl_World T.n_World_things rfl) ea_nil)))) (by show 4 ≤ 100000; decide)) fun r H1 hr e1 h1 => q r H1 hr e1 ⟨aT, st_of h1, rs, ex_t e1 hT, hR.ex e1⟩
/-- what isinstance(x, World) says of other values -/
theorem rc_isiN (T : Txt K mg w) {H : Hp} {x : V} (h : x = .non ∨ (∃ z, x = .str z) ∨ ∃ a xs, x = .ref a ∧ SqT K H a xs) : RC (rIsi K) [x, .ref T.C_World] H (.bl false) := fun H1 e Q q => by
  rcases h with rfl | ⟨z, rfl⟩ | ⟨a, xs, rfl, hT⟩
  · exact ⟨.non, .ref T.C_World, .type "NoneType", .ref T.C_World, false, rfl, .own _, .base .non, kitF T.hc_World T.hy_World T.hs_World_NoneType, q H1 (Ex.refl H1)⟩
  · exact ⟨.str z, .ref T.C_World, .type "str", .ref T.C_World, false, rfl, .own _, .base (.str z), kitF T.hc_World T.hy_World T.hs_World_str, q H1 (Ex.refl H1)⟩
  · rcases ex_t e hT with (h | ⟨o, h⟩) | h
    · exact ⟨.ref a, .ref T.C_World, .type "tuple", .ref T.C_World, false, rfl, .own _, .base (.tup h), kitF T.hc_World T.hy_World T.hs_World_tuple, q H1 (Ex.refl H1)⟩
    · exact ⟨.ref a, .ref T.C_World, .type "tuple", .ref T.C_World, false, rfl, .own _, .fTuple h, kitF T.hc_World T.hy_World T.hs_World_tuple, q H1 (Ex.refl H1)⟩
    · obtain ⟨o, its, n, h1, h2, _⟩ := h
      exact ⟨.ref a, .ref T.C_World, .type "tuple", .ref T.C_World, false, rfl, .own _, .kTuple h1 h2, kitF T.hc_World T.hy_World T.hs_World_tuple, q H1 (Ex.refl H1)⟩
def kEqW (K : PySem.W.Frag) (C : Addr) (vs : List V) (H : Hp) (z : V) : Prop := ∃ (p : Addr) (W : Wd) (x : V), vs = [.ref p, x] ∧ WdAt K C H p W ∧ ((∃ p' W', x = .ref p' ∧ WdAt K C H p' W' ∧ KdsOk W.ts ∧ KdsOk W'.ts ∧ z = .bl (decide (W = W'))) ∨ ((x = .non ∨ (∃ z, x = .str z) ∨ ∃ a xs, x = .ref a ∧ SqT K H a xs) ∧ z = .bl false))
theorem ok_eq (T : Txt K mg w) : FnOk P w K mg base CX0 2 T.a_World___eq__ T.fd_World___eq__ ["self", "other"] (Pure (kEqW K T.C_World)) := by
  have G_properties_of := ok_properties_of (P := P) (w := w) (base := base) T
  refine T.F_World___eq__.ok sc_World___eq__ (fun vs H Q E h => ?_) (fun cdv A outer s H vs Q E hr h => ?_)
  · obtain ⟨_, ⟨_, _, _, rfl, _⟩, _⟩ := h; rfl
  · obtain ⟨_, ⟨p, W, x, rfl, hW, hx⟩, q⟩ := h
    refine ⟨_, (pss_one (ps_ret (pe_and (pe_callB call_isi (by rfl) T.z_isinstance (by decide +kernel) (pa_cons (pv 1) (pa_cons (pe_glob (v := .ref _) rfl T.g_World rfl) pa_nil))) (pe_one (pe_cmpR (op_eqD hr.units) (pe_call G_properties_of (hr.mono (by decide)) (by rfl) T.g_properties_of T.F_properties_of.kp T.b_properties_of .nil pass0 (pa_cons (pv 0) pa_nil)) (pe_call G_properties_of (hr.mono (by decide)) (by rfl) T.g_properties_of T.F_properties_of.kp T.b_properties_of .nil pass0 (pa_cons (pv 1) pa_nil)) (nomark _)))))), ?_⟩
    rcases hx with ⟨p', W', rfl, hW', hk, hk', rfl⟩ | ⟨hx, rfl⟩
    · obtain ⟨rs, aT, aO, aD, ⟨dx, hob⟩, _⟩ := id hW'
      exact s_ret (v := .bl (decide (W = W'))) (ev_is (ev_andV (a := true) (b := decide (W = W')) (ev_cb (vs := [.ref p', .ref T.C_World]) (by walk_at "ea") (rc_isiW T hob)) fun _ => ev_is (ev_eqD (evd_P (ep_call (ok := kProps K T.C_World) (W := W) (vs := [.ref p]) (by walk_at "ea") fun H1 e1 => ⟨p, rfl, hW.ex e1⟩)) (evd_P (ep_call (ok := kProps K T.C_World) (W := W') (vs := [.ref p']) (by walk_at "ea") fun H1 e1 => ⟨p', rfl, hW'.ex e1⟩)) (shaped_wd hk) (shaped_wd hk')) (by rw [eqv_wd])) (by simp)) q
    · exact s_ret (v := .bl false) (ev_is (ev_andV (a := false) (b := false) (ev_cb (vs := [x, .ref T.C_World]) (by walk_at "ea") (rc_isiN T hx)) fun h => by cases h) rfl) q
end
end Kz
set_option Elab.async false
set_option linter.all false
set_option maxRecDepth 100000
set_option maxHeartbeats 4000000
set_option exponentiation.threshold 500
namespace Kz
open PySem PySem.Spec PyProof.Rows L2 Evl Vr
local macro_rules | `(tactic| walk_at "sc") => `(tactic| first | (with_reducible assumption) | (with_reducible exact sc_mul (by omega)) | (with_reducible exact sc_mulr (by omega)) | (with_reducible exact sc_div (by omega) (by decide)) | (show (0 : Int) < _; omega) | (show _ ≠ (0 : Int); omega) | (with_reducible rfl) | decide)
local macro_rules | `(tactic| walk_at "sq") => `(tactic| first | assumption | exact sq_of (by assumption) | exact st_of (by assumption))
local macro_rules | `(tactic| walk_at "pl") => `(tactic| first | assumption | exact pl_int | exact pl_bl | exact pl_str | exact pl_non | exact pl_lst (by assumption) | exact pl_tup (by assumption) | exact pl_dK (by assumption))
local macro_rules | `(tactic| walk_at "rv") => `(tactic| first
  | with_reducible exact rv_I0
  | with_reducible exact ru_neg
  | ((with_reducible apply rv_I); walk_at "sc")
  | ((with_reducible apply rv_ixL); walk_at "sq"; first | rfl | assumption)
  | ((with_reducible apply rv_ixT); walk_at "sq"; first | rfl | assumption)
  | ((with_reducible apply rv_eq); rfl) | ((with_reducible apply rv_ne); rfl))
local macro_rules | `(tactic| walk_at "rc") => `(tactic| first
  | with_reducible exact rc_I1 | with_reducible exact rc_B1 | with_reducible exact rc_I2 | ((with_reducible apply rc_repr); walk_at "sc") | ((with_reducible apply rc_lenL); walk_at "sq")
  | ((with_reducible apply rc_isiInt); walk_at "pl") | ((with_reducible apply rc_isiBool); walk_at "pl"))
local macro_rules | `(tactic| walk_at "ea") => `(tactic| first
  | with_reducible exact ea_nil | ((with_reducible apply ea_cons); walk_at "ev"; walk_at "ea"))
local macro_rules | `(tactic| walk_at "pow") => `(tactic| first
  | with_reducible exact ev_pow (a := 10) (b := 9) (c := 1000000000) (by decide +kernel) (by decide +kernel)
  | with_reducible exact ev_pow (a := 10) (b := 10) (c := 10000000000) (by decide +kernel) (by decide +kernel)
  | with_reducible exact ev_pow (a := 10) (b := 12) (c := 1000000000000) (by decide +kernel) (by decide +kernel)
  | with_reducible exact ev_pow (a := 10) (b := 17) (c := 100000000000000000) (by decide +kernel) (by decide +kernel)
  | with_reducible exact ev_pow (a := 10) (b := 20) (c := 100000000000000000000) (by decide +kernel) (by decide +kernel)
  | with_reducible exact ev_pow (a := 10) (b := 29) (c := 100000000000000000000000000000) (by decide +kernel) (by decide +kernel)
  | with_reducible exact ev_pow (a := 10) (b := 30) (c := 1000000000000000000000000000000) (by decide +kernel) (by decide +kernel)
  | with_reducible exact ev_pow (a := 10) (b := 40) (c := 10000000000000000000000000000000000000000) (by decide +kernel) (by decide +kernel)
  | with_reducible exact ev_pow (a := 10) (b := 57) (c := 1000000000000000000000000000000000000000000000000000000000) (by decide +kernel) (by decide +kernel)
  | with_reducible exact ev_pow (a := 10) (b := 58) (c := 10000000000000000000000000000000000000000000000000000000000) (by decide +kernel) (by decide +kernel)
  | with_reducible exact ev_pow (a := 10) (b := 59) (c := 100000000000000000000000000000000000000000000000000000000000) (by decide +kernel) (by decide +kernel)
  | with_reducible exact ev_pow (a := 10) (b := 60) (c := 1000000000000000000000000000000000000000000000000000000000000) (by decide +kernel) (by decide +kernel))
local macro_rules | `(tactic| walk_at "call") => `(tactic| (intro H9 e9; first | exact ⟨_, rfl, rfl⟩ | exact ⟨_, _, rfl, rfl⟩ | exact ⟨_, _, _, rfl, rfl⟩ | exact ⟨_, rfl, by walk_at "pl", rfl⟩ | (refine ⟨_, _, _, rfl, ?_, rfl⟩; first | exact Plain.ex e9 (by assumption) | walk_at "pl") | (refine ⟨_, rfl, ?_, rfl⟩; first | exact Plain.ex e9 (by assumption) | walk_at "pl")))
local macro_rules | `(tactic| walk_at "ev") => `(tactic| first
  | with_reducible exact ev_c
  | exact ev_var rfl
  | walk_at "pow"
  | ((with_reducible apply ev_op); walk_at "ev"; walk_at "ev"; walk_at "rv")
  | ((with_reducible apply ev_un); walk_at "ev"; walk_at "rv")
  | ((with_reducible apply ev_cb); walk_at "ea"; walk_at "rc")
  | ((with_reducible apply ev_callP); walk_at "ea"; walk_at "call")
  | ((with_reducible apply ev_chain); walk_at "ev"; walk_at "ev"; walk_at "rv"; walk_at "ev"; walk_at "rv")
  | ((with_reducible apply ev_andV); walk_at "ev"; intro _; walk_at "ev")
  | ((with_reducible apply ev_orV); walk_at "ev"; intro _; walk_at "ev")
  | ((with_reducible apply ev_ite); walk_at "et"; intro _; walk_at "ev"; intro _; walk_at "ev")
  | ((with_reducible apply ev_notV); walk_at "ev"))
local macro_rules | `(tactic| walk_at "et") => `(tactic| first
  | ((with_reducible apply et_test); walk_at "ev")
  | ((with_reducible apply et_B); walk_at "ev")
  | ((with_reducible apply et_and); walk_at "et"; intro _; walk_at "et")
  | ((with_reducible apply et_or); walk_at "et"; intro _; walk_at "et")
  | ((with_reducible apply et_not); walk_at "et"))
open En Wo
section
variable {σ : L2.St} {H : Hp} {te : TE} {ts : List TE} {acc out y : Str}
def EvJs (ts : List TE) (acc : Str) (σ : L2.St) (H : Hp) (out : Str) : Prop := ∀ H1, Ex H H1 → ∀ Q : Str → Hp → Prop, (∀ H2, Ex H1 H2 → Q out H2) → tJs ts acc σ H1 Q
theorem ejs_nil : EvJs [] acc σ H acc := fun H1 _ Q q => q H1 (Ex.refl H1)
theorem ejs_cons (h : Ev te σ H (.str y)) (hz : (acc ++ y).length ≤ sizeLine) (hr : EvJs ts (acc ++ y) σ H out) : EvJs (te :: ts) acc σ H out := fun H1 e Q q => h H1 e _ fun H2 e2 => ⟨y, rfl, hz, hr H2 (e.trans e2) Q fun H3 e3 => q H3 (e2.trans e3)⟩
theorem ev_js (h : EvJs ts Str.empty σ H out) : Ev (fun σ H Q => tJs ts Str.empty σ H fun o H1 => Q (.str o) H1) σ H (.str out) := fun H1 e Q q => h H1 e _ q
theorem ev_fmtI {i : Int} (h : Ev te σ H (.int i)) (hz : i.natAbs.log2 < 1920) : Ev (tFmt te) σ H (.str (toString i)) := fun H1 e Q q => h H1 e _ fun H2 e2 => .inr ⟨i, rfl, hz, q H2 e2⟩
end
def Wd.text (W : Wd) : Str := "world at " ++ (toString W.t : Str) ++ " of " ++ (toString (W.ts.length : Int) : Str) ++ " things"
theorem log_small {n : Nat} (h : n ≤ 100) : ((n : Int)).natAbs.log2 < 1920 := by
  show n.log2 < 1920
  have : n.log2 ≤ n := Nat.log2_le_self n
  omega
section
variable {P : Program} {w : World} {K : PySem.W.Frag} {mg : Str → Option Value} {base : Heap}
def kText (K : PySem.W.Frag) (C : Addr) (vs : List V) (H : Hp) (z : V) : Prop := ∃ (p : Addr) (W : Wd), vs = [.ref p] ∧ WdAt K C H p W ∧ W.ts.length ≤ 12 ∧ W.t.natAbs.log2 < 1920 ∧ z = .str W.text
theorem ok_str (T : Txt K mg w) : FnOk P w K mg base CX0 1 T.a_World___str__ T.fd_World___str__ ["self"] (Pure (kText K T.C_World)) := by
  refine T.F_World___str__.ok sc_World___str__ (fun vs H Q E h => ?_) (fun cdv A outer s H vs Q E hr h => ?_)
  · obtain ⟨_, ⟨_, _, rfl, _⟩, _⟩ := h; rfl
  · obtain ⟨_, ⟨p, W, rfl, ⟨rs, aT, aO, aD, ⟨dx, hob⟩, hT, hR, hO, hD⟩, hl, ht, rfl⟩, q⟩ := h
    refine ⟨_, (pss_one (ps_ret (pe_joined (.cons pe_str (.cons (pe_fmt (pe_fld (pv 0) rfl)) (.cons pe_str (.cons (pe_fmt (pe_callB c_len (by rfl) T.z_len PySem.boot_len (pa_cons (pe_fld (pv 0) rfl) pa_nil))) (.cons pe_str .nil)))))))), ?_⟩
    have h1 := int_text_len_1921 ht
    have h2 := int_text_len_1921 (log_small (n := W.ts.length) (by omega))
    have e9 : (Str.ofString "world at ").length = 9 := by decide +kernel
    have e4 : (Str.ofString " of ").length = 4 := by decide +kernel
    have e7 : (Str.ofString " things").length = 7 := by decide +kernel
    have e0 : Str.empty.length = 0 := by decide +kernel
    have hz : sizeLine = 16777216 := sizeLine_eq
    refine s_ret (v := .str W.text) (ev_is (ev_js (ejs_cons (y := Str.ofString "world at ") ev_c (by rw [Str.length_append]; omega) (ejs_cons (y := Str.ofString (toString W.t)) (ev_fmtI (ev_fld (ev_var rfl) hob T.cl_World T.n_World_tick rfl) ht) (by rw [Str.length_append, Str.length_append]; omega) (ejs_cons (y := Str.ofString " of ") ev_c (by rw [Str.length_append, Str.length_append, Str.length_append]; omega) (ejs_cons (y := Str.ofString (toString (W.ts.length : Int))) (ev_fmtI (ev_cb (vs := [.ref aT]) (ea_cons (ev_fld (ev_var rfl) hob T.cl_World T.n_World_things rfl) ea_nil) (by
      have := rc_lenT (H := H) hT
      rw [List.length_map, hR.1] at this
      exact this)) (log_small (by omega))) (by rw [Str.length_append, Str.length_append, Str.length_append, Str.length_append]; omega) (ejs_cons (y := Str.ofString " things") ev_c (by rw [Str.length_append, Str.length_append, Str.length_append, Str.length_append, Str.length_append]; omega) ejs_nil)))))) (by unfold Wd.text; rw [Str.empty_append])) q
/-- what __iter__ answers -/
def spIter (K : PySem.W.Frag) (C : Addr) : Sp := fun vs H Q _ => ∃ (p aO : Addr) (W : Wd), vs = [.ref p] ∧ (∃ rs aT aD, WAt K C H p W rs aT aO aD) ∧ ∀ it H', H it = none → Ex H H' → H' it = some (TiO aO it 0) → Q (.ref it) H'
theorem ok_iter (T : Txt K mg w) : FnOk P w K mg base CX0 1 T.a_World___iter__ T.fd_World___iter__ ["self"] (spIter K T.C_World) := by
  refine T.F_World___iter__.ok sc_World___iter__ (fun vs H Q E h => ?_) (fun cdv A outer s H vs Q E hr h => ?_)
  · obtain ⟨_, _, _, rfl, _⟩ := h; rfl
  · obtain ⟨p, aO, W, rfl, ⟨rs, aT, aD, ⟨dx, hob⟩, hT, hR, hO, hD⟩, q⟩ := h
    refine ⟨_, (pss_one (ps_ret (pe_callB c_iterT (by rfl) T.z_iter (by decide +kernel) (pa_cons (pe_fld (pv 0) rfl) pa_nil)))), ?_⟩
    have h0 : EvA (tCons (tFld K (tVar 0) "order") tNil) [some (.ref p)] H [.ref aO] := ea_cons (ev_fld (ev_var rfl) hob T.cl_World T.n_World_order rfl) ea_nil
    exact h0 H (Ex.refl H) (fun vs H1 => rIterT K vs H1 Q) fun H1 e1 => ⟨aO, _, rfl, ex_t e1 hO, fun it hit => q it _ (fresh_back e1 hit) (e1.trans (Ex.new hit)) upd_same⟩
/-- the ids of the things of a kind -/
def Wd.ids (W : Wd) (d : PyData) : List Int := (W.ts.filter fun t => PyData.eqv (.str t.kd) d).map Tg.id
def kIds (K : PySem.W.Frag) (C : Addr) (vs : List V) (H : Hp) (xs : List V) : Prop := ∃ (p : Addr) (W : Wd) (x : V) (d : PyData), vs = [.ref p, x] ∧ WdAt K C H p W ∧ W.ts.length ≤ 12 ∧ KdsOk W.ts ∧ Dp K H x d ∧ SeqAt.shaped d = true ∧ xs = (W.ids d).map V.int
theorem shaped_str {z : Str} (h : PyData.strOk z = true) : SeqAt.shaped (.str z) = true := by
  show (PyData.strOk z && _) = true
  rw [h]
  rfl
theorem ok_ids (T : Txt K mg w) : FnOk P w K mg base CX0 1 T.a_World_ids T.fd_World_ids ["self", "kind"] (Tupd (kIds K T.C_World)) := by
  refine T.F_World_ids.ok sc_World_ids (fun vs H Q E h => ?_) (fun cdv A outer s H vs Q E hr h => ?_)
  · obtain ⟨_, ⟨_, _, _, _, rfl, _⟩, _⟩ := h; rfl
  · obtain ⟨_, ⟨p, W, x, d, rfl, ⟨rs, aT, aO, aD, ⟨dx, hob⟩, hT, hR, hO, hD⟩, hl, hk, hd, sd, rfl⟩, q⟩ := h
    refine ⟨_, (pss_one (ps_ret (pe_callTy c_tupL (by rfl) T.z_tuple (by decide +kernel) (pa_cons (pe_lc (own := [("thing", 2)]) (g := gName 2) (by rfl) sc_World_ids.nd (pi_tup (pe_fld (pv 0) rfl)) (blkOk_by (own := [("thing", 2)]) (N := ["self", "kind", "thing"]) (sc := defScope s_World_ids) (by decide +kernel)) (fun _ _ _ _ _ => pg_name (i := 2) sc_World_ids.nd rfl (Or.inl rfl)) (fun _ _ _ _ _ => (pts_one (pt_cmpR (op_eqDK (K := K) hr.units rfl rfl) (pe_ix (ix_tupK (K := K) rfl) (pv 2) pe_int (fun _ _ => rfl)) (pv 1) (nomark _)))) (fun _ _ _ _ _ => (pe_ix (ix_tupK (K := K) rfl) (pv 2) pe_int (fun _ _ => rfl)))) pa_nil)))), ?_⟩
    refine s_retU (xs := (W.ids d).map V.int) (eu_tupL (by
      have e : (W.ids d).map V.int = (W.ts.filter fun t => PyData.eqv (.str t.kd) d).map fun t => V.int t.id := by
        unfold Wd.ids
        rw [List.map_map]
        rfl
      rw [e]
      exact el_lcTs (fun t => PyData.eqv (.str t.kd) d) (fun _ t => V.int t.id) (fun t => V.int t.id) (ev_fld (ev_var rfl) hob T.cl_World T.n_World_things rfl) hT hR (by omega) (fun _ => rfl) (fun r t H1 e1 hA hm => et_test (ev_eqD (evd_str (ev_tg1 (ev_var rfl) hA)) (evd_var rfl (dp_ex e1 hd)) (shaped_str (hk t hm)) sd)) fun r t H1 e1 hA _ _ => ev_tg0 (ev_var rfl) hA)) q
end
end Kz
set_option Elab.async false
set_option linter.all false
set_option maxRecDepth 100000
set_option maxHeartbeats 4000000
set_option exponentiation.threshold 500
namespace Kz
open PySem PySem.Spec PyProof.Rows L2 Evl Vr
local macro_rules | `(tactic| walk_at "sc") => `(tactic| first | (with_reducible assumption) | (with_reducible exact sc_mul (by omega)) | (with_reducible exact sc_mulr (by omega)) | (with_reducible exact sc_div (by omega) (by decide)) | (show (0 : Int) < _; omega) | (show _ ≠ (0 : Int); omega) | (with_reducible rfl) | decide)
local macro_rules | `(tactic| walk_at "sq") => `(tactic| first | assumption | exact sq_of (by assumption) | exact st_of (by assumption))
local macro_rules | `(tactic| walk_at "pl") => `(tactic| first | assumption | exact pl_int | exact pl_bl | exact pl_str | exact pl_non | exact pl_lst (by assumption) | exact pl_tup (by assumption) | exact pl_dK (by assumption))
local macro_rules | `(tactic| walk_at "rv") => `(tactic| first
  | with_reducible exact rv_I0
  | with_reducible exact ru_neg
  | ((with_reducible apply rv_I); walk_at "sc")
  | ((with_reducible apply rv_ixL); walk_at "sq"; first | rfl | assumption)
  | ((with_reducible apply rv_ixT); walk_at "sq"; first | rfl | assumption)
  | ((with_reducible apply rv_eq); rfl) | ((with_reducible apply rv_ne); rfl))
local macro_rules | `(tactic| walk_at "rc") => `(tactic| first
  | with_reducible exact rc_I1 | with_reducible exact rc_B1 | with_reducible exact rc_I2 | ((with_reducible apply rc_repr); walk_at "sc") | ((with_reducible apply rc_lenL); walk_at "sq")
  | ((with_reducible apply rc_isiInt); walk_at "pl") | ((with_reducible apply rc_isiBool); walk_at "pl"))
local macro_rules | `(tactic| walk_at "ea") => `(tactic| first
  | with_reducible exact ea_nil | ((with_reducible apply ea_cons); walk_at "ev"; walk_at "ea"))
local macro_rules | `(tactic| walk_at "pow") => `(tactic| first
  | with_reducible exact ev_pow (a := 10) (b := 9) (c := 1000000000) (by decide +kernel) (by decide +kernel)
  | with_reducible exact ev_pow (a := 10) (b := 10) (c := 10000000000) (by decide +kernel) (by decide +kernel)
  | with_reducible exact ev_pow (a := 10) (b := 12) (c := 1000000000000) (by decide +kernel) (by decide +kernel)
  | with_reducible exact ev_pow (a := 10) (b := 17) (c := 100000000000000000) (by decide +kernel) (by decide +kernel)
  | with_reducible exact ev_pow (a := 10) (b := 20) (c := 100000000000000000000) (by decide +kernel) (by decide +kernel)
  | with_reducible exact ev_pow (a := 10) (b := 29) (c := 100000000000000000000000000000) (by decide +kernel) (by decide +kernel)
  | with_reducible exact ev_pow (a := 10) (b := 30) (c := 1000000000000000000000000000000) (by decide +kernel) (by decide +kernel)
  | with_reducible exact ev_pow (a := 10) (b := 40) (c := 10000000000000000000000000000000000000000) (by decide +kernel) (by decide +kernel)
  | with_reducible exact ev_pow (a := 10) (b := 57) (c := 1000000000000000000000000000000000000000000000000000000000) (by decide +kernel) (by decide +kernel)
  | with_reducible exact ev_pow (a := 10) (b := 58) (c := 10000000000000000000000000000000000000000000000000000000000) (by decide +kernel) (by decide +kernel)
  | with_reducible exact ev_pow (a := 10) (b := 59) (c := 100000000000000000000000000000000000000000000000000000000000) (by decide +kernel) (by decide +kernel)
  | with_reducible exact ev_pow (a := 10) (b := 60) (c := 1000000000000000000000000000000000000000000000000000000000000) (by decide +kernel) (by decide +kernel))
local macro_rules | `(tactic| walk_at "call") => `(tactic| (intro H9 e9; first | exact ⟨_, rfl, rfl⟩ | exact ⟨_, _, rfl, rfl⟩ | exact ⟨_, _, _, rfl, rfl⟩ | exact ⟨_, rfl, by walk_at "pl", rfl⟩ | (refine ⟨_, _, _, rfl, ?_, rfl⟩; first | exact Plain.ex e9 (by assumption) | walk_at "pl") | (refine ⟨_, rfl, ?_, rfl⟩; first | exact Plain.ex e9 (by assumption) | walk_at "pl")))
local macro_rules | `(tactic| walk_at "ev") => `(tactic| first
  | with_reducible exact ev_c
  | exact ev_var rfl
  | walk_at "pow"
  | ((with_reducible apply ev_op); walk_at "ev"; walk_at "ev"; walk_at "rv")
  | ((with_reducible apply ev_un); walk_at "ev"; walk_at "rv")
  | ((with_reducible apply ev_cb); walk_at "ea"; walk_at "rc")
  | ((with_reducible apply ev_callP); walk_at "ea"; walk_at "call")
  | ((with_reducible apply ev_chain); walk_at "ev"; walk_at "ev"; walk_at "rv"; walk_at "ev"; walk_at "rv")
  | ((with_reducible apply ev_andV); walk_at "ev"; intro _; walk_at "ev")
  | ((with_reducible apply ev_orV); walk_at "ev"; intro _; walk_at "ev")
  | ((with_reducible apply ev_ite); walk_at "et"; intro _; walk_at "ev"; intro _; walk_at "ev")
  | ((with_reducible apply ev_notV); walk_at "ev"))
local macro_rules | `(tactic| walk_at "et") => `(tactic| first
  | ((with_reducible apply et_test); walk_at "ev")
  | ((with_reducible apply et_B); walk_at "ev")
  | ((with_reducible apply et_and); walk_at "et"; intro _; walk_at "et")
  | ((with_reducible apply et_or); walk_at "et"; intro _; walk_at "et")
  | ((with_reducible apply et_not); walk_at "et"))
open En Wo
def NumV (v : V) : Prop := ∃ n : Int, v = .int n ∧ num n
def kOne (R' : V → Prop) (vs : List V) (_ : Hp) (p : Addr) (R : V → Prop) : Prop := vs = [.ref p] ∧ R = R'
def kOneT (R' : List V → Prop) (vs : List V) (_ : Hp) (p : Addr) (R : List V → Prop) : Prop := vs = [.ref p] ∧ R = R'
def kNear (vs : List V) (_ : Hp) (p : Addr) (R : V → Prop) : Prop := ∃ m : Int, vs = [.ref p, .int m] ∧ 0 ≤ m ∧ m ≤ 1000000000 ∧ R = fun v => ∃ n : Int, v = .int n ∧ -m ≤ n ∧ n ≤ m
theorem dv_roll {p : Addr} {σ : L2.St} {H : Hp} {ta : TE} {m : Int} {i : Nat} (hs : σ[i]? = some (some (.ref p))) (ha : ∀ H1, Ev ta σ H1 (.int m)) (h0 : 0 < m) (h1 : m.natAbs < 2 ^ 400) : Dv p (tCall (Draws kRoll) [] E0 (tCons (tVar i) (tCons ta tNil))) σ H (fun v => ∃ r : Int, v = .int r ∧ 0 ≤ r ∧ r < m) :=
  dv_call (vs := [.ref p, .int m]) (fun H1 _ _ => ea_cons (ev_var hs) (ea_cons (ha H1) ea_nil)) (fun H1 _ _ => ⟨m, rfl, h0, h1, rfl⟩)
section
variable {σ : L2.St} {H : Hp} {te tn : TE} {ts : TA} {tz : TS} {D : Ends} {K : PySem.W.Frag} {p : Addr}
theorem dl_lcD {j : Nat} {vs : List Nat} {R : V → Prop} {RN : Nat → Prop} {Q : VK} (hw : ∀ x, wipe ((wipe σ vs).set j (some x)) vs = wipe σ vs) (hN : ∀ n, RN n → n ≤ 1000) (hn : Dv p tn σ H (fun v => ∃ n : Nat, v = .int n ∧ RN n)) (he : ∀ i : Nat, Dv p te ((wipe σ vs).set j (some (.int (0 + (i : Int))))) H R) (hd : Dice p H)
    (k : ∀ n l xs H2, RN n → (xs.length = n ∧ ∀ v ∈ xs, R v) → l ≠ p → Exd p H H2 → Dice p H2 → H2 l = some (.lst xs) → Q (.ref l) H2) : tLc (iRng1 (tCons tn tNil)) (gName j) tYes te vs σ H Q :=
  hn H (Exd.refl p H) hd _ fun v H1 hv e1 d1 => by
    obtain ⟨n, rfl, rn⟩ := hv
    exact dl_lcR (σ := σ) (H := H1) (n := n) (R := R) (Q := Q) hw (hN n rn) (fun i _ H2 e2 => he i H2 (e1.trans e2)) d1 fun l xs H2 hx hl e2 d2 h2 => k n l xs H2 rn hx hl (e1.trans e2) d2 h2
theorem s_retLcD {j : Nat} {vs : List Nat} {R : V → Prop} {RN : Nat → Prop} (hw : ∀ x, wipe ((wipe σ vs).set j (some x)) vs = wipe σ vs) (hN : ∀ n, RN n → n ≤ 1000) (hn : Dv p tn σ H (fun v => ∃ n : Nat, v = .int n ∧ RN n)) (he : ∀ i : Nat, Dv p te ((wipe σ vs).set j (some (.int (0 + (i : Int))))) H R) (hd : Dice p H)
    (k : ∀ n b xs H2, RN n → (xs.length = n ∧ ∀ v ∈ xs, R v) → b ≠ p → Exd p H H2 → Dice p H2 → H2 b = some (.tup xs) → D.rt (.ref b) H2) : tRet (tCB (rTupL K) (tCons (tLc (iRng1 (tCons tn tNil)) (gName j) tYes te vs) tNil)) D σ H :=
  dl_lcD (Q := fun x H2 => rTupL K [x] H2 D.rt) hw hN hn he hd fun n l xs H2 rn hx hl e2 d2 h2 => ⟨l, xs, rfl, sq_of h2, fun b hb => k n b xs _ rn hx (d2.ne hb) (e2.trans (Exd.of (Ex.new hb))) (d2.ex (Ex.new hb)) upd_same⟩
/-- a list laid of drawn values, one of which is picked -/
theorem dv_pickA {ok : List V → Hp → Addr → (V → Prop) → Prop} {E : XK} {R : V → Prop} {RA : List V → Prop} {i : Nat} (hs : σ[i]? = some (some (.ref p))) (h : DvA p ts σ H RA) (hz : ∀ xs, RA xs → xs.length ≤ 100000) (ho : ∀ l xs H1, RA xs → Exd p H H1 → Dice p H1 → l ≠ p → H1 l = some (.lst xs) → ∃ R' : V → Prop, ok [.ref p, .ref l] H1 p R' ∧ ∀ v, R' v → R v) :
    Dv p (tCall (Draws ok) [] E (tCons (tVar i) (tCons (tLst ts) tNil))) σ H R := fun H1 e d Q q =>
  ⟨.ref p, hs, h H1 e d _ fun xs H2 hx e2 d2 => ⟨sz_of (hz xs hx), fun l hl => by
    have d3 := d2.ex (Ex.new (o := .lst xs) hl)
    have e3 : Exd p H2 (upd H2 l (.lst xs)) := Exd.of (Ex.new hl)
    obtain ⟨R', h1, h2⟩ := ho l xs _ hx ((e.trans e2).trans e3) d3 (d2.ne hl) upd_same
    exact ⟨p, R', h1, d3, fun v H4 hv e4 d4 => q v H4 (h2 v hv) ((e2.trans e3).trans e4) d4⟩⟩⟩
end
def NumsR (xs : List V) : Prop := ∃ ns : List Int, xs = ns.map V.int ∧ 1 ≤ ns.length ∧ ns.length ≤ 8 ∧ ∀ n ∈ ns, num n
theorem nums_of : ∀ {xs : List V}, (∀ v ∈ xs, NumV v) → ∃ ns : List Int, xs = ns.map V.int ∧ ∀ n ∈ ns, num n
  | [], _ => ⟨[], rfl, fun _ h => by cases h⟩
  | x :: xs, h => by
    obtain ⟨n, rfl, hn⟩ := h x (by simp)
    obtain ⟨ns, rfl, hs⟩ := nums_of fun v hv => h v (List.mem_cons_of_mem _ hv)
    refine ⟨n :: ns, rfl, fun m hm => ?_⟩
    rcases List.mem_cons.mp hm with rfl | z
    · exact hn
    · exact hs m z
def kinds : List Str := ["hero", "coin", "a", "zzzzzzzz", "box"]
def KindV (v : V) : Prop := ∃ z : Str, v = .str z ∧ z ∈ kinds
section
variable {P : Program} {w : World} {K : PySem.W.Frag} {mg : Str → Option Value} {base : Heap}
theorem ok_near (T : Txt K mg w) : FnOk P w K mg base CX0 3 T.a_law_near T.fd_law_near ["dice", "most"] (Draws kNear) := by
  have G_law_roll := ok_roll (P := P) (w := w) (base := base) T
  refine T.F_law_near.ok sc_law_near (fun vs H Q E h => ?_) (fun cdv A outer s H vs Q E hr h => ?_)
  · obtain ⟨p, _, ⟨_, rfl, _⟩, _⟩ := h; rfl
  · obtain ⟨p, _, ⟨m, rfl, m0, m1, rfl⟩, hd, q⟩ := h
    refine ⟨_, (pss_one (ps_ret (pe_op op_sub (pe_call G_law_roll (hr.mono (by decide)) (by rfl) T.g_law_roll T.F_law_roll.kp T.b_law_roll .nil pass0 (pa_cons (pv 0) (pa_cons (pe_op op_add (pe_op op_mul pe_int (pv 1)) pe_int) pa_nil))) (pv 1)))), ?_⟩
    have m2 : CMul (2 : Int) m := .inl (by decide)
    refine s_retDv (p := p) (R := fun v => ∃ n : Int, v = .int n ∧ -m ≤ n ∧ n ≤ m) (dv_op (R1 := fun v => ∃ r : Int, v = .int r ∧ 0 ≤ r ∧ r < 2 * m + 1) (R2' := fun v => v = .int m) (dv_roll (m := 2 * m + 1) rfl (fun H1 => by walk_at "ev") (by omega) (by omega)) (dv_var rfl rfl) ?_) hd fun v H3 hv e3 d3 => q v H3 hv e3 d3
    rintro x y H4 ⟨r, rfl, h0, h1⟩ rfl
    exact ⟨_, rv_I0, _, rfl, by omega, by omega⟩
theorem ok_number (T : Txt K mg w) : FnOk P w K mg base CX0 4 T.a_law_number T.fd_law_number ["dice"] (Draws (kOne NumV)) := by
  have G_law_near := ok_near (P := P) (w := w) (base := base) T
  have G_law_pick := ok_pick (P := P) (w := w) (base := base) T
  refine T.F_law_number.ok sc_law_number (fun vs H Q E h => ?_) (fun cdv A outer s H vs Q E hr h => ?_)
  · obtain ⟨p, _, ⟨rfl, _⟩, _⟩ := h; rfl
  · obtain ⟨p, _, ⟨rfl, rfl⟩, hd, q⟩ := h
    refine ⟨_, (pss_one (ps_ret (pe_call G_law_pick (hr.mono (by decide)) (by rfl) T.g_law_pick T.F_law_pick.kp T.b_law_pick .nil pass0 (pa_cons (pv 0) (pa_cons (pe_lst (pa_cons pe_int (pa_cons pe_int (pa_cons (pe_un un_neg pe_int) (pa_cons pe_int (pa_cons (pe_op op_pow pe_int pe_int) (pa_cons (pe_un un_neg (pe_op op_pow pe_int pe_int)) (pa_cons (pe_call G_law_near (hr.mono (by decide)) (by rfl) T.g_law_near T.F_law_near.kp T.b_law_near .nil pass0 (pa_cons (pv 0) (pa_cons pe_int pa_nil))) (pa_cons (pe_call G_law_near (hr.mono (by decide)) (by rfl) T.g_law_near T.F_law_near.kp T.b_law_near .nil pass0 (pa_cons (pv 0) (pa_cons (pe_op op_pow pe_int pe_int) pa_nil))) pa_nil))))))))) pa_nil))))), ?_⟩
    have c : ∀ {te : TE} {n : Int}, (∀ H1, Ev te [some (.ref p)] H1 (.int n)) → num n → Dv p te [some (.ref p)] H NumV := fun h hn => dv_ev (fun H1 _ _ => h H1) ⟨_, rfl, hn⟩
    have nr : ∀ {te : TE} {m : Int}, (∀ H1, Ev te [some (.ref p)] H1 (.int m)) → 0 ≤ m → m ≤ 1000000000 → Dv p (tCall (Draws kNear) [] E0 (tCons (tVar 0) (tCons te tNil))) [some (.ref p)] H NumV := fun h h0 h1 => (dv_call (vs := [.ref p, .int _]) (fun H1 _ _ => ea_cons (ev_var rfl) (ea_cons (h H1) ea_nil)) (fun H1 _ _ => ⟨_, rfl, h0, h1, rfl⟩)).mono fun v ⟨n, hv, h2, h3⟩ => ⟨n, hv, by unfold num; omega⟩
    refine s_retDv (p := p) (R := NumV) (dv_pickA (RA := fun vs => vs.length = 8 ∧ ∀ v ∈ vs, NumV v) rfl (da_cons (c (fun _ => ev_c) (by unfold num; decide)) (da_cons (c (fun _ => ev_c) (by unfold num; decide)) (da_cons (c (n := -1) (fun _ => by walk_at "ev") (by unfold num; decide)) (da_cons (c (fun _ => ev_c) (by unfold num; decide)) (da_cons (c (n := 1000000000) (fun _ => by walk_at "ev") (by unfold num; decide)) (da_cons (c (n := -1000000000) (fun _ => by walk_at "ev") (by unfold num; decide)) (da_cons (nr (m := 50) (fun _ => ev_c) (by decide) (by decide)) (da_cons (nr (m := 1000000000) (fun _ => by walk_at "ev") (by decide) (by decide)) da_nil)))))))) (fun xs hx => by rw [hx.1]; decide) fun l xs H1 hx _ _ hl h => ⟨_, ⟨l, xs, rfl, hl, sq_of h, by rw [hx.1]; decide, by rw [hx.1]; decide, rfl⟩, fun v hv => hx.2 v hv⟩) hd fun v H3 hv e3 d3 => q v H3 hv e3 d3
theorem ok_numbers_drawn (T : Txt K mg w) : FnOk P w K mg base CX0 5 T.a_law_numbers T.fd_law_numbers ["dice"] (DrawsT (kOneT NumsR)) := by
  have G_law_roll := ok_roll (P := P) (w := w) (base := base) T
  have G_law_number := ok_number (P := P) (w := w) (base := base) T
  refine T.F_law_numbers.ok sc_law_numbers (fun vs H Q E h => ?_) (fun cdv A outer s H vs Q E hr h => ?_)
  · obtain ⟨p, _, ⟨rfl, _⟩, _⟩ := h; rfl
  · obtain ⟨p, _, ⟨rfl, rfl⟩, hd, q⟩ := h
    refine ⟨_, (pss_one (ps_ret (pe_callTy c_tupL (by rfl) T.z_tuple (by decide +kernel) (pa_cons (pe_lc (own := [("spot", 1)]) (g := gName 1) (by rfl) sc_law_numbers.nd (pi_range1 rfl T.z_range (pa_cons (pe_op op_add pe_int (pe_call G_law_roll (hr.mono (by decide)) (by rfl) T.g_law_roll T.F_law_roll.kp T.b_law_roll .nil pass0 (pa_cons (pv 0) (pa_cons pe_int pa_nil)))) pa_nil)) (blkOk_by (own := [("spot", 1)]) (N := ["dice", "spot"]) (sc := defScope s_law_numbers) (by decide +kernel)) (fun _ _ _ _ _ => pg_name (i := 1) sc_law_numbers.nd rfl (Or.inl rfl)) (fun _ _ _ _ _ => pts_nil) (fun _ _ _ _ _ => (pe_call G_law_number (hr.mono (by decide)) (by rfl) T.g_law_number T.F_law_number.kp T.b_law_number .nil pass0 (pa_cons (pv 0) pa_nil)))) pa_nil)))), ?_⟩
    refine s_retLcD (p := p) (R := NumV) (RN := fun n => 1 ≤ n ∧ n ≤ 8) (fun _ => rfl) (fun n hn => by omega) (dv_op (R1 := fun v => v = .int 1) (R2' := fun v => ∃ r : Int, v = .int r ∧ 0 ≤ r ∧ r < 8) (dv_c rfl) (dv_roll (m := 8) rfl (fun H1 => ev_c) (by decide) (by decide)) ?_) (fun i => dv_call (vs := [.ref p]) (fun H1 _ _ => ea_cons (ev_var rfl) ea_nil) fun H1 _ _ => ⟨rfl, rfl⟩) hd fun n b xs H2 hn hx hb e2 d2 h2 => ?_
    · rintro x y H1 rfl ⟨r, rfl, h0, h1⟩
      exact ⟨_, rv_I0, (1 + r).toNat, by rw [Int.toNat_of_nonneg (by omega)], by omega, by omega⟩
    · obtain ⟨ns, rfl, hns⟩ := nums_of hx.2
      have hln : ns.length = n := by have := hx.1; rw [List.length_map] at this; exact this
      exact q b _ _ ⟨ns, rfl, by omega, by omega, hns⟩ hb e2 d2 h2
theorem ok_kind_drawn (T : Txt K mg w) : FnOk P w K mg base CX0 3 T.a_law_kind_drawn T.fd_law_kind_drawn ["dice"] (Draws (kOne KindV)) := by
  have G_law_pick := ok_pick (P := P) (w := w) (base := base) T
  refine T.F_law_kind_drawn.ok sc_law_kind_drawn (fun vs H Q E h => ?_) (fun cdv A outer s H vs Q E hr h => ?_)
  · obtain ⟨p, _, ⟨rfl, _⟩, _⟩ := h; rfl
  · obtain ⟨p, _, ⟨rfl, rfl⟩, hd, q⟩ := h
    refine ⟨_, (pss_one (ps_ret (pe_call G_law_pick (hr.mono (by decide)) (by rfl) T.g_law_pick T.F_law_pick.kp T.b_law_pick .nil pass0 (pa_cons (pv 0) (pa_cons (pe_lst (pa_cons pe_str (pa_cons pe_str (pa_cons pe_str (pa_cons pe_str (pa_cons pe_str pa_nil)))))) pa_nil))))), ?_⟩
    refine s_retDv (p := p) (R := KindV) ((dv_pickL (xs := [.str "hero", .str "coin", .str "a", .str "zzzzzzzz", .str "box"]) (R := fun v => v ∈ [V.str "hero", .str "coin", .str "a", .str "zzzzzzzz", .str "box"]) rfl (fun H1 _ _ => el_lst (by walk_at "ea") (by decide)) (fun l H1 _ _ hl h => ⟨l, _, rfl, hl, sq_of h, by decide, by decide, rfl⟩)).mono fun v hv => ?_) hd fun v H3 hv e3 d3 => q v H3 hv e3 d3
    simp only [List.mem_cons, List.not_mem_nil, or_false] at hv
    rcases hv with rfl | rfl | rfl | rfl | rfl <;> exact ⟨_, rfl, by decide +kernel⟩
end
end Kz
set_option Elab.async false
set_option linter.all false
set_option maxRecDepth 100000
set_option maxHeartbeats 4000000
set_option exponentiation.threshold 500
namespace Kz
open PySem PySem.Spec PyProof.Rows L2 Evl Vr
local macro_rules | `(tactic| walk_at "sc") => `(tactic| first | (with_reducible assumption) | (with_reducible exact sc_mul (by omega)) | (with_reducible exact sc_mulr (by omega)) | (with_reducible exact sc_div (by omega) (by decide)) | (show (0 : Int) < _; omega) | (show _ ≠ (0 : Int); omega) | (with_reducible rfl) | decide)
local macro_rules | `(tactic| walk_at "sq") => `(tactic| first | assumption | exact sq_of (by assumption) | exact st_of (by assumption))
local macro_rules | `(tactic| walk_at "pl") => `(tactic| first | assumption | exact pl_int | exact pl_bl | exact pl_str | exact pl_non | exact pl_lst (by assumption) | exact pl_tup (by assumption) | exact pl_dK (by assumption))
local macro_rules | `(tactic| walk_at "rv") => `(tactic| first
  | with_reducible exact rv_I0
  | with_reducible exact ru_neg
  | ((with_reducible apply rv_I); walk_at "sc")
  | ((with_reducible apply rv_ixL); walk_at "sq"; first | rfl | assumption)
  | ((with_reducible apply rv_ixT); walk_at "sq"; first | rfl | assumption)
  | ((with_reducible apply rv_eq); rfl) | ((with_reducible apply rv_ne); rfl))
local macro_rules | `(tactic| walk_at "rc") => `(tactic| first
  | with_reducible exact rc_I1 | with_reducible exact rc_B1 | with_reducible exact rc_I2 | ((with_reducible apply rc_repr); walk_at "sc") | ((with_reducible apply rc_lenL); walk_at "sq")
  | ((with_reducible apply rc_isiInt); walk_at "pl") | ((with_reducible apply rc_isiBool); walk_at "pl"))
local macro_rules | `(tactic| walk_at "ea") => `(tactic| first
  | with_reducible exact ea_nil | ((with_reducible apply ea_cons); walk_at "ev"; walk_at "ea"))
local macro_rules | `(tactic| walk_at "pow") => `(tactic| first
  | with_reducible exact ev_pow (a := 10) (b := 9) (c := 1000000000) (by decide +kernel) (by decide +kernel)
  | with_reducible exact ev_pow (a := 10) (b := 10) (c := 10000000000) (by decide +kernel) (by decide +kernel)
  | with_reducible exact ev_pow (a := 10) (b := 12) (c := 1000000000000) (by decide +kernel) (by decide +kernel)
  | with_reducible exact ev_pow (a := 10) (b := 17) (c := 100000000000000000) (by decide +kernel) (by decide +kernel)
  | with_reducible exact ev_pow (a := 10) (b := 20) (c := 100000000000000000000) (by decide +kernel) (by decide +kernel)
  | with_reducible exact ev_pow (a := 10) (b := 29) (c := 100000000000000000000000000000) (by decide +kernel) (by decide +kernel)
  | with_reducible exact ev_pow (a := 10) (b := 30) (c := 1000000000000000000000000000000) (by decide +kernel) (by decide +kernel)
  | with_reducible exact ev_pow (a := 10) (b := 40) (c := 10000000000000000000000000000000000000000) (by decide +kernel) (by decide +kernel)
  | with_reducible exact ev_pow (a := 10) (b := 57) (c := 1000000000000000000000000000000000000000000000000000000000) (by decide +kernel) (by decide +kernel)
  | with_reducible exact ev_pow (a := 10) (b := 58) (c := 10000000000000000000000000000000000000000000000000000000000) (by decide +kernel) (by decide +kernel)
  | with_reducible exact ev_pow (a := 10) (b := 59) (c := 100000000000000000000000000000000000000000000000000000000000) (by decide +kernel) (by decide +kernel)
  | with_reducible exact ev_pow (a := 10) (b := 60) (c := 1000000000000000000000000000000000000000000000000000000000000) (by decide +kernel) (by decide +kernel))
local macro_rules | `(tactic| walk_at "call") => `(tactic| (intro H9 e9; first | exact ⟨_, rfl, rfl⟩ | exact ⟨_, _, rfl, rfl⟩ | exact ⟨_, _, _, rfl, rfl⟩ | exact ⟨_, rfl, by walk_at "pl", rfl⟩ | (refine ⟨_, _, _, rfl, ?_, rfl⟩; first | exact Plain.ex e9 (by assumption) | walk_at "pl") | (refine ⟨_, rfl, ?_, rfl⟩; first | exact Plain.ex e9 (by assumption) | walk_at "pl")))
local macro_rules | `(tactic| walk_at "ev") => `(tactic| first
  | with_reducible exact ev_c
  | exact ev_var rfl
  | walk_at "pow"
  | ((with_reducible apply ev_op); walk_at "ev"; walk_at "ev"; walk_at "rv")
  | ((with_reducible apply ev_un); walk_at "ev"; walk_at "rv")
  | ((with_reducible apply ev_cb); walk_at "ea"; walk_at "rc")
  | ((with_reducible apply ev_callP); walk_at "ea"; walk_at "call")
  | ((with_reducible apply ev_chain); walk_at "ev"; walk_at "ev"; walk_at "rv"; walk_at "ev"; walk_at "rv")
  | ((with_reducible apply ev_andV); walk_at "ev"; intro _; walk_at "ev")
  | ((with_reducible apply ev_orV); walk_at "ev"; intro _; walk_at "ev")
  | ((with_reducible apply ev_ite); walk_at "et"; intro _; walk_at "ev"; intro _; walk_at "ev")
  | ((with_reducible apply ev_notV); walk_at "ev"))
local macro_rules | `(tactic| walk_at "et") => `(tactic| first
  | ((with_reducible apply et_test); walk_at "ev")
  | ((with_reducible apply et_B); walk_at "ev")
  | ((with_reducible apply et_and); walk_at "et"; intro _; walk_at "et")
  | ((with_reducible apply et_or); walk_at "et"; intro _; walk_at "et")
  | ((with_reducible apply et_not); walk_at "et"))
open En Wo
section
variable {σ : L2.St} {H : Hp} {te tn : TE} {ts tr ta : TA} {tz tu : TS} {D : Ends} {K : PySem.W.Frag} {p : Addr}
/-- drawn values, of which something is known in the heap behind them -/
def DvAP (p : Addr) (ta : TA) (σ : L2.St) (H : Hp) (P : List V → Hp → Prop) : Prop := ∀ H1, Exd p H H1 → Dice p H1 → ∀ Q : List V → Hp → Prop, (∀ vs H2, P vs H2 → Exd p H1 H2 → Dice p H2 → Q vs H2) → ta σ H1 Q
theorem DvAP.mono {P P' : List V → Hp → Prop} (h : DvAP p ta σ H P) (k : ∀ vs H1, P vs H1 → P' vs H1) : DvAP p ta σ H P' := fun H1 e d Q q => h H1 e d Q fun vs H2 hp e2 d2 => q vs H2 (k vs H2 hp) e2 d2
theorem dv_call2 {ok : List V → Hp → Addr → (V → Prop) → Prop} {E : XK} {R R1 : V → Prop} {i : Nat} (hs : σ[i]? = some (some (.ref p))) (h : Dv p te σ H R1) (ho : ∀ v H1, R1 v → ∃ R' : V → Prop, ok [.ref p, v] H1 p R' ∧ ∀ u, R' u → R u) : Dv p (tCall (Draws ok) [] E (tCons (tVar i) (tCons te tNil))) σ H R := fun H1 e d Q q =>
  ⟨.ref p, hs, h H1 e d _ fun v H2 r e2 d2 => by
    obtain ⟨R', h1, h2⟩ := ho v H2 r
    exact ⟨p, R', h1, d2, fun u H3 hu e3 d3 => q u H3 (h2 u hu) (e2.trans e3) d3⟩⟩
theorem dap_nil : DvAP p tNil σ H (fun vs _ => vs = []) := fun H1 e d Q q => q [] H1 rfl (Exd.refl p H1) d
theorem dap_cons {R : V → Prop} {P : List V → Hp → Prop} (h : Dv p te σ H R) (hr : DvAP p tr σ H P) : DvAP p (tCons te tr) σ H (fun vs H' => ∃ v ws, vs = v :: ws ∧ R v ∧ P ws H') := fun H1 e d Q q =>
  h H1 e d _ fun v H2 r e2 d2 => hr H2 (e.trans e2) d2 _ fun ws H3 rs e3 d3 => q (v :: ws) H3 ⟨v, ws, rfl, r, rs⟩ (e2.trans e3) d3
theorem dap_consN {R : List V → Prop} {P : List V → Hp → Prop} (h : DvN p te σ H R) (hr : DvAP p tr σ H P) : DvAP p (tCons te tr) σ H (fun vs H' => ∃ b xs ws, vs = .ref b :: ws ∧ R xs ∧ b ≠ p ∧ H' b = some (.tup xs) ∧ P ws H') := fun H1 e d Q q =>
  h H1 e d _ fun b xs H2 r hb e2 d2 h2 => hr H2 (e.trans e2) d2 _ fun ws H3 rs e3 d3 => q (.ref b :: ws) H3 ⟨b, xs, ws, rfl, r, hb, e3 _ _ hb h2, rs⟩ (e2.trans e3) d3
theorem q_appD {l : Addr} {xs : List V} {P : List V → Hp → Prop} {j : Nat} (hl : H l = some (.lst xs)) (hlp : l ≠ p) (hs : σ[j]? = some (some (.ref l))) (h : DvAP p ts σ H P) (hz : xs.length < 100000) (hn : ∀ vs H1, P vs H1 → vs.length ≤ 100000) (hd : Dice p H)
    (k : ∀ t vs H2, P vs H2 → Exd p H H2 → Dice p H2 → H2 t = none → tz D σ (upd (upd H2 t (.tup vs)) l (.lst (xs ++ [.ref t])))) : tSeq (tDrop (tBM K "list" rAppend (tVar j) (tCons (tTup ts) tNil))) tz D σ H :=
  ⟨.ref l, hs, .inl ⟨rfl, xs, sq_of hl⟩, h H (Exd.refl p H) hd _ fun vs H2 hp e2 d2 => ⟨sz_of (hn vs H2 hp), fun t ht => ⟨l, xs, .ref t, rfl, rfl, Ex.new ht _ _ (e2 _ _ hlp hl), sz_lt (by omega), k t vs H2 hp e2 d2 ht⟩⟩⟩
theorem q_parLc {i j : Nat} {ta tb : TE} {v2 : V} {xs : List V} (h1 : EvL ta σ H xs) (h2 : ∀ {H1}, Ev tb σ H1 v2) (k : ∀ l H1, H l = none → Ex H H1 → H1 l = some (.lst xs) → tz D ((σ.set i (some (.ref l))).set j (some v2)) H1) : tSeq (tPar i j (tCons ta (tCons tb tNil))) tz D σ H :=
  h1 H (Ex.refl H) _ fun l H1 hl e1 hx => h2 H1 (Ex.refl H1) _ fun H2 e2 => ⟨.ref l, v2, rfl, k l H2 hl (e1.trans e2) (e2 _ _ hx)⟩
theorem q_forD {j : Nat} {RN : Nat → Prop} (hn : Dv p tn σ H (fun v => ∃ n : Nat, v = .int n ∧ RN n)) (hN : ∀ n, RN n → n ≤ 1000) (hd : Dice p H) (Pv : Nat → L2.St → Hp → Prop) (h0 : ∀ H1, Exd p H H1 → Dice p H1 → Pv 0 σ H1)
    (hs : ∀ (i : Nat) σ' H' (n : Nat), RN n → i < n → Pv i σ' H' → tu { D with nx := Pv (i + 1), ct := Pv (i + 1), bk := tz D } (σ'.set j (some (.int (i : Int)))) H') (hq : ∀ n σ' H', RN n → Pv n σ' H' → tz D σ' H') : tSeq (tFor (iRng1 (tCons tn tNil)) (gName j) tu) tz D σ H :=
  hn H (Exd.refl p H) hd _ fun v H1 hv e1 d1 => by
    obtain ⟨n, rfl, rn⟩ := hv
    have := hN n rn
    exact q_forR1 (σ := σ) (H := H1) (n := (n : Int)) (ta := tCons (tC (.int n)) tNil) (ea_cons ev_c ea_nil) (by omega) Pv (fun H2 e2 => h0 H2 (e1.trans (Exd.of e2)) (d1.ex e2)) (fun i σ' H' hi p => hs i σ' H' n rn (by omega) p) fun σ' H' p => hq n σ' H' rn p
theorem dap_consU {P : List V → Hp → Prop} {xs : List V} (h : ∀ H1, Exd p H H1 → Dice p H1 → EvU te σ H1 xs) (hr : DvAP p tr σ H P) : DvAP p (tCons te tr) σ H (fun vs H' => ∃ b ws, vs = .ref b :: ws ∧ b ≠ p ∧ H' b = some (.tup xs) ∧ P ws H') := fun H1 e d Q q =>
  h H1 e d H1 (Ex.refl H1) _ fun b H2 hb e2 h2 => hr H2 (e.trans (Exd.of e2)) (d.ex e2) _ fun ws H3 rs e3 d3 => q (.ref b :: ws) H3 ⟨b, ws, rfl, d.ne hb, e3 _ _ (d.ne hb) h2, rs⟩ ((Exd.of e2).trans e3) d3
theorem s_retTD {P : List V → Hp → Prop} (h : DvAP p ts σ H P) (hn : ∀ vs H1, P vs H1 → vs.length ≤ 100000) (hd : Dice p H) (k : ∀ a vs H2, P vs H2 → Exd p H H2 → Dice p H2 → H2 a = none → D.rt (.ref a) (upd H2 a (.tup vs))) : tRet (tTup ts) D σ H :=
  h H (Exd.refl p H) hd _ fun vs H2 hp e2 d2 => ⟨sz_of (hn vs H2 hp), fun a ha => k a vs H2 hp e2 d2 ha⟩
theorem TgAt.tl {H' : Hp} {q r : Addr} {t : Tg} {ys : List V} (e : Exd q H H') (hq : H q = some (.lst ys)) (h : TgAt K H r t) : TgAt K H' r t := by
  obtain ⟨rn, h1, h2⟩ := h
  exact ⟨rn, e.tlst hq h1, e.tlst hq h2⟩
theorem RsAt.tl {H' : Hp} {q : Addr} {rs : List Addr} {ts : List Tg} {ys : List V} (e : Exd q H H') (hq : H q = some (.lst ys)) (h : RsAt K H rs ts) : RsAt K H' rs ts := ⟨h.1, fun i r t a b => (h.2 i r t a b).tl e hq⟩
theorem RsAt.snoc {r : Addr} {t : Tg} {rs : List Addr} {ts : List Tg} (h : RsAt K H rs ts) (h1 : TgAt K H r t) : RsAt K H (rs ++ [r]) (ts ++ [t]) := ⟨by rw [List.length_append, List.length_append, h.1]; rfl, fun i a b ha hb => by
  by_cases hi : i < ts.length
  · rw [List.getElem?_append_left (by rw [h.1]; exact hi)] at ha
    rw [List.getElem?_append_left hi] at hb
    exact h.2 i a b ha hb
  · have hi2 : i = ts.length := by
      have := (List.getElem?_eq_some_iff.mp hb).1
      rw [List.length_append, List.length_singleton] at this
      omega
    subst hi2
    rw [List.getElem?_append_right (by rw [h.1]; exact Nat.le_refl _), h.1, Nat.sub_self] at ha
    rw [List.getElem?_append_right (Nat.le_refl _), Nat.sub_self] at hb
    cases ha
    cases hb
    exact h1⟩
end
theorem asc_le {ts : List Tg} {n m : Int} (h : Asc ts n) (hm : n ≤ m) : Asc ts m := by
  unfold Asc at *
  rw [List.pairwise_append] at h ⊢
  exact ⟨h.1, List.pairwise_singleton .., fun a ha b hb => by
    rw [List.mem_singleton.mp hb]
    have := h.2.2 a ha n (by simp)
    omega⟩
/-- a thing of these worlds -/
def Tg.gd (t : Tg) : Prop := 0 ≤ t.id ∧ t.kd ∈ kinds ∧ 1 ≤ t.ns.length ∧ t.ns.length ≤ 8 ∧ ∀ n ∈ t.ns, num n
structure Wd.gd (b : Int) (W : Wd) : Prop where
  t : W.t = 0 ∨ W.t = 3 ∨ W.t = 100000000000000000000000000000000000000000000000000000000000
  n0 : 0 ≤ W.n
  nb : W.n ≤ b
  l0 : 0 ≤ W.l
  lb : W.l < 999999937
  len : W.ts.length ≤ 12
  tg : ∀ t ∈ W.ts, t.gd
  asc : Asc W.ts W.n
theorem kind_ok {z : Str} (h : z ∈ kinds) : nameOk z ∧ PyData.strOk z = true := by
  simp only [kinds, List.mem_cons, List.not_mem_nil, or_false] at h
  rcases h with rfl | rfl | rfl | rfl | rfl <;> exact ⟨⟨by decide +kernel, by decide +kernel, by decide +kernel, by decide +kernel, by decide +kernel⟩, by decide +kernel⟩
theorem Wd.gd.kds {b : Int} {W : Wd} (h : W.gd b) : KdsOk W.ts := fun t ht => (kind_ok (h.tg t ht).2.1).2
theorem Wd.gd.id_lt {b : Int} {W : Wd} (h : W.gd b) {t : Tg} (ht : t ∈ W.ts) : t.id < W.n := by
  have := h.asc
  unfold Asc at this
  exact (List.pairwise_append.mp this).2.2 t.id (List.mem_map_of_mem ht) W.n (by simp)
theorem Wd.gd.ok {b : Int} {W : Wd} (h : W.gd b) (hb : b < 1000000000000000000000000000000000000000000000000000000000000) : W.ok := by
  refine ⟨?_, ⟨h.n0, by have := h.nb; omega⟩, ⟨h.l0, h.lb⟩, ⟨h.len, fun t ht => ?_⟩, h.asc⟩
  · rcases h.t with e | e | e <;> rw [e] <;> exact ⟨by decide, by decide⟩
  · obtain ⟨h1, h2, h3, h4, h5⟩ := h.tg t ht
    exact ⟨⟨h1, by have := h.id_lt ht; have := h.nb; omega⟩, (kind_ok h2).1, h3, h4, h5⟩
theorem Wd.gd.tlog {b : Int} {W : Wd} (h : W.gd b) : W.t.natAbs.log2 < 1920 := by
  rcases h.t with e | e | e <;> rw [e] <;> decide +kernel
/-- a plain world that is drawn -/
def DrawsW (K : PySem.W.Frag) (b : Int) : Sp := fun vs H Q _ => ∃ p, vs = [.ref p] ∧ Dice p H ∧ ∀ a W H', W.gd b → PlAt K H' a W → a ≠ p → Exd p H H' → Dice p H' → Q (.ref a) H'
section
variable {P : Program} {w : World} {K : PySem.W.Frag} {mg : Str → Option Value} {base : Heap}
theorem ok_world_drawn (T : Txt K mg w) : FnOk P w K mg base CX0 6 T.a_law_world_drawn T.fd_law_world_drawn ["dice"] (DrawsW K 12000000000003) := by
  have G_law_roll := ok_roll (P := P) (w := w) (base := base) T
  have G_law_pick := ok_pick (P := P) (w := w) (base := base) T
  have G_law_numbers := ok_numbers_drawn (P := P) (w := w) (base := base) T
  have G_law_kind_drawn := ok_kind_drawn (P := P) (w := w) (base := base) T
  refine T.F_law_world_drawn.ok sc_law_world_drawn (fun vs H Q E h => ?_) (fun cdv A outer s H vs Q E hr h => ?_)
  · obtain ⟨p, rfl, _⟩ := h; rfl
  · obtain ⟨p, rfl, hd, q⟩ := h
    refine ⟨_, (pss_cons (ps_par (i := 1) (j := 2) (by rfl) sc_law_world_drawn.nd rfl rfl (by decide) rfl rfl (pa_cons (pe_lst pa_nil) (pa_cons pe_int pa_nil)) (by rfl))
  (pss_cons (ps_for PassesOwn.never rfl (pi_range1 rfl T.z_range (pa_cons (pe_call G_law_pick (hr.mono (by decide)) (by rfl) T.g_law_pick T.F_law_pick.kp T.b_law_pick .nil pass0 (pa_cons (pv 0) (pa_cons (pe_lst (pa_cons pe_int (pa_cons pe_int (pa_cons pe_int (pa_cons pe_int (pa_cons pe_int (pa_cons pe_int pa_nil))))))) pa_nil))) pa_nil)) (pg_name (i := 3) sc_law_world_drawn.nd rfl (.inl rfl)) (pss_cons (ps_set (i := 4) sc_law_world_drawn.nd rfl (.inl rfl) (pe_op op_add (pv 2) (pe_call G_law_roll (hr.mono (by decide)) (by rfl) T.g_law_roll T.F_law_roll.kp T.b_law_roll .nil pass0 (pa_cons (pv 0) (pa_cons (pe_call G_law_pick (hr.mono (by decide)) (by rfl) T.g_law_pick T.F_law_pick.kp T.b_law_pick .nil pass0 (pa_cons (pv 0) (pa_cons (pe_lst (pa_cons pe_int (pa_cons pe_int (pa_cons pe_int (pa_cons (pe_op op_pow pe_int pe_int) pa_nil))))) pa_nil))) pa_nil)))))
  (pss_cons (ps_expr (pe_bm PySem.F.plainAttrs_list PySem.F.slot_list_append PySem.F.type_list_append mt_append (pv 1) (pa_cons (pe_tup (pa_cons (pv 4) (pa_cons (pe_call G_law_kind_drawn (hr.mono (by decide)) (by rfl) T.g_law_kind_drawn T.F_law_kind_drawn.kp T.b_law_kind_drawn .nil pass0 (pa_cons (pv 0) pa_nil)) (pa_cons (pe_call G_law_numbers (hr.mono (by decide)) (by rfl) T.g_law_numbers T.F_law_numbers.kp T.b_law_numbers .nil pass0 (pa_cons (pv 0) pa_nil)) pa_nil)))) pa_nil)))
  (pss_one (ps_set (i := 2) sc_law_world_drawn.nd rfl (.inl rfl) (pe_op op_add (pv 4) pe_int))))))
  (pss_cons (ps_set (i := 5) sc_law_world_drawn.nd rfl (.inl rfl) (pe_call G_law_pick (hr.mono (by decide)) (by rfl) T.g_law_pick T.F_law_pick.kp T.b_law_pick .nil pass0 (pa_cons (pv 0) (pa_cons (pe_lst (pa_cons pe_int (pa_cons pe_int (pa_cons (pe_op op_pow pe_int pe_int) pa_nil)))) pa_nil))))
  (pss_one (ps_ret (pe_tup (pa_cons (pv 5) (pa_cons (pe_op op_add (pv 2) (pe_call G_law_roll (hr.mono (by decide)) (by rfl) T.g_law_roll T.F_law_roll.kp T.b_law_roll .nil pass0 (pa_cons (pv 0) (pa_cons pe_int pa_nil)))) (pa_cons (pe_call G_law_pick (hr.mono (by decide)) (by rfl) T.g_law_pick T.F_law_pick.kp T.b_law_pick .nil pass0 (pa_cons (pv 0) (pa_cons (pe_lst (pa_cons pe_int (pa_cons pe_int (pa_cons pe_int pa_nil)))) pa_nil))) (pa_cons (pe_callTy c_tupL (by rfl) T.z_tuple (by decide +kernel) (pa_cons (pv 1) pa_nil)) pa_nil)))))))))), ?_⟩
    refine q_parLc (xs := []) (v2 := .int 0) (el_lst ea_nil (by decide)) ev_c fun l H1 hl e1 h1 => ?_
    have d1 := hd.ex e1
    have hlp : l ≠ p := hd.ne hl
    have x01 : Exd p H H1 := Exd.of e1
    have hout : ∀ (H2 : Hp) (o : HO), Exd p H H2 → Exd p H (upd H2 l o) := fun H2 o e a u ha hu => by rw [upd_ne (fun z => by rw [z, hl] at hu; cases hu)]; exact e a u ha hu
    have dup : ∀ (H2 : Hp) (o : HO), Dice p H2 → Dice p (upd H2 l o) := fun H2 o d => by
      obtain ⟨x, y, z, h⟩ := d
      exact ⟨x, y, z, by rw [upd_ne (Ne.symm hlp)]; exact h⟩
    have pk : ∀ {xs : List V} {ts : TA} {σ : L2.St} {H : Hp}, σ[0]? = some (some (.ref p)) → (∀ H1, EvA ts σ H1 xs) → 0 < xs.length → xs.length < 100000 → Dv p (tCall (Draws (kPick K)) [] E0 (tCons (tVar 0) (tCons (tLst ts) tNil))) σ H (fun v => v ∈ xs) := fun h0 h1 h2 h3 =>
      dv_pickL (xs := _) (R := fun v => v ∈ _) h0 (fun H1 _ _ => el_lst (h1 H1) (by omega)) (fun l H1 _ _ hl h => ⟨l, _, rfl, hl, sq_of h, h2, by omega, rfl⟩)
    let Pv : Nat → L2.St → Hp → Prop := fun i σ H' => ∃ (ahead : Int) (rs : List Addr) (ts : List Tg) (a b : Option V), σ = [some (.ref p), some (.ref l), some (.int ahead), a, b, none] ∧ Exd p H H' ∧ Dice p H' ∧ H' l = some (.lst (rs.map V.ref)) ∧ RsAt K H' rs ts ∧ ts.length = i ∧ (∀ t ∈ ts, t.gd) ∧ Asc ts ahead ∧ 0 ≤ ahead ∧ ahead ≤ 1000000000000 * i
    refine q_forD (RN := fun n => n ≤ 12) ((pk (xs := [.int 0, .int 1, .int 3, .int 8, .int 11, .int 12]) rfl (fun H1 => by walk_at "ea") (by decide) (by decide)).mono fun v hv => ?_) (fun n hn => by omega) d1 Pv (fun H2 x2 d2 => ?_) (fun i σ' H' n hn hi ⟨ahead, rs, ts, a, b, hσ, x2, d2, hL, hR, hlen, hg, hA, a0, a1⟩ => ?_) fun n σ' H' hn ⟨ahead, rs, ts, a, b, hσ, x2, d2, hL, hR, hlen, hg, hA, a0, a1⟩ => ?_
    · simp only [List.mem_cons, List.not_mem_nil, or_false] at hv
      rcases hv with rfl | rfl | rfl | rfl | rfl | rfl
      · exact ⟨0, rfl, by decide⟩
      · exact ⟨1, rfl, by decide⟩
      · exact ⟨3, rfl, by decide⟩
      · exact ⟨8, rfl, by decide⟩
      · exact ⟨11, rfl, by decide⟩
      · exact ⟨12, rfl, by decide⟩
    · exact ⟨0, [], [], none, none, rfl, x01.trans x2, d2, x2 _ _ hlp h1, ⟨rfl, fun i r t h _ => by cases h⟩, rfl, (fun _ h => by cases h), List.pairwise_singleton .., by decide, by decide⟩
    · subst hσ
      refine q_asgDv (p := p) (R := fun v => ∃ here : Int, v = .int here ∧ ahead ≤ here ∧ here < ahead + 1000000000000) ?_ d2 fun v H3 hv e3 d3 => ?_
      · refine dv_op (R1 := fun v => v = .int ahead) (R2' := fun v => ∃ r : Int, v = .int r ∧ 0 ≤ r ∧ r < 1000000000000) (dv_var rfl rfl) (dv_call2 (R1 := fun v => ∃ m : Int, v = .int m ∧ 0 < m ∧ m ≤ 1000000000000) rfl ((pk (xs := [.int 1, .int 1, .int 3, .int 1000000000000]) rfl (fun H1 => by walk_at "ea") (by decide) (by decide)).mono fun v hv => ?_) fun v H1 ⟨m, hm, m0, m1⟩ => ⟨_, ⟨m, by rw [hm], m0, by omega, rfl⟩, fun u ⟨r, hu, r0, r1⟩ => ⟨r, hu, r0, by omega⟩⟩) ?_
        · simp only [List.mem_cons, List.not_mem_nil, or_false] at hv
          rcases hv with rfl | rfl | rfl | rfl <;> exact ⟨_, rfl, by decide, by decide⟩
        · rintro x y H4 rfl ⟨r, rfl, h0, h1⟩
          exact ⟨_, rv_I0, _, rfl, by omega, by omega⟩
      obtain ⟨here, rfl, h3, h4⟩ := hv
      refine q_appD (p := p) (j := 1) (xs := rs.map V.ref) (P := fun vs H' => ∃ (z : Str) (b : Addr) (ns : List Int), vs = [.int here, .str z, .ref b] ∧ z ∈ kinds ∧ (1 ≤ ns.length ∧ ns.length ≤ 8 ∧ ∀ n ∈ ns, num n) ∧ H' b = some (.tup (ns.map V.int))) (e3 _ _ hlp hL) hlp rfl ?_ (by rw [List.length_map, hR.1]; omega) (fun vs H1 ⟨z, b, ns, hv, _⟩ => by rw [hv]; show 3 ≤ 100000; decide) d3 fun t vs H4 ⟨z, b, ns, hv, hz, hns, hb⟩ e4 d4 ht => ?_
      · exact (dap_cons (R := fun v => v = .int here) (dv_var rfl rfl) (dap_cons (R := KindV) (dv_call (vs := [.ref p]) (fun H1 _ _ => ea_cons (ev_var rfl) ea_nil) fun H1 _ _ => ⟨rfl, rfl⟩) (dap_consN (R := NumsR) (dn_callT (vs := [.ref p]) (fun H1 _ _ => ea_cons (ev_var rfl) ea_nil) fun H1 _ _ => ⟨rfl, rfl⟩) dap_nil))).mono fun vs H1 ⟨_, _, h1, h2, _, _, h3, ⟨z, h4, hz⟩, b, xs, _, h5, ⟨ns, h6, h7⟩, hb, h8, h9⟩ => ⟨z, b, ns, by rw [h1, h2, h3, h4, h5, h9], hz, h7, by rw [h8, h6]⟩
      subst hv
      obtain ⟨hp1, hp2, hp3, hpD⟩ := id d2
      have hl4 := e4 _ _ hlp (e3 _ _ hlp hL)
      have hbl : b ≠ l := fun z => by rw [z, hl4] at hb; cases hb
      have htl : t ≠ l := fun z => by rw [z, hl4] at ht; cases ht
      have e5 : Ex H4 (upd H4 t (.tup [.int here, .str z, .ref b])) := Ex.new ht
      have x6 : Exd l (upd H4 t (.tup [.int here, .str z, .ref b])) (upd (upd H4 t (.tup [.int here, .str z, .ref b])) l (.lst (rs.map V.ref ++ [.ref t]))) := Exd.upd
      have hl5 := e5 _ _ hl4
      have hT : TgAt K (upd H4 t (.tup [.int here, .str z, .ref b])) t ⟨here, z, ns⟩ := ⟨b, st_of upd_same, st_of (e5 _ _ hb)⟩
      have hR5 := (((hR.tl (e3.trans e4) hpD).ex e5).snoc hT).tl x6 hl5
      refine s_asg (v := .int (here + 1)) (by walk_at "ev") fun H6 e6 => ⟨here + 1, rs ++ [t], ts ++ [⟨here, z, ns⟩], _, _, rfl, ((hout _ _ ((x2.trans (e3.trans e4)).trans (Exd.of e5))).trans (Exd.of e6)), (dup _ _ (d4.ex e5)).ex e6, by rw [List.map_append]; exact e6 _ _ upd_same, hR5.ex e6, by rw [List.length_append, hlen]; rfl, fun t' ht' => ?_, asc_add (asc_le hA h3) z ns, by omega, by omega⟩
      rcases List.mem_append.mp ht' with y | y
      · exact hg t' y
      · rw [List.mem_singleton.mp y]
        exact ⟨by show 0 ≤ here; omega, hz, hns⟩
    · subst hσ
      refine q_asgDv (p := p) (pk (xs := [.int 0, .int 3, .int 100000000000000000000000000000000000000000000000000000000000]) rfl (fun H1 => by walk_at "ea") (by decide) (by decide)) d2 fun v H3 hv e3 d3 => ?_
      have htick : ∃ tick : Int, v = .int tick ∧ (tick = 0 ∨ tick = 3 ∨ tick = 100000000000000000000000000000000000000000000000000000000000) := by
        simp only [List.mem_cons, List.not_mem_nil, or_false] at hv
        rcases hv with rfl | rfl | rfl
        · exact ⟨_, rfl, .inl rfl⟩
        · exact ⟨_, rfl, .inr (.inl rfl)⟩
        · exact ⟨_, rfl, .inr (.inr rfl)⟩
      obtain ⟨tick, rfl, ht⟩ := htick
      have hL3 := e3 _ _ hlp hL
      obtain ⟨hp1, hp2, hp3, hpD⟩ := id d2
      refine s_retTD (p := p) (P := fun vs H' => ∃ (n lk : Int) (b : Addr), vs = [.int tick, .int n, .int lk, .ref b] ∧ (ahead ≤ n ∧ n < ahead + 4) ∧ (0 ≤ lk ∧ lk < 999999937) ∧ b ≠ p ∧ H' b = some (.tup (rs.map V.ref))) ?_ (fun vs H1 ⟨n, lk, b, hv, _⟩ => by rw [hv]; show 4 ≤ 100000; decide) d3 fun a vs H4 ⟨n, lk, b, hv, hn2, hlk, hbp, hb⟩ e4 d4 ha => ?_
      · refine (dap_cons (R := fun v => v = .int tick) (dv_var rfl rfl) (dap_cons (R := fun v => ∃ n : Int, v = .int n ∧ ahead ≤ n ∧ n < ahead + 4) (dv_op (R1 := fun v => v = .int ahead) (R2' := fun v => ∃ r : Int, v = .int r ∧ 0 ≤ r ∧ r < 4) (dv_var rfl rfl) (dv_roll (m := 4) rfl (fun H1 => ev_c) (by decide) (by decide)) ?_) (dap_cons (R := fun v => ∃ n : Int, v = .int n ∧ 0 ≤ n ∧ n < 999999937) ((pk (xs := [.int 0, .int 5, .int 999999936]) rfl (fun H1 => by walk_at "ea") (by decide) (by decide)).mono fun v hv => ?_) (dap_consU (xs := rs.map V.ref) (fun H1 x1 _ => eu_tupV (p := l) (ev_var rfl) (sq_of (x1 _ _ hlp hL3))) dap_nil)))).mono fun vs H1 ⟨_, _, h1, h2, _, _, h3, ⟨n, h4, n0, n1⟩, _, _, h5, ⟨lk, h6, l0, l1⟩, b, _, h7, hb, h8, h9⟩ => ⟨n, lk, b, by rw [h1, h2, h3, h4, h5, h6, h7, h9], ⟨n0, n1⟩, ⟨l0, l1⟩, hb, h8⟩
        · rintro x y H4 rfl ⟨r, rfl, h0, h1⟩
          exact ⟨_, rv_I0, _, rfl, by omega, by omega⟩
        · simp only [List.mem_cons, List.not_mem_nil, or_false] at hv
          rcases hv with rfl | rfl | rfl <;> exact ⟨_, rfl, by decide, by decide⟩
      subst hv
      have e5 : Ex H4 (upd H4 a (.tup [.int tick, .int n, .int lk, .ref b])) := Ex.new ha
      exact q a ⟨tick, n, lk, ts⟩ _ ⟨ht, by show 0 ≤ n; omega, by show n ≤ _; omega, hlk.1, hlk.2, by show ts.length ≤ 12; omega, hg, asc_le hA hn2.1⟩ ⟨b, st_of upd_same, rs, st_of (e5 _ _ hb), (hR.tl (e3.trans e4) hpD).ex e5⟩ (d4.ne ha) ((x2.trans (e3.trans e4)).trans (Exd.of e5)) (d4.ex e5)
end
end Kz
set_option Elab.async false
set_option linter.all false
set_option maxRecDepth 100000
set_option maxHeartbeats 4000000
set_option exponentiation.threshold 500
namespace Kz
open PySem PySem.Spec PyProof.Rows L2 Evl Vr
local macro_rules | `(tactic| walk_at "sc") => `(tactic| first | (with_reducible assumption) | (with_reducible exact sc_mul (by omega)) | (with_reducible exact sc_mulr (by omega)) | (with_reducible exact sc_div (by omega) (by decide)) | (show (0 : Int) < _; omega) | (show _ ≠ (0 : Int); omega) | (with_reducible rfl) | decide)
local macro_rules | `(tactic| walk_at "sq") => `(tactic| first | assumption | exact sq_of (by assumption) | exact st_of (by assumption))
local macro_rules | `(tactic| walk_at "pl") => `(tactic| first | assumption | exact pl_int | exact pl_bl | exact pl_str | exact pl_non | exact pl_lst (by assumption) | exact pl_tup (by assumption) | exact pl_dK (by assumption))
local macro_rules | `(tactic| walk_at "rv") => `(tactic| first
  | with_reducible exact rv_I0
  | with_reducible exact ru_neg
  | ((with_reducible apply rv_I); walk_at "sc")
  | ((with_reducible apply rv_ixL); walk_at "sq"; first | rfl | assumption)
  | ((with_reducible apply rv_ixT); walk_at "sq"; first | rfl | assumption)
  | ((with_reducible apply rv_eq); rfl) | ((with_reducible apply rv_ne); rfl))
local macro_rules | `(tactic| walk_at "rc") => `(tactic| first
  | with_reducible exact rc_I1 | with_reducible exact rc_B1 | with_reducible exact rc_I2 | ((with_reducible apply rc_repr); walk_at "sc") | ((with_reducible apply rc_lenL); walk_at "sq")
  | ((with_reducible apply rc_isiInt); walk_at "pl") | ((with_reducible apply rc_isiBool); walk_at "pl"))
local macro_rules | `(tactic| walk_at "ea") => `(tactic| first
  | with_reducible exact ea_nil | ((with_reducible apply ea_cons); walk_at "ev"; walk_at "ea"))
local macro_rules | `(tactic| walk_at "pow") => `(tactic| first
  | with_reducible exact ev_pow (a := 10) (b := 9) (c := 1000000000) (by decide +kernel) (by decide +kernel)
  | with_reducible exact ev_pow (a := 10) (b := 10) (c := 10000000000) (by decide +kernel) (by decide +kernel)
  | with_reducible exact ev_pow (a := 10) (b := 12) (c := 1000000000000) (by decide +kernel) (by decide +kernel)
  | with_reducible exact ev_pow (a := 10) (b := 17) (c := 100000000000000000) (by decide +kernel) (by decide +kernel)
  | with_reducible exact ev_pow (a := 10) (b := 20) (c := 100000000000000000000) (by decide +kernel) (by decide +kernel)
  | with_reducible exact ev_pow (a := 10) (b := 29) (c := 100000000000000000000000000000) (by decide +kernel) (by decide +kernel)
  | with_reducible exact ev_pow (a := 10) (b := 30) (c := 1000000000000000000000000000000) (by decide +kernel) (by decide +kernel)
  | with_reducible exact ev_pow (a := 10) (b := 40) (c := 10000000000000000000000000000000000000000) (by decide +kernel) (by decide +kernel)
  | with_reducible exact ev_pow (a := 10) (b := 57) (c := 1000000000000000000000000000000000000000000000000000000000) (by decide +kernel) (by decide +kernel)
  | with_reducible exact ev_pow (a := 10) (b := 58) (c := 10000000000000000000000000000000000000000000000000000000000) (by decide +kernel) (by decide +kernel)
  | with_reducible exact ev_pow (a := 10) (b := 59) (c := 100000000000000000000000000000000000000000000000000000000000) (by decide +kernel) (by decide +kernel)
  | with_reducible exact ev_pow (a := 10) (b := 60) (c := 1000000000000000000000000000000000000000000000000000000000000) (by decide +kernel) (by decide +kernel))
local macro_rules | `(tactic| walk_at "call") => `(tactic| (intro H9 e9; first | exact ⟨_, rfl, rfl⟩ | exact ⟨_, _, rfl, rfl⟩ | exact ⟨_, _, _, rfl, rfl⟩ | exact ⟨_, rfl, by walk_at "pl", rfl⟩ | (refine ⟨_, _, _, rfl, ?_, rfl⟩; first | exact Plain.ex e9 (by assumption) | walk_at "pl") | (refine ⟨_, rfl, ?_, rfl⟩; first | exact Plain.ex e9 (by assumption) | walk_at "pl")))
local macro_rules | `(tactic| walk_at "ev") => `(tactic| first
  | with_reducible exact ev_c
  | exact ev_var rfl
  | walk_at "pow"
  | ((with_reducible apply ev_op); walk_at "ev"; walk_at "ev"; walk_at "rv")
  | ((with_reducible apply ev_un); walk_at "ev"; walk_at "rv")
  | ((with_reducible apply ev_cb); walk_at "ea"; walk_at "rc")
  | ((with_reducible apply ev_callP); walk_at "ea"; walk_at "call")
  | ((with_reducible apply ev_chain); walk_at "ev"; walk_at "ev"; walk_at "rv"; walk_at "ev"; walk_at "rv")
  | ((with_reducible apply ev_andV); walk_at "ev"; intro _; walk_at "ev")
  | ((with_reducible apply ev_orV); walk_at "ev"; intro _; walk_at "ev")
  | ((with_reducible apply ev_ite); walk_at "et"; intro _; walk_at "ev"; intro _; walk_at "ev")
  | ((with_reducible apply ev_notV); walk_at "ev"))
local macro_rules | `(tactic| walk_at "et") => `(tactic| first
  | ((with_reducible apply et_test); walk_at "ev")
  | ((with_reducible apply et_B); walk_at "ev")
  | ((with_reducible apply et_and); walk_at "et"; intro _; walk_at "et")
  | ((with_reducible apply et_or); walk_at "et"; intro _; walk_at "et")
  | ((with_reducible apply et_not); walk_at "et"))
open En Wo
section
variable {σ : L2.St} {H H' H2 : Hp} {te ta : TE} {K : PySem.W.Frag} {C p q it : Addr} {W : Wd}
theorem sqT_off {t : Addr} {xs ys : List V} {φ : Heap → Prop} (h : SqT K H t xs) (hq : H q = some (.lst ys)) (hi : H it = some (.ext φ)) (k : ∀ b, b ≠ q → b ≠ it → H2 b = H b) : SqT K H2 t xs := by
  rcases h with (h | ⟨o, h⟩) | h
  · exact .inl (.inl (by rw [k t (fun z => by rw [z, hq] at h; cases h) (fun z => by rw [z, hi] at h; cases h)]; exact h))
  · exact .inl (.inr ⟨o, by rw [k t (fun z => by rw [z, hq] at h; cases h) (fun z => by rw [z, hi] at h; cases h)]; exact h⟩)
  · exact .inr h
theorem el_listW {E : XK} (ha : Ev ta σ H (.ref p)) (hW : WdAt K C H p W) (hl : W.ts.length ≤ 12) : EvL (tCB (rListO K C (spIter K C) (Pure (kLen K C)) E) (tCons ta tNil)) σ H ((Tg.ids W.ts).map V.int) := fun H1 e Q q => ha H1 e _ fun H2 e2 => by
  obtain ⟨rs, aT, aO, aD, hA⟩ := hW.ex (e.trans e2)
  obtain ⟨⟨dx, hob⟩, hT, hR, hO, hD⟩ := id hA
  refine ⟨p, dx, _, rfl, hob, fun c hc => ?_⟩
  have en : Ex H2 (upd H2 c (.lst [])) := Ex.new hc
  refine ⟨p, aO, W, rfl, ⟨rs, aT, aD, hA.ex en⟩, fun it H3 hit e3 hi => ⟨e3 _ _ (en _ _ hob), it, aO, (Tg.ids W.ts).map V.int, rfl, (fun z => by rw [z, upd_same] at hit; cases hit), ?_, hi, .int W.ts.length, ⟨p, W, rfl, ⟨rs, aT, aO, aD, hA.ex (en.trans e3)⟩, rfl⟩, fun H4 e4 => ⟨W.ts.length, rfl, by omega, by omega, e4 _ _ hi, e4 _ _ (e3 _ _ upd_same), fun H5 k5 => ?_, fun H5 k5 h5 => ?_⟩⟩⟩
  · rw [List.length_map, tg_len]
    omega
  · exact sqT_off (ex_t ((en.trans e3).trans e4) hO) (e4 _ _ (e3 _ _ upd_same)) (e4 _ _ hi) k5
  · have hitn : it ≠ c := fun z => by rw [z, upd_same] at hit; cases hit
    have hit2 : H2 it = none := by rw [upd_ne hitn] at hit; exact hit
    refine q c H5 (fresh_back e2 hc) (fun a o ho => ?_) h5
    have h2 := e2 _ _ ho
    rw [k5 a (fun z => by rw [z, hc] at h2; cases h2) (fun z => by rw [z, hit2] at h2; cases h2)]
    exact e4 _ _ (e3 _ _ (en _ _ h2))
theorem ev_strW {E : XK} (ha : Ev ta σ H (.ref p)) (hW : WdAt K C H p W) (hl : W.ts.length ≤ 12) (ht : W.t.natAbs.log2 < 1920) : Ev (tCB (rStrO C (Pure (kText K C)) E) (tCons ta tNil)) σ H (.str W.text) := fun H1 e Q q => ha H1 e _ fun H2 e2 => by
  obtain ⟨rs, aT, aO, aD, hA⟩ := hW.ex (e.trans e2)
  obtain ⟨⟨dx, hob⟩, _, _, _, _⟩ := id hA
  exact ⟨p, dx, _, rfl, hob, .str W.text, ⟨p, W, rfl, ⟨rs, aT, aO, aD, hA⟩, hl, ht, rfl⟩, fun H3 e3 => ⟨W.text, rfl, q H3 (e2.trans e3)⟩⟩
end
end Kz
set_option Elab.async false
set_option linter.all false
set_option maxRecDepth 100000
set_option maxHeartbeats 4000000
set_option exponentiation.threshold 500
namespace Kz
open PySem PySem.Spec PyProof.Rows L2 Evl Vr
local macro_rules | `(tactic| walk_at "sc") => `(tactic| first | (with_reducible assumption) | (with_reducible exact sc_mul (by omega)) | (with_reducible exact sc_mulr (by omega)) | (with_reducible exact sc_div (by omega) (by decide)) | (show (0 : Int) < _; omega) | (show _ ≠ (0 : Int); omega) | (with_reducible rfl) | decide)
local macro_rules | `(tactic| walk_at "sq") => `(tactic| first | assumption | exact sq_of (by assumption) | exact st_of (by assumption))
local macro_rules | `(tactic| walk_at "pl") => `(tactic| first | assumption | exact pl_int | exact pl_bl | exact pl_str | exact pl_non | exact pl_lst (by assumption) | exact pl_tup (by assumption) | exact pl_dK (by assumption))
local macro_rules | `(tactic| walk_at "rv") => `(tactic| first
  | with_reducible exact rv_I0
  | with_reducible exact ru_neg
  | ((with_reducible apply rv_I); walk_at "sc")
  | ((with_reducible apply rv_ixL); walk_at "sq"; first | rfl | assumption)
  | ((with_reducible apply rv_ixT); walk_at "sq"; first | rfl | assumption)
  | ((with_reducible apply rv_eq); rfl) | ((with_reducible apply rv_ne); rfl))
local macro_rules | `(tactic| walk_at "rc") => `(tactic| first
  | with_reducible exact rc_I1 | with_reducible exact rc_B1 | with_reducible exact rc_I2 | ((with_reducible apply rc_repr); walk_at "sc") | ((with_reducible apply rc_lenL); walk_at "sq")
  | ((with_reducible apply rc_isiInt); walk_at "pl") | ((with_reducible apply rc_isiBool); walk_at "pl"))
local macro_rules | `(tactic| walk_at "ea") => `(tactic| first
  | with_reducible exact ea_nil | ((with_reducible apply ea_cons); walk_at "ev"; walk_at "ea"))
local macro_rules | `(tactic| walk_at "pow") => `(tactic| first
  | with_reducible exact ev_pow (a := 10) (b := 9) (c := 1000000000) (by decide +kernel) (by decide +kernel)
  | with_reducible exact ev_pow (a := 10) (b := 10) (c := 10000000000) (by decide +kernel) (by decide +kernel)
  | with_reducible exact ev_pow (a := 10) (b := 12) (c := 1000000000000) (by decide +kernel) (by decide +kernel)
  | with_reducible exact ev_pow (a := 10) (b := 17) (c := 100000000000000000) (by decide +kernel) (by decide +kernel)
  | with_reducible exact ev_pow (a := 10) (b := 20) (c := 100000000000000000000) (by decide +kernel) (by decide +kernel)
  | with_reducible exact ev_pow (a := 10) (b := 29) (c := 100000000000000000000000000000) (by decide +kernel) (by decide +kernel)
  | with_reducible exact ev_pow (a := 10) (b := 30) (c := 1000000000000000000000000000000) (by decide +kernel) (by decide +kernel)
  | with_reducible exact ev_pow (a := 10) (b := 40) (c := 10000000000000000000000000000000000000000) (by decide +kernel) (by decide +kernel)
  | with_reducible exact ev_pow (a := 10) (b := 57) (c := 1000000000000000000000000000000000000000000000000000000000) (by decide +kernel) (by decide +kernel)
  | with_reducible exact ev_pow (a := 10) (b := 58) (c := 10000000000000000000000000000000000000000000000000000000000) (by decide +kernel) (by decide +kernel)
  | with_reducible exact ev_pow (a := 10) (b := 59) (c := 100000000000000000000000000000000000000000000000000000000000) (by decide +kernel) (by decide +kernel)
  | with_reducible exact ev_pow (a := 10) (b := 60) (c := 1000000000000000000000000000000000000000000000000000000000000) (by decide +kernel) (by decide +kernel))
local macro_rules | `(tactic| walk_at "call") => `(tactic| (intro H9 e9; first | exact ⟨_, rfl, rfl⟩ | exact ⟨_, _, rfl, rfl⟩ | exact ⟨_, _, _, rfl, rfl⟩ | exact ⟨_, rfl, by walk_at "pl", rfl⟩ | (refine ⟨_, _, _, rfl, ?_, rfl⟩; first | exact Plain.ex e9 (by assumption) | walk_at "pl") | (refine ⟨_, rfl, ?_, rfl⟩; first | exact Plain.ex e9 (by assumption) | walk_at "pl")))
local macro_rules | `(tactic| walk_at "ev") => `(tactic| first
  | with_reducible exact ev_c
  | exact ev_var rfl
  | walk_at "pow"
  | ((with_reducible apply ev_op); walk_at "ev"; walk_at "ev"; walk_at "rv")
  | ((with_reducible apply ev_un); walk_at "ev"; walk_at "rv")
  | ((with_reducible apply ev_cb); walk_at "ea"; walk_at "rc")
  | ((with_reducible apply ev_callP); walk_at "ea"; walk_at "call")
  | ((with_reducible apply ev_chain); walk_at "ev"; walk_at "ev"; walk_at "rv"; walk_at "ev"; walk_at "rv")
  | ((with_reducible apply ev_andV); walk_at "ev"; intro _; walk_at "ev")
  | ((with_reducible apply ev_orV); walk_at "ev"; intro _; walk_at "ev")
  | ((with_reducible apply ev_ite); walk_at "et"; intro _; walk_at "ev"; intro _; walk_at "ev")
  | ((with_reducible apply ev_notV); walk_at "ev"))
local macro_rules | `(tactic| walk_at "et") => `(tactic| first
  | ((with_reducible apply et_test); walk_at "ev")
  | ((with_reducible apply et_B); walk_at "ev")
  | ((with_reducible apply et_and); walk_at "et"; intro _; walk_at "et")
  | ((with_reducible apply et_or); walk_at "et"; intro _; walk_at "et")
  | ((with_reducible apply et_not); walk_at "et"))
open En Wo
section
variable {σ : L2.St} {H H' : Hp} {te ta tl to : TE} {ts : TA} {tz tu : TS} {g : TG} {D : Ends} {K : PySem.W.Frag} {C p a dx : Addr} {fs : List (Str × V)} {W : Wd}
theorem rv_cs {x y : Str} (hz : x.length + y.length ≤ sizeLine) : RV (fun x y H Q => ∃ i j, x = .str i ∧ y = .str j ∧ i.length + j.length ≤ sizeLine ∧ Q (.str (i ++ j)) H) (.str x) (.str y) H (.str (x ++ y)) := fun H1 _ Q q => ⟨x, y, rfl, rfl, hz, q H1 (Ex.refl H1)⟩
theorem rc_si {i : Int} (hz : i.natAbs.log2 < 1920) : RC (fun xs H Q => ∃ i, xs = [.int i] ∧ i.natAbs.log2 < 1920 ∧ Q (.str (toString i)) H) [.int i] H (.str (toString i)) := fun H1 _ Q q => ⟨i, rfl, hz, q H1 (Ex.refl H1)⟩
theorem eu_methT {m : Str} {ok : List V → Hp → List V → Prop} {E : XK} {vs xs : List V} (h : Ev to σ H (.ref a)) (ho : H a = some (.ins C dx fs)) (hl : fs.lookup m = none) (ha : EvA ts σ H vs) (hok : ∀ H1, Ex H H1 → ok (.ref a :: vs) H1 xs) : EvU (tMeth C m (Tupd ok) [] E to ts) σ H xs := fun H1 e Q q =>
  h H1 e _ fun H2 e2 => ⟨a, dx, fs, rfl, (e.trans e2) _ _ ho, hl, ha H2 (e.trans e2) _ fun H3 e3 => by
    rw [List.append_nil]
    exact ⟨xs, hok H3 ((e.trans e2).trans e3), fun r H4 hr e4 h4 => q r H4 (fresh_back (e2.trans e3) hr) ((e2.trans e3).trans e4) h4⟩⟩
theorem q_forAP {P : List V → Hp → Prop} (h : EvAP ts σ H P) (hz : ∀ vs H1, P vs H1 → vs.length ≤ 100000) (Pv : Addr → List V → Nat → L2.St → Hp → Prop) (h0 : ∀ t xs H1, Ex H H1 → P xs H1 → H1 t = none → Pv t xs 0 σ (upd H1 t (.tup xs)))
    (hl : ∀ t xs i σ' H', i ≤ xs.length → Pv t xs i σ' H' → SqT K H' t xs) (hs : ∀ t xs i x σ' H', xs[i]? = some x → Pv t xs i σ' H' → g x σ' H' fun σ2 H2 => tu { D with nx := Pv t xs (i + 1), ct := Pv t xs (i + 1), bk := tz D } σ2 H2) (hq : ∀ t xs σ' H', Pv t xs xs.length σ' H' → tz D σ' H') : tSeq (tFor (iTup K (tTup ts)) g tu) tz D σ H :=
  h H (Ex.refl H) _ fun xs H1 e1 hp => ⟨sz_of (hz xs H1 hp), fun t ht => ⟨t, rfl, ⟨xs, st_of upd_same⟩, for_tup (D := { D with nx := tz D }) (Pv t xs) (h0 t xs H1 e1 hp ht) (hl t xs) (fun i x σ' H' hi p' => hs t xs i x σ' H' hi p') (hq t xs)⟩⟩
theorem q_asgLP {i : Nat} {P : List V → Hp → Prop} (h : EvAP ts σ H P) (hl : ∀ vs H1, P vs H1 → vs.length ≤ 100000) (k : ∀ r vs H2, Ex H H2 → P vs H2 → H2 r = none → tz D (σ.set i (some (.ref r))) (upd H2 r (.lst vs))) : tSeq (tAsg (tLst ts) (gName i)) tz D σ H :=
  h H (Ex.refl H) _ fun vs H2 e2 pv => ⟨sz_of (hl vs H2 pv), fun r hr => k r vs H2 e2 pv hr⟩
theorem rc_lenLn {xs : List V} {n : Nat} (h : SqL K H p xs) (e : xs.length = n) : RC (rLenS K) [.ref p] H (.int n) := by
  subst e
  exact rc_lenL h
theorem given_none (n : Nat) (v : Nat → V) : given n (fun _ => false) v = [] := by
  unfold given
  rw [List.filter_eq_nil_iff.mpr (fun _ _ => by simp)]
  rfl
end
section
variable {P : Program} {w : World} {K : PySem.W.Frag} {mg : Str → Option Value} {base : Heap}
def kTold (K : PySem.W.Frag) (C : Addr) (vs : List V) (H : Hp) (z : V) : Prop := ∃ (p a : Addr) (W : Wd), vs = [.ref p, .ref a] ∧ WdAt K C H p W ∧ PlAt K H a W ∧ W.gd 1000000000000000000 ∧ z = .bl true
theorem ok_is_told (T : Txt K mg w) : FnOk P w K mg base CX0 5 T.a_law_is_told T.fd_law_is_told ["world", "plain"] (Pure (kTold K T.C_World)) := by
  have G_law_wd_plain := ok__law_wd_plain (P := P) (w := w) (base := base) T
  have G_World___iter__ := ok_iter (P := P) (w := w) (base := base) T
  have G_World___len__ := ok_len (P := P) (w := w) (base := base) T
  have G_World___str__ := ok_str (P := P) (w := w) (base := base) T
  have G_World_ids := ok_ids (P := P) (w := w) (base := base) T
  have G_World___contains__ := ok_contains (P := P) (w := w) (base := base) T
  have G_World_kind_of := ok_kind_of (P := P) (w := w) (base := base) T
  have G_World_numbers := ok_numbers_of (P := P) (w := w) (base := base) T
  refine T.F_law_is_told.ok sc_law_is_told (fun vs H Q E h => ?_) (fun cdv A outer s H vs Q E hr h => ?_)
  · obtain ⟨_, ⟨_, _, _, rfl, _⟩, _⟩ := h; rfl
  · obtain ⟨_, ⟨p, a, W, rfl, hW, hP, hg, rfl⟩, q⟩ := h
    refine ⟨_, (pss_cons (ps_setLc (i := 3) (own := [("thing", 2)]) (g := gName 2) (by rfl) sc_law_is_told.nd rfl rfl (sw_true rfl rfl rfl (by decide +kernel)) (pi_tup (pe_ix ix_tup (pv 1) pe_int (fun _ _ => rfl))) (blkOk_by (own := [("thing", 2)]) (N := ["world", "plain", "thing", "ids", "kind", "numbers", "odd", "value"]) (sc := defScope s_law_is_told) (by decide +kernel)) (fun _ _ _ _ _ => pg_name (i := 2) sc_law_is_told.nd rfl (Or.inl rfl)) (fun _ _ _ _ _ => pts_nil) (fun _ _ _ _ _ => (pe_ix (ix_tupK (K := K) rfl) (pv 2) pe_int (fun _ _ => rfl))))
  (pss_cons (ps_if (PW.pt (pw_or (pt_cmpR (op_neD hr.units) (pe_call G_law_wd_plain (hr.mono (by decide)) (by rfl) T.g_law_wd_plain T.F_law_wd_plain.kp T.b_law_wd_plain .nil pass0 (pa_cons (pv 0) pa_nil)) (pv 1) (nomark _)) (pw_or (pt_cmpR (op_neD hr.units) (pe_callTy (c_listO rfl G_World___iter__ (hr.mono (by decide)) T.m_World___iter__ T.b_World___iter__ G_World___len__ (hr.mono (by decide)) T.m_World___len__ T.b_World___len__ pass0) (by rfl) T.z_list (by decide +kernel) (pa_cons (pv 0) pa_nil)) (pv 3) (nomark _)) (pw_or1 (pt_cmpR op_ne (pe_callB (c_lenO G_World___len__ (hr.mono (by decide)) T.m_World___len__ T.b_World___len__ pass0) (by rfl) T.z_len PySem.boot_len (pa_cons (pv 0) pa_nil)) (pe_callB c_len (by rfl) T.z_len PySem.boot_len (pa_cons (pv 3) pa_nil)) (nomark _)))))) (pss_one (ps_ret pe_bl)) pss_nil)
  (pss_cons (ps_if (pt_cmpR op_ne (pe_callTy (c_strO G_World___str__ (hr.mono (by decide)) T.m_World___str__ T.b_World___str__ pass0) (by rfl) T.z_str (by decide +kernel) (pa_cons (pv 0) pa_nil)) (pe_op op_add_str (pe_op op_add_str (pe_op op_add_str (pe_op op_add_str pe_str (pe_callTy call_str_int (by rfl) T.z_str (by decide +kernel) (pa_cons (pe_ix ix_tup (pv 1) pe_int (fun _ _ => rfl)) pa_nil))) pe_str) (pe_callTy call_str_int (by rfl) T.z_str (by decide +kernel) (pa_cons (pe_callB c_len (by rfl) T.z_len PySem.boot_len (pa_cons (pv 3) pa_nil)) pa_nil))) pe_str) (nomark _)) (pss_one (ps_ret pe_bl)) pss_nil)
  (pss_cons (ps_for PassesOwn.never rfl (pi_tup (pe_tup (pa_cons pe_str (pa_cons pe_str (pa_cons pe_str (pa_cons pe_str (pa_cons pe_str (pa_cons pe_str (pa_cons pe_non (pa_cons pe_int (pa_cons (pe_tup (pa_cons pe_str pa_nil)) pa_nil))))))))))) (pg_name (i := 4) sc_law_is_told.nd rfl (.inr rfl)) (pss_one (ps_if (pt_cmpR (op_neD hr.units) (pe_meth (pv 0) T.cl_World T.m_World_ids G_World_ids (hr.mono (by decide)) T.b_World_ids .nil pass0 (pa_cons (pv 4) pa_nil)) (pe_callTy c_tupL (by rfl) T.z_tuple (by decide +kernel) (pa_cons (pe_lc (own := [("thing", 2)]) (g := gName 2) (by rfl) sc_law_is_told.nd (pi_tup (pe_ix ix_tup (pv 1) pe_int (fun _ _ => rfl))) (blkOk_by (own := [("thing", 2)]) (N := ["world", "plain", "thing", "ids", "kind", "numbers", "odd", "value"]) (sc := defScope s_law_is_told) (by decide +kernel)) (fun _ _ _ _ _ => pg_name (i := 2) sc_law_is_told.nd rfl (Or.inl rfl)) (fun _ _ _ _ _ => (pts_one (pt_cmpR (op_eqDK (K := K) hr.units rfl rfl) (pe_ix (ix_tupK (K := K) rfl) (pv 2) pe_int (fun _ _ => rfl)) (pv 4) (nomark _)))) (fun _ _ _ _ _ => (pe_ix (ix_tupK (K := K) rfl) (pv 2) pe_int (fun _ _ => rfl)))) pa_nil)) (nomark _)) (pss_one (ps_ret pe_bl)) pss_nil)))
  (pss_cons (ps_for PassesOwn.never rfl (pi_tup (pe_ix ix_tup (pv 1) pe_int (fun _ _ => rfl))) (pg_tup rfl (pgs_cons (pg_name (i := 2) sc_law_is_told.nd rfl (.inl rfl)) (pgs_cons (pg_name (i := 4) sc_law_is_told.nd rfl (.inr rfl)) (pgs_cons (pg_name (i := 5) sc_law_is_told.nd rfl (.inl rfl)) pgs_nil)))) (pss_one (ps_if (PW.pt (pw_or (pt_cmpR (op_niO G_World___contains__ (hr.mono (by decide)) T.m_World___contains__ T.b_World___contains__ pass0) (pv 2) (pv 0) (by rfl)) (pw_or (pt_cmpR op_ne (pe_meth (pv 0) T.cl_World T.m_World_kind_of G_World_kind_of (hr.mono (by decide)) T.b_World_kind_of .nil pass0 (pa_cons (pv 2) pa_nil)) (pv 4) (nomark _)) (pw_or1 (pt_cmpR (op_neD hr.units) (pe_meth (pv 0) T.cl_World T.m_World_numbers G_World_numbers (hr.mono (by decide)) T.b_World_numbers .nil pass0 (pa_cons (pv 2) pa_nil)) (pv 5) (nomark _)))))) (pss_one (ps_ret pe_bl)) pss_nil)))
  (pss_cons (ps_set (i := 6) sc_law_is_told.nd rfl (.inl rfl) (pe_lst (pa_cons pe_bl (pa_cons pe_bl (pa_cons pe_non (pa_cons pe_str (pa_cons (pe_ix ix_tup (pv 1) pe_int (fun _ _ => rfl)) (pa_cons (pe_un un_neg pe_int) (pa_cons (pe_tup (pa_cons pe_int pa_nil)) (pa_cons (pe_op op_add (pe_ix ix_tup (pv 1) pe_int (fun _ _ => rfl)) (pe_op op_pow pe_int pe_int)) pa_nil))))))))))
  (pss_one (ps_ret (pe_cmpR (op_eqD hr.units) (pe_lc (own := [("value", 7)]) (g := gName 7) (by rfl) sc_law_is_told.nd (pi_list (pv 6)) (blkOk_by (own := [("value", 7)]) (N := ["world", "plain", "thing", "ids", "kind", "numbers", "odd", "value"]) (sc := defScope s_law_is_told) (by decide +kernel)) (fun _ _ _ _ _ => pg_name (i := 7) sc_law_is_told.nd rfl (Or.inl rfl)) (fun _ _ _ _ _ => (pts_one (pt_cmpR (op_inO G_World___contains__ (hr.mono (by decide)) T.m_World___contains__ T.b_World___contains__ pass0) (pv 7) (pv 0) (by rfl)))) (fun _ _ _ _ _ => (pv 7))) (pe_lst pa_nil) (nomark _)))))))))), ?_⟩
    obtain ⟨aT, hPl, rs, hT, hR⟩ := id hP
    have hl := hg.len
    have hk := hg.kds
    refine q_asgL (xs := (Tg.ids W.ts).map V.int) (by
      have e : (Tg.ids W.ts).map V.int = (W.ts.filter fun _ => true).map fun t => V.int t.id := by
        rw [List.filter_eq_self.mpr (fun _ _ => rfl)]
        unfold Tg.ids
        rw [List.map_map]
        rfl
      rw [e]
      exact el_lcTs (fun _ => true) (fun _ t => V.int t.id) (fun t => V.int t.id) (ev_op (ev_var rfl) ev_c (rv_ixT hPl rfl)) hT hR (by omega) (fun _ => rfl) (fun r t H1 e1 _ _ => et_yes) fun r t H1 e1 hA _ _ => ev_tg0 (ev_var rfl) hA) fun l H1 hl1 e1 h1 => ?_
    have hids : Dp K H1 (.ref l) (.list ((Tg.ids W.ts).map PyData.int)) := .lst (sq_of h1) (dpa_ints _)
    have hlen : ((Tg.ids W.ts).map V.int).length = W.ts.length := by rw [List.length_map, tg_len]
    have hW1 := hW.ex e1
    refine q_when (b := false) (et_or (a := false) (b := false) (et_is (et_test (ev_neD (evd_P (ep_call (ok := kProps K T.C_World) (W := W) (vs := [.ref p]) (by walk_at "ea") fun H2 e2 => ⟨p, rfl, hW1.ex e2⟩)) (evd_PV (ev_var rfl) (hP.ex e1)) (shaped_wd hk) (shaped_wd hk))) (by rw [eqv_wd]; simp)) fun _ => et_is (et_or (a := false) (b := false) (et_is (et_test (ev_neD (evd_ints (el_listW (ev_var rfl) hW1 hl)) (evd_var rfl hids) (shaped_ints _) (shaped_ints _))) (by rw [eqv_nsL]; simp)) fun _ => et_is (et_test (ev_op (len_world T hW1 (by omega) (ev_var rfl)) (ev_cb (vs := [.ref l]) (by walk_at "ea") (rc_lenL (sq_of h1))) (rv_ne rfl))) (by rw [hlen]; simp)) rfl) (fun h => by cases h) fun _ H2 x2 => ?_
    have h2 := x2 _ _ h1
    have e2 := e1.trans x2
    have z1 := int_text_len_1921 hg.tlog
    have z2 := int_text_len_1921 (log_small (n := W.ts.length) (by omega))
    have z9 : (Str.ofString "world at ").length = 9 := by decide +kernel
    have z4 : (Str.ofString " of ").length = 4 := by decide +kernel
    have z7 : (Str.ofString " things").length = 7 := by decide +kernel
    have hz : sizeLine = 16777216 := sizeLine_eq
    refine q_when (b := false) (et_is (et_test (ev_op (ev_strW (ev_var rfl) (hW.ex e2) hl hg.tlog) (ev_op (ev_op (ev_op (ev_op (ev_c (v := .str "world at ")) (ev_cb (vs := [.int W.t]) (ea_cons (ev_op (ev_var rfl) ev_c (rv_ixT (ex_t e2 hPl) rfl)) ea_nil) (rc_si hg.tlog)) (rv_cs (by omega))) (ev_c (v := .str " of ")) (rv_cs (by rw [Str.length_append]; omega))) (ev_cb (vs := [.int W.ts.length]) (ea_cons (ev_cb (vs := [.ref l]) (by walk_at "ea") (rc_lenLn (sq_of h2) hlen)) ea_nil) (rc_si (log_small (by omega)))) (rv_cs (by rw [Str.length_append, Str.length_append]; omega))) (ev_c (v := .str " things")) (rv_cs (by rw [Str.length_append, Str.length_append, Str.length_append]; omega))) (rv_ne rfl))) (by unfold Wd.text; simp)) (fun h => by cases h) fun _ H3 e3 => ?_
    have e3 := e2.trans e3
    refine q_forAP (P := fun vs H' => ∃ t, vs = [.str "hero", .str "coin", .str "a", .str "zzzzzzzz", .str "box", .str "none", .non, .int 0, .ref t] ∧ H' t = some (.tup [.str "hero"])) ((ap_cons ev_c (ap_cons ev_c (ap_cons ev_c (ap_cons ev_c (ap_cons ev_c (ap_cons ev_c (ap_cons ev_c (ap_cons ev_c (ap_consU (eu_tup (vs := [.str "hero"]) (by walk_at "ea") (by decide)) ap_nil))))))))).mono fun vs H4 ⟨_, y1, _, y2, _, y3, _, y4, _, y5, _, y6, _, y7, _, y8, t, _, y9, y10, y11⟩ => ⟨t, by rw [y1, y2, y3, y4, y5, y6, y7, y8, y9, y11], y10⟩) (fun vs H4 ⟨t, hv, _⟩ => by rw [hv]; show 9 ≤ 100000; decide)
      (fun t xs i σ' H' => Ex H H' ∧ SqT K H' t xs ∧ (∀ x ∈ xs, ∃ d, Dp K H' x d ∧ SeqAt.shaped d = true) ∧ ∃ b : Option V, σ' = [some (.ref p), some (.ref a), none, some (.ref l), b, none, none, none])
      (fun t xs H4 e4 ⟨t2, hv, ht2⟩ ht => ⟨(e3.trans e4).trans (Ex.new ht), st_of upd_same, fun x hx => ?_, none, rfl⟩) (fun t xs i σ' H' _ h => h.2.1) (fun t xs i x σ' H' hx ⟨e', hT', hd', b, hσ⟩ => ?_) fun t xs σ' H' ⟨e', _, _, b, hσ⟩ => ?_
    · have ht3 := (Ex.new (o := .tup xs) ht) _ _ ht2
      rw [hv] at hx
      simp only [List.mem_cons, List.not_mem_nil, or_false] at hx
      rcases hx with rfl | rfl | rfl | rfl | rfl | rfl | rfl | rfl | rfl
      · exact ⟨.str _, .str _, shaped_str (by decide +kernel)⟩
      · exact ⟨.str _, .str _, shaped_str (by decide +kernel)⟩
      · exact ⟨.str _, .str _, shaped_str (by decide +kernel)⟩
      · exact ⟨.str _, .str _, shaped_str (by decide +kernel)⟩
      · exact ⟨.str _, .str _, shaped_str (by decide +kernel)⟩
      · exact ⟨.str _, .str _, shaped_str (by decide +kernel)⟩
      · exact ⟨.none, .non, by decide +kernel⟩
      · exact ⟨.int 0, .int 0, by decide +kernel⟩
      · exact ⟨.tuple [.str "hero"], .tup (st_of ht3) (.cons (.str _) .nil), by decide +kernel⟩
    · subst hσ
      obtain ⟨d, hd, sd⟩ := hd' x (List.mem_of_getElem? hx)
      have hWx := hW.ex e'
      obtain ⟨rs2, aT2, aO2, aD2, ⟨dx2, hob2⟩, _⟩ := id hWx
      refine s_when (b := false) (et_is (et_test (ev_neD (evd_intsU (ns := W.ids d) (eu_methT (vs := [x]) (ev_var rfl) hob2 rfl (by walk_at "ea") fun H5 e5 => ⟨p, W, x, d, rfl, hWx.ex e5, hl, hk, dp_ex e5 hd, sd, rfl⟩)) (evd_intsU (ns := W.ids d) (eu_tupL (by
        have e : (W.ids d).map V.int = (W.ts.filter fun t => PyData.eqv (.str t.kd) d).map fun t => V.int t.id := by
          unfold Wd.ids
          rw [List.map_map]
          rfl
        rw [e]
        exact el_lcTs (fun t => PyData.eqv (.str t.kd) d) (fun _ t => V.int t.id) (fun t => V.int t.id) (ev_op (ev_var rfl) ev_c (rv_ixT (ex_t e' hPl) rfl)) (ex_t e' hT) (hR.ex e') (by omega) (fun _ => rfl) (fun r t H1 e1 hA hm => et_test (ev_eqD (evd_str (ev_tg1 (ev_var rfl) hA)) (evd_var rfl (dp_ex e1 hd)) (shaped_str (hk t hm)) sd)) fun r t H1 e1 hA _ _ => ev_tg0 (ev_var rfl) hA))) (shaped_tup _) (shaped_tup _))) (by rw [eqv_tup]; rfl)) (fun h => by cases h) fun _ H4 e4 => ⟨e'.trans e4, ex_t e4 hT', fun y hy => ?_, _, rfl⟩
      obtain ⟨d, h5, h6⟩ := hd' y hy
      exact ⟨d, dp_ex e4 h5, h6⟩
    subst hσ
    refine q_forT (a := aT) (xs := rs.map V.ref) (ev_op (ev_var rfl) ev_c (rv_ixT (ex_t e' hPl) rfl)) (ex_t e' hT) (fun i σ' H2 => Ex H' H2 ∧ ∃ b c d : Option V, σ' = [some (.ref p), some (.ref a), b, some (.ref l), c, d, none, none]) (fun H1 e1 => ⟨e1, _, _, _, rfl⟩) (fun i σ' H2 _ h => ex_t (e'.trans h.1) hT) (fun i x σ' H2 hx ⟨x2, b, c, d, hσ⟩ => ?_) fun σ' H2 ⟨x2, b, c, d, hσ⟩ => ?_
    · subst hσ
      have e2 := e'.trans x2
      obtain ⟨r, t, rfl, h1, h2, rn, h3, h4⟩ := (hR.ex e2).at hx
      have hm : t ∈ W.ts := List.mem_of_getElem? h2
      have hW2 := hW.ex e2
      obtain ⟨rs3, aT3, aO3, aD3, ⟨dx3, hob3⟩, _⟩ := id hW2
      obtain ⟨rnW, hTh⟩ := hW2.thing hm
      obtain ⟨_, _, _, _, _, _, _, _, _, _, hN⟩ := id hTh.ex
      refine ⟨r, [.int t.id, .str t.kd, .ref rn], rfl, h3, rfl, .int t.id, _, rfl, .str t.kd, _, rfl, .ref rn, [], rfl, rfl, ?_⟩
      exact s_when (b := false) (et_or (a := false) (b := false) (et_test (ev_op (ev_var rfl) (ev_var rfl) (in_world T hW2 (List.mem_map_of_mem hm)))) fun _ => et_is (et_or (a := false) (b := false) (et_is (et_test (ev_op (ev_methP (ok := kKind K T.C_World) (vs := [.int t.id]) (ev_var rfl) hob3 rfl (by walk_at "ea") fun H5 e5 => ⟨p, W, t, rnW, rfl, hTh.mono e5, hg.asc.nodup, rfl⟩) (ev_var rfl) (rv_ne rfl))) (by simp)) fun _ => et_is (et_test (ev_neD (evd_intsT (a := rnW) (ev_methP (ok := kNums K T.C_World) (vs := [.int t.id]) (ev_var rfl) hob3 rfl (by walk_at "ea") fun H5 e5 => ⟨p, W, t, rnW, rfl, hTh.mono e5, hg.asc.nodup, rfl⟩) hN) (evd_intsT (a := rn) (ev_var rfl) h4) (shaped_tup _) (shaped_tup _))) (by rw [eqv_tup]; rfl)) rfl) (fun h => by cases h) fun _ H4 e4 => ⟨x2.trans e4, _, _, _, rfl⟩
    subst hσ
    have e2 := e'.trans x2
    refine q_asgLP (P := fun vs H' => ∃ t, vs = [.bl true, .bl false, .non, .str "0", .int W.n, .int (-1), .ref t, .int (W.n + 10000000000000000000000000000000000000000)] ∧ H' t = some (.tup [.int 0])) ((ap_cons ev_c (ap_cons ev_c (ap_cons ev_c (ap_cons ev_c (ap_cons (x := .int W.n) (ev_op (ev_var rfl) ev_c (rv_ixT (ex_t e2 hPl) rfl)) (ap_cons (x := .int (-1)) (by walk_at "ev") (ap_consU (eu_tup (vs := [.int 0]) (by walk_at "ea") (by decide)) (ap_cons (x := .int (W.n + 10000000000000000000000000000000000000000)) (ev_op (ev_op (ev_var rfl) ev_c (rv_ixT (ex_t e2 hPl) rfl)) (by walk_at "ev") rv_I0) ap_nil)))))))).mono fun vs H4 ⟨_, y1, _, y2, _, y3, _, y4, _, y5, _, y6, t, _, y7, y8, _, y9, y10⟩ => ⟨t, by rw [y1, y2, y3, y4, y5, y6, y7, y9, y10], y8⟩) (fun vs H4 ⟨t, hv, _⟩ => by rw [hv]; show 8 ≤ 100000; decide) fun o vs H4 e4 ⟨t, hv, ht⟩ ho => ?_
    subst hv
    have e5 : Ex H (upd H4 o (.lst [.bl true, .bl false, .non, .str "0", .int W.n, .int (-1), .ref t, .int (W.n + 10000000000000000000000000000000000000000)])) := (e2.trans e4).trans (Ex.new ho)
    have ht5 := (Ex.new (o := .lst [.bl true, .bl false, .non, .str "0", .int W.n, .int (-1), .ref t, .int (W.n + 10000000000000000000000000000000000000000)]) ho) _ _ ht
    have ho5 : upd H4 o (.lst [.bl true, .bl false, .non, .str "0", .int W.n, .int (-1), .ref t, .int (W.n + 10000000000000000000000000000000000000000)]) o = some (.lst [.bl true, .bl false, .non, .str "0", .int W.n, .int (-1), .ref t, .int (W.n + 10000000000000000000000000000000000000000)]) := upd_same
    generalize upd H4 o (.lst [.bl true, .bl false, .non, .str "0", .int W.n, .int (-1), .ref t, .int (W.n + 10000000000000000000000000000000000000000)]) = H5 at e5 ht5 ho5
    have hno : ∀ n : Int, (n < 0 ∨ W.n ≤ n) → inW W (.int n) = false := fun n hn => decide_eq_false fun hm => by
      obtain ⟨t', h1, h2⟩ := List.mem_map.mp hm
      have h3 := hg.id_lt h1
      have h4 := (hg.tg t' h1).1
      omega
    have hodd : ∀ x ∈ [V.bl true, .bl false, .non, .str "0", .int W.n, .int (-1), .ref t, .int (W.n + 10000000000000000000000000000000000000000)], Plain K H5 x ∧ inW W x = false := fun x hx => by
      simp only [List.mem_cons, List.not_mem_nil, or_false] at hx
      rcases hx with rfl | rfl | rfl | rfl | rfl | rfl | rfl | rfl
      · exact ⟨pl_bl, rfl⟩
      · exact ⟨pl_bl, rfl⟩
      · exact ⟨pl_non, rfl⟩
      · exact ⟨pl_str, rfl⟩
      · exact ⟨pl_int, hno _ (.inr (Int.le_refl _))⟩
      · exact ⟨pl_int, hno _ (.inl (by decide))⟩
      · exact ⟨⟨_, .base (.tup ht5)⟩, rfl⟩
      · exact ⟨pl_int, hno _ (.inr (by omega))⟩
    have hW5 := hW.ex e5
    obtain ⟨rs4, aT4, aO4, aD4, ⟨dx4, hob4⟩, _⟩ := id hW5
    refine s_ret (v := .bl true) (ev_is (ev_eqD (d := .list (([] : List Int).map PyData.int)) (e := .list []) (evd_ints (ns := []) ?_) (evd_lst evda_nil (by decide)) (by decide +kernel) (by decide +kernel)) (by decide +kernel)) fun H6 e6 => q H6 (e5.trans e6)
    rw [show ([] : List Int).map V.int = given [V.bl true, .bl false, .non, .str "0", .int W.n, .int (-1), .ref t, .int (W.n + 10000000000000000000000000000000000000000)].length (fun _ => false) (fun _ => .non) from (given_none _ _).symm]
    exact el_lcL (fun _ => false) (fun _ => .non) (ev_var rfl) (sq_of ho5) (by show 8 ≤ 40000; decide) (fun _ => rfl) (fun i x H1 e1 hx => et_test (ev_op (ev_var rfl) (ev_var rfl) (rv_inO (b := false) (ok := kIn K T.C_World) (e1 _ _ hob4) fun H2 e2 => ⟨p, x, W, rfl, hW5.ex (e1.trans e2), (hodd x (List.mem_of_getElem? hx)).1.ex (e1.trans e2), by rw [(hodd x (List.mem_of_getElem? hx)).2]⟩))) fun i x H1 e1 hx h => by cases h
end
end Kz
set_option Elab.async false
set_option linter.all false
set_option maxRecDepth 100000
set_option maxHeartbeats 4000000
set_option exponentiation.threshold 500
namespace Kz
open PySem PySem.Spec PyProof.Rows L2 Evl Vr
local macro_rules | `(tactic| walk_at "sc") => `(tactic| first | (with_reducible assumption) | (with_reducible exact sc_mul (by omega)) | (with_reducible exact sc_mulr (by omega)) | (with_reducible exact sc_div (by omega) (by decide)) | (show (0 : Int) < _; omega) | (show _ ≠ (0 : Int); omega) | (with_reducible rfl) | decide)
local macro_rules | `(tactic| walk_at "sq") => `(tactic| first | assumption | exact sq_of (by assumption) | exact st_of (by assumption))
local macro_rules | `(tactic| walk_at "pl") => `(tactic| first | assumption | exact pl_int | exact pl_bl | exact pl_str | exact pl_non | exact pl_lst (by assumption) | exact pl_tup (by assumption) | exact pl_dK (by assumption))
local macro_rules | `(tactic| walk_at "rv") => `(tactic| first
  | with_reducible exact rv_I0
  | with_reducible exact ru_neg
  | ((with_reducible apply rv_I); walk_at "sc")
  | ((with_reducible apply rv_ixL); walk_at "sq"; first | rfl | assumption)
  | ((with_reducible apply rv_ixT); walk_at "sq"; first | rfl | assumption)
  | ((with_reducible apply rv_eq); rfl) | ((with_reducible apply rv_ne); rfl))
local macro_rules | `(tactic| walk_at "rc") => `(tactic| first
  | with_reducible exact rc_I1 | with_reducible exact rc_B1 | with_reducible exact rc_I2 | ((with_reducible apply rc_repr); walk_at "sc") | ((with_reducible apply rc_lenL); walk_at "sq")
  | ((with_reducible apply rc_isiInt); walk_at "pl") | ((with_reducible apply rc_isiBool); walk_at "pl"))
local macro_rules | `(tactic| walk_at "ea") => `(tactic| first
  | with_reducible exact ea_nil | ((with_reducible apply ea_cons); walk_at "ev"; walk_at "ea"))
local macro_rules | `(tactic| walk_at "pow") => `(tactic| first
  | with_reducible exact ev_pow (a := 10) (b := 9) (c := 1000000000) (by decide +kernel) (by decide +kernel)
  | with_reducible exact ev_pow (a := 10) (b := 10) (c := 10000000000) (by decide +kernel) (by decide +kernel)
  | with_reducible exact ev_pow (a := 10) (b := 12) (c := 1000000000000) (by decide +kernel) (by decide +kernel)
  | with_reducible exact ev_pow (a := 10) (b := 17) (c := 100000000000000000) (by decide +kernel) (by decide +kernel)
  | with_reducible exact ev_pow (a := 10) (b := 20) (c := 100000000000000000000) (by decide +kernel) (by decide +kernel)
  | with_reducible exact ev_pow (a := 10) (b := 29) (c := 100000000000000000000000000000) (by decide +kernel) (by decide +kernel)
  | with_reducible exact ev_pow (a := 10) (b := 30) (c := 1000000000000000000000000000000) (by decide +kernel) (by decide +kernel)
  | with_reducible exact ev_pow (a := 10) (b := 40) (c := 10000000000000000000000000000000000000000) (by decide +kernel) (by decide +kernel)
  | with_reducible exact ev_pow (a := 10) (b := 57) (c := 1000000000000000000000000000000000000000000000000000000000) (by decide +kernel) (by decide +kernel)
  | with_reducible exact ev_pow (a := 10) (b := 58) (c := 10000000000000000000000000000000000000000000000000000000000) (by decide +kernel) (by decide +kernel)
  | with_reducible exact ev_pow (a := 10) (b := 59) (c := 100000000000000000000000000000000000000000000000000000000000) (by decide +kernel) (by decide +kernel)
  | with_reducible exact ev_pow (a := 10) (b := 60) (c := 1000000000000000000000000000000000000000000000000000000000000) (by decide +kernel) (by decide +kernel))
local macro_rules | `(tactic| walk_at "call") => `(tactic| (intro H9 e9; first | exact ⟨_, rfl, rfl⟩ | exact ⟨_, _, rfl, rfl⟩ | exact ⟨_, _, _, rfl, rfl⟩ | exact ⟨_, rfl, by walk_at "pl", rfl⟩ | (refine ⟨_, _, _, rfl, ?_, rfl⟩; first | exact Plain.ex e9 (by assumption) | walk_at "pl") | (refine ⟨_, rfl, ?_, rfl⟩; first | exact Plain.ex e9 (by assumption) | walk_at "pl")))
local macro_rules | `(tactic| walk_at "ev") => `(tactic| first
  | with_reducible exact ev_c
  | exact ev_var rfl
  | walk_at "pow"
  | ((with_reducible apply ev_op); walk_at "ev"; walk_at "ev"; walk_at "rv")
  | ((with_reducible apply ev_un); walk_at "ev"; walk_at "rv")
  | ((with_reducible apply ev_cb); walk_at "ea"; walk_at "rc")
  | ((with_reducible apply ev_callP); walk_at "ea"; walk_at "call")
  | ((with_reducible apply ev_chain); walk_at "ev"; walk_at "ev"; walk_at "rv"; walk_at "ev"; walk_at "rv")
  | ((with_reducible apply ev_andV); walk_at "ev"; intro _; walk_at "ev")
  | ((with_reducible apply ev_orV); walk_at "ev"; intro _; walk_at "ev")
  | ((with_reducible apply ev_ite); walk_at "et"; intro _; walk_at "ev"; intro _; walk_at "ev")
  | ((with_reducible apply ev_notV); walk_at "ev"))
local macro_rules | `(tactic| walk_at "et") => `(tactic| first
  | ((with_reducible apply et_test); walk_at "ev")
  | ((with_reducible apply et_B); walk_at "ev")
  | ((with_reducible apply et_and); walk_at "et"; intro _; walk_at "et")
  | ((with_reducible apply et_or); walk_at "et"; intro _; walk_at "et")
  | ((with_reducible apply et_not); walk_at "et"))
open En Wo
section
variable {σ : L2.St} {H H' : Hp} {te ta tb : TE} {t : TT} {ts tr : TA} {tz : TS} {D : Ends} {K : PySem.W.Frag} {C p a q : Addr} {W : Wd} {xs ys : List V}
def Stable (P : List V → Hp → Prop) : Prop := ∀ vs H1 H2, Ex H1 H2 → P vs H1 → P vs H2
/-- a new tuple of which something is known -/
def EvUP (te : TE) (σ : L2.St) (H : Hp) (P : List V → Hp → Prop) : Prop := ∀ H1, Ex H H1 → ∀ Q : VK, (∀ b xs H2, H1 b = none → Ex H1 H2 → H2 b = some (.tup xs) → P xs H2 → Q (.ref b) H2) → te σ H1 Q
theorem eup_tup {P : List V → Hp → Prop} (h : EvAP ts σ H P) (hP : Stable P) (hl : ∀ vs H1, P vs H1 → vs.length ≤ 100000) : EvUP (tTup ts) σ H P := fun H1 e Q q => h H1 e _ fun vs H2 e2 hp => ⟨sz_of (hl vs H2 hp), fun b hb => q b vs _ (fresh_back e2 hb) (e2.trans (Ex.new hb)) upd_same (hP _ _ _ (Ex.new hb) hp)⟩
theorem eup_cat {P : List V → Hp → Prop} (h1 : Ev ta σ H (.ref a)) (hx : SqT K H a xs) (h2 : EvUP tb σ H P) (hP : Stable P) (hl : ∀ vs H1, P vs H1 → vs ≠ [] ∧ xs.length + vs.length ≤ 100000) : EvUP (tOp (rCatA K) ta tb) σ H (fun zs H' => ∃ ys, zs = xs ++ ys ∧ P ys H') := fun H1 e Q q =>
  h1 H1 e _ fun H2 e2 => h2 H2 (e.trans e2) _ fun b ys H3 hb e3 h3 hp => by
    obtain ⟨r1, r2⟩ := hl ys H3 hp
    refine ⟨a, b, xs, ys, rfl, rfl, ex_t ((e.trans e2).trans e3) hx, st_of h3, sz_of r2, fun z => ?_, fun _ z => absurd z r1, fun _ _ c hc => ?_⟩
    · subst z
      exact q b ys H3 (fresh_back e2 hb) (e2.trans e3) h3 ⟨ys, rfl, hp⟩
    · exact q c _ _ (fresh_back (e2.trans e3) hc) ((e2.trans e3).trans (Ex.new hc)) upd_same ⟨ys, rfl, hP _ _ _ (Ex.new hc) hp⟩
theorem ap_consUP {P P2 : List V → Hp → Prop} (h : EvUP te σ H P) (hP : Stable P) (hr : EvAP tr σ H P2) : EvAP (tCons te tr) σ H (fun vs H' => ∃ b xs ws, vs = .ref b :: ws ∧ H' b = some (.tup xs) ∧ P xs H' ∧ P2 ws H') := fun H1 e Q q =>
  h H1 e _ fun b xs H2 hb e2 h2 hp => hr H2 (e.trans e2) _ fun ws H3 e3 h3 => q (.ref b :: ws) H3 (e2.trans e3) ⟨b, xs, ws, rfl, e3 _ _ h2, hP _ _ _ e3 hp, h3⟩
theorem s_retUP {P : List V → Hp → Prop} (h : EvUP te σ H P) (k : ∀ b xs H2, H b = none → Ex H H2 → H2 b = some (.tup xs) → P xs H2 → D.rt (.ref b) H2) : tRet te D σ H := h H (Ex.refl H) _ k
theorem q_asgSp {i : Nat} {sp : Sp} {E : XK} {vs : List V} (h : EvA ts σ H vs) (k : ∀ H1, Ex H H1 → sp vs H1 (fun v H2 => tz D (σ.set i (some v)) H2) E) : tSeq (tAsg (tCall sp [] E ts) (gName i)) tz D σ H := h H (Ex.refl H) _ fun H1 e1 => by
  show sp (vs ++ []) H1 _ E
  rw [List.append_nil]
  exact k H1 e1
theorem et_isNn {x : V} (h : Ev te σ H x) : EvT (tB (tIsN te)) σ H (decide (x = .non)) := fun H1 e _ q => h H1 e _ fun H2 e2 => ⟨_, rfl, q H2 e2⟩
theorem rc_lenTn {n : Nat} (h : SqT K H p xs) (e : xs.length = n) : RC (rLenS K) [.ref p] H (.int n) := by
  subst e
  exact rc_lenT h
theorem PlAt.exd (e : Exd q H H') (hq : H q = some (.lst ys)) (h : PlAt K H a W) : PlAt K H' a W := by
  obtain ⟨aT, h1, rs, h2, h3⟩ := h
  exact ⟨aT, e.tlst hq h1, rs, e.tlst hq h2, h3.tl e hq⟩
theorem WdAt.exd (e : Exd q H H') (hq : H q = some (.lst ys)) (h : WdAt K C H a W) : WdAt K C H' a W := by
  obtain ⟨rs, aT, aO, aD, ⟨dx, hob⟩, h2, h3, h4, h5⟩ := h
  exact ⟨rs, aT, aO, aD, ⟨dx, e _ _ (fun z => by rw [z, hq] at hob; cases hob) hob⟩, e.tlst hq h2, h3.tl e hq, e.tlst hq h4, e _ _ (fun z => by rw [z, hq] at h5; cases h5) h5⟩
end
theorem Wd.gd.add {b : Int} {W : Wd} (h : W.gd b) (hl : W.ts.length < 12) {z : Str} {ns : List Int} (hz : z ∈ kinds) (hn : 1 ≤ ns.length ∧ ns.length ≤ 8 ∧ ∀ n ∈ ns, num n) : (W.add z ns).gd (b + 1) :=
  ⟨h.t, by have := h.n0; show 0 ≤ W.n + 1; omega, by have := h.nb; show W.n + 1 ≤ b + 1; omega, h.l0, h.lb, by show (W.ts ++ [_]).length ≤ 12; rw [List.length_append]; show _ + 1 ≤ 12; omega, fun t ht => by
    rcases List.mem_append.mp ht with y | y
    · exact h.tg t y
    · rw [List.mem_singleton.mp y]
      exact ⟨h.n0, hz, hn⟩, asc_add h.asc z ns⟩
theorem Wd.gd.up {b : Int} {W : Wd} (h : W.gd b) : W.gd (b + 1) := ⟨h.t, h.n0, by have := h.nb; omega, h.l0, h.lb, h.len, h.tg, h.asc⟩
/-- what a deed answers: a world and the plain one, both behind it -/
def BothAt (K : PySem.W.Frag) (C : Addr) (W : Wd) (b : Int) (xs : List V) (H : Hp) : Prop := ∃ (w' a' : Addr) (W' : Wd), xs = [.ref w', .ref a'] ∧ WdAt K C H w' W' ∧ PlAt K H a' W' ∧ W'.gd (b + 1) ∧ W.n ≤ W'.n
def spDeed (K : PySem.W.Frag) (C : Addr) (b : Int) : Sp := fun vs H Q _ => ∃ (p w a : Addr) (W : Wd), vs = [.ref p, .ref w, .ref a] ∧ Dice p H ∧ WdAt K C H w W ∧ PlAt K H a W ∧ W.gd b ∧ b ≤ 100000000000000000 ∧
  ∀ r xs H', r ≠ p → Exd p H H' → Dice p H' → H' r = some (.tup xs) → BothAt K C W b xs H' → Q (.ref r) H'
theorem PlAt.add {K : PySem.W.Frag} {H : Hp} {a aT t rn : Addr} {W : Wd} {rs : List Addr} {z : Str} {ns : List Int} (h1 : H a = some (.tup [.int W.t, .int (W.n + 1), .int W.l, .ref aT])) (h2 : H aT = some (.tup (rs.map V.ref ++ [.ref t]))) (hR : RsAt K H rs W.ts) (h3 : H t = some (.tup [.int W.n, .str z, .ref rn])) (h4 : SqT K H rn (ns.map V.int)) : PlAt K H a (W.add z ns) :=
  ⟨aT, st_of h1, rs ++ [t], by rw [List.map_append]; exact st_of h2, hR.snoc ⟨rn, st_of h3, h4⟩⟩
section
variable {P : Program} {w : World} {K : PySem.W.Frag} {mg : Str → Option Value} {base : Heap}
theorem ok_law_made (T : Txt K mg w) (b : Int) : FnOk P w K mg base CX0 11 T.a_law_made T.fd_law_made ["dice", "world", "plain"] (spDeed K T.C_World b) := by
  have G_law_numbers := ok_numbers_drawn (P := P) (w := w) (base := base) T
  have G_law_kind_drawn := ok_kind_drawn (P := P) (w := w) (base := base) T
  have G_made := ok_made (P := P) (w := w) (base := base) T
  refine T.F_law_made.ok sc_law_made (fun vs H Q E h => ?_) (fun cdv A outer s H vs Q E hr h => ?_)
  · obtain ⟨_, _, _, _, rfl, _⟩ := h; rfl
  · obtain ⟨p, wo, a, W, rfl, hd, hW, hP, hg, hb, q⟩ := h
    refine ⟨_, (pss_cons (ps_par (i := 3) (j := 4) (by rfl) sc_law_made.nd rfl rfl (by decide) rfl rfl (pa_cons (pe_call G_law_kind_drawn (hr.mono (by decide)) (by rfl) T.g_law_kind_drawn T.F_law_kind_drawn.kp T.b_law_kind_drawn .nil pass0 (pa_cons (pv 0) pa_nil)) (pa_cons (pe_call G_law_numbers (hr.mono (by decide)) (by rfl) T.g_law_numbers T.F_law_numbers.kp T.b_law_numbers .nil pass0 (pa_cons (pv 0) pa_nil)) pa_nil)) (by rfl))
  (pss_cons (ps_set (i := 5) sc_law_made.nd rfl (.inl rfl) (pe_call G_made (hr.mono (by decide)) (by rfl) T.g_made T.F_made.kp T.b_made .nil pass0 (pa_cons (pv 1) (pa_cons (pv 3) (pa_cons (pv 4) pa_nil)))))
  (pss_cons (ps_if (pt_cmpR op_eq (pe_callB c_len (by rfl) T.z_len PySem.boot_len (pa_cons (pe_ix ix_tup (pv 2) pe_int (fun _ _ => rfl)) pa_nil)) pe_int (nomark _)) (pss_one (ps_ret (pe_ifExp (pt_cmp (pc_isN (pe_ix ix_tup (pv 5) pe_int (fun _ _ => rfl))) rfl) (pe_tup (pa_cons (pe_ix ix_tup (pv 5) pe_int (fun _ _ => rfl)) (pa_cons (pv 2) pa_nil))) pe_non))) pss_nil)
  (pss_cons (ps_if (pt_cmpR op_ne (pe_ix ix_tup (pv 5) pe_int (fun _ _ => rfl)) (pe_ix ix_tup (pv 2) pe_int (fun _ _ => rfl)) (nomark _)) (pss_one (ps_ret pe_non)) pss_nil)
  (pss_one (ps_ret (pe_tup (pa_cons (pe_ix ix_tup (pv 5) pe_int (fun _ _ => rfl)) (pa_cons (pe_tup (pa_cons (pe_ix ix_tup (pv 2) pe_int (fun _ _ => rfl)) (pa_cons (pe_op op_add (pe_ix ix_tup (pv 2) pe_int (fun _ _ => rfl)) pe_int) (pa_cons (pe_ix ix_tup (pv 2) pe_int (fun _ _ => rfl)) (pa_cons (pe_op op_catA (pe_ix ix_tup (pv 2) pe_int (fun _ _ => rfl)) (pe_tup (pa_cons (pe_tup (pa_cons (pe_ix ix_tup (pv 2) pe_int (fun _ _ => rfl)) (pa_cons (pv 3) (pa_cons (pv 4) pa_nil)))) pa_nil))) pa_nil))))) pa_nil))))))))), ?_⟩
    refine q_parU (K := K) (p := p) (R1 := KindV) (R2' := NumsR) (dv_call (vs := [.ref p]) (fun H1 _ _ => ea_cons (ev_var rfl) ea_nil) fun H1 _ _ => ⟨rfl, rfl⟩) (du_callT (vs := [.ref p]) (fun H1 _ _ => ea_cons (ev_var rfl) ea_nil) fun H1 _ _ => ⟨rfl, rfl⟩) hd fun v rn xs H1 ⟨z, hv, hz⟩ ⟨ns, hx, hn1, hn2, hn3⟩ hrn e1 d1 hT => ?_
    subst hv hx
    obtain ⟨dp1, dp2, dp3, hpd⟩ := id hd
    have hW1 := hW.exd e1 hpd
    have hP1 := hP.exd e1 hpd
    refine q_asgSp (vs := [.ref wo, .str z, .ref rn]) (by walk_at "ea") fun H2 e2 => ⟨wo, rn, W, z, ns, rfl, hW1.ex e2, hg.len, hg.asc, (kind_ok hz).1, ex_t e2 hT, hn1, hn2, hn3, fun r H3 hr3 e3 hM => ?_⟩
    have e13 := e2.trans e3
    have hW3 := hW1.ex e13
    have hP3 := hP1.ex e13
    have d3 := d1.ex e13
    have x3 : Exd p H H3 := e1.trans (Exd.of e13)
    have hT3 := ex_t e13 hT
    obtain ⟨aT, hPl, rs, hTs, hR⟩ := id hP3
    have hrl : (rs.map V.ref).length = W.ts.length := by rw [List.length_map, hR.1]
    rcases hM with ⟨h12, hr⟩ | ⟨hlt, p', hW', hr⟩
    · refine q_when (b := true) (et_is (et_test (ev_op (ev_cb (vs := [.ref aT]) (ea_cons (ev_op (ev_var rfl) ev_c (rv_ixT hPl rfl)) ea_nil) (rc_lenTn hTs (hrl.trans h12))) ev_c (rv_eq rfl))) (by decide)) (fun _ H4 e4 => ?_) (fun h => by cases h)
      exact s_retU (xs := [.ref wo, .ref a]) (eu_if (b := true) (et_is (et_isNn (ev_op (x := .ref r) (ev_var rfl) ev_c (rv_ixT (st_of (e4 _ _ hr)) rfl))) rfl) (fun _ => eu_tup (ea_cons (ev_op (x := .ref r) (ev_var rfl) ev_c (rv_ixT (st_of (e4 _ _ hr)) rfl)) (ea_cons (ev_var rfl) ea_nil)) (by show 2 ≤ 100000; decide)) (fun h => by cases h)) fun r' H5 hr' e5 h5 => q r' _ H5 ((d3.ex e4).ne hr') (x3.trans (Exd.of (e4.trans e5))) (d3.ex (e4.trans e5)) h5 ⟨wo, a, W, rfl, hW3.ex (e4.trans e5), hP3.ex (e4.trans e5), hg.up, Int.le_refl _⟩
    · have hW12 : W.ts.length ≠ 12 := by omega
      refine q_when (b := false) (et_is (et_test (ev_op (ev_cb (vs := [.ref aT]) (ea_cons (ev_op (ev_var rfl) ev_c (rv_ixT hPl rfl)) ea_nil) (rc_lenTn hTs hrl)) ev_c (rv_eq rfl))) (decide_eq_false fun hh => hW12 (by have := V.int.inj hh; omega))) (fun h => by cases h) fun _ H4 e4 => ?_
      refine q_when (b := false) (et_is (et_test (ev_op (ev_op (x := .ref r) (ev_var rfl) ev_c (rv_ixT (st_of (e4 _ _ hr)) rfl)) (ev_op (ev_var rfl) ev_c (rv_ixT (ex_t e4 hPl) rfl)) (rv_ne rfl))) (by simp)) (fun h => by cases h) fun _ H5 e5 => ?_
      have e5 := e4.trans e5
      have hPl5 := ex_t e5 hPl
      refine s_retUP (P := fun vs H' => ∃ a' c t, vs = [.ref p', .ref a'] ∧ H' a' = some (.tup [.int W.t, .int (W.n + 1), .int W.l, .ref c]) ∧ H' c = some (.tup (rs.map V.ref ++ [.ref t])) ∧ H' t = some (.tup [.int W.n, .str z, .ref rn])) (eup_tup ((ap_cons (x := .ref p') (ev_op (x := .ref r) (ev_var rfl) ev_c (rv_ixT (st_of (e5 _ _ hr)) rfl)) (ap_consUP (P := fun vs H' => ∃ b t, vs = [.int W.t, .int (W.n + 1), .int W.l, .ref b] ∧ H' b = some (.tup (rs.map V.ref ++ [.ref t])) ∧ H' t = some (.tup [.int W.n, .str z, .ref rn])) (eup_tup ((ap_cons (x := .int W.t) (ev_op (x := .ref a) (ev_var rfl) ev_c (rv_ixT hPl5 rfl)) (ap_cons (x := .int (W.n + 1)) (ev_op (ev_op (x := .ref a) (ev_var rfl) ev_c (rv_ixT hPl5 rfl)) ev_c rv_I0) (ap_cons (x := .int W.l) (ev_op (x := .ref a) (ev_var rfl) ev_c (rv_ixT hPl5 rfl)) (ap_consUP (P := fun zs H' => ∃ ys, zs = rs.map V.ref ++ ys ∧ ∃ t, ys = [.ref t] ∧ H' t = some (.tup [.int W.n, .str z, .ref rn])) (eup_cat (a := aT) (ev_op (x := .ref a) (ev_var rfl) ev_c (rv_ixT hPl5 rfl)) (ex_t e5 hTs) (eup_tup ((ap_consUP (eup_tup (P := fun vs _ => vs = [.int W.n, .str z, .ref rn]) (ap_of (ea_cons (ev_op (x := .ref a) (ev_var rfl) ev_c (rv_ixT hPl5 rfl)) (ea_cons (ev_var rfl) (ea_cons (ev_var rfl) ea_nil)))) (fun _ _ _ _ h => h) (fun vs _ h => by rw [h]; show 3 ≤ 100000; decide)) (fun _ _ _ _ h => h) ap_nil).mono fun vs H' ⟨t, xs, ws, y1, y2, y3, y4⟩ => ⟨t, by rw [y1, y4], by rw [y2, y3]⟩) (fun _ _ _ e ⟨t, y1, y2⟩ => ⟨t, y1, e _ _ y2⟩) (fun vs _ ⟨t, y1, _⟩ => by rw [y1]; show 1 ≤ 100000; decide)) (fun _ _ _ e ⟨t, y1, y2⟩ => ⟨t, y1, e _ _ y2⟩) (fun vs _ ⟨t, y1, _⟩ => by rw [y1]; exact ⟨(fun h => by cases h), by rw [hrl]; show _ + 1 ≤ 100000; omega⟩)) (fun _ _ _ e ⟨ys, y1, t, y2, y3⟩ => ⟨ys, y1, t, y2, e _ _ y3⟩) ap_nil)))).mono fun vs H' ⟨_, y1, _, y2, _, y3, c, xs, _, y4, y5, ⟨ys, y6, t, y7, y8⟩, y9⟩ => ⟨c, t, by rw [y1, y2, y3, y4, y9], by rw [y5, y6, y7], y8⟩) (fun _ _ _ e ⟨c, t, y1, y2, y3⟩ => ⟨c, t, y1, e _ _ y2, e _ _ y3⟩) (fun vs _ ⟨c, t, y1, _⟩ => by rw [y1]; show 4 ≤ 100000; decide)) (fun _ _ _ e ⟨c, t, y1, y2, y3⟩ => ⟨c, t, y1, e _ _ y2, e _ _ y3⟩) ap_nil)).mono fun vs H' ⟨_, y1, a', xs, _, y2, y3, ⟨c, t, y4, y5, y6⟩, y7⟩ => ⟨a', c, t, by rw [y1, y2, y7], by rw [y3, y4], y5, y6⟩) (fun _ _ _ e ⟨a', c, t, y1, y2, y3, y4⟩ => ⟨a', c, t, y1, e _ _ y2, e _ _ y3, e _ _ y4⟩) (fun vs _ ⟨a', c, t, y1, _⟩ => by rw [y1]; show 2 ≤ 100000; decide)) fun r' xs H6 hr' e6 h6 ⟨a', c, t, hx, y2, y3, y4⟩ => q r' xs H6 ((d3.ex e5).ne hr') (x3.trans (Exd.of (e5.trans e6))) (d3.ex (e5.trans e6)) h6 ⟨p', a', W.add z ns, hx, hW'.ex (e5.trans e6), PlAt.add y2 y3 (hR.ex (e5.trans e6)) y4 (ex_t (e5.trans e6) hT3), hg.add hlt hz ⟨hn1, hn2, hn3⟩, by show W.n ≤ W.n + 1; omega⟩
end
end Kz
set_option Elab.async false
set_option linter.all false
set_option maxRecDepth 100000
set_option maxHeartbeats 4000000
set_option exponentiation.threshold 500
namespace Kz
open PySem PySem.Spec PyProof.Rows L2 Evl Vr
local macro_rules | `(tactic| walk_at "sc") => `(tactic| first | (with_reducible assumption) | (with_reducible exact sc_mul (by omega)) | (with_reducible exact sc_mulr (by omega)) | (with_reducible exact sc_div (by omega) (by decide)) | (show (0 : Int) < _; omega) | (show _ ≠ (0 : Int); omega) | (with_reducible rfl) | decide)
local macro_rules | `(tactic| walk_at "sq") => `(tactic| first | assumption | exact sq_of (by assumption) | exact st_of (by assumption))
local macro_rules | `(tactic| walk_at "pl") => `(tactic| first | assumption | exact pl_int | exact pl_bl | exact pl_str | exact pl_non | exact pl_lst (by assumption) | exact pl_tup (by assumption) | exact pl_dK (by assumption))
local macro_rules | `(tactic| walk_at "rv") => `(tactic| first
  | with_reducible exact rv_I0
  | with_reducible exact ru_neg
  | ((with_reducible apply rv_I); walk_at "sc")
  | ((with_reducible apply rv_ixL); walk_at "sq"; first | rfl | assumption)
  | ((with_reducible apply rv_ixT); walk_at "sq"; first | rfl | assumption)
  | ((with_reducible apply rv_eq); rfl) | ((with_reducible apply rv_ne); rfl))
local macro_rules | `(tactic| walk_at "rc") => `(tactic| first
  | with_reducible exact rc_I1 | with_reducible exact rc_B1 | with_reducible exact rc_I2 | ((with_reducible apply rc_repr); walk_at "sc") | ((with_reducible apply rc_lenL); walk_at "sq")
  | ((with_reducible apply rc_isiInt); walk_at "pl") | ((with_reducible apply rc_isiBool); walk_at "pl"))
local macro_rules | `(tactic| walk_at "ea") => `(tactic| first
  | with_reducible exact ea_nil | ((with_reducible apply ea_cons); walk_at "ev"; walk_at "ea"))
local macro_rules | `(tactic| walk_at "pow") => `(tactic| first
  | with_reducible exact ev_pow (a := 10) (b := 9) (c := 1000000000) (by decide +kernel) (by decide +kernel)
  | with_reducible exact ev_pow (a := 10) (b := 10) (c := 10000000000) (by decide +kernel) (by decide +kernel)
  | with_reducible exact ev_pow (a := 10) (b := 12) (c := 1000000000000) (by decide +kernel) (by decide +kernel)
  | with_reducible exact ev_pow (a := 10) (b := 17) (c := 100000000000000000) (by decide +kernel) (by decide +kernel)
  | with_reducible exact ev_pow (a := 10) (b := 20) (c := 100000000000000000000) (by decide +kernel) (by decide +kernel)
  | with_reducible exact ev_pow (a := 10) (b := 29) (c := 100000000000000000000000000000) (by decide +kernel) (by decide +kernel)
  | with_reducible exact ev_pow (a := 10) (b := 30) (c := 1000000000000000000000000000000) (by decide +kernel) (by decide +kernel)
  | with_reducible exact ev_pow (a := 10) (b := 40) (c := 10000000000000000000000000000000000000000) (by decide +kernel) (by decide +kernel)
  | with_reducible exact ev_pow (a := 10) (b := 57) (c := 1000000000000000000000000000000000000000000000000000000000) (by decide +kernel) (by decide +kernel)
  | with_reducible exact ev_pow (a := 10) (b := 58) (c := 10000000000000000000000000000000000000000000000000000000000) (by decide +kernel) (by decide +kernel)
  | with_reducible exact ev_pow (a := 10) (b := 59) (c := 100000000000000000000000000000000000000000000000000000000000) (by decide +kernel) (by decide +kernel)
  | with_reducible exact ev_pow (a := 10) (b := 60) (c := 1000000000000000000000000000000000000000000000000000000000000) (by decide +kernel) (by decide +kernel))
local macro_rules | `(tactic| walk_at "call") => `(tactic| (intro H9 e9; first | exact ⟨_, rfl, rfl⟩ | exact ⟨_, _, rfl, rfl⟩ | exact ⟨_, _, _, rfl, rfl⟩ | exact ⟨_, rfl, by walk_at "pl", rfl⟩ | (refine ⟨_, _, _, rfl, ?_, rfl⟩; first | exact Plain.ex e9 (by assumption) | walk_at "pl") | (refine ⟨_, rfl, ?_, rfl⟩; first | exact Plain.ex e9 (by assumption) | walk_at "pl")))
local macro_rules | `(tactic| walk_at "ev") => `(tactic| first
  | with_reducible exact ev_c
  | exact ev_var rfl
  | walk_at "pow"
  | ((with_reducible apply ev_op); walk_at "ev"; walk_at "ev"; walk_at "rv")
  | ((with_reducible apply ev_un); walk_at "ev"; walk_at "rv")
  | ((with_reducible apply ev_cb); walk_at "ea"; walk_at "rc")
  | ((with_reducible apply ev_callP); walk_at "ea"; walk_at "call")
  | ((with_reducible apply ev_chain); walk_at "ev"; walk_at "ev"; walk_at "rv"; walk_at "ev"; walk_at "rv")
  | ((with_reducible apply ev_andV); walk_at "ev"; intro _; walk_at "ev")
  | ((with_reducible apply ev_orV); walk_at "ev"; intro _; walk_at "ev")
  | ((with_reducible apply ev_ite); walk_at "et"; intro _; walk_at "ev"; intro _; walk_at "ev")
  | ((with_reducible apply ev_notV); walk_at "ev"))
local macro_rules | `(tactic| walk_at "et") => `(tactic| first
  | ((with_reducible apply et_test); walk_at "ev")
  | ((with_reducible apply et_B); walk_at "ev")
  | ((with_reducible apply et_and); walk_at "et"; intro _; walk_at "et")
  | ((with_reducible apply et_or); walk_at "et"; intro _; walk_at "et")
  | ((with_reducible apply et_not); walk_at "et"))
open En Wo
section
variable {σ : L2.St} {H H' : Hp} {te ta tb : TE} {tl th : TO} {ts tr : TA} {tz : TS} {D : Ends} {K : PySem.W.Frag} {C p a q : Addr} {W : Wd} {xs ys : List V}
/-- a tuple, new or not -/
def EvTU (K : PySem.W.Frag) (te : TE) (σ : L2.St) (H : Hp) (xs : List V) : Prop := ∀ H1, Ex H H1 → ∀ Q : VK, (∀ b H2, Ex H1 H2 → SqT K H2 b xs → Q (.ref b) H2) → te σ H1 Q
theorem etu_U (h : EvU te σ H xs) : EvTU K te σ H xs := fun H1 e Q q => h H1 e Q fun b H2 _ e2 h2 => q b H2 e2 (st_of h2)
theorem etu_sl {lo hi : Option Int} (h : Ev te σ H (.ref a)) (hx : SqT K H a xs) (hl : EvO tl σ H lo) (hh : EvO th σ H hi) (hc : HT.sIx xs.length 0 lo = 0 ∧ HT.sIx xs.length xs.length hi = xs.length → cutV xs lo hi = xs) : EvTU K (tSl (rSlA K) te tl th) σ H (cutV xs lo hi) := fun H1 e Q q =>
  h H1 e _ fun H2 e2 => hl H2 (e.trans e2) _ fun H3 e3 => hh H3 ((e.trans e2).trans e3) _ fun H4 e4 => ⟨a, xs, rfl, ex_t (((e.trans e2).trans e3).trans e4) hx, fun z => q a H4 ((e2.trans e3).trans e4) (by rw [hc z]; exact ex_t (((e.trans e2).trans e3).trans e4) hx), fun _ b hb => q b _ (((e2.trans e3).trans e4).trans (Ex.new hb)) (st_of upd_same)⟩
theorem etu_cat (h1 : EvTU K ta σ H xs) (h2 : EvTU K tb σ H ys) (hl : xs.length + ys.length ≤ 100000) : EvTU K (tOp (rCatA K) ta tb) σ H (xs ++ ys) := fun H1 e Q q =>
  h1 H1 e _ fun a H2 e2 ha => h2 H2 (e.trans e2) _ fun b H3 e3 hb => ⟨a, b, xs, ys, rfl, rfl, ex_t e3 ha, hb, sz_of hl, fun z => by subst z; exact q b H3 (e2.trans e3) hb, fun _ z => by subst z; rw [List.append_nil] at q; exact q a H3 (e2.trans e3) (ex_t e3 ha), fun _ _ c hc => q c _ ((e2.trans e3).trans (Ex.new hc)) (st_of upd_same)⟩
/-- a tuple, new or not, of which something is known -/
def EvTP (K : PySem.W.Frag) (te : TE) (σ : L2.St) (H : Hp) (P : List V → Hp → Prop) : Prop := ∀ H1, Ex H H1 → ∀ Q : VK, (∀ b xs H2, Ex H1 H2 → SqT K H2 b xs → P xs H2 → Q (.ref b) H2) → te σ H1 Q
theorem etp_cat {P : List V → Hp → Prop} (h1 : EvTU K ta σ H xs) (h2 : EvUP tb σ H P) (hP : Stable P) (hl : ∀ vs H1, P vs H1 → vs ≠ [] ∧ xs.length + vs.length ≤ 100000) : EvTP K (tOp (rCatA K) ta tb) σ H (fun zs H' => ∃ ys, zs = xs ++ ys ∧ P ys H') := fun H1 e Q q =>
  h1 H1 e _ fun a H2 e2 ha => h2 H2 (e.trans e2) _ fun b ys H3 _ e3 h3 hp => by
    obtain ⟨r1, r2⟩ := hl ys H3 hp
    exact ⟨a, b, xs, ys, rfl, rfl, ex_t e3 ha, st_of h3, sz_of r2, fun z => by subst z; exact q b ys H3 (e2.trans e3) (st_of h3) ⟨ys, rfl, hp⟩, fun _ z => absurd z r1, fun _ _ c hc => q c _ _ ((e2.trans e3).trans (Ex.new hc)) (st_of upd_same) ⟨ys, rfl, hP _ _ _ (Ex.new hc) hp⟩⟩
theorem ap_consTP {P P2 : List V → Hp → Prop} (h : EvTP K te σ H P) (hP : Stable P) (hr : EvAP tr σ H P2) : EvAP (tCons te tr) σ H (fun vs H' => ∃ b xs ws, vs = .ref b :: ws ∧ SqT K H' b xs ∧ P xs H' ∧ P2 ws H') := fun H1 e Q q =>
  h H1 e _ fun b xs H2 e2 h2 hp => hr H2 (e.trans e2) _ fun ws H3 e3 h3 => q (.ref b :: ws) H3 (e2.trans e3) ⟨b, xs, ws, rfl, ex_t e3 h2, hP _ _ _ e3 hp, h3⟩
theorem ap_consTU {P2 : List V → Hp → Prop} (h : EvTU K te σ H xs) (hr : EvAP tr σ H P2) : EvAP (tCons te tr) σ H (fun vs H' => ∃ b ws, vs = .ref b :: ws ∧ SqT K H' b xs ∧ P2 ws H') := fun H1 e Q q =>
  h H1 e _ fun b H2 e2 h2 => hr H2 (e.trans e2) _ fun ws H3 e3 h3 => q (.ref b :: ws) H3 (e2.trans e3) ⟨b, ws, rfl, ex_t e3 h2, h3⟩
theorem q_asgG {g : TG} {R : V → Prop} (h : Dv p te σ H R) (hd : Dice p H) (k : ∀ v H1, R v → Exd p H H1 → Dice p H1 → g v σ H1 (fun σ2 H2 => tz D σ2 H2)) : tSeq (tAsg te g) tz D σ H := h H (Exd.refl p H) hd _ k
theorem s_retSp {sp : Sp} {E : XK} {vs : List V} (h : EvA ts σ H vs) (k : ∀ H1, Ex H H1 → sp vs H1 (fun v H2 => D.rt v H2) E) : tRet (tCall sp [] E ts) D σ H := h H (Ex.refl H) _ fun H1 e1 => by
  show sp (vs ++ []) H1 _ E
  rw [List.append_nil]
  exact k H1 e1
end
theorem hc3 {a b c d : V} : (HT.sIx [a, b, c, d].length 0 none = 0 ∧ HT.sIx [a, b, c, d].length [a, b, c, d].length (some 3) = [a, b, c, d].length) → cutV [a, b, c, d] none (some 3) = [a, b, c, d] := fun z => absurd z.2 (by show ¬ (3 = 4); decide)
theorem etu_sl3 {σ : L2.St} {H : Hp} {te : TE} {K : PySem.W.Frag} {q : Addr} {a b c d : V} (h : Ev te σ H (.ref q)) (hx : SqT K H q [a, b, c, d]) : EvTU K (tSl (rSlA K) te tNoPart (tPart (tC (.int 3)))) σ H [a, b, c] := etu_sl (lo := none) (hi := some 3) h hx eo_none (eo_some ev_c) hc3
theorem cut_take {xs : List V} {j : Nat} (h : j ≤ xs.length) : cutV xs none (some (j : Int)) = xs.take j := by
  show (xs.drop 0).take (HT.sIx xs.length xs.length (some (j : Int)) - 0) = xs.take j
  rw [HT.sIx_nat, Nat.min_eq_left h]
  rfl
theorem cut_drop {xs : List V} {j : Nat} (h : j < xs.length) : cutV xs (some ((j : Int) + 1)) none = xs.drop (j + 1) := by
  show (xs.drop (HT.sIx xs.length 0 (some ((j + 1 : Nat) : Int)))).take (xs.length - HT.sIx xs.length 0 (some ((j + 1 : Nat) : Int))) = xs.drop (j + 1)
  rw [HT.sIx_nat, Nat.min_eq_left (by omega)]
  exact List.take_of_length_le (by rw [List.length_drop]; exact Nat.le_refl _)
theorem set_cut {ns : List Int} {j : Nat} {n : Int} (h : j < ns.length) : cutV (ns.map V.int) none (some (j : Int)) ++ [.int n] ++ cutV (ns.map V.int) (some ((j : Int) + 1)) none = (ns.set j n).map V.int := by
  rw [cut_take (by rw [List.length_map]; omega), cut_drop (by rw [List.length_map]; exact h), List.set_eq_take_append_cons_drop, if_pos h, List.map_append, List.map_cons, List.map_take, List.map_drop, List.append_assoc]
  rfl
theorem given_all (n : Nat) (g : Nat → Addr) : given n (fun _ => true) (fun i => V.ref (g i)) = ((List.range n).map g).map V.ref := by
  unfold given
  rw [List.filter_eq_self.mpr (fun _ _ => rfl), List.map_map]
  rfl
theorem uniq : ∀ {ts : List Tg}, (Tg.ids ts).Nodup → ∀ {a b : Tg}, a ∈ ts → b ∈ ts → a.id = b.id → a = b
  | [], _, _, _, h, _, _ => by cases h
  | t :: ts, hn, a, b, ha, hb, e => by
    have h1 : t.id ∉ Tg.ids ts ∧ (Tg.ids ts).Nodup := List.nodup_cons.mp hn
    rcases List.mem_cons.mp ha with ea | ha' <;> rcases List.mem_cons.mp hb with eb | hb'
    · rw [ea, eb]
    · exact absurd (by rw [← ea, e]; exact List.mem_map_of_mem hb') h1.1
    · exact absurd (by rw [← eb, ← e]; exact List.mem_map_of_mem ha') h1.1
    · exact uniq h1.2 ha' hb' e
theorem Wd.gd.drop {b : Int} {W : Wd} (h : W.gd b) (i : Int) : (W.drop i).gd (b + 1) :=
  ⟨h.t, h.n0, by have := h.nb; show W.n ≤ b + 1; omega, h.l0, h.lb, Nat.le_trans (List.length_filter_le ..) h.len, fun t ht => h.tg t ((List.mem_filter.mp ht).1), asc_drop h.asc _⟩
theorem Wd.gd.chg {b : Int} {W : Wd} (h : W.gd b) (i : Int) {ns : List Int} (hn : 1 ≤ ns.length ∧ ns.length ≤ 8 ∧ ∀ n ∈ ns, num n) : (W.chg i ns).gd (b + 1) :=
  ⟨h.t, h.n0, by have := h.nb; show W.n ≤ b + 1; omega, h.l0, h.lb, by show (W.ts.map _).length ≤ 12; rw [List.length_map]; exact h.len, fun t ht => by
    obtain ⟨t0, h0, rfl⟩ := List.mem_map.mp ht
    obtain ⟨g1, g2, g3⟩ := h.tg t0 h0
    unfold Tg.chg
    split
    · exact ⟨g1, g2, hn⟩
    · exact ⟨g1, g2, g3⟩, asc_chg h.asc i ns⟩
def kPickT (K : PySem.W.Frag) (vs : List V) (H : Hp) (p : Addr) (R : V → Prop) : Prop := ∃ (a : Addr) (xs : List V), vs = [.ref p, .ref a] ∧ SqT K H a xs ∧ 0 < xs.length ∧ xs.length < 1000000 ∧ R = fun v => v ∈ xs
section
variable {P : Program} {w : World} {K : PySem.W.Frag} {mg : Str → Option Value} {base : Heap}
theorem ok_pickT (T : Txt K mg w) : FnOk P w K mg base CX0 2 T.a_law_pick T.fd_law_pick ["dice", "items"] (Draws (kPickT K)) := by
  have G_law_roll := ok_roll (P := P) (w := w) (base := base) T
  refine T.F_law_pick.ok sc_law_pick (fun vs H Q E h => ?_) (fun cdv A outer s H vs Q E hr h => ?_)
  · obtain ⟨p, _, ⟨_, _, rfl, _⟩, _⟩ := h; rfl
  · obtain ⟨p, _, ⟨a, xs, rfl, hS, hl, hl2, rfl⟩, hd, q⟩ := h
    refine ⟨_, (pss_one (ps_ret (pe_ix ix_tup (pv 1) (pe_call G_law_roll (hr.mono (by decide)) (by rfl) T.g_law_roll T.F_law_roll.kp T.b_law_roll .nil pass0 (pa_cons (pv 0) (pa_cons (pe_callB c_len (by rfl) T.z_len PySem.boot_len (pa_cons (pv 1) pa_nil)) pa_nil))) (fun _ _ => rfl)))), ?_⟩
    refine ⟨.ref a, rfl, ?_⟩
    have hA : EvA (tCons (tVar 0) (tCons (tCB (rLenS K) (tCons (tVar 1) tNil)) tNil)) [some (.ref p), some (.ref a)] H [.ref p, .int xs.length] := ea_cons (ev_var rfl) (ea_cons (ev_cb (vs := [.ref a]) (ea_cons (ev_var rfl) ea_nil) (rc_lenT hS)) ea_nil)
    refine goA (vs := [.ref p, .int xs.length]) hA fun H1 e1 => ?_
    refine ⟨p, _, ⟨(xs.length : Int), rfl, by omega, by rw [Int.natAbs_natCast]; exact Nat.lt_trans hl2 (by decide), rfl⟩, hd.ex e1, ?_⟩
    rintro v H2 ⟨r, rfl, hr0, hr1⟩ e2 d2
    obtain ⟨n, rfl⟩ := Int.eq_ofNat_of_zero_le hr0
    have hn : n < xs.length := by omega
    obtain ⟨x, y, z, hpd⟩ := hd.ex e1
    refine ⟨a, xs, n, xs[n], rfl, rfl, e2.tlst hpd (ex_t e1 hS), atI_nat (List.getElem?_eq_getElem hn), ?_⟩
    exact q _ H2 (List.getElem_mem hn) ((Exd.of e1).trans e2) d2
theorem ok_law_done (T : Txt K mg w) (b : Int) : FnOk P w K mg base CX0 12 T.a_law_done T.fd_law_done ["dice", "world", "plain"] (spDeed K T.C_World b) := by
  have G_law_roll := ok_roll (P := P) (w := w) (base := base) T
  have G_law_pick := ok_pickT (P := P) (w := w) (base := base) T
  have G_law_number := ok_number (P := P) (w := w) (base := base) T
  have G_law_made := ok_law_made (P := P) (w := w) (base := base) T b
  have G_dropped := ok_dropped (P := P) (w := w) (base := base) T
  have G_changed := ok_changed (P := P) (w := w) (base := base) T
  refine T.F_law_done.ok sc_law_done (fun vs H Q E h => ?_) (fun cdv A outer s H vs Q E hr h => ?_)
  · obtain ⟨_, _, _, _, rfl, _⟩ := h; rfl
  · obtain ⟨p, wo, a, W, rfl, hd, hW, hP, hg, hb, q⟩ := h
    refine ⟨_, (pss_cons (ps_set (i := 3) sc_law_done.nd rfl (.inl rfl) (pe_call G_law_roll (hr.mono (by decide)) (by rfl) T.g_law_roll T.F_law_roll.kp T.b_law_roll .nil pass0 (pa_cons (pv 0) (pa_cons pe_int pa_nil))))
  (pss_cons (ps_if (PW.pt (pw_or (pt_cmpR op_lt (pv 3) pe_int (nomark _)) (pw_or1 (pt_cmpR (op_eqD hr.units) (pe_ix ix_tup (pv 2) pe_int (fun _ _ => rfl)) (pe_tup pa_nil) (nomark _))))) (pss_one (ps_ret (pe_call G_law_made (hr.mono (by decide)) (by rfl) T.g_law_made T.F_law_made.kp T.b_law_made .nil pass0 (pa_cons (pv 0) (pa_cons (pv 1) (pa_cons (pv 2) pa_nil)))))) pss_nil)
  (pss_cons (ps_asg (pe_call G_law_pick (hr.mono (by decide)) (by rfl) T.g_law_pick T.F_law_pick.kp T.b_law_pick .nil pass0 (pa_cons (pv 0) (pa_cons (pe_ix ix_tup (pv 2) pe_int (fun _ _ => rfl)) pa_nil))) (pg_tup rfl (pgs_cons (pg_name (i := 4) sc_law_done.nd rfl (.inr rfl)) (pgs_cons (pg_name (i := 5) sc_law_done.nd rfl (.inl rfl)) (pgs_cons (pg_name (i := 6) sc_law_done.nd rfl (.inl rfl)) pgs_nil)))))
  (pss_cons (ps_if (pt_cmpR op_eq (pv 3) pe_int (nomark _)) (pss_one (ps_ret (pe_tup (pa_cons (pe_call G_dropped (hr.mono (by decide)) (by rfl) T.g_dropped T.F_dropped.kp T.b_dropped .nil pass0 (pa_cons (pv 1) (pa_cons (pv 4) pa_nil))) (pa_cons (pe_op op_catA (pe_slice sl_tupA (pv 2) po_none (po_some pe_int)) (pe_tup (pa_cons (pe_callTy c_tupL (by rfl) T.z_tuple (by decide +kernel) (pa_cons (pe_lc (own := [("one", 10)]) (g := gName 10) (by rfl) sc_law_done.nd (pi_tup (pe_ix ix_tup (pv 2) pe_int (fun _ _ => rfl))) (blkOk_by (own := [("one", 10)]) (N := ["dice", "world", "plain", "way", "thing", "kind", "numbers", "place", "number", "later", "one"]) (sc := defScope s_law_done) (by decide +kernel)) (fun _ _ _ _ _ => pg_name (i := 10) sc_law_done.nd rfl (Or.inl rfl)) (fun _ _ _ _ _ => (pts_one (pt_cmpR op_ne (pe_ix (ix_tupK (K := K) rfl) (pv 10) pe_int (fun _ _ => rfl)) (pv 4) (nomark _)))) (fun _ _ _ _ _ => (pv 10))) pa_nil)) pa_nil))) pa_nil))))) pss_nil)
  (pss_cons (ps_par (i := 7) (j := 8) (by rfl) sc_law_done.nd rfl rfl (by decide) rfl rfl (pa_cons (pe_call G_law_roll (hr.mono (by decide)) (by rfl) T.g_law_roll T.F_law_roll.kp T.b_law_roll .nil pass0 (pa_cons (pv 0) (pa_cons (pe_callB c_len (by rfl) T.z_len PySem.boot_len (pa_cons (pv 6) pa_nil)) pa_nil))) (pa_cons (pe_call G_law_number (hr.mono (by decide)) (by rfl) T.g_law_number T.F_law_number.kp T.b_law_number .nil pass0 (pa_cons (pv 0) pa_nil)) pa_nil)) (by rfl))
  (pss_cons (ps_set (i := 9) sc_law_done.nd rfl (.inr rfl) (pe_tup (pa_cons (pv 4) (pa_cons (pv 5) (pa_cons (pe_op op_catA (pe_op op_catA (pe_slice sl_tupA (pv 6) po_none (po_some (pv 7))) (pe_tup (pa_cons (pv 8) pa_nil))) (pe_slice sl_tupA (pv 6) (po_some (pe_op op_add (pv 7) pe_int)) po_none)) pa_nil)))))
  (pss_one (ps_ret (pe_tup (pa_cons (pe_call G_changed (hr.mono (by decide)) (by rfl) T.g_changed T.F_changed.kp T.b_changed .nil pass0 (pa_cons (pv 1) (pa_cons (pv 4) (pa_cons (pv 7) (pa_cons (pv 8) pa_nil))))) (pa_cons (pe_op op_catA (pe_slice sl_tupA (pv 2) po_none (po_some pe_int)) (pe_tup (pa_cons (pe_callTy c_tupL (by rfl) T.z_tuple (by decide +kernel) (pa_cons (pe_lc (own := [("one", 10)]) (g := gName 10) (by rfl) sc_law_done.nd (pi_tup (pe_ix ix_tup (pv 2) pe_int (fun _ _ => rfl))) (blkOk_by (own := [("one", 10)]) (N := ["dice", "world", "plain", "way", "thing", "kind", "numbers", "place", "number", "later", "one"]) (sc := defScope s_law_done) (by decide +kernel)) (fun _ _ _ _ _ => pg_name (i := 10) sc_law_done.nd rfl (Or.inl rfl)) (fun _ _ _ _ _ => pts_nil) (fun _ _ _ _ _ => (pe_ifExp (pt_cmpR op_eq (pe_ix (ix_tupK (K := K) rfl) (pv 10) pe_int (fun _ _ => rfl)) (pv 4) (nomark _)) (pv 9) (pv 10)))) pa_nil)) pa_nil))) pa_nil))))))))))), ?_⟩
    obtain ⟨dp1, dp2, dp3, hpd⟩ := id hd
    refine q_asgDv (p := p) (R := fun v => ∃ r : Int, v = .int r ∧ 0 ≤ r ∧ r < 5) (dv_roll (m := 5) rfl (fun H1 => ev_c) (by decide) (by decide)) hd fun v H1 ⟨way, hv, hw0, hw1⟩ e1 d1 => ?_
    subst hv
    have hW1 := hW.exd e1 hpd
    have hP1 := hP.exd e1 hpd
    obtain ⟨aT, hPl, rs, hTs, hR⟩ := id hP1
    have hmade : ∀ H2, Ex H1 H2 → spDeed K T.C_World b [.ref p, .ref wo, .ref a] H2 Q E0 := fun H2 e2 => ⟨p, wo, a, W, rfl, d1.ex e2, hW1.ex e2, hP1.ex e2, hg, hb, fun r xs H3 hr e3 d3 h3 hB => q r xs H3 hr ((e1.trans (Exd.of e2)).trans e3) d3 h3 hB⟩
    refine q_when (b := decide (way < 2) || decide (W.ts = [])) (et_or (a := decide (way < 2)) (b := decide (W.ts = [])) (et_test (ev_op (x := .int way) (y := .int 2) (ev_var rfl) ev_c rv_I0)) fun _ => et_is (et_test (ev_eqD (K := K) (evd_of (v := .ref aT) (ev_op (x := .ref a) (y := .int 3) (ev_var rfl) ev_c (rv_ixT hPl rfl)) fun H2 e2 => (TsAt.ex e2 ⟨rs, hTs, hR⟩).dp) (evd_tup evda_nil (by decide)) (shaped_ts hg.kds) (by decide +kernel))) (by rw [show (PyData.tuple []) = tsDat [] from rfl, eqv_ts])) (fun _ H2 e2 => s_retSp (vs := [.ref p, .ref wo, .ref a]) (by walk_at "ea") fun H3 e3 => hmade H3 (e2.trans e3)) fun hx H2 e2 => ?_
    have hne : W.ts ≠ [] := fun z => by rw [z] at hx; simp at hx
    have hpos : 0 < W.ts.length := List.length_pos_iff.mpr hne
    have d2 := d1.ex e2
    have hTs2 := ex_t e2 hTs
    have hrl : (rs.map V.ref).length = W.ts.length := by rw [List.length_map, hR.1]
    obtain ⟨dq1, dq2, dq3, hpd2⟩ := id d2
    refine q_asgG (p := p) (R := fun v => v ∈ rs.map V.ref) (dv_call (ok := kPickT K) (vs := [.ref p, .ref aT]) (fun H3 e3 d3 => ea_cons (ev_var rfl) (ea_cons (ev_op (x := .ref a) (y := .int 3) (ev_var rfl) ev_c (rv_ixT (e3.tlst hpd2 (ex_t e2 hPl)) rfl)) ea_nil)) fun H3 e3 d3 => ⟨aT, rs.map V.ref, rfl, e3.tlst hpd2 hTs2, by omega, by have := hg.len; omega, rfl⟩) d2 fun v H3 hv e3 d3 => ?_
    have x3 : Exd p H H3 := (e1.trans (Exd.of e2)).trans e3
    have hW3 := (hW1.ex e2).exd e3 hpd2
    have hP3 := (hP1.ex e2).exd e3 hpd2
    have hPl3 : SqT K H3 a [.int W.t, .int W.n, .int W.l, .ref aT] := e3.tlst hpd2 (ex_t e2 hPl)
    have hTs3 := e3.tlst hpd2 hTs2
    have hR3 := (hR.ex e2).tl e3 hpd2
    obtain ⟨j, hj⟩ := List.getElem?_of_mem hv
    obtain ⟨r, t, rfl, h1, h2, rn, h3, h4⟩ := hR3.at hj
    have hm : t ∈ W.ts := List.mem_of_getElem? h2
    have hid : t.id ∈ Tg.ids W.ts := List.mem_map_of_mem hm
    refine ⟨r, [.int t.id, .str t.kd, .ref rn], rfl, h3, rfl, .int t.id, _, rfl, .str t.kd, _, rfl, .ref rn, [], rfl, rfl, ?_⟩
    obtain ⟨dr1, dr2, dr3, hpd3⟩ := id d3
    refine q_when (b := decide (V.int way = V.int 2)) (et_test (ev_op (ev_var rfl) ev_c (rv_eq rfl))) (fun _ H4 e4 => ?_) (fun _ H4 e4 => ?_)
    · obtain ⟨rs', hgv, hR'⟩ := pick_things (hR3.ex e4) (fun t' => !decide (t'.id = t.id))
      have hTs4 := ex_t e4 hTs3
      have hPl4 := ex_t e4 hPl3
      have hR4 := hR3.ex e4
      refine s_retUP (P := fun vs H' => ∃ p' b' tt, vs = [.ref p', .ref b'] ∧ WdAt K T.C_World H' p' (W.drop t.id) ∧ SqT K H' b' [.int W.t, .int W.n, .int W.l, .ref tt] ∧ H' tt = some (.tup (rs'.map V.ref))) (eup_tup ((ap_consW (W := W.drop t.id) (ew_call (ok := kDropped K T.C_World) (P := fun vs _ => vs = [.ref wo, .int t.id]) (ap_of (ea_cons (ev_var rfl) (ea_cons (ev_var rfl) ea_nil))) fun vs H5 e5 hv => ⟨wo, W, t.id, hv, hW3.ex (e4.trans e5), hg.len, hg.asc, hid, rfl⟩) (ap_consTP (P := fun zs H' => ∃ ys, zs = [.int W.t, .int W.n, .int W.l] ++ ys ∧ ∃ tt, ys = [.ref tt] ∧ H' tt = some (.tup (rs'.map V.ref))) (etp_cat (P := fun vs H' => ∃ tt, vs = [.ref tt] ∧ H' tt = some (.tup (rs'.map V.ref))) (etu_sl3 (ev_var rfl) hPl4) (eup_tup (P := fun vs H' => ∃ tt, vs = [.ref tt] ∧ H' tt = some (.tup (rs'.map V.ref))) ((ap_consU (xs := rs'.map V.ref) (eu_tupL ?lc) ap_nil).mono fun vs H' ⟨tt, ws, y1, y2, y3⟩ => ⟨tt, by rw [y1, y3], y2⟩) (fun _ _ _ e ⟨tt, y1, y2⟩ => ⟨tt, y1, e _ _ y2⟩) (fun vs _ ⟨tt, y1, _⟩ => by rw [y1]; show 1 ≤ 100000; decide)) (fun _ _ _ e ⟨tt, y1, y2⟩ => ⟨tt, y1, e _ _ y2⟩) (fun vs _ ⟨tt, y1, _⟩ => by rw [y1]; exact ⟨(fun h => by cases h), by show (3 : Nat) + 1 ≤ 100000; decide⟩)) (fun _ _ _ e ⟨ys, y1, tt, y2, y3⟩ => ⟨ys, y1, tt, y2, e _ _ y3⟩) ap_nil)).mono fun vs H' ⟨p', ws, y1, y2, b', xs, ws2, y3, y4, ⟨ys, y5, tt, y6, y7⟩, y8⟩ => ⟨p', b', tt, by rw [y1, y3, y8], y2, by rw [y5, y6] at y4; exact y4, y7⟩) (fun _ _ _ e ⟨p', b', tt, y1, y2, y3, y4⟩ => ⟨p', b', tt, y1, y2.ex e, ex_t e y3, e _ _ y4⟩) (fun vs _ ⟨p', b', tt, y1, _⟩ => by rw [y1]; show 2 ≤ 100000; decide)) fun r' xs H6 hr' e6 h6 ⟨p', b', tt, hx, y2, y3, y4⟩ => q r' xs H6 ((d3.ex e4).ne hr') (x3.trans (Exd.of (e4.trans e6))) (d3.ex (e4.trans e6)) h6 ⟨p', b', W.drop t.id, hx, y2, ⟨tt, y3, rs', st_of y4, hR'.ex e6⟩, hg.drop t.id, Int.le_refl _⟩
      case lc =>
        rw [← hgv]
        have hln : rs.length = (rs.map V.ref).length := (List.length_map ..).symm
        rw [hln]
        refine el_lcT _ _ (ev_op (x := .ref a) (y := .int 3) (ev_var rfl) ev_c (rv_ixT hPl4 rfl)) hTs4 (by rw [hrl]; have := hg.len; omega) (fun _ => rfl) (fun j x H5 e5 hx => ?_) fun j x H5 e5 hx _ => ?_
        · obtain ⟨r5, t5, rfl, h51, h52, hA5⟩ := hR4.at hx
          have hd5 : W.ts.getD j ⟨0, "", []⟩ = t5 := by rw [List.getD_eq_getElem?_getD, h52]; rfl
          rw [hd5]
          refine et_is (et_test (ev_op (ev_tg0 (ev_var rfl) (hA5.ex e5)) (ev_var rfl) (rv_ne rfl))) ?_
          congr 1
          exact decide_eq_decide.mpr ⟨V.int.inj, fun h => by rw [h]⟩
        · obtain ⟨r5, t5, rfl, h51, h52, hA5⟩ := hR4.at hx
          have hd5 : rs.getD j 0 = r5 := by rw [List.getD_eq_getElem?_getD, h51]; rfl
          rw [hd5]
          exact ev_var rfl
    · have d4 := d3.ex e4
      have hpd4 := e4 _ _ hpd3
      have h8 := (hg.tg t hm).2.2
      have hn4 : SqT K H4 rn (t.ns.map V.int) := ex_t e4 h4
      refine q_parDv (p := p) (R1 := fun v => ∃ r : Nat, v = .int r ∧ r < t.ns.length) (R2' := NumV) ((dv_call (ok := kRoll) (vs := [.ref p, .int t.ns.length]) (fun H5 x5 _ => ea_cons (ev_var rfl) (ea_cons (ev_cb (vs := [.ref rn]) (ea_cons (ev_var rfl) ea_nil) (rc_lenTn (x5.tlst hpd4 hn4) (List.length_map ..))) ea_nil)) fun H5 _ _ => ⟨(t.ns.length : Int), rfl, by omega, by rw [Int.natAbs_natCast]; exact Nat.lt_of_le_of_lt h8.2.1 (by decide), rfl⟩).mono fun v ⟨r, hv, r0, r1⟩ => ⟨r.toNat, by rw [Int.toNat_of_nonneg r0]; exact hv, by omega⟩) (dv_call (vs := [.ref p]) (fun H5 _ _ => ea_cons (ev_var rfl) ea_nil) fun H5 _ _ => ⟨rfl, rfl⟩) d4 fun v1 v2 H5 ⟨j, hv1, hjl⟩ ⟨n, hv2, hnn⟩ e5 d5 => ?_
      subst hv1 hv2
      have x5 : Exd p H H5 := (x3.trans (Exd.of e4)).trans e5
      have hW5 := (hW3.ex e4).exd e5 hpd4
      have hPl5 : SqT K H5 a [.int W.t, .int W.n, .int W.l, .ref aT] := e5.tlst hpd4 (ex_t e4 hPl3)
      have hTs5 := e5.tlst hpd4 (ex_t e4 hTs3)
      have hR5 := (hR3.ex e4).tl e5 hpd4
      have hn5 : SqT K H5 rn (t.ns.map V.int) := e5.tlst hpd4 hn4
      have hjm : j < (t.ns.map V.int).length := by rw [List.length_map]; exact hjl
      refine q_asgTP (P := fun vs H' => ∃ c, vs = [.int t.id, .str t.kd, .ref c] ∧ SqT K H' c ((t.ns.set j n).map V.int)) ((ap_cons (x := .int t.id) (ev_var rfl) (ap_cons (x := .str t.kd) (ev_var rfl) (ap_consTU (K := K) (xs := cutV (t.ns.map V.int) none (some (j : Int)) ++ [.int n] ++ cutV (t.ns.map V.int) (some ((j : Int) + 1)) none) (etu_cat (etu_cat (etu_sl (lo := none) (hi := some (j : Int)) (ev_var rfl) hn5 eo_none (eo_some (ev_var rfl)) fun z => absurd z.2 (by rw [HT.sIx_nat]; omega)) (etu_U (eu_tup (ea_cons (ev_var rfl) ea_nil) (by show 1 ≤ 100000; decide))) (by have := cutV_length (t.ns.map V.int) none (some (j : Int)); rw [List.length_map] at this; show _ + 1 ≤ _; omega)) (etu_sl (lo := some ((j : Int) + 1)) (hi := none) (ev_var rfl) hn5 (eo_some (ev_op (ev_var rfl) ev_c rv_I0)) eo_none fun z => absurd z.1 (by rw [show ((j : Int) + 1) = ((j + 1 : Nat) : Int) from rfl, HT.sIx_nat]; omega)) (by have h1 := cutV_length (t.ns.map V.int) none (some (j : Int)); have h2 := cutV_length (t.ns.map V.int) (some ((j : Int) + 1)) none; rw [List.length_map] at h1 h2; rw [List.length_append]; show _ + 1 + _ ≤ _; omega)) ap_nil))).mono fun vs H' ⟨_, y1, _, y2, c, _, y3, y4, y5⟩ => ⟨c, by rw [y1, y2, y3, y5], by rw [← set_cut hjl]; exact y4⟩) (fun vs H' ⟨c, y1, _⟩ => by rw [y1]; show 3 ≤ 100000; decide) fun r9 vs H6 e6 ⟨c, hv, hc⟩ hr9 => ?_
      subst hv
      have e7 : Ex H5 (upd H6 r9 (.tup [.int t.id, .str t.kd, .ref c])) := e6.trans (Ex.new hr9)
      have h9 : TgAt K (upd H6 r9 (.tup [.int t.id, .str t.kd, .ref c])) r9 ⟨t.id, t.kd, t.ns.set j n⟩ := ⟨c, st_of upd_same, ex_t (Ex.new hr9) hc⟩
      generalize upd H6 r9 (.tup [.int t.id, .str t.kd, .ref c]) = H7 at e7 h9
      have hPl7 := ex_t e7 hPl5
      have hTs7 := ex_t e7 hTs5
      have hR7 := hR5.ex e7
      have d7 := d5.ex e7
      have hns : 1 ≤ (t.ns.set j n).length ∧ (t.ns.set j n).length ≤ 8 ∧ ∀ m ∈ t.ns.set j n, num m := by
        rw [List.length_set]
        refine ⟨h8.1, h8.2.1, fun m hm => ?_⟩
        rcases List.mem_or_eq_of_mem_set hm with z | z
        · exact h8.2.2 m z
        · rw [z]; exact hnn
      have hRc : RsAt K H7 ((List.range rs.length).map fun i => if (W.ts.getD i ⟨0, "", []⟩).id = t.id then r9 else rs.getD i 0) (W.chg t.id (t.ns.set j n)).ts := by
        refine ⟨by rw [List.length_map, List.length_range]; show _ = (W.ts.map _).length; rw [List.length_map]; exact hR7.1, fun i r' t' y1 y2 => ?_⟩
        have y2 : (W.ts.map (Tg.chg t.id (t.ns.set j n)))[i]? = some t' := y2
        rw [List.getElem?_map] at y2
        cases hti : W.ts[i]? with
        | none => rw [hti] at y2; cases y2
        | some ti =>
          rw [hti] at y2
          have hil : i < W.ts.length := (List.getElem?_eq_some_iff.mp hti).1
          have hil2 : i < rs.length := by rw [hR7.1]; exact hil
          rw [List.getElem?_map, List.getElem?_range hil2] at y1
          have y1 := Option.some.inj y1
          have y2 := Option.some.inj y2
          have hgd : W.ts.getD i ⟨0, "", []⟩ = ti := by rw [List.getD_eq_getElem?_getD, hti]; rfl
          rw [← y1, ← y2]
          show TgAt K H7 (if (W.ts.getD i ⟨0, "", []⟩).id = t.id then r9 else rs.getD i 0) (Tg.chg t.id (t.ns.set j n) ti)
          rw [hgd]
          unfold Tg.chg
          by_cases hi2 : ti.id = t.id
          · have := uniq hg.asc.nodup (List.mem_of_getElem? hti) hm hi2
            rw [if_pos hi2, if_pos hi2, this]
            exact h9
          · rw [if_neg hi2, if_neg hi2, List.getD_eq_getElem?_getD, List.getElem?_eq_getElem hil2]
            exact hR7.2 i _ _ (List.getElem?_eq_getElem hil2) hti
      refine s_retUP (P := fun vs H' => ∃ p' b' tt, vs = [.ref p', .ref b'] ∧ WdAt K T.C_World H' p' (W.chg t.id (t.ns.set j n)) ∧ SqT K H' b' [.int W.t, .int W.n, .int W.l, .ref tt] ∧ H' tt = some (.tup (((List.range rs.length).map fun i => if (W.ts.getD i ⟨0, "", []⟩).id = t.id then r9 else rs.getD i 0).map V.ref))) (eup_tup ((ap_consW (W := W.chg t.id (t.ns.set j n)) (ew_call (ok := kChanged K T.C_World) (P := fun vs _ => vs = [.ref wo, .int t.id, .int j, .int n]) (ap_of (ea_cons (ev_var rfl) (ea_cons (ev_var rfl) (ea_cons (ev_var rfl) (ea_cons (ev_var rfl) ea_nil))))) fun vs H8 e8 hv => ⟨wo, W, t, j, n, hv, hW5.ex (e7.trans e8), hg.len, hg.asc, hm, h8.2.1, hjl, hnn, rfl⟩) (ap_consTP (P := fun zs H' => ∃ ys, zs = [.int W.t, .int W.n, .int W.l] ++ ys ∧ ∃ tt, ys = [.ref tt] ∧ H' tt = some (.tup (((List.range rs.length).map fun i => if (W.ts.getD i ⟨0, "", []⟩).id = t.id then r9 else rs.getD i 0).map V.ref))) (etp_cat (P := fun vs H' => ∃ tt, vs = [.ref tt] ∧ H' tt = some (.tup (((List.range rs.length).map fun i => if (W.ts.getD i ⟨0, "", []⟩).id = t.id then r9 else rs.getD i 0).map V.ref))) (etu_sl3 (ev_var rfl) hPl7) (eup_tup (P := fun vs H' => ∃ tt, vs = [.ref tt] ∧ H' tt = some (.tup (((List.range rs.length).map fun i => if (W.ts.getD i ⟨0, "", []⟩).id = t.id then r9 else rs.getD i 0).map V.ref))) ((ap_consU (xs := ((List.range rs.length).map fun i => if (W.ts.getD i ⟨0, "", []⟩).id = t.id then r9 else rs.getD i 0).map V.ref) (eu_tupL ?lc) ap_nil).mono fun vs H' ⟨tt, ws, y1, y2, y3⟩ => ⟨tt, by rw [y1, y3], y2⟩) (fun _ _ _ e ⟨tt, y1, y2⟩ => ⟨tt, y1, e _ _ y2⟩) (fun vs _ ⟨tt, y1, _⟩ => by rw [y1]; show 1 ≤ 100000; decide)) (fun _ _ _ e ⟨tt, y1, y2⟩ => ⟨tt, y1, e _ _ y2⟩) (fun vs _ ⟨tt, y1, _⟩ => by rw [y1]; exact ⟨(fun h => by cases h), by show (3 : Nat) + 1 ≤ 100000; decide⟩)) (fun _ _ _ e ⟨ys, y1, tt, y2, y3⟩ => ⟨ys, y1, tt, y2, e _ _ y3⟩) ap_nil)).mono fun vs H' ⟨p', ws, y1, y2, b', xs, ws2, y3, y4, ⟨ys, y5, tt, y6, y7⟩, y8⟩ => ⟨p', b', tt, by rw [y1, y3, y8], y2, by rw [y5, y6] at y4; exact y4, y7⟩) (fun _ _ _ e ⟨p', b', tt, y1, y2, y3, y4⟩ => ⟨p', b', tt, y1, y2.ex e, ex_t e y3, e _ _ y4⟩) (fun vs _ ⟨p', b', tt, y1, _⟩ => by rw [y1]; show 2 ≤ 100000; decide)) fun r' xs H8 hr' e8 h8' ⟨p', b', tt, hx, y2, y3, y4⟩ => q r' xs H8 (d7.ne hr') (x5.trans (Exd.of (e7.trans e8))) (d7.ex e8) h8' ⟨p', b', W.chg t.id (t.ns.set j n), hx, y2, ⟨tt, y3, _, st_of y4, hRc.ex e8⟩, hg.chg t.id hns, Int.le_refl _⟩
      case lc =>
        rw [← given_all]
        have hln : rs.length = (rs.map V.ref).length := (List.length_map ..).symm
        rw [hln]
        refine el_lcT (fun _ => true) _ (ev_op (x := .ref a) (y := .int 3) (ev_var rfl) ev_c (rv_ixT hPl7 rfl)) hTs7 (by rw [hrl]; have := hg.len; omega) (fun _ => rfl) (fun j x H8 e8 hx => et_yes) fun j' x H8 e8 hx _ => ?_
        obtain ⟨r5, t5, rfl, h51, h52, hA5⟩ := hR7.at hx
        have hd5 : rs.getD j' 0 = r5 := by rw [List.getD_eq_getElem?_getD, h51]; rfl
        have hd6 : W.ts.getD j' ⟨0, "", []⟩ = t5 := by rw [List.getD_eq_getElem?_getD, h52]; rfl
        rw [hd5, hd6]
        refine ev_if (b := decide (V.int t5.id = V.int t.id)) (et_test (ev_op (ev_tg0 (ev_var rfl) (hA5.ex e8)) (ev_var rfl) (rv_eq rfl))) (fun hb => ?_) (fun hb => ?_)
        · rw [if_pos (V.int.inj (of_decide_eq_true hb))]
          exact ev_var rfl
        · rw [if_neg (fun z => of_decide_eq_false hb (by rw [z]))]
          exact ev_var rfl
end
end Kz
set_option Elab.async false
set_option linter.all false
set_option maxRecDepth 100000
set_option maxHeartbeats 4000000
set_option exponentiation.threshold 500
namespace Kz
open PySem PySem.Spec PyProof.Rows L2 Evl Vr
local macro_rules | `(tactic| walk_at "sc") => `(tactic| first | (with_reducible assumption) | (with_reducible exact sc_mul (by omega)) | (with_reducible exact sc_mulr (by omega)) | (with_reducible exact sc_div (by omega) (by decide)) | (show (0 : Int) < _; omega) | (show _ ≠ (0 : Int); omega) | (with_reducible rfl) | decide)
local macro_rules | `(tactic| walk_at "sq") => `(tactic| first | assumption | exact sq_of (by assumption) | exact st_of (by assumption))
local macro_rules | `(tactic| walk_at "pl") => `(tactic| first | assumption | exact pl_int | exact pl_bl | exact pl_str | exact pl_non | exact pl_lst (by assumption) | exact pl_tup (by assumption) | exact pl_dK (by assumption))
local macro_rules | `(tactic| walk_at "rv") => `(tactic| first
  | with_reducible exact rv_I0
  | with_reducible exact ru_neg
  | ((with_reducible apply rv_I); walk_at "sc")
  | ((with_reducible apply rv_ixL); walk_at "sq"; first | rfl | assumption)
  | ((with_reducible apply rv_ixT); walk_at "sq"; first | rfl | assumption)
  | ((with_reducible apply rv_eq); rfl) | ((with_reducible apply rv_ne); rfl))
local macro_rules | `(tactic| walk_at "rc") => `(tactic| first
  | with_reducible exact rc_I1 | with_reducible exact rc_B1 | with_reducible exact rc_I2 | ((with_reducible apply rc_repr); walk_at "sc") | ((with_reducible apply rc_lenL); walk_at "sq")
  | ((with_reducible apply rc_isiInt); walk_at "pl") | ((with_reducible apply rc_isiBool); walk_at "pl"))
local macro_rules | `(tactic| walk_at "ea") => `(tactic| first
  | with_reducible exact ea_nil | ((with_reducible apply ea_cons); walk_at "ev"; walk_at "ea"))
local macro_rules | `(tactic| walk_at "pow") => `(tactic| first
  | with_reducible exact ev_pow (a := 10) (b := 9) (c := 1000000000) (by decide +kernel) (by decide +kernel)
  | with_reducible exact ev_pow (a := 10) (b := 10) (c := 10000000000) (by decide +kernel) (by decide +kernel)
  | with_reducible exact ev_pow (a := 10) (b := 12) (c := 1000000000000) (by decide +kernel) (by decide +kernel)
  | with_reducible exact ev_pow (a := 10) (b := 17) (c := 100000000000000000) (by decide +kernel) (by decide +kernel)
  | with_reducible exact ev_pow (a := 10) (b := 20) (c := 100000000000000000000) (by decide +kernel) (by decide +kernel)
  | with_reducible exact ev_pow (a := 10) (b := 29) (c := 100000000000000000000000000000) (by decide +kernel) (by decide +kernel)
  | with_reducible exact ev_pow (a := 10) (b := 30) (c := 1000000000000000000000000000000) (by decide +kernel) (by decide +kernel)
  | with_reducible exact ev_pow (a := 10) (b := 40) (c := 10000000000000000000000000000000000000000) (by decide +kernel) (by decide +kernel)
  | with_reducible exact ev_pow (a := 10) (b := 57) (c := 1000000000000000000000000000000000000000000000000000000000) (by decide +kernel) (by decide +kernel)
  | with_reducible exact ev_pow (a := 10) (b := 58) (c := 10000000000000000000000000000000000000000000000000000000000) (by decide +kernel) (by decide +kernel)
  | with_reducible exact ev_pow (a := 10) (b := 59) (c := 100000000000000000000000000000000000000000000000000000000000) (by decide +kernel) (by decide +kernel)
  | with_reducible exact ev_pow (a := 10) (b := 60) (c := 1000000000000000000000000000000000000000000000000000000000000) (by decide +kernel) (by decide +kernel))
local macro_rules | `(tactic| walk_at "call") => `(tactic| (intro H9 e9; first | exact ⟨_, rfl, rfl⟩ | exact ⟨_, _, rfl, rfl⟩ | exact ⟨_, _, _, rfl, rfl⟩ | exact ⟨_, rfl, by walk_at "pl", rfl⟩ | (refine ⟨_, _, _, rfl, ?_, rfl⟩; first | exact Plain.ex e9 (by assumption) | walk_at "pl") | (refine ⟨_, rfl, ?_, rfl⟩; first | exact Plain.ex e9 (by assumption) | walk_at "pl")))
local macro_rules | `(tactic| walk_at "ev") => `(tactic| first
  | with_reducible exact ev_c
  | exact ev_var rfl
  | walk_at "pow"
  | ((with_reducible apply ev_op); walk_at "ev"; walk_at "ev"; walk_at "rv")
  | ((with_reducible apply ev_un); walk_at "ev"; walk_at "rv")
  | ((with_reducible apply ev_cb); walk_at "ea"; walk_at "rc")
  | ((with_reducible apply ev_callP); walk_at "ea"; walk_at "call")
  | ((with_reducible apply ev_chain); walk_at "ev"; walk_at "ev"; walk_at "rv"; walk_at "ev"; walk_at "rv")
  | ((with_reducible apply ev_andV); walk_at "ev"; intro _; walk_at "ev")
  | ((with_reducible apply ev_orV); walk_at "ev"; intro _; walk_at "ev")
  | ((with_reducible apply ev_ite); walk_at "et"; intro _; walk_at "ev"; intro _; walk_at "ev")
  | ((with_reducible apply ev_notV); walk_at "ev"))
local macro_rules | `(tactic| walk_at "et") => `(tactic| first
  | ((with_reducible apply et_test); walk_at "ev")
  | ((with_reducible apply et_B); walk_at "ev")
  | ((with_reducible apply et_and); walk_at "et"; intro _; walk_at "et")
  | ((with_reducible apply et_or); walk_at "et"; intro _; walk_at "et")
  | ((with_reducible apply et_not); walk_at "et"))
open En Wo
section
variable {σ : L2.St} {H H' : Hp} {te ta tb : TE} {ts tr : TA} {tz : TS} {D : Ends} {K : PySem.W.Frag} {C p a q l : Addr} {W : Wd} {xs ys : List V}
theorem q_appW {j : Nat} (hl : H l = some (.lst xs)) (hs : σ[j]? = some (some (.ref l))) (h : EvW K C te σ H W) (hz : xs.length < 100000) (k : ∀ r H1, H r = none → Ex H H1 → WdAt K C H1 r W → tz D σ (upd H1 l (.lst (xs ++ [.ref r])))) : tSeq (tDrop (tBM K "list" rAppend (tVar j) (tCons te tNil))) tz D σ H :=
  ⟨.ref l, hs, .inl ⟨rfl, xs, sq_of hl⟩, h H (Ex.refl H) _ fun r H2 hr e2 hW => ⟨l, xs, .ref r, rfl, rfl, e2 _ _ hl, sz_lt (by omega), k r H2 hr e2 hW⟩⟩
theorem WdAt.lup (h : WdAt K C H p W) (hl : H l = some (.lst xs)) : WdAt K C (upd H l (.lst ys)) p W := h.exd (q := l) Exd.upd hl
theorem PlAt.lup (h : PlAt K H p W) (hl : H l = some (.lst xs)) : PlAt K (upd H l (.lst ys)) p W := h.exd (q := l) Exd.upd hl
theorem ap_ofP {P : List V → Hp → Prop} {vs : List V} (h : EvA ts σ H vs) (hp : ∀ H1, Ex H H1 → P vs H1) : EvAP ts σ H P := fun H1 e Q q => h H1 e Q fun H2 e2 => q vs H2 e2 (hp H2 (e.trans e2))
theorem ap_monoE {P P' : List V → Hp → Prop} (h : EvAP ts σ H P) (k : ∀ vs H1, Ex H H1 → P vs H1 → P' vs H1) : EvAP ts σ H P' := fun H1 e Q q => h H1 e Q fun vs H2 e2 p => q vs H2 e2 (k vs H2 (e.trans e2) p)
/-- a world made of parts -/
theorem ew_new {E : XK} {aT : Addr} (h : EvA ts σ H [.int W.t, .int W.n, .int W.l, .ref aT]) (hT : TsAt K H aT W.ts) (ok : W.ok) : EvW K C (tMake C (spInit K C) [] E ts) σ H W := ew_make (ap_ofP h fun H1 e => ⟨aT, rfl, hT.ex e⟩) ok
theorem q_catV {i j : Nat} (hl : H l = some (.lst xs)) (hs : σ[j]? = some (some (.ref l))) (h : EvA ts σ H ys) (hz : xs.length + ys.length ≤ 100000) (k : ∀ r H1, H r = none → Ex H H1 → H1 r = some (.lst (xs ++ ys)) → tz D (σ.set i (some (.ref r))) H1) : tSeq (tAsg (tOp rCat (tVar j) (tLst ts)) (gName i)) tz D σ H :=
  ⟨.ref l, hs, h H (Ex.refl H) _ fun H2 e2 => ⟨sz_of (by omega), fun b hb => ⟨l, b, xs, ys, rfl, rfl, Ex.new hb _ _ (e2 _ _ hl), upd_same, sz_of hz, fun r hr => k r _ (fresh_back (e2.trans (Ex.new hb)) hr) ((e2.trans (Ex.new hb)).trans (Ex.new hr)) upd_same⟩⟩⟩
theorem RsAt.drop1 {rs : List Addr} {us : List Tg} (h : RsAt K H rs us) : RsAt K H (rs.drop 1) (us.drop 1) := ⟨by rw [List.length_drop, List.length_drop, h.1], fun i r t a b => h.2 (1 + i) r t (by rw [← List.getElem?_drop]; exact a) (by rw [← List.getElem?_drop]; exact b)⟩
theorem asc_drop1 {us : List Tg} {n : Int} (h : Asc us n) : Asc (us.drop 1) n := asc_sub h (by unfold Tg.ids; rw [List.map_drop]; exact List.drop_sublist ..)
theorem hcd {xs : List V} : (HT.sIx xs.length 0 (some 1) = 0 ∧ HT.sIx xs.length xs.length none = xs.length) → cutV xs (some 1) none = xs := fun z => by
  have h1 := HT.sIx_nat xs.length 0 1
  have h2 := z.1
  rw [show ((1 : Nat) : Int) = 1 from rfl] at h1
  rw [h1] at h2
  have : xs = [] := List.length_eq_zero_iff.mp (by omega)
  rw [this]
  rfl
end
/-- what is no world -/
def NoW (K : PySem.W.Frag) (H : Hp) (x : V) : Prop := x = .non ∨ (∃ z, x = .str z) ∨ ∃ a xs, x = .ref a ∧ SqT K H a xs
theorem NoW.ex {K : PySem.W.Frag} {H H' : Hp} {x : V} (e : Ex H H') (h : NoW K H x) : NoW K H' x := by
  rcases h with h | h | ⟨a, xs, h, h2⟩
  · exact .inl h
  · exact .inr (.inl h)
  · exact .inr (.inr ⟨a, xs, h, ex_t e h2⟩)
def noTy : V → String
  | .non => "NoneType"
  | .str _ => "str"
  | _ => "tuple"
theorem NoW.ty {K : PySem.W.Frag} {H : Hp} {x : V} (h : NoW K H x) : TyX K H x (.type (noTy x)) := by
  rcases h with rfl | ⟨z, rfl⟩ | ⟨a, xs, rfl, (h | ⟨o, h⟩) | ⟨o, its, n, h1, h2, _⟩⟩
  · exact .base .non
  · exact .base (.str z)
  · exact .base (.tup h)
  · exact .fTuple h
  · exact .kTuple h1 h2
section
variable {P : Program} {w : World} {K : PySem.W.Frag} {mg : Str → Option Value} {base : Heap}
theorem notF (T : Txt K mg w) {H : Hp} {x : V} (h : NoW K H x) : PySem.W.notFirst K T.C_World (.type (noTy x)) = true := by
  unfold PySem.W.notFirst
  rcases h with rfl | ⟨z, rfl⟩ | ⟨a, xs, rfl, _⟩
  · simp only [noTy, T.hs_World_NoneType]; simp
  · simp only [noTy, T.hs_World_str]; simp
  · simp only [noTy, T.hs_World_tuple]; simp
/-- world == x and world != x -/
theorem eq_world (T : Txt K mg w) {H : Hp} {p p' : Addr} {W W' : Wd} {E : XK} (h : WdAt K T.C_World H p W) (h' : WdAt K T.C_World H p' W') (hk : KdsOk W.ts) (hk' : KdsOk W'.ts) : RV (rEqO K T.C_World (Pure (kEqW K T.C_World)) E) (.ref p) (.ref p') H (.bl (decide (W = W'))) := by
  obtain ⟨_, _, _, _, ⟨dx, hob⟩, _⟩ := id h
  obtain ⟨_, _, _, _, ⟨dx', hob'⟩, _⟩ := id h'
  exact rv_eqO hob (fun H1 e => .base (.ins (e _ _ hob') T.cl_World T.ha_World T.hn_World T.ht_World T.hm_World)) (by unfold PySem.W.notFirst; simp) fun H1 e => ⟨p, W, _, rfl, h.ex e, .inl ⟨p', W', rfl, h'.ex e, hk, hk', rfl⟩⟩
theorem ne_world (T : Txt K mg w) {H : Hp} {p p' : Addr} {W W' : Wd} {E : XK} (h : WdAt K T.C_World H p W) (h' : WdAt K T.C_World H p' W') (hk : KdsOk W.ts) (hk' : KdsOk W'.ts) : RV (rNeO K T.C_World (Pure (kEqW K T.C_World)) E) (.ref p) (.ref p') H (.bl (!decide (W = W'))) := by
  obtain ⟨_, _, _, _, ⟨dx, hob⟩, _⟩ := id h
  obtain ⟨_, _, _, _, ⟨dx', hob'⟩, _⟩ := id h'
  exact rv_neO hob (fun H1 e => .base (.ins (e _ _ hob') T.cl_World T.ha_World T.hn_World T.ht_World T.hm_World)) (by unfold PySem.W.notFirst; simp) fun H1 e => ⟨p, W, _, rfl, h.ex e, .inl ⟨p', W', rfl, h'.ex e, hk, hk', rfl⟩⟩
theorem eq_noW (T : Txt K mg w) {H : Hp} {p : Addr} {W : Wd} {x : V} {E : XK} (h : WdAt K T.C_World H p W) (hx : NoW K H x) : RV (rEqO K T.C_World (Pure (kEqW K T.C_World)) E) (.ref p) x H (.bl false) := by
  obtain ⟨_, _, _, _, ⟨dx, hob⟩, _⟩ := id h
  exact rv_eqO hob (fun H1 e => (hx.ex e).ty) (notF T hx) fun H1 e => ⟨p, W, _, rfl, h.ex e, .inr ⟨hx.ex e, rfl⟩⟩
theorem ne_noW (T : Txt K mg w) {H : Hp} {p : Addr} {W : Wd} {x : V} {E : XK} (h : WdAt K T.C_World H p W) (hx : NoW K H x) : RV (rNeO K T.C_World (Pure (kEqW K T.C_World)) E) (.ref p) x H (.bl true) := by
  obtain ⟨_, _, _, _, ⟨dx, hob⟩, _⟩ := id h
  exact rv_neO (b := false) hob (fun H1 e => (hx.ex e).ty) (notF T hx) fun H1 e => ⟨p, W, _, rfl, h.ex e, .inr ⟨hx.ex e, rfl⟩⟩
def kAlone (K : PySem.W.Frag) (C : Addr) (vs : List V) (H : Hp) (z : V) : Prop := ∃ (p a : Addr) (W : Wd), vs = [.ref p, .ref a] ∧ WdAt K C H p W ∧ PlAt K H a W ∧ W.gd 1000000000000000000 ∧ z = .bl true
theorem ok_is_alone (T : Txt K mg w) : FnOk P w K mg base CX0 10 T.a_law_is_alone T.fd_law_is_alone ["world", "plain"] (Pure (kAlone K T.C_World)) := by
  have G_World___init__ := ok_init (P := P) (w := w) (base := base) T
  have G_World___str__ := ok_str (P := P) (w := w) (base := base) T
  have G_World___eq__ := ok_eq (P := P) (w := w) (base := base) T
  refine T.F_law_is_alone.ok sc_law_is_alone (fun vs H Q E h => ?_) (fun cdv A outer s H vs Q E hr h => ?_)
  · obtain ⟨_, ⟨_, _, _, rfl, _⟩, _⟩ := h; rfl
  · obtain ⟨_, ⟨p, a, W, rfl, hW, hP, hg, rfl⟩, q⟩ := h
    refine ⟨_, (pss_cons (ps_set (i := 2) sc_law_is_alone.nd rfl (.inl rfl) (pe_make T.mk_World G_World___init__ (hr.mono (by decide)) (by rfl) T.g_World T.b_World___init__ .nil pass0 (pa_cons (pe_ix ix_tup (pv 1) pe_int (fun _ _ => rfl)) (pa_cons (pe_ix ix_tup (pv 1) pe_int (fun _ _ => rfl)) (pa_cons (pe_ix ix_tup (pv 1) pe_int (fun _ _ => rfl)) (pa_cons (pe_ix ix_tup (pv 1) pe_int (fun _ _ => rfl)) pa_nil))))))
  (pss_cons (ps_set (i := 3) sc_law_is_alone.nd rfl (.inl rfl) (pe_lst (pa_cons (pe_make T.mk_World G_World___init__ (hr.mono (by decide)) (by rfl) T.g_World T.b_World___init__ .nil pass0 (pa_cons (pe_op op_add (pe_ix ix_tup (pv 1) pe_int (fun _ _ => rfl)) pe_int) (pa_cons (pe_ix ix_tup (pv 1) pe_int (fun _ _ => rfl)) (pa_cons (pe_ix ix_tup (pv 1) pe_int (fun _ _ => rfl)) (pa_cons (pe_ix ix_tup (pv 1) pe_int (fun _ _ => rfl)) pa_nil))))) (pa_cons (pe_make T.mk_World G_World___init__ (hr.mono (by decide)) (by rfl) T.g_World T.b_World___init__ .nil pass0 (pa_cons (pe_ix ix_tup (pv 1) pe_int (fun _ _ => rfl)) (pa_cons (pe_op op_add (pe_ix ix_tup (pv 1) pe_int (fun _ _ => rfl)) pe_int) (pa_cons (pe_ix ix_tup (pv 1) pe_int (fun _ _ => rfl)) (pa_cons (pe_ix ix_tup (pv 1) pe_int (fun _ _ => rfl)) pa_nil))))) pa_nil))))
  (pss_cons (ps_expr (pe_bm PySem.F.plainAttrs_list PySem.F.slot_list_append PySem.F.type_list_append mt_append (pv 3) (pa_cons (pe_make T.mk_World G_World___init__ (hr.mono (by decide)) (by rfl) T.g_World T.b_World___init__ .nil pass0 (pa_cons (pe_ix ix_tup (pv 1) pe_int (fun _ _ => rfl)) (pa_cons (pe_ix ix_tup (pv 1) pe_int (fun _ _ => rfl)) (pa_cons (pe_ifExp (pt_cmpR op_ne (pe_ix ix_tup (pv 1) pe_int (fun _ _ => rfl)) pe_int (nomark _)) pe_int pe_int) (pa_cons (pe_ix ix_tup (pv 1) pe_int (fun _ _ => rfl)) pa_nil))))) pa_nil)))
  (pss_cons (ps_expr (pe_bm PySem.F.plainAttrs_list PySem.F.slot_list_append PySem.F.type_list_append mt_append (pv 3) (pa_cons (pe_make T.mk_World G_World___init__ (hr.mono (by decide)) (by rfl) T.g_World T.b_World___init__ .nil pass0 (pa_cons (pe_ix ix_tup (pv 1) pe_int (fun _ _ => rfl)) (pa_cons (pe_op op_add (pe_ix ix_tup (pv 1) pe_int (fun _ _ => rfl)) pe_int) (pa_cons (pe_ix ix_tup (pv 1) pe_int (fun _ _ => rfl)) (pa_cons (pe_slice sl_tupA (pe_ix ix_tup (pv 1) pe_int (fun _ _ => rfl)) (po_some pe_int) po_none) pa_nil))))) pa_nil)))
  (pss_cons (ps_set (i := 3) sc_law_is_alone.nd rfl (.inl rfl) (pe_op op_cat (pv 3) (pe_lst (pa_cons (pv 1) (pa_cons pe_non (pa_cons (pe_ix ix_tup (pv 1) pe_int (fun _ _ => rfl)) (pa_cons (pe_callTy (c_strO G_World___str__ (hr.mono (by decide)) T.m_World___str__ T.b_World___str__ pass0) (by rfl) T.z_str (by decide +kernel) (pa_cons (pv 0) pa_nil)) pa_nil)))))))
  (pss_one (ps_ret (pe_and (pe_cmpR (op_eqOK (K := K) rfl G_World___eq__ (hr.mono (by decide)) T.m_World___eq__ T.b_World___eq__ pass0) (pv 2) (pv 0) (nomark _)) (pe_and (pe_not (pe_cmpR (op_neOK (K := K) rfl G_World___eq__ (hr.mono (by decide)) T.m_World___eq__ T.ne_World T.ob_World T.b_World___eq__ pass0) (pv 2) (pv 0) (nomark _))) (pe_one (pe_cmpR (op_eqD hr.units) (pe_lc (own := [("one", 4)]) (g := gName 4) (by rfl) sc_law_is_alone.nd (pi_list (pv 3)) (blkOk_by (own := [("one", 4)]) (N := ["world", "plain", "same", "others", "one"]) (sc := defScope s_law_is_alone) (by decide +kernel)) (fun _ _ _ _ _ => pg_name (i := 4) sc_law_is_alone.nd rfl (Or.inl rfl)) (fun _ _ _ _ _ => (pts_one (PW.pt (pw_or (pt_cmpR (op_eqOK (K := K) rfl G_World___eq__ (hr.mono (by decide)) T.m_World___eq__ T.b_World___eq__ pass0) (pv 0) (pv 4) (nomark _)) (pw_or1 (pt_not (pt_cmpR (op_neOK (K := K) rfl G_World___eq__ (hr.mono (by decide)) T.m_World___eq__ T.ne_World T.ob_World T.b_World___eq__ pass0) (pv 0) (pv 4) (nomark _)))))))) (fun _ _ _ _ _ => (pv 4))) (pe_lst pa_nil) (nomark _)))))))))))), ?_⟩
    obtain ⟨aT, hPl, rs, hTs, hR⟩ := id hP
    have hrl : (rs.map V.ref).length = W.ts.length := by rw [List.length_map, hR.1]
    have hlen := hg.len
    have hT : TsAt K H aT W.ts := ⟨rs, hTs, hR⟩
    have ok0 : W.ok := hg.ok (by decide)
    have tb : W.t + 1 < 1000000000000000000000000000000000000000000000000000000000000 ∧ 0 ≤ W.t := by rcases hg.t with e | e | e <;> rw [e] <;> decide
    have n0 := hg.n0
    have nb := hg.nb
    have okT : (Wd.mk (W.t + 1) W.n W.l W.ts).ok := ⟨⟨by show 0 ≤ W.t + 1; omega, tb.1⟩, ok0.2⟩
    have okN : (Wd.mk W.t (W.n + 1) W.l W.ts).ok := ⟨ok0.1, ⟨by show 0 ≤ W.n + 1; omega, by show W.n + 1 < _; omega⟩, ok0.2.2.1, ok0.2.2.2.1, asc_le hg.asc (by show W.n ≤ W.n + 1; omega)⟩
    have okL : (Wd.mk W.t W.n (if W.l = 7 then 8 else 7) W.ts).ok := ⟨ok0.1, ok0.2.1, by show 0 ≤ (if W.l = 7 then (8 : Int) else 7) ∧ (if W.l = 7 then (8 : Int) else 7) < 999999937; split <;> exact ⟨by decide, by decide⟩, ok0.2.2.2⟩
    have okD : (Wd.mk W.t (W.n + 1) W.l (W.ts.drop 1)).ok := ⟨ok0.1, okN.2.1, ok0.2.2.1, ⟨by show (W.ts.drop 1).length ≤ 12; rw [List.length_drop]; omega, fun t ht => ok0.2.2.2.1.2 t (List.mem_of_mem_drop ht)⟩, asc_drop1 (asc_le hg.asc (show W.n ≤ W.n + 1 by omega))⟩
    refine q_asgW (W := W) (ew_new (aT := aT) (ea_cons (ev_op (x := .ref a) (y := .int 0) (ev_var rfl) ev_c (rv_ixT hPl rfl)) (ea_cons (ev_op (x := .ref a) (y := .int 1) (ev_var rfl) ev_c (rv_ixT hPl rfl)) (ea_cons (ev_op (x := .ref a) (y := .int 2) (ev_var rfl) ev_c (rv_ixT hPl rfl)) (ea_cons (ev_op (x := .ref a) (y := .int 3) (ev_var rfl) ev_c (rv_ixT hPl rfl)) ea_nil)))) hT ok0) fun ps H1 hps e1 hS1 => ?_
    have hPl1 := ex_t e1 hPl
    have ixs : ∀ {σ : L2.St} {H2 : Hp} {j : Int} {v : V}, σ[1]? = some (some (.ref a)) → Ex H1 H2 → atI [.int W.t, .int W.n, .int W.l, .ref aT] j = some v → Ev (tOp (rIxT K) (tVar 1) (tC (.int j))) σ H2 v := fun h0 e h => ev_op (x := .ref a) (y := .int _) (ev_var h0) ev_c (rv_ixT (ex_t e hPl1) h)
    refine q_asgLP (P := fun vs H' => ∃ r1 r2, vs = [.ref r1, .ref r2] ∧ WdAt K T.C_World H' r1 ⟨W.t + 1, W.n, W.l, W.ts⟩ ∧ WdAt K T.C_World H' r2 ⟨W.t, W.n + 1, W.l, W.ts⟩) ((ap_consW (ew_new (W := ⟨W.t + 1, W.n, W.l, W.ts⟩) (aT := aT) (ea_cons (ev_op (ixs rfl (Ex.refl _) rfl) ev_c rv_I0) (ea_cons (ixs rfl (Ex.refl _) rfl) (ea_cons (ixs rfl (Ex.refl _) rfl) (ea_cons (ixs rfl (Ex.refl _) rfl) ea_nil)))) (hT.ex e1) okT) (ap_consW (ew_new (W := ⟨W.t, W.n + 1, W.l, W.ts⟩) (aT := aT) (ea_cons (ixs rfl (Ex.refl _) rfl) (ea_cons (ev_op (ixs rfl (Ex.refl _) rfl) ev_c rv_I0) (ea_cons (ixs rfl (Ex.refl _) rfl) (ea_cons (ixs rfl (Ex.refl _) rfl) ea_nil)))) (hT.ex e1) okN) ap_nil)).mono fun vs H' ⟨r1, _, y1, y2, r2, _, y3, y4, y5⟩ => ⟨r1, r2, by rw [y1, y3, y5], y2, y4⟩) (fun vs H' ⟨r1, r2, y1, _⟩ => by rw [y1]; show 2 ≤ 100000; decide) fun l vs H2 e2 ⟨r1, r2, hv, w1, w2⟩ hl => ?_
    subst hv
    have e3 : Ex H1 (upd H2 l (.lst [.ref r1, .ref r2])) := e2.trans (Ex.new hl)
    have w1 := w1.ex (Ex.new (o := .lst [.ref r1, .ref r2]) hl)
    have w2 := w2.ex (Ex.new (o := .lst [.ref r1, .ref r2]) hl)
    have hl3 : upd H2 l (.lst [.ref r1, .ref r2]) l = some (.lst [.ref r1, .ref r2]) := upd_same
    have hlH : H1 l = none := fresh_back e2 hl
    generalize upd H2 l (.lst [.ref r1, .ref r2]) = H3 at e3 w1 w2 hl3
    refine q_appW (C := T.C_World) (W := ⟨W.t, W.n, if W.l = 7 then 8 else 7, W.ts⟩) hl3 rfl (ew_new (aT := aT) (ea_cons (ixs rfl e3 rfl) (ea_cons (ixs rfl e3 rfl) (ea_cons (ev_if (b := !decide (V.int W.l = V.int 7)) (et_test (ev_op (ixs rfl e3 rfl) ev_c (rv_ne rfl))) (fun hb => by rw [if_neg (fun z => by rw [z] at hb; simp at hb)]; exact ev_c) (fun hb => by rw [if_pos (by simpa using hb)]; exact ev_c)) (ea_cons (ixs rfl e3 rfl) ea_nil)))) (hT.ex (e1.trans e3)) okL) (by show 2 < 100000; decide) fun r3 H4 hr3 e4 w3 => ?_
    have hl4 := e4 _ _ hl3
    have w1 := (w1.ex e4).lup (ys := [.ref r1, .ref r2, .ref r3]) hl4
    have w2 := (w2.ex e4).lup (ys := [.ref r1, .ref r2, .ref r3]) hl4
    have w3 := w3.lup (ys := [.ref r1, .ref r2, .ref r3]) hl4
    have e5 : Ex H1 (upd H4 l (.lst [.ref r1, .ref r2, .ref r3])) := Ex.mut (e3.trans e4) hlH
    have hl5 : upd H4 l (.lst [.ref r1, .ref r2, .ref r3]) l = some (.lst [.ref r1, .ref r2, .ref r3]) := upd_same
    refine q_appW (H := upd H4 l (.lst [.ref r1, .ref r2, .ref r3])) (C := T.C_World) (W := ⟨W.t, W.n + 1, W.l, W.ts.drop 1⟩) hl5 rfl (ew_make (ap_monoE (ap_cons (x := .int W.t) (ixs (j := 0) rfl e5 rfl) (ap_cons (x := .int (W.n + 1)) (ev_op (ixs (j := 1) rfl e5 rfl) ev_c rv_I0) (ap_cons (x := .int W.l) (ixs (j := 2) rfl e5 rfl) (ap_consTU (K := K) (etu_sl (lo := some 1) (hi := none) (ixs (j := 3) rfl e5 rfl) (ex_t (e1.trans e5) hTs) (eo_some ev_c) eo_none hcd) ap_nil)))) fun vs H' x' ⟨_, y1, _, y2, _, y3, b, _, y4, y5, y6⟩ => ⟨b, by rw [y1, y2, y3, y4, y6], rs.drop 1, by rw [cut1, ← List.map_drop] at y5; exact y5, (hR.ex ((e1.trans e5).trans x')).drop1⟩) okD) (by show 3 < 100000; decide) fun r4 H6 hr4 e6 w4 => ?_
    have hl6 := e6 _ _ hl5
    have w1 := (w1.ex e6).lup (ys := [.ref r1, .ref r2, .ref r3, .ref r4]) hl6
    have w2 := (w2.ex e6).lup (ys := [.ref r1, .ref r2, .ref r3, .ref r4]) hl6
    have w3 := (w3.ex e6).lup (ys := [.ref r1, .ref r2, .ref r3, .ref r4]) hl6
    have w4 := w4.lup (ys := [.ref r1, .ref r2, .ref r3, .ref r4]) hl6
    have e7 : Ex H1 (upd H6 l (.lst [.ref r1, .ref r2, .ref r3, .ref r4])) := Ex.mut (e5.trans e6) hlH
    have hl7 : upd H6 l (.lst [.ref r1, .ref r2, .ref r3, .ref r4]) l = some (.lst [.ref r1, .ref r2, .ref r3, .ref r4]) := upd_same
    have eA := e1.trans e7
    refine q_catV (H := upd H6 l (.lst [.ref r1, .ref r2, .ref r3, .ref r4])) (ys := [.ref a, .non, .ref aT, .str W.text]) hl7 rfl (ea_cons (ev_var rfl) (ea_cons ev_c (ea_cons (ixs rfl e7 rfl) (ea_cons (ev_strW (ev_var rfl) (hW.ex eA) hg.len hg.tlog) ea_nil)))) (by show 4 + 4 ≤ 100000; decide) fun lo H8 hlo e8 hl8 => ?_
    have hl8 : H8 lo = some (.lst [.ref r1, .ref r2, .ref r3, .ref r4, .ref a, .non, .ref aT, .str W.text]) := hl8
    have w1 := w1.ex e8
    have w2 := w2.ex e8
    have w3 := w3.ex e8
    have w4 := w4.ex e8
    have eB := eA.trans e8
    have hW8 := hW.ex eB
    have hS8 := hS1.ex (e7.trans e8)
    have hk := hg.kds
    have hkd : KdsOk (W.ts.drop 1) := fun t ht => hk t (List.mem_of_mem_drop ht)
    have hall : ∀ x ∈ [V.ref r1, .ref r2, .ref r3, .ref r4, .ref a, .non, .ref aT, .str W.text], (∃ r W', x = .ref r ∧ WdAt K T.C_World H8 r W' ∧ KdsOk W'.ts ∧ W ≠ W') ∨ NoW K H8 x := fun x hx => by
      simp only [List.mem_cons, List.not_mem_nil, or_false] at hx
      rcases hx with rfl | rfl | rfl | rfl | rfl | rfl | rfl | rfl
      · exact .inl ⟨r1, _, rfl, w1, hk, fun z => by have := congrArg Wd.t z; simp at this; omega⟩
      · exact .inl ⟨r2, _, rfl, w2, hk, fun z => by have := congrArg Wd.n z; simp at this; omega⟩
      · exact .inl ⟨r3, _, rfl, w3, hk, fun z => by have := congrArg Wd.l z; simp only at this; split at this <;> omega⟩
      · exact .inl ⟨r4, _, rfl, w4, hkd, fun z => by have := congrArg Wd.n z; simp at this; omega⟩
      · exact .inr (.inr (.inr ⟨a, _, rfl, ex_t eB hPl⟩))
      · exact .inr (.inl rfl)
      · exact .inr (.inr (.inr ⟨aT, _, rfl, ex_t eB hTs⟩))
      · exact .inr (.inr (.inl ⟨_, rfl⟩))
    have hsame : (decide (W = W) : Bool) = true := by simp
    refine s_ret (v := .bl true) (ev_is (ev_andV (a := true) (b := true) (ev_is (ev_op (ev_var rfl) (ev_var rfl) (eq_world T hS8 hW8 hk hk)) (by simp)) fun _ => ev_is (ev_andV (a := true) (b := true) (ev_is (ev_notV (a := false) (ev_is (ev_op (ev_var rfl) (ev_var rfl) (ne_world T hS8 hW8 hk hk)) (by simp))) rfl) fun _ => ev_is (ev_eqD (d := .list (([] : List Int).map PyData.int)) (e := .list []) (evd_ints (ns := []) ?_) (evd_lst evda_nil (by decide)) (by decide +kernel) (by decide +kernel)) (by decide +kernel)) rfl) rfl) fun H9 e9 => q H9 (eB.trans e9)
    rw [show ([] : List Int).map V.int = given [V.ref r1, .ref r2, .ref r3, .ref r4, .ref a, .non, .ref aT, .str W.text].length (fun _ => false) (fun _ => .non) from (given_none _ _).symm]
    refine el_lcL (fun _ => false) (fun _ => .non) (ev_var rfl) (sq_of hl8) (by show 8 ≤ 40000; decide) (fun _ => rfl) (fun i x H9 e9 hx => ?_) fun i x H9 e9 hx h => by cases h
    rcases hall x (List.mem_of_getElem? hx) with ⟨r, W', rfl, hW', hk', hne⟩ | hno
    · exact et_or (a := false) (b := false) (et_is (et_test (ev_op (ev_var rfl) (ev_var rfl) (eq_world T (hW8.ex e9) (hW'.ex e9) hk hk'))) (decide_eq_false hne)) fun _ => et_is (et_not (et_test (ev_op (ev_var rfl) (ev_var rfl) (ne_world T (hW8.ex e9) (hW'.ex e9) hk hk')))) (by rw [decide_eq_false hne]; rfl)
    · exact et_or (a := false) (b := false) (et_test (ev_op (ev_var rfl) (ev_var rfl) (eq_noW T (hW8.ex e9) (hno.ex e9)))) fun _ => et_is (et_not (et_test (ev_op (ev_var rfl) (ev_var rfl) (ne_noW T (hW8.ex e9) (hno.ex e9))))) rfl
end
end Kz
set_option Elab.async false
set_option linter.all false
set_option maxRecDepth 100000
set_option maxHeartbeats 4000000
set_option exponentiation.threshold 500
namespace Kz
open PySem PySem.Spec PyProof.Rows L2 Evl Vr
local macro_rules | `(tactic| walk_at "sc") => `(tactic| first | (with_reducible assumption) | (with_reducible exact sc_mul (by omega)) | (with_reducible exact sc_mulr (by omega)) | (with_reducible exact sc_div (by omega) (by decide)) | (show (0 : Int) < _; omega) | (show _ ≠ (0 : Int); omega) | (with_reducible rfl) | decide)
local macro_rules | `(tactic| walk_at "sq") => `(tactic| first | assumption | exact sq_of (by assumption) | exact st_of (by assumption))
local macro_rules | `(tactic| walk_at "pl") => `(tactic| first | assumption | exact pl_int | exact pl_bl | exact pl_str | exact pl_non | exact pl_lst (by assumption) | exact pl_tup (by assumption) | exact pl_dK (by assumption))
local macro_rules | `(tactic| walk_at "rv") => `(tactic| first
  | with_reducible exact rv_I0
  | with_reducible exact ru_neg
  | ((with_reducible apply rv_I); walk_at "sc")
  | ((with_reducible apply rv_ixL); walk_at "sq"; first | rfl | assumption)
  | ((with_reducible apply rv_ixT); walk_at "sq"; first | rfl | assumption)
  | ((with_reducible apply rv_eq); rfl) | ((with_reducible apply rv_ne); rfl))
local macro_rules | `(tactic| walk_at "rc") => `(tactic| first
  | with_reducible exact rc_I1 | with_reducible exact rc_B1 | with_reducible exact rc_I2 | ((with_reducible apply rc_repr); walk_at "sc") | ((with_reducible apply rc_lenL); walk_at "sq")
  | ((with_reducible apply rc_isiInt); walk_at "pl") | ((with_reducible apply rc_isiBool); walk_at "pl"))
local macro_rules | `(tactic| walk_at "ea") => `(tactic| first
  | with_reducible exact ea_nil | ((with_reducible apply ea_cons); walk_at "ev"; walk_at "ea"))
local macro_rules | `(tactic| walk_at "pow") => `(tactic| first
  | with_reducible exact ev_pow (a := 10) (b := 9) (c := 1000000000) (by decide +kernel) (by decide +kernel)
  | with_reducible exact ev_pow (a := 10) (b := 10) (c := 10000000000) (by decide +kernel) (by decide +kernel)
  | with_reducible exact ev_pow (a := 10) (b := 12) (c := 1000000000000) (by decide +kernel) (by decide +kernel)
  | with_reducible exact ev_pow (a := 10) (b := 17) (c := 100000000000000000) (by decide +kernel) (by decide +kernel)
  | with_reducible exact ev_pow (a := 10) (b := 20) (c := 100000000000000000000) (by decide +kernel) (by decide +kernel)
  | with_reducible exact ev_pow (a := 10) (b := 29) (c := 100000000000000000000000000000) (by decide +kernel) (by decide +kernel)
  | with_reducible exact ev_pow (a := 10) (b := 30) (c := 1000000000000000000000000000000) (by decide +kernel) (by decide +kernel)
  | with_reducible exact ev_pow (a := 10) (b := 40) (c := 10000000000000000000000000000000000000000) (by decide +kernel) (by decide +kernel)
  | with_reducible exact ev_pow (a := 10) (b := 57) (c := 1000000000000000000000000000000000000000000000000000000000) (by decide +kernel) (by decide +kernel)
  | with_reducible exact ev_pow (a := 10) (b := 58) (c := 10000000000000000000000000000000000000000000000000000000000) (by decide +kernel) (by decide +kernel)
  | with_reducible exact ev_pow (a := 10) (b := 59) (c := 100000000000000000000000000000000000000000000000000000000000) (by decide +kernel) (by decide +kernel)
  | with_reducible exact ev_pow (a := 10) (b := 60) (c := 1000000000000000000000000000000000000000000000000000000000000) (by decide +kernel) (by decide +kernel))
local macro_rules | `(tactic| walk_at "call") => `(tactic| (intro H9 e9; first | exact ⟨_, rfl, rfl⟩ | exact ⟨_, _, rfl, rfl⟩ | exact ⟨_, _, _, rfl, rfl⟩ | exact ⟨_, rfl, by walk_at "pl", rfl⟩ | (refine ⟨_, _, _, rfl, ?_, rfl⟩; first | exact Plain.ex e9 (by assumption) | walk_at "pl") | (refine ⟨_, rfl, ?_, rfl⟩; first | exact Plain.ex e9 (by assumption) | walk_at "pl")))
local macro_rules | `(tactic| walk_at "ev") => `(tactic| first
  | with_reducible exact ev_c
  | exact ev_var rfl
  | walk_at "pow"
  | ((with_reducible apply ev_op); walk_at "ev"; walk_at "ev"; walk_at "rv")
  | ((with_reducible apply ev_un); walk_at "ev"; walk_at "rv")
  | ((with_reducible apply ev_cb); walk_at "ea"; walk_at "rc")
  | ((with_reducible apply ev_callP); walk_at "ea"; walk_at "call")
  | ((with_reducible apply ev_chain); walk_at "ev"; walk_at "ev"; walk_at "rv"; walk_at "ev"; walk_at "rv")
  | ((with_reducible apply ev_andV); walk_at "ev"; intro _; walk_at "ev")
  | ((with_reducible apply ev_orV); walk_at "ev"; intro _; walk_at "ev")
  | ((with_reducible apply ev_ite); walk_at "et"; intro _; walk_at "ev"; intro _; walk_at "ev")
  | ((with_reducible apply ev_notV); walk_at "ev"))
local macro_rules | `(tactic| walk_at "et") => `(tactic| first
  | ((with_reducible apply et_test); walk_at "ev")
  | ((with_reducible apply et_B); walk_at "ev")
  | ((with_reducible apply et_and); walk_at "et"; intro _; walk_at "et")
  | ((with_reducible apply et_or); walk_at "et"; intro _; walk_at "et")
  | ((with_reducible apply et_not); walk_at "et"))
open En Wo
section
variable {σ : L2.St} {H H' : Hp} {te ta tb : TE} {ts tr : TA} {tz : TS} {D : Ends} {K : PySem.W.Frag} {C p a q l : Addr} {W : Wd} {xs ys : List V} {v1 v2 : V}
theorem q_parWL {i j : Nat} (h1 : EvW K C ta σ H W) (h2 : EvL tb σ H xs) (k : ∀ p l H1, H p = none → H l = none → Ex H H1 → WdAt K C H1 p W → H1 l = some (.lst xs) → tz D ((σ.set i (some (.ref p))).set j (some (.ref l))) H1) : tSeq (tPar i j (tCons ta (tCons tb tNil))) tz D σ H :=
  h1 H (Ex.refl H) _ fun p H1 hp e1 hW => h2 H1 e1 _ fun l H2 hl e2 h2 => ⟨.ref p, .ref l, rfl, k p l H2 hp (fresh_back e1 hl) (e1.trans e2) (hW.ex e2) h2⟩
theorem s_asg2T {i j : Nat} (h : Ev te σ H (.ref p)) (hT : SqT K H p [v1, v2]) (k : ∀ H1, Ex H H1 → D.nx ((σ.set i (some v1)).set j (some v2)) H1) : tAsg te (gTup K 2 (gCons (gName i) (gCons (gName j) gNil))) D σ H :=
  h H (Ex.refl H) _ fun H1 e1 => ⟨p, [v1, v2], rfl, ex_t e1 hT, rfl, v1, [v2], rfl, v2, [], rfl, rfl, k H1 e1⟩
theorem ev_lenSet {i : Nat} {w : World} {gs : List Int} (hs : σ[i]? = some (some (.ref l))) (hl : H l = some (.lst (gs.map V.int))) (hz : gs.length ≤ 1000) (hn : gs.Nodup) : Ev (tCB (rLenN w) (tCons (tCB (rSetN K w) (tCons (tVar i) tNil)) tNil)) σ H (.int gs.length) := fun H1 e Q q =>
  ⟨.ref l, hs, l, gs, rfl, sq_of (e _ _ hl), hz, hn, fun b hb => ⟨b, _, gs.length, rfl, upd_same, q _ (Ex.new hb)⟩⟩
end
section
variable {P : Program} {w : World} {K : PySem.W.Frag} {mg : Str → Option Value} {base : Heap}
theorem ok_law_doneA (T : Txt K mg w) : FnOk P w K mg base CX0 12 T.a_law_done T.fd_law_done ["dice", "world", "plain"] (fun vs H Q E => ∃ b, spDeed K T.C_World b vs H Q E) :=
  ⟨fun vs H Q E ⟨b, h⟩ => (ok_law_done (P := P) (base := base) T b).len vs H Q E h, fun A outer s H args us vs Q E hr he hb hv ⟨b, h⟩ => (ok_law_done T b).run A outer s H args us vs Q E hr he hb hv h⟩
theorem ok_law_right (T : Txt K mg w) : FnOk P w K mg base CX0 13 T.a_law_right T.fd_law_right ["dice"] (Draws (kOne fun v => v = .bl true)) := by
  have G_law_world_drawn := ok_world_drawn (P := P) (w := w) (base := base) T
  have G_World___init__ := ok_init (P := P) (w := w) (base := base) T
  have G_law_roll := ok_roll (P := P) (w := w) (base := base) T
  have G_law_done := ok_law_doneA (P := P) (w := w) (base := base) T
  have G_law_is_told := ok_is_told (P := P) (w := w) (base := base) T
  have G_law_is_alone := ok_is_alone (P := P) (w := w) (base := base) T
  refine T.F_law_right.ok sc_law_right (fun vs H Q E h => ?_) (fun cdv A outer s H vs Q E hr h => ?_)
  · obtain ⟨_, _, ⟨rfl, _⟩, _⟩ := h; rfl
  · obtain ⟨p, _, ⟨rfl, rfl⟩, hd, q⟩ := h
    refine ⟨_, (pss_cons (ps_set (i := 1) sc_law_right.nd rfl (.inl rfl) (pe_call G_law_world_drawn (hr.mono (by decide)) (by rfl) T.g_law_world_drawn T.F_law_world_drawn.kp T.b_law_world_drawn .nil pass0 (pa_cons (pv 0) pa_nil)))
  (pss_cons (ps_par (i := 2) (j := 3) (by rfl) sc_law_right.nd rfl rfl (by decide) rfl rfl (pa_cons (pe_make T.mk_World G_World___init__ (hr.mono (by decide)) (by rfl) T.g_World T.b_World___init__ .nil pass0 (pa_cons (pe_ix ix_tup (pv 1) pe_int (fun _ _ => rfl)) (pa_cons (pe_ix ix_tup (pv 1) pe_int (fun _ _ => rfl)) (pa_cons (pe_ix ix_tup (pv 1) pe_int (fun _ _ => rfl)) (pa_cons (pe_ix ix_tup (pv 1) pe_int (fun _ _ => rfl)) pa_nil))))) (pa_cons (pe_lc (own := [("thing", 6)]) (g := gName 6) (by rfl) sc_law_right.nd (pi_tup (pe_ix ix_tup (pv 1) pe_int (fun _ _ => rfl))) (blkOk_by (own := [("thing", 6)]) (N := ["dice", "plain", "world", "given", "turn", "done", "thing"]) (sc := defScope s_law_right) (by decide +kernel)) (fun _ _ _ _ _ => pg_name (i := 6) sc_law_right.nd rfl (Or.inl rfl)) (fun _ _ _ _ _ => pts_nil) (fun _ _ _ _ _ => (pe_ix (ix_tupK (K := K) rfl) (pv 6) pe_int (fun _ _ => rfl)))) pa_nil)) (by rfl))
  (pss_cons (ps_for PassesOwn.never rfl (pi_range1 rfl T.z_range (pa_cons (pe_op op_add pe_int (pe_call G_law_roll (hr.mono (by decide)) (by rfl) T.g_law_roll T.F_law_roll.kp T.b_law_roll .nil pass0 (pa_cons (pv 0) (pa_cons pe_int pa_nil)))) pa_nil)) (pg_name (i := 4) sc_law_right.nd rfl (.inl rfl)) (pss_cons (ps_set (i := 5) sc_law_right.nd rfl (.inl rfl) (pe_call G_law_done (hr.mono (by decide)) (by rfl) T.g_law_done T.F_law_done.kp T.b_law_done .nil pass0 (pa_cons (pv 0) (pa_cons (pv 2) (pa_cons (pv 1) pa_nil)))))
  (pss_cons (ps_if (PW.pt (pw_or (pt_cmp (pc_isN (pv 5)) rfl) (pw_or (pt_not (pt_val (pe_call G_law_is_told (hr.mono (by decide)) (by rfl) T.g_law_is_told T.F_law_is_told.kp T.b_law_is_told .nil pass0 (pa_cons (pv 2) (pa_cons (pv 1) pa_nil))))) (pw_or1 (pt_not (pt_val (pe_call G_law_is_told (hr.mono (by decide)) (by rfl) T.g_law_is_told T.F_law_is_told.kp T.b_law_is_told .nil pass0 (pa_cons (pe_ix ix_tup (pv 5) pe_int (fun _ _ => rfl)) (pa_cons (pe_ix ix_tup (pv 5) pe_int (fun _ _ => rfl)) pa_nil))))))))) (pss_one (ps_ret pe_bl)) pss_nil)
  (pss_cons (ps_if (pt_cmpR op_gt (pe_ix ix_tup (pe_ix ix_tup (pv 5) pe_int (fun _ _ => rfl)) pe_int (fun _ _ => rfl)) (pe_ix ix_tup (pv 1) pe_int (fun _ _ => rfl)) (nomark _)) (pss_one (ps_expr (pe_bm PySem.F.plainAttrs_list PySem.F.slot_list_append PySem.F.type_list_append mt_append (pv 3) (pa_cons (pe_ix ix_tup (pv 1) pe_int (fun _ _ => rfl)) pa_nil)))) pss_nil)
  (pss_one (ps_asg (pv 5) (pg_tup rfl (pgs_cons (pg_name (i := 2) sc_law_right.nd rfl (.inl rfl)) (pgs_cons (pg_name (i := 1) sc_law_right.nd rfl (.inl rfl)) pgs_nil)))))))))
  (pss_one (ps_ret (pe_and (pe_cmpR op_eq (pe_callB c_lenN (by rfl) T.z_len PySem.boot_len (pa_cons (pe_callTy (c_setN rfl) (by rfl) T.z_set (by decide +kernel) (pa_cons (pv 3) pa_nil)) pa_nil)) (pe_callB c_len (by rfl) T.z_len PySem.boot_len (pa_cons (pv 3) pa_nil)) (nomark _)) (pe_one (pe_call G_law_is_alone (hr.mono (by decide)) (by rfl) T.g_law_is_alone T.F_law_is_alone.kp T.b_law_is_alone .nil pass0 (pa_cons (pv 2) (pa_cons (pv 1) pa_nil)))))))))), ?_⟩
    refine q_asgSp (vs := [.ref p]) (by walk_at "ea") fun H1 e1 => ⟨p, rfl, hd.ex e1, fun a W H2 hg hP ha e2 d2 => ?_⟩
    have x2 : Exd p H H2 := (Exd.of e1).trans e2
    obtain ⟨aT, hPl, rs, hTs, hR⟩ := id hP
    refine q_parWL (C := T.C_World) (W := W) (xs := (Tg.ids W.ts).map V.int) (ew_new (aT := aT) (ea_cons (ev_op (x := .ref a) (y := .int 0) (ev_var rfl) ev_c (rv_ixT hPl rfl)) (ea_cons (ev_op (x := .ref a) (y := .int 1) (ev_var rfl) ev_c (rv_ixT hPl rfl)) (ea_cons (ev_op (x := .ref a) (y := .int 2) (ev_var rfl) ev_c (rv_ixT hPl rfl)) (ea_cons (ev_op (x := .ref a) (y := .int 3) (ev_var rfl) ev_c (rv_ixT hPl rfl)) ea_nil)))) ⟨rs, hTs, hR⟩ (hg.ok (by decide))) (by
      have e : (Tg.ids W.ts).map V.int = (W.ts.filter fun _ => true).map fun t => V.int t.id := by
        rw [List.filter_eq_self.mpr (fun _ _ => rfl)]
        unfold Tg.ids
        rw [List.map_map]
        rfl
      rw [e]
      exact el_lcTs (fun _ => true) (fun _ t => V.int t.id) (fun t => V.int t.id) (ev_op (x := .ref a) (y := .int 3) (ev_var rfl) ev_c (rv_ixT hPl rfl)) hTs hR (by have := hg.len; omega) (fun _ => rfl) (fun r t H1 e1 _ _ => et_yes) fun r t H1 e1 hA _ _ => ev_tg0 (ev_var rfl) hA) fun ps l H3 hps hl e3 hW hl3 => ?_
    have d3 := d2.ex e3
    have hlp : l ≠ p := d2.ne hl
    have hlH : H l = none := by
      cases hh : H l with
      | none => rfl
      | some o => have := x2 _ _ hlp hh; rw [hl] at this; cases this
    have hout : ∀ (H4 : Hp) (o : HO), Exd p H H4 → Exd p H (upd H4 l o) := fun H4 o e b u hb hu => by rw [upd_ne (fun z => by rw [z, hlH] at hu; cases hu)]; exact e b u hb hu
    let Pv : Nat → L2.St → Hp → Prop := fun i σ H' => ∃ (a ps : Addr) (W : Wd) (gs : List Int) (t d : Option V), σ = [some (.ref p), some (.ref a), some (.ref ps), some (.ref l), t, d, none] ∧ Exd p H H' ∧ Dice p H' ∧ WdAt K T.C_World H' ps W ∧ PlAt K H' a W ∧ W.gd (12000000000003 + i) ∧ H' l = some (.lst (gs.map V.int)) ∧ gs.Nodup ∧ (∀ g ∈ gs, g < W.n) ∧ gs.length ≤ 12 + i
    refine q_forD (RN := fun n => n ≤ 17) (dv_op (R1 := fun v => v = .int 10) (R2' := fun v => ∃ r : Int, v = .int r ∧ 0 ≤ r ∧ r < 8) (dv_c rfl) (dv_roll (m := 8) rfl (fun H1 => ev_c) (by decide) (by decide)) ?_) (fun n hn => by omega) d3 Pv (fun H4 x4 d4 => ?_) (fun i σ' H' n hn hi ⟨a, ps, W, gs, t, d, hσ, x4, d4, hW4, hP4, hg4, hl4, hnd, hlt, hgl⟩ => ?_) fun n σ' H' hn ⟨a, ps, W, gs, t, d, hσ, x4, d4, hW4, hP4, hg4, hl4, hnd, hlt, hgl⟩ => ?_
    · rintro x y H4 rfl ⟨r, rfl, h0, h1⟩
      exact ⟨_, rv_I0, (10 + r).toNat, by rw [Int.toNat_of_nonneg (by omega)], by omega⟩
    · obtain ⟨y1, y2, y3, hpd⟩ := id d3
      exact ⟨a, ps, W, Tg.ids W.ts, none, none, rfl, (x2.trans (Exd.of e3)).trans x4, d4, hW.exd x4 hpd, (hP.ex e3).exd x4 hpd, by rw [show (12000000000003 + ((0 : Nat) : Int)) = 12000000000003 from rfl]; exact hg, x4 _ _ hlp hl3, hg.asc.nodup, fun g hgm => by
        obtain ⟨t, ht, rfl⟩ := List.mem_map.mp hgm
        exact hg.id_lt ht, by rw [tg_len]; exact hg.len⟩
    · subst hσ
      obtain ⟨y1, y2, y3, hpd⟩ := id d4
      refine q_asgSp (vs := [.ref p, .ref ps, .ref a]) (by walk_at "ea") fun H5 e5 => ⟨12000000000003 + i, p, ps, a, W, rfl, d4.ex e5, hW4.ex e5, hP4.ex e5, hg4, by omega, fun r xs H6 hr e6 d6 h6 ⟨w', a', W', hx, hw', ha', hg', hnn⟩ => ?_⟩
      subst hx
      have hpd5 := e5 _ _ hpd
      have x6 : Exd p H H6 := (x4.trans (Exd.of e5)).trans e6
      have hW6 := (hW4.ex e5).exd e6 hpd5
      have hP6 := (hP4.ex e5).exd e6 hpd5
      have hl6 := e6 _ _ hlp (e5 _ _ hl4)
      have hgW : W.gd 1000000000000000000 := ⟨hg4.t, hg4.n0, by have := hg4.nb; omega, hg4.l0, hg4.lb, hg4.len, hg4.tg, hg4.asc⟩
      have hgW' : W'.gd 1000000000000000000 := ⟨hg'.t, hg'.n0, by have := hg'.nb; omega, hg'.l0, hg'.lb, hg'.len, hg'.tg, hg'.asc⟩
      have hgi : W'.gd (12000000000003 + ((i + 1 : Nat) : Int)) := ⟨hg'.t, hg'.n0, by have := hg'.nb; omega, hg'.l0, hg'.lb, hg'.len, hg'.tg, hg'.asc⟩
      refine q_when (b := false) (et_or (a := false) (b := false) (et_is (et_isNn (ev_var rfl)) rfl) fun _ => et_is (et_or (a := false) (b := false) (et_is (et_not (et_B (b := true) (ev_callP (vs := [.ref ps, .ref a]) (by walk_at "ea") fun H7 e7 => ⟨ps, a, W, rfl, hW6.ex e7, hP6.ex e7, hgW, rfl⟩))) rfl) fun _ => et_is (et_not (et_B (b := true) (ev_callP (vs := [.ref w', .ref a']) (ea_cons (ev_op (x := .ref r) (y := .int 0) (ev_var rfl) ev_c (rv_ixT (st_of h6) rfl)) (ea_cons (ev_op (x := .ref r) (y := .int 1) (ev_var rfl) ev_c (rv_ixT (st_of h6) rfl)) ea_nil)) fun H7 e7 => ⟨w', a', W', rfl, hw'.ex e7, ha'.ex e7, hgW', rfl⟩))) rfl) rfl) (fun h => by cases h) fun _ H7 e7 => ?_
      have x7 := x6.trans (Exd.of e7)
      have d7 := d6.ex e7
      have h7 := e7 _ _ h6
      have hl7 := e7 _ _ hl6
      have hrl : r ≠ l := fun z => by rw [z, hl7] at h7; cases h7
      obtain ⟨aT', hPl', hT'⟩ := ha'.ex e7
      obtain ⟨aT2, hPl2, hT2⟩ := hP6.ex e7
      refine q_when (b := decide (W'.n > W.n)) (et_test (ev_op (x := .int W'.n) (y := .int W.n) (ev_op (x := .ref a') (y := .int 1) (ev_op (x := .ref r) (y := .int 1) (ev_var rfl) ev_c (rv_ixT (st_of h7) rfl)) ev_c (rv_ixT hPl' rfl)) (ev_op (x := .ref a) (y := .int 1) (ev_var rfl) ev_c (rv_ixT hPl2 rfl)) rv_I0)) (fun hb H8 e8 => ?_) fun hb H8 e8 => ?_
      · have hgt : W'.n > W.n := of_decide_eq_true hb
        have hl8 := e8 _ _ hl7
        refine s_app hl8 (ev_var rfl) (v := .int W.n) (ev_op (x := .ref a) (y := .int 1) (ev_var rfl) ev_c (rv_ixT (ex_t e8 hPl2) rfl)) (by rw [List.length_map]; omega) fun H9 e9 => ?_
        have hl9 := e9 _ _ hl8
        have xu : Exd l H9 (upd H9 l (.lst (gs.map V.int ++ [.int W.n]))) := Exd.upd
        have e79 := e8.trans e9
        refine s_asg2T (p := r) (v1 := .ref w') (v2 := .ref a') (ev_var rfl) (xu.tlst hl9 (st_of (e79 _ _ h7))) fun H10 e10 => ⟨a', w', W', gs ++ [W.n], _, _, rfl, (hout _ _ (x7.trans (Exd.of e79))).trans (Exd.of e10), ?_, ((hw'.ex (e7.trans e79)).exd xu hl9).ex e10, ((ha'.ex (e7.trans e79)).exd xu hl9).ex e10, hgi, by rw [List.map_append]; exact e10 _ _ upd_same, ?_, ?_, by rw [List.length_append]; show _ + 1 ≤ _; omega⟩
        · obtain ⟨z1, z2, z3, z4⟩ := d7.ex e79
          exact Dice.ex (H := upd H9 l (.lst (gs.map V.int ++ [.int W.n]))) e10 ⟨z1, z2, z3, by rw [upd_ne (Ne.symm hlp)]; exact z4⟩
        · rw [List.nodup_append]
          refine ⟨hnd, (by simp), fun g hgm b hbm => ?_⟩
          rw [List.mem_singleton.mp hbm]
          have := hlt g hgm
          omega
        · intro g hgm
          rcases List.mem_append.mp hgm with z | z
          · have := hlt g z
            omega
          · rw [List.mem_singleton.mp z]
            omega
      · refine s_asg2T (p := r) (v1 := .ref w') (v2 := .ref a') (ev_var rfl) (st_of (e8 _ _ h7)) fun H10 e10 => ⟨a', w', W', gs, _, _, rfl, x7.trans (Exd.of (e8.trans e10)), d7.ex (e8.trans e10), hw'.ex (e7.trans (e8.trans e10)), ha'.ex (e7.trans (e8.trans e10)), hgi, (e8.trans e10) _ _ hl7, hnd, fun g hgm => by have := hlt g hgm; omega, by omega⟩
    · subst hσ
      refine s_ret (v := .bl true) (ev_is (ev_andV (a := true) (b := true) (ev_is (ev_op (ev_lenSet (K := K) (w := w) (gs := gs) rfl hl4 (by omega) hnd) (ev_cb (vs := [.ref l]) (ea_cons (ev_var rfl) ea_nil) (rc_lenLn (sq_of hl4) (List.length_map ..))) (rv_eq rfl)) (by simp)) fun _ => ev_callP (vs := [.ref ps, .ref a]) (by walk_at "ea") fun H5 e5 => ⟨ps, a, W, rfl, hW4.ex e5, hP4.ex e5, ⟨hg4.t, hg4.n0, by have := hg4.nb; omega, hg4.l0, hg4.lb, hg4.len, hg4.tg, hg4.asc⟩, rfl⟩) rfl) fun H5 e5 => q _ H5 rfl (x4.trans (Exd.of e5)) (d4.ex e5)
end
end Kz
set_option Elab.async false
set_option linter.all false
set_option maxRecDepth 100000
set_option maxHeartbeats 4000000
set_option exponentiation.threshold 500
namespace Kz
open PySem PySem.Spec PyProof.Rows L2 Evl Vr
local macro_rules | `(tactic| walk_at "sc") => `(tactic| first | (with_reducible assumption) | (with_reducible exact sc_mul (by omega)) | (with_reducible exact sc_mulr (by omega)) | (with_reducible exact sc_div (by omega) (by decide)) | (show (0 : Int) < _; omega) | (show _ ≠ (0 : Int); omega) | (with_reducible rfl) | decide)
local macro_rules | `(tactic| walk_at "sq") => `(tactic| first | assumption | exact sq_of (by assumption) | exact st_of (by assumption))
local macro_rules | `(tactic| walk_at "pl") => `(tactic| first | assumption | exact pl_int | exact pl_bl | exact pl_str | exact pl_non | exact pl_lst (by assumption) | exact pl_tup (by assumption) | exact pl_dK (by assumption))
local macro_rules | `(tactic| walk_at "rv") => `(tactic| first
  | with_reducible exact rv_I0
  | with_reducible exact ru_neg
  | ((with_reducible apply rv_I); walk_at "sc")
  | ((with_reducible apply rv_ixL); walk_at "sq"; first | rfl | assumption)
  | ((with_reducible apply rv_ixT); walk_at "sq"; first | rfl | assumption)
  | ((with_reducible apply rv_eq); rfl) | ((with_reducible apply rv_ne); rfl))
local macro_rules | `(tactic| walk_at "rc") => `(tactic| first
  | with_reducible exact rc_I1 | with_reducible exact rc_B1 | with_reducible exact rc_I2 | ((with_reducible apply rc_repr); walk_at "sc") | ((with_reducible apply rc_lenL); walk_at "sq")
  | ((with_reducible apply rc_isiInt); walk_at "pl") | ((with_reducible apply rc_isiBool); walk_at "pl"))
local macro_rules | `(tactic| walk_at "ea") => `(tactic| first
  | with_reducible exact ea_nil | ((with_reducible apply ea_cons); walk_at "ev"; walk_at "ea"))
local macro_rules | `(tactic| walk_at "pow") => `(tactic| first
  | with_reducible exact ev_pow (a := 10) (b := 9) (c := 1000000000) (by decide +kernel) (by decide +kernel)
  | with_reducible exact ev_pow (a := 10) (b := 10) (c := 10000000000) (by decide +kernel) (by decide +kernel)
  | with_reducible exact ev_pow (a := 10) (b := 12) (c := 1000000000000) (by decide +kernel) (by decide +kernel)
  | with_reducible exact ev_pow (a := 10) (b := 17) (c := 100000000000000000) (by decide +kernel) (by decide +kernel)
  | with_reducible exact ev_pow (a := 10) (b := 20) (c := 100000000000000000000) (by decide +kernel) (by decide +kernel)
  | with_reducible exact ev_pow (a := 10) (b := 29) (c := 100000000000000000000000000000) (by decide +kernel) (by decide +kernel)
  | with_reducible exact ev_pow (a := 10) (b := 30) (c := 1000000000000000000000000000000) (by decide +kernel) (by decide +kernel)
  | with_reducible exact ev_pow (a := 10) (b := 40) (c := 10000000000000000000000000000000000000000) (by decide +kernel) (by decide +kernel)
  | with_reducible exact ev_pow (a := 10) (b := 57) (c := 1000000000000000000000000000000000000000000000000000000000) (by decide +kernel) (by decide +kernel)
  | with_reducible exact ev_pow (a := 10) (b := 58) (c := 10000000000000000000000000000000000000000000000000000000000) (by decide +kernel) (by decide +kernel)
  | with_reducible exact ev_pow (a := 10) (b := 59) (c := 100000000000000000000000000000000000000000000000000000000000) (by decide +kernel) (by decide +kernel)
  | with_reducible exact ev_pow (a := 10) (b := 60) (c := 1000000000000000000000000000000000000000000000000000000000000) (by decide +kernel) (by decide +kernel))
local macro_rules | `(tactic| walk_at "call") => `(tactic| (intro H9 e9; first | exact ⟨_, rfl, rfl⟩ | exact ⟨_, _, rfl, rfl⟩ | exact ⟨_, _, _, rfl, rfl⟩ | exact ⟨_, rfl, by walk_at "pl", rfl⟩ | (refine ⟨_, _, _, rfl, ?_, rfl⟩; first | exact Plain.ex e9 (by assumption) | walk_at "pl") | (refine ⟨_, rfl, ?_, rfl⟩; first | exact Plain.ex e9 (by assumption) | walk_at "pl")))
local macro_rules | `(tactic| walk_at "ev") => `(tactic| first
  | with_reducible exact ev_c
  | exact ev_var rfl
  | walk_at "pow"
  | ((with_reducible apply ev_op); walk_at "ev"; walk_at "ev"; walk_at "rv")
  | ((with_reducible apply ev_un); walk_at "ev"; walk_at "rv")
  | ((with_reducible apply ev_cb); walk_at "ea"; walk_at "rc")
  | ((with_reducible apply ev_callP); walk_at "ea"; walk_at "call")
  | ((with_reducible apply ev_chain); walk_at "ev"; walk_at "ev"; walk_at "rv"; walk_at "ev"; walk_at "rv")
  | ((with_reducible apply ev_andV); walk_at "ev"; intro _; walk_at "ev")
  | ((with_reducible apply ev_orV); walk_at "ev"; intro _; walk_at "ev")
  | ((with_reducible apply ev_ite); walk_at "et"; intro _; walk_at "ev"; intro _; walk_at "ev")
  | ((with_reducible apply ev_notV); walk_at "ev"))
local macro_rules | `(tactic| walk_at "et") => `(tactic| first
  | ((with_reducible apply et_test); walk_at "ev")
  | ((with_reducible apply et_B); walk_at "ev")
  | ((with_reducible apply et_and); walk_at "et"; intro _; walk_at "et")
  | ((with_reducible apply et_or); walk_at "et"; intro _; walk_at "et")
  | ((with_reducible apply et_not); walk_at "et"))
open En Wo
section
variable {σ : L2.St} {H H' : Hp} {te ta tb : TE} {ts tr : TA} {tz tu : TS} {D : Ends} {K : PySem.W.Frag} {C p a q l : Addr} {W : Wd} {xs ys : List V} {v1 v2 : V}
theorem s_whenDice {ok : List V → Hp → Addr → (V → Prop) → Prop} {ns : List Int} {i : Nat} (h : EvA ts σ H [.ref a, .int i]) (hS : SqL K H a (ns.map V.int)) (ho : ∀ p H1, H p = none → Ex H H1 → Dice p H1 → ok [.ref p] H1 p (fun v => v = .bl true)) (k : ∀ H1, Ex H H1 → D.nx σ H1) :
    tIfS (tNot (tB (tCall (Draws ok) [] E0 (tCons (tCall (spDice K) [] E0 ts) tNil)))) tu tNext D σ H :=
  h H (Ex.refl H) _ fun H1 e1 => ⟨a, ns, i, rfl, ex_l e1 hS, fun p H2 hp e2 d2 => ⟨p, _, ho p H2 (fresh_back e1 hp) (e1.trans e2) d2, d2, fun v H3 hv e3 d3 => ⟨true, hv, by
    show (if (!true) = true then tu D σ H3 else tNext D σ H3)
    rw [if_neg (by decide)]
    exact k H3 (Exd.out e3 (e1.trans e2) (fresh_back e1 hp))⟩⟩⟩
/-- made called, where there is room -/
theorem sp_madeL {E : XK} {P : List V → Hp → Prop} {Q : VK} {kd : Str} {ns : List Int} (h : EvAP ts σ H P) (hP : ∀ vs H1, P vs H1 → ∃ (p rn : Addr), vs = [.ref p, .str kd, .ref rn] ∧ WdAt K C H1 p W ∧ NsAt K H1 rn ns) (hl : W.ts.length < 12) (hA : Asc W.ts W.n) (hk : nameOk kd) (n1 : 1 ≤ ns.length) (n2 : ns.length ≤ 8) (n3 : ∀ n ∈ ns, num n)
    (k : ∀ r p' H2, H r = none → Ex H H2 → WdAt K C H2 p' (W.add kd ns) → H2 r = some (.tup [.ref p', .int W.n]) → Q (.ref r) H2) : tCall (spMade K C) [] E ts σ H Q := h H (Ex.refl H) _ fun vs H1 e1 hp => by
  obtain ⟨p, rn, rfl, hW, hN⟩ := hP vs H1 hp
  refine ⟨p, rn, W, kd, ns, rfl, hW, by omega, hA, hk, hN, n1, n2, n3, fun r H2 hr e2 hM => ?_⟩
  rcases hM with ⟨h, _⟩ | ⟨_, p', h1, h2⟩
  · omega
  · exact k r p' H2 (fresh_back e1 hr) (e1.trans e2) h1 h2
/-- made called, where there is none -/
theorem sp_made12 {E : XK} {P : List V → Hp → Prop} {Q : VK} {kd : Str} {ns : List Int} (h : EvAP ts σ H P) (hP : ∀ vs H1, P vs H1 → ∃ (rn : Addr), vs = [.ref p, .str kd, .ref rn] ∧ WdAt K C H1 p W ∧ NsAt K H1 rn ns) (hl : W.ts.length = 12) (hA : Asc W.ts W.n) (hk : nameOk kd) (n1 : 1 ≤ ns.length) (n2 : ns.length ≤ 8) (n3 : ∀ n ∈ ns, num n)
    (k : ∀ r H2, H r = none → Ex H H2 → H2 r = some (.tup [.ref p, .non]) → Q (.ref r) H2) : tCall (spMade K C) [] E ts σ H Q := h H (Ex.refl H) _ fun vs H1 e1 hp => by
  obtain ⟨rn, rfl, hW, hN⟩ := hP vs H1 hp
  refine ⟨p, rn, W, kd, ns, rfl, hW, by omega, hA, hk, hN, n1, n2, n3, fun r H2 hr e2 hM => ?_⟩
  rcases hM with ⟨_, h⟩ | ⟨h, _⟩
  · exact k r H2 (fresh_back e1 hr) (e1.trans e2) h
  · omega
theorem q_made {g : TG} {E : XK} {P : List V → Hp → Prop} {kd : Str} {ns : List Int} (h : EvAP ts σ H P) (hP : ∀ vs H1, P vs H1 → ∃ (p rn : Addr), vs = [.ref p, .str kd, .ref rn] ∧ WdAt K C H1 p W ∧ NsAt K H1 rn ns) (hl : W.ts.length < 12) (hA : Asc W.ts W.n) (hk : nameOk kd) (n1 : 1 ≤ ns.length) (n2 : ns.length ≤ 8) (n3 : ∀ n ∈ ns, num n)
    (k : ∀ r p' H2, H r = none → Ex H H2 → WdAt K C H2 p' (W.add kd ns) → H2 r = some (.tup [.ref p', .int W.n]) → g (.ref r) σ H2 fun σ2 H3 => tz D σ2 H3) : tSeq (tAsg (tCall (spMade K C) [] E ts) g) tz D σ H := sp_madeL (Q := fun v H1 => g v σ H1 fun σ2 H2 => tz D σ2 H2) h hP hl hA hk n1 n2 n3 k
theorem ev_made1 {E : XK} {P : List V → Hp → Prop} {kd : Str} {ns : List Int} (h : EvAP ts σ H P) (hP : ∀ vs H1, P vs H1 → ∃ (p rn : Addr), vs = [.ref p, .str kd, .ref rn] ∧ WdAt K C H1 p W ∧ NsAt K H1 rn ns) (hl : W.ts.length < 12) (hA : Asc W.ts W.n) (hk : nameOk kd) (n1 : 1 ≤ ns.length) (n2 : ns.length ≤ 8) (n3 : ∀ n ∈ ns, num n) : Ev (tOp (rIxT K) (tCall (spMade K C) [] E ts) (tC (.int 1))) σ H (.int W.n) := fun H1 e Q q =>
  sp_madeL (H := H1) (Q := fun v H2 => tC (.int 1) σ H2 fun u H3 => rIxT K v u H3 Q) (fun H2 e2 => h H2 (e.trans e2)) hP hl hA hk n1 n2 n3 fun r p' H2 hr e2 hW h2 => ⟨r, [.ref p', .int W.n], 1, .int W.n, rfl, rfl, st_of h2, rfl, q H2 e2⟩
theorem ev_ne12 {E : XK} {P : List V → Hp → Prop} {kd : Str} {ns : List Int} (h : EvAP ts σ H P) (hP : ∀ vs H1, P vs H1 → ∃ (rn : Addr), vs = [.ref p, .str kd, .ref rn] ∧ WdAt K C H1 p W ∧ NsAt K H1 rn ns) (hl : W.ts.length = 12) (hA : Asc W.ts W.n) (hk : nameOk kd) (n1 : 1 ≤ ns.length) (n2 : ns.length ≤ 8) (n3 : ∀ n ∈ ns, num n) (h2 : EvU tb σ H [.ref p, .non]) : Ev (tOp (rNeS K) (tCall (spMade K C) [] E ts) tb) σ H (.bl false) := fun H1 e Q q =>
  sp_made12 (H := H1) (p := p) (Q := fun v H2 => tb σ H2 fun u H3 => rNeS K v u H3 Q) (fun H2 e2 => h H2 (e.trans e2)) hP hl hA hk n1 n2 n3 fun r H2 hr e2 hr2 => h2 H2 (e.trans e2) _ fun b H3 hb e3 hb3 => ⟨r, b, [.ref p, .non], rfl, rfl, st_of (e3 _ _ hr2), st_of hb3, fun v hv => by
    simp only [List.mem_cons, List.not_mem_nil, or_false] at hv
    rcases hv with rfl | rfl
    · exact .inr ⟨p, rfl⟩
    · exact .inl rfl, q H3 (e2.trans e3)⟩
/-- a new thing, new things -/
def EvTg (K : PySem.W.Frag) (te : TE) (σ : L2.St) (H : Hp) (t : Tg) : Prop := ∀ H1, Ex H H1 → ∀ Q : VK, (∀ r H2, Ex H1 H2 → TgAt K H2 r t → Q (.ref r) H2) → te σ H1 Q
def EvTs (K : PySem.W.Frag) (te : TE) (σ : L2.St) (H : Hp) (us : List Tg) : Prop := ∀ H1, Ex H H1 → ∀ Q : VK, (∀ r H2, Ex H1 H2 → TsAt K H2 r us → Q (.ref r) H2) → te σ H1 Q
theorem etg {t : Tg} {tc : TE} (h1 : Ev ta σ H (.int t.id)) (h2 : Ev tb σ H (.str t.kd)) (h3 : EvU tc σ H (t.ns.map V.int)) : EvTg K (tTup (tCons ta (tCons tb (tCons tc tNil)))) σ H t := fun H1 e Q q =>
  (ap_cons h1 (ap_cons h2 (ap_consU h3 ap_nil))) H1 e _ fun vs H2 e2 ⟨_, y1, _, y2, b, _, y3, y4, y5⟩ => ⟨by rw [y1, y2, y3, y5]; exact sz_of (by show 3 ≤ 100000; decide), fun r hr => q r _ (e2.trans (Ex.new hr)) ⟨b, st_of (by rw [upd_same, y1, y2, y3, y5]), st_of (Ex.new hr _ _ y4)⟩⟩
theorem ets2 {t1 t2 : Tg} (h1 : EvTg K ta σ H t1) (h2 : EvTg K tb σ H t2) : EvTs K (tTup (tCons ta (tCons tb tNil))) σ H [t1, t2] := fun H1 e Q q =>
  h1 H1 e _ fun a H2 e2 k1 => h2 H2 (e.trans e2) _ fun b H3 e3 k2 => ⟨sz_of (by show 2 ≤ 100000; decide), fun r hr => q r _ ((e2.trans e3).trans (Ex.new hr)) ⟨[a, b], st_of upd_same, rfl, fun i r' t y1 y2 => by
    match i with
    | 0 => cases y1; cases y2; exact (k1.ex e3).ex (Ex.new hr)
    | 1 => cases y1; cases y2; exact k2.ex (Ex.new hr)
    | n + 2 => cases y1⟩⟩
theorem ets0 : EvTs K (tTup tNil) σ H [] := fun H1 e Q q => ⟨sz_of (by show 0 ≤ 100000; decide), fun r hr => q r _ (Ex.new hr) ⟨[], st_of upd_same, rfl, fun i r' t y1 _ => by cases y1⟩⟩
theorem ew_newTs {E : XK} {t1 t2 t3 t4 : TE} (h1 : Ev t1 σ H (.int W.t)) (h2 : Ev t2 σ H (.int W.n)) (h3 : Ev t3 σ H (.int W.l)) (h4 : EvTs K t4 σ H W.ts) (ok : W.ok) : EvW K C (tMake C (spInit K C) [] E (tCons t1 (tCons t2 (tCons t3 (tCons t4 tNil))))) σ H W :=
  ew_make (fun H1 e Q q => h1 H1 e _ fun H2 e2 => h2 H2 (e.trans e2) _ fun H3 e3 => h3 H3 ((e.trans e2).trans e3) _ fun H4 e4 => h4 H4 (((e.trans e2).trans e3).trans e4) _ fun b H5 e5 hT => q _ H5 (((e2.trans e3).trans e4).trans e5) ⟨b, rfl, hT⟩) ok
theorem ev_strEW {E : XK} (ha : EvW K C ta σ H W) (hl : W.ts.length ≤ 12) (ht : W.t.natAbs.log2 < 1920) : Ev (tCB (rStrO C (Pure (kText K C)) E) (tCons ta tNil)) σ H (.str W.text) := fun H1 e Q q => ha H1 e _ fun p H2 hp e2 hW => by
  obtain ⟨rs, aT, aO, aD, hA⟩ := id hW
  obtain ⟨⟨dx, hob⟩, _, _, _, _⟩ := id hA
  exact ⟨p, dx, _, rfl, hob, .str W.text, ⟨p, W, rfl, ⟨rs, aT, aO, aD, hA⟩, hl, ht, rfl⟩, fun H3 e3 => ⟨W.text, rfl, q H3 (e2.trans e3)⟩⟩
theorem evd_numsW {E : XK} {t : Tg} (ha : EvW K C ta σ H W) (hA : Asc W.ts W.n) (hm : t ∈ W.ts) : EvD K (tMeth C "numbers" (Pure (kNums K C)) [] E ta (tCons (tC (.int t.id)) tNil)) σ H (.tuple (t.ns.map PyData.int)) := fun H1 e Q q => ha H1 e _ fun p H2 hp e2 hW => by
  obtain ⟨rs, aT, aO, aD, hWA⟩ := id hW
  obtain ⟨⟨dx, hob⟩, _, _, _, _⟩ := id hWA
  obtain ⟨rn, hTh⟩ := hW.thing hm
  obtain ⟨_, _, _, _, _, _, _, _, _, _, hN⟩ := id hTh.ex
  exact ⟨p, dx, _, rfl, hob, rfl, .ref rn, ⟨p, W, t, rn, rfl, hTh, hA.nodup, rfl⟩, fun H3 e3 => q _ H3 (e2.trans e3) (.tup (ex_t e3 hN) (dpa_ints _))⟩
/-- [new object for .. in range(n)] -/
theorem lcR_new {vs : List Nat} {g : TG} {j n : Nat} {Q : VK} (Pr : Nat → Addr → Hp → Prop) (hP : ∀ i r H H' Dl acc, H Dl = some (.lst acc) → Exd Dl H H' → Pr i r H → Pr i r H') (hn : n ≤ 1000) (hw : ∀ x, wipe ((wipe σ vs).set j (some x)) vs = wipe σ vs)
    (hs : ∀ (i : Nat) (H1 : Hp) (R : VK), Ex H H1 → i < n → (∀ r H2, Ex H1 H2 → Pr i r H2 → R (.ref r) H2) → te ((wipe σ vs).set j (some (.int (0 + (i : Int))))) H1 R)
    (k : ∀ l (rs : List Addr) H', H l = none → Ex H H' → H' l = some (.lst (rs.map V.ref)) → rs.length = n → (∀ (i : Nat) r, rs[i]? = some r → Pr i r H') → Q (.ref l) H') : tLc (iRng1 (tCons (tC (.int n)) tNil)) (gName j) tYes te vs σ H Q :=
  ⟨n, rfl, by omega, by omega, fun Dl hD => by
    rw [show ((n : Int).toNat) = n from Int.toNat_natCast n]
    refine lc_range (fun i H' => Ex H H' ∧ ∃ rs : List Addr, H' Dl = some (.lst (rs.map V.ref)) ∧ rs.length = i ∧ ∀ (j : Nat) r, rs[j]? = some r → Pr j r H') ⟨Ex.new hD, [], upd_same, rfl, fun j r h => by cases h⟩ ?_ ?_
    · rintro i H' hi ⟨p1, rs, p2, p3, p4⟩
      refine ⟨hw _, ?_⟩
      unfold tYes
      dsimp only
      rw [if_pos rfl]
      refine hs i H' _ p1 hi fun r H4 e4 hr => ?_
      have hD4 := e4 _ _ p2
      have xd : Exd Dl H4 (upd H4 Dl (.lst (rs.map V.ref ++ [.ref r]))) := Exd.upd
      refine ⟨rs.map V.ref, hD4, sz_lt (by rw [List.length_map]; omega), Ex.mut (p1.trans e4) hD, rs ++ [r], ?_, by rw [List.length_append, p3]; rfl, fun j r' hj => ?_⟩
      · rw [upd_same, List.map_append]
        rfl
      · refine hP j r' H4 _ Dl _ hD4 xd ?_
        by_cases hjl : j < i
        · rw [List.getElem?_append_left (by omega)] at hj
          exact hP j r' H' H4 Dl _ p2 (Exd.of e4) (p4 j r' hj)
        · have hj2 : j = i := by
            have := (List.getElem?_eq_some_iff.mp hj).1
            rw [List.length_append, p3, List.length_singleton] at this
            omega
          subst hj2
          rw [List.getElem?_append_right (by omega), p3, Nat.sub_self] at hj
          cases hj
          exact hr
    · rintro H' ⟨p1, rs, p2, p3, p4⟩
      exact k Dl rs H' hD p1 p2 p3 p4⟩
theorem ets_lc {vs : List Nat} {j n : Nat} {us : List Tg} (hl : us.length = n) (hn : n ≤ 1000) (hw : ∀ x, wipe ((wipe σ vs).set j (some x)) vs = wipe σ vs) (he : ∀ (i : Nat) (t : Tg) H1, Ex H H1 → us[i]? = some t → EvTg K te ((wipe σ vs).set j (some (.int (0 + (i : Int))))) H1 t) : EvTs K (tCB (rTupL K) (tCons (tLc (iRng1 (tCons (tC (.int n)) tNil)) (gName j) tYes te vs) tNil)) σ H us := fun H1 e Q q =>
  lcR_new (H := H1) (g := gName j) (Q := fun x H2 => rTupL K [x] H2 Q) (fun i r H' => ∃ t, us[i]? = some t ∧ TgAt K H' r t) (fun i r H2 H3 Dl acc hDl x ⟨t, y1, y2⟩ => ⟨t, y1, y2.tl x hDl⟩) hn hw (fun i H2 R e2 hi k => he i us[i] H2 (e.trans e2) (List.getElem?_eq_getElem (by omega)) H2 (Ex.refl H2) _ fun r H3 e3 hT => k r H3 e3 ⟨us[i], List.getElem?_eq_getElem (by omega), hT⟩) fun l rs H2 hl2 e2 h2 hlen hP => ⟨l, rs.map V.ref, rfl, sq_of h2, fun b hb => q b _ (e2.trans (Ex.new hb)) ⟨rs, st_of upd_same, by rw [hlen, hl], fun i r t y1 y2 => by
    obtain ⟨t', z1, z2⟩ := hP i r y1
    rw [y2] at z1
    cases z1
    exact z2.ex (Ex.new hb)⟩⟩
end
def W1 : Wd := ⟨3, 8, 0, [⟨2, "box", [1]⟩, ⟨7, "dot", [4, 5]⟩]⟩
def Wf : Wd := ⟨0, 12, 1, (List.range 12).map fun (i : Nat) => ⟨(i : Int), "a", [(i : Int)]⟩⟩
theorem dot_ok : nameOk "dot" := ⟨by decide +kernel, by decide +kernel, by decide +kernel, by decide +kernel, by decide +kernel⟩
theorem box_ok : nameOk "box" := ⟨by decide +kernel, by decide +kernel, by decide +kernel, by decide +kernel, by decide +kernel⟩
theorem a_ok : nameOk "a" := ⟨by decide +kernel, by decide +kernel, by decide +kernel, by decide +kernel, by decide +kernel⟩
theorem w1_ok : W1.ok := by
  refine ⟨⟨by decide, by decide⟩, ⟨by decide, by decide⟩, ⟨by decide, by decide⟩, ⟨by decide, fun t ht => ?_⟩, by unfold Asc; decide +kernel⟩
  simp only [W1, List.mem_cons, List.not_mem_nil, or_false] at ht
  rcases ht with rfl | rfl
  · exact ⟨⟨by decide, by decide⟩, box_ok, by decide, by decide, by unfold num; decide⟩
  · exact ⟨⟨by decide, by decide⟩, dot_ok, by decide, by decide, by unfold num; decide⟩
theorem wf_ok : Wf.ok := by
  refine ⟨⟨by decide, by decide⟩, ⟨by decide, by decide⟩, ⟨by decide, by decide⟩, ⟨by decide +kernel, fun t ht => ?_⟩, by unfold Asc; decide +kernel⟩
  obtain ⟨i, hi, rfl⟩ := List.mem_map.mp ht
  have hi := List.mem_range.mp hi
  exact ⟨⟨by show (0 : Int) ≤ i; omega, by show (i : Int) < _; omega⟩, a_ok, by show 1 ≤ 1; decide, by show 1 ≤ 8; decide, fun n hn => by rw [List.mem_singleton.mp hn]; unfold num; omega⟩
theorem kds1 : KdsOk W1.ts := by unfold KdsOk; decide +kernel
theorem kdsf : KdsOk Wf.ts := by unfold KdsOk; decide +kernel
end Kz
set_option Elab.async false
set_option linter.all false
set_option maxRecDepth 100000
set_option maxHeartbeats 4000000
set_option exponentiation.threshold 500
namespace Kz
open PySem PySem.Spec PyProof.Rows L2 Evl Vr
local macro_rules | `(tactic| walk_at "sc") => `(tactic| first | (with_reducible assumption) | (with_reducible exact sc_mul (by omega)) | (with_reducible exact sc_mulr (by omega)) | (with_reducible exact sc_div (by omega) (by decide)) | (show (0 : Int) < _; omega) | (show _ ≠ (0 : Int); omega) | (with_reducible rfl) | decide)
local macro_rules | `(tactic| walk_at "sq") => `(tactic| first | assumption | exact sq_of (by assumption) | exact st_of (by assumption))
local macro_rules | `(tactic| walk_at "pl") => `(tactic| first | assumption | exact pl_int | exact pl_bl | exact pl_str | exact pl_non | exact pl_lst (by assumption) | exact pl_tup (by assumption) | exact pl_dK (by assumption))
local macro_rules | `(tactic| walk_at "rv") => `(tactic| first
  | with_reducible exact rv_I0
  | with_reducible exact ru_neg
  | ((with_reducible apply rv_I); walk_at "sc")
  | ((with_reducible apply rv_ixL); walk_at "sq"; first | rfl | assumption)
  | ((with_reducible apply rv_ixT); walk_at "sq"; first | rfl | assumption)
  | ((with_reducible apply rv_eq); rfl) | ((with_reducible apply rv_ne); rfl))
local macro_rules | `(tactic| walk_at "rc") => `(tactic| first
  | with_reducible exact rc_I1 | with_reducible exact rc_B1 | with_reducible exact rc_I2 | ((with_reducible apply rc_repr); walk_at "sc") | ((with_reducible apply rc_lenL); walk_at "sq")
  | ((with_reducible apply rc_isiInt); walk_at "pl") | ((with_reducible apply rc_isiBool); walk_at "pl"))
local macro_rules | `(tactic| walk_at "ea") => `(tactic| first
  | with_reducible exact ea_nil | ((with_reducible apply ea_cons); walk_at "ev"; walk_at "ea"))
local macro_rules | `(tactic| walk_at "pow") => `(tactic| first
  | with_reducible exact ev_pow (a := 10) (b := 9) (c := 1000000000) (by decide +kernel) (by decide +kernel)
  | with_reducible exact ev_pow (a := 10) (b := 10) (c := 10000000000) (by decide +kernel) (by decide +kernel)
  | with_reducible exact ev_pow (a := 10) (b := 12) (c := 1000000000000) (by decide +kernel) (by decide +kernel)
  | with_reducible exact ev_pow (a := 10) (b := 17) (c := 100000000000000000) (by decide +kernel) (by decide +kernel)
  | with_reducible exact ev_pow (a := 10) (b := 20) (c := 100000000000000000000) (by decide +kernel) (by decide +kernel)
  | with_reducible exact ev_pow (a := 10) (b := 29) (c := 100000000000000000000000000000) (by decide +kernel) (by decide +kernel)
  | with_reducible exact ev_pow (a := 10) (b := 30) (c := 1000000000000000000000000000000) (by decide +kernel) (by decide +kernel)
  | with_reducible exact ev_pow (a := 10) (b := 40) (c := 10000000000000000000000000000000000000000) (by decide +kernel) (by decide +kernel)
  | with_reducible exact ev_pow (a := 10) (b := 57) (c := 1000000000000000000000000000000000000000000000000000000000) (by decide +kernel) (by decide +kernel)
  | with_reducible exact ev_pow (a := 10) (b := 58) (c := 10000000000000000000000000000000000000000000000000000000000) (by decide +kernel) (by decide +kernel)
  | with_reducible exact ev_pow (a := 10) (b := 59) (c := 100000000000000000000000000000000000000000000000000000000000) (by decide +kernel) (by decide +kernel)
  | with_reducible exact ev_pow (a := 10) (b := 60) (c := 1000000000000000000000000000000000000000000000000000000000000) (by decide +kernel) (by decide +kernel))
local macro_rules | `(tactic| walk_at "call") => `(tactic| (intro H9 e9; first | exact ⟨_, rfl, rfl⟩ | exact ⟨_, _, rfl, rfl⟩ | exact ⟨_, _, _, rfl, rfl⟩ | exact ⟨_, rfl, by walk_at "pl", rfl⟩ | (refine ⟨_, _, _, rfl, ?_, rfl⟩; first | exact Plain.ex e9 (by assumption) | walk_at "pl") | (refine ⟨_, rfl, ?_, rfl⟩; first | exact Plain.ex e9 (by assumption) | walk_at "pl")))
local macro_rules | `(tactic| walk_at "ev") => `(tactic| first
  | with_reducible exact ev_c
  | exact ev_var rfl
  | walk_at "pow"
  | ((with_reducible apply ev_op); walk_at "ev"; walk_at "ev"; walk_at "rv")
  | ((with_reducible apply ev_un); walk_at "ev"; walk_at "rv")
  | ((with_reducible apply ev_cb); walk_at "ea"; walk_at "rc")
  | ((with_reducible apply ev_callP); walk_at "ea"; walk_at "call")
  | ((with_reducible apply ev_chain); walk_at "ev"; walk_at "ev"; walk_at "rv"; walk_at "ev"; walk_at "rv")
  | ((with_reducible apply ev_andV); walk_at "ev"; intro _; walk_at "ev")
  | ((with_reducible apply ev_orV); walk_at "ev"; intro _; walk_at "ev")
  | ((with_reducible apply ev_ite); walk_at "et"; intro _; walk_at "ev"; intro _; walk_at "ev")
  | ((with_reducible apply ev_notV); walk_at "ev"))
local macro_rules | `(tactic| walk_at "et") => `(tactic| first
  | ((with_reducible apply et_test); walk_at "ev")
  | ((with_reducible apply et_B); walk_at "ev")
  | ((with_reducible apply et_and); walk_at "et"; intro _; walk_at "et")
  | ((with_reducible apply et_or); walk_at "et"; intro _; walk_at "et")
  | ((with_reducible apply et_not); walk_at "et"))
open En Wo
section
variable {P : Program} {w : World} {K : PySem.W.Frag} {mg : Str → Option Value} {base : Heap}
def spLaw (K : PySem.W.Frag) : Sp := fun vs H Q _ => ∃ (a : Addr) (ns : List Int), vs = [.ref a] ∧ SqL K H a (ns.map V.int) ∧ ns.length ≤ 63 ∧ ∀ H', Q (.bl true) H'
theorem ok_law (T : Txt K mg w) {f : Addr} {fd : FuncData} (F : Fun K "law" "law" s_law f fd) : FnOk P w K mg base CX0 14 f fd ["script"] (spLaw K) := by
  have G_law_dice := ok_dice (P := P) (w := w) (base := base) T
  have G_law_right := ok_law_right (P := P) (w := w) (base := base) T
  have G_World___init__ := ok_init (P := P) (w := w) (base := base) T
  have G_World___eq__ := ok_eq (P := P) (w := w) (base := base) T
  have G_World___str__ := ok_str (P := P) (w := w) (base := base) T
  have G_World___contains__ := ok_contains (P := P) (w := w) (base := base) T
  have G_World_numbers := ok_numbers_of (P := P) (w := w) (base := base) T
  have G_made := ok_made (P := P) (w := w) (base := base) T
  have G_dropped := ok_dropped (P := P) (w := w) (base := base) T
  have G_changed := ok_changed (P := P) (w := w) (base := base) T
  refine F.ok sc_law (fun vs H Q E h => ?_) (fun cdv A outer s H vs Q E hr h => ?_)
  · obtain ⟨_, _, rfl, _⟩ := h; rfl
  · obtain ⟨a, ns, rfl, hS, hlen, q⟩ := h
    refine ⟨_, (pss_cons (ps_for PassesOwn.never rfl (pi_range1 rfl T.z_range (pa_cons (pe_callB (c_max rfl) (by rfl) T.z_max (by decide +kernel) (pa_cons pe_int (pa_cons (pe_callB (c_min rfl) (by rfl) T.z_min (by decide +kernel) (pa_cons pe_int (pa_cons (pe_callB c_len (by rfl) T.z_len PySem.boot_len (pa_cons (pv 0) pa_nil)) pa_nil))) pa_nil))) pa_nil)) (pg_name (i := 1) sc_law.nd rfl (.inl rfl)) (pss_one (ps_if (pt_not (pt_val (pe_call G_law_right (hr.mono (by decide)) (by rfl) T.g_law_right T.F_law_right.kp T.b_law_right .nil pass0 (pa_cons (pe_call G_law_dice (hr.mono (by decide)) (by rfl) T.g_law_dice T.F_law_dice.kp T.b_law_dice .nil pass0 (pa_cons (pv 0) (pa_cons (pv 1) pa_nil))) pa_nil)))) (pss_one (ps_ret pe_bl)) pss_nil)))
  (pss_cons (ps_set (i := 2) sc_law.nd rfl (.inl rfl) (pe_make T.mk_World G_World___init__ (hr.mono (by decide)) (by rfl) T.g_World T.b_World___init__ .nil pass0 (pa_cons pe_int (pa_cons pe_int (pa_cons pe_int (pa_cons (pe_tup (pa_cons (pe_tup (pa_cons pe_int (pa_cons pe_str (pa_cons (pe_tup (pa_cons pe_int pa_nil)) pa_nil)))) (pa_cons (pe_tup (pa_cons pe_int (pa_cons pe_str (pa_cons (pe_tup (pa_cons pe_int (pa_cons pe_int pa_nil))) pa_nil)))) pa_nil))) pa_nil))))))
  (pss_cons (ps_asg (pe_call G_made (hr.mono (by decide)) (by rfl) T.g_made T.F_made.kp T.b_made .nil pass0 (pa_cons (pe_call G_dropped (hr.mono (by decide)) (by rfl) T.g_dropped T.F_dropped.kp T.b_dropped .nil pass0 (pa_cons (pv 2) (pa_cons pe_int pa_nil))) (pa_cons pe_str (pa_cons (pe_tup (pa_cons pe_int (pa_cons pe_int pa_nil))) pa_nil)))) (pg_tup rfl (pgs_cons (pg_name (i := 3) sc_law.nd rfl (.inl rfl)) (pgs_cons (pg_name (i := 4) sc_law.nd rfl (.inl rfl)) pgs_nil))))
  (pss_cons (ps_set (i := 5) sc_law.nd rfl (.inl rfl) (pe_make T.mk_World G_World___init__ (hr.mono (by decide)) (by rfl) T.g_World T.b_World___init__ .nil pass0 (pa_cons pe_int (pa_cons pe_int (pa_cons pe_int (pa_cons (pe_callTy c_tupL (by rfl) T.z_tuple (by decide +kernel) (pa_cons (pe_lc (own := [("at", 6)]) (g := gName 6) (by rfl) sc_law.nd (pi_range1 rfl T.z_range (pa_cons pe_int pa_nil)) (blkOk_by (own := [("at", 6)]) (N := ["script", "spot", "first", "more", "thing", "full", "at"]) (sc := defScope s_law) (by decide +kernel)) (fun _ _ _ _ _ => pg_name (i := 6) sc_law.nd rfl (Or.inl rfl)) (fun _ _ _ _ _ => pts_nil) (fun _ _ _ _ _ => (pe_tup (pa_cons (pv 6) (pa_cons pe_str (pa_cons (pe_tup (pa_cons (pv 6) pa_nil)) pa_nil)))))) pa_nil)) pa_nil))))))
  (pss_cons (ps_if (PW.pt (pw_or (pt_cmpR op_ne (pv 4) pe_int (nomark _)) (pw_or (pt_cmpR (op_eqOK (K := K) rfl G_World___eq__ (hr.mono (by decide)) T.m_World___eq__ T.b_World___eq__ pass0) (pv 3) (pv 2) (nomark _)) (pw_or (pt_cmpR (op_neSK (K := K) rfl hr.units0) (pe_call G_made (hr.mono (by decide)) (by rfl) T.g_made T.F_made.kp T.b_made .nil pass0 (pa_cons (pv 5) (pa_cons pe_str (pa_cons (pe_tup (pa_cons pe_int pa_nil)) pa_nil)))) (pe_tup (pa_cons (pv 5) (pa_cons pe_non pa_nil))) (nomark _)) (pw_or1 (pt_cmpR op_ne (pe_ix ix_tup (pe_call G_made (hr.mono (by decide)) (by rfl) T.g_made T.F_made.kp T.b_made .nil pass0 (pa_cons (pe_call G_dropped (hr.mono (by decide)) (by rfl) T.g_dropped T.F_dropped.kp T.b_dropped .nil pass0 (pa_cons (pv 5) (pa_cons pe_int pa_nil))) (pa_cons pe_str (pa_cons (pe_tup (pa_cons pe_int pa_nil)) pa_nil)))) pe_int (fun _ _ => rfl)) pe_int (nomark _))))))) (pss_one (ps_ret pe_bl)) pss_nil)
  (pss_one (ps_ret (pe_cmpR (op_eqD hr.units) (pe_lst (pa_cons (pe_callTy (c_strO G_World___str__ (hr.mono (by decide)) T.m_World___str__ T.b_World___str__ pass0) (by rfl) T.z_str (by decide +kernel) (pa_cons (pe_make T.mk_World G_World___init__ (hr.mono (by decide)) (by rfl) T.g_World T.b_World___init__ .nil pass0 (pa_cons pe_int (pa_cons pe_int (pa_cons pe_int (pa_cons (pe_tup pa_nil) pa_nil))))) pa_nil)) (pa_cons (pe_callTy (c_strO G_World___str__ (hr.mono (by decide)) T.m_World___str__ T.b_World___str__ pass0) (by rfl) T.z_str (by decide +kernel) (pa_cons (pv 2) pa_nil)) (pa_cons (pe_cmpR (op_inO G_World___contains__ (hr.mono (by decide)) T.m_World___contains__ T.b_World___contains__ pass0) pe_int (pv 2) (by rfl)) (pa_cons (pe_cmpR (op_inO G_World___contains__ (hr.mono (by decide)) T.m_World___contains__ T.b_World___contains__ pass0) pe_int (pv 2) (by rfl)) (pa_cons (pe_meth (pe_call G_changed (hr.mono (by decide)) (by rfl) T.g_changed T.F_changed.kp T.b_changed .nil pass0 (pa_cons (pv 2) (pa_cons pe_int (pa_cons pe_int (pa_cons pe_int pa_nil))))) T.cl_World T.m_World_numbers G_World_numbers (hr.mono (by decide)) T.b_World_numbers .nil pass0 (pa_cons pe_int pa_nil)) pa_nil)))))) (pe_lst (pa_cons pe_str (pa_cons pe_str (pa_cons pe_bl (pa_cons pe_bl (pa_cons (pe_tup (pa_cons pe_int (pa_cons pe_int pa_nil))) pa_nil)))))) (nomark _))))))))), ?_⟩
    have hcnt : ∃ m : Int, 0 ≤ m ∧ m ≤ 1000 ∧ (if (if (ns.map V.int).length < (3 : Int) then ((ns.map V.int).length : Int) else 3) > 1 then (if (ns.map V.int).length < (3 : Int) then ((ns.map V.int).length : Int) else 3) else 1) = m := ⟨_, by split <;> split <;> omega, by split <;> split <;> omega, rfl⟩
    obtain ⟨m, hm0, hm1, hm⟩ := hcnt
    refine q_forR1 (n := m) (ea_cons (ev_is (by walk_at "ev") (by rw [← hm])) ea_nil) ⟨hm0, by omega⟩ (fun i σ' H' => Ex H H' ∧ ∃ z1, σ' = [some (.ref a), z1, none, none, none, none, none]) (fun H1 e1 => ⟨e1, none, rfl⟩) ?_ ?_
    · rintro i σ' H1 hi ⟨e1, z1, rfl⟩
      refine s_whenDice (a := a) (ns := ns) (i := i) (by walk_at "ea") (ex_l e1 hS) (fun p H2 _ _ _ => ⟨rfl, rfl⟩) fun H2 e2 => ⟨e1.trans e2, _, rfl⟩
    rintro σ' H1 ⟨e1, z1, rfl⟩
    refine q_asgW (W := W1) (ew_newTs ev_c ev_c ev_c (ets2 (t1 := ⟨2, "box", [1]⟩) (t2 := ⟨7, "dot", [4, 5]⟩) (etg ev_c ev_c (eu_tup (ea_cons ev_c ea_nil) (by decide))) (etg ev_c ev_c (eu_tup (ea_cons ev_c (ea_cons ev_c ea_nil)) (by decide)))) w1_ok) fun pf H2 hpf e2 hF => ?_
    refine q_made (W := W1.drop 7) (kd := "dot") (ns := [4, 5]) (P := fun vs H' => ∃ (p rn : Addr), vs = [.ref p, .str "dot", .ref rn] ∧ WdAt K T.C_World H' p (W1.drop 7) ∧ NsAt K H' rn [4, 5]) ((ap_consW (W := W1.drop 7) (ew_call (ok := kDropped K T.C_World) (P := fun vs _ => vs = [.ref pf, .int 7]) (ap_of (ea_cons (ev_var rfl) (ea_cons ev_c ea_nil))) fun vs H3 e3 hv => ⟨pf, W1, 7, hv, hF.ex e3, by decide, w1_ok.2.2.2.2, by decide +kernel, rfl⟩) (ap_cons (x := .str "dot") ev_c (ap_consU (xs := [.int 4, .int 5]) (eu_tup (ea_cons ev_c (ea_cons ev_c ea_nil)) (by decide)) ap_nil))).mono fun vs H' ⟨p, _, y1, y2, _, y3, rn, _, y4, y5, y6⟩ => ⟨p, rn, by rw [y1, y3, y4, y6], y2, st_of y5⟩) (fun vs H3 h => h) (by decide +kernel) (by unfold Asc; decide +kernel) dot_ok (by decide) (by decide) (by unfold num; decide) fun r pm H3 hr e3 hM hr3 => ?_
    refine ⟨r, [.ref pm, .int 8], rfl, st_of hr3, rfl, .ref pm, _, rfl, .int 8, [], rfl, rfl, ?_⟩
    refine q_asgW (W := Wf) (ew_newTs ev_c ev_c ev_c (ets_lc (n := 12) (us := Wf.ts) (by decide +kernel) (by decide) (fun _ => rfl) fun i t H4 e4 ht => ?_) wf_ok) fun pl H4 hpl e4 hL => ?_
    · have ht2 : t = ⟨(i : Int), "a", [(i : Int)]⟩ := by
        have h1 : ((List.range 12).map fun (i : Nat) => (⟨(i : Int), "a", [(i : Int)]⟩ : Tg))[i]? = some t := ht
        rw [List.getElem?_map] at h1
        cases h2 : (List.range 12)[i]? with
        | none => rw [h2] at h1; cases h1
        | some k =>
          rw [h2] at h1
          have hk := List.getElem?_range (i := i) (n := 12) (by have := (List.getElem?_eq_some_iff.mp h2).1; simpa using this)
          rw [h2] at hk
          cases hk
          exact (Option.some.inj h1).symm
      subst ht2
      have hz : (0 : Int) + (i : Int) = (i : Int) := Int.zero_add _
      exact etg (ev_is (ev_var rfl) (by rw [hz])) ev_c (eu_tup (ea_cons (ev_is (ev_var rfl) (by rw [hz])) ea_nil) (by show 1 ≤ 100000; decide))
    have hF4 := (hF.ex e3).ex e4
    have hM4 := hM.ex e4
    refine q_when (b := false) (et_or (a := false) (b := false) (et_is (et_test (ev_op (ev_var rfl) ev_c (rv_ne rfl))) (by decide)) fun _ => et_is (et_or (a := false) (b := false) (et_is (et_test (ev_op (ev_var rfl) (ev_var rfl) (eq_world T hM4 hF4 (by unfold KdsOk; decide +kernel) kds1))) (by decide +kernel)) fun _ => et_is (et_or (a := false) (b := false) (et_test ?n12) fun _ => et_is (et_test (ev_op (x := .int 12) (y := .int 12) ?n1 ev_c (rv_ne rfl))) (by decide +kernel)) rfl) rfl) (fun h => by cases h) fun _ H5 e5 => ?_
    case n12 => exact ev_ne12 (W := Wf) (p := pl) (kd := "a") (ns := [0]) (P := fun vs H' => ∃ (rn : Addr), vs = [.ref pl, .str "a", .ref rn] ∧ WdAt K T.C_World H' pl Wf ∧ NsAt K H' rn [0]) (ap_monoE (ap_cons (x := .ref pl) (ev_var rfl) (ap_cons (x := .str "a") ev_c (ap_consU (xs := [.int 0]) (eu_tup (ea_cons ev_c ea_nil) (by decide)) ap_nil))) fun vs H' e' ⟨_, y1, _, y2, rn, _, y3, y4, y5⟩ => ⟨rn, by rw [y1, y2, y3, y5], hL.ex e', st_of y4⟩) (fun vs H' h => h) (by decide +kernel) wf_ok.2.2.2.2 a_ok (by decide) (by decide) (by unfold num; decide) (eu_tup (ea_cons (ev_var rfl) (ea_cons ev_c ea_nil)) (by show 2 ≤ 100000; decide))
    case n1 => exact ev_made1 (W := Wf.drop 11) (kd := "a") (ns := [0]) (P := fun vs H' => ∃ (p rn : Addr), vs = [.ref p, .str "a", .ref rn] ∧ WdAt K T.C_World H' p (Wf.drop 11) ∧ NsAt K H' rn [0]) ((ap_consW (W := Wf.drop 11) (ew_call (ok := kDropped K T.C_World) (P := fun vs _ => vs = [.ref pl, .int 11]) (ap_of (ea_cons (ev_var rfl) (ea_cons ev_c ea_nil))) fun vs H3 e3 hv => ⟨pl, Wf, 11, hv, hL.ex e3, by decide +kernel, wf_ok.2.2.2.2, by decide +kernel, rfl⟩) (ap_cons (x := .str "a") ev_c (ap_consU (xs := [.int 0]) (eu_tup (ea_cons ev_c ea_nil) (by decide)) ap_nil))).mono fun vs H' ⟨p, _, y1, y2, _, y3, rn, _, y4, y5, y6⟩ => ⟨p, rn, by rw [y1, y3, y4, y6], y2, st_of y5⟩) (fun vs H3 h => h) (by decide +kernel) (by unfold Asc; decide +kernel) a_ok (by decide) (by decide) (by unfold num; decide)
    have hF5 := hF4.ex e5
    obtain ⟨_, _, _, _, ⟨dx5, hob5⟩, _⟩ := id hF5
    refine s_ret (v := .bl true) (ev_is (ev_eqD (d := .list [.str "world at 0 of 0 things", .str "world at 3 of 2 things", .bool true, .bool false, .tuple [.int 4, .int 9]]) (e := .list [.str "world at 0 of 0 things", .str "world at 3 of 2 things", .bool true, .bool false, .tuple [.int 4, .int 9]]) (evd_lst (evda_cons ?e1 (evda_cons ?e2 (evda_cons ?e3 (evda_cons ?e4 (evda_cons ?e5 evda_nil))))) (by decide)) (evd_lst (evda_cons (evd_str ev_c) (evda_cons (evd_str ev_c) (evda_cons (evd_bl ev_c) (evda_cons (evd_bl ev_c) (evda_cons (evd_tup (evda_cons (evd_int ev_c) (evda_cons (evd_int ev_c) evda_nil)) (by decide)) evda_nil))))) (by decide)) (by decide +kernel) (by decide +kernel)) (by decide +kernel)) fun H6 e6 => q H6
    case e1 => exact evd_str (ev_is (ev_strEW (W := W0) (ew_newTs ev_c ev_c ev_c ets0 w0_ok) (by decide) (by decide)) (by decide +kernel))
    case e2 => exact evd_str (ev_is (ev_strW (W := W1) (ev_var rfl) hF5 (by decide) (by decide)) (by decide +kernel))
    case e3 => exact evd_bl (ev_op ev_c (ev_var rfl) (rv_inO (b := true) (ok := kIn K T.C_World) hob5 fun H6 e6 => ⟨pf, .int 2, W1, rfl, hF5.ex e6, pl_int, by decide +kernel⟩))
    case e4 => exact evd_bl (ev_op ev_c (ev_var rfl) (rv_inO (b := false) (ok := kIn K T.C_World) hob5 fun H6 e6 => ⟨pf, .int 3, W1, rfl, hF5.ex e6, pl_int, by decide +kernel⟩))
    case e5 => exact evd_numsW (W := W1.chg 7 [4, 9]) (t := ⟨7, "dot", [4, 9]⟩) (ew_call (ok := kChanged K T.C_World) (P := fun vs _ => vs = [.ref pf, .int 7, .int 1, .int 9]) (ap_of (ea_cons (ev_var rfl) (ea_cons ev_c (ea_cons ev_c (ea_cons ev_c ea_nil))))) fun vs H6 e6 hv => ⟨pf, W1, ⟨7, "dot", [4, 5]⟩, 1, 9, hv, hF5.ex e6, by decide, w1_ok.2.2.2.2, by decide +kernel, by decide, by decide, by unfold num; decide, rfl⟩) (asc_chg w1_ok.2.2.2.2 _ _) (by decide +kernel)
end
end Kz
set_option Elab.async false
set_option linter.all false
set_option maxRecDepth 100000
set_option maxHeartbeats 4000000
set_option exponentiation.threshold 500
namespace Kz
open PySem PySem.Spec PyProof.Rows L2 Evl Vr
open En Wo
theorem all_mk {l : PySem.W.OpenLaw} {w : World} {K : PySem.W.Frag} {h : Heap} {mg : Str → Option Value} {fa f0 f1 f2 f3 f4 f5 f6 f7 f8 f9 f10 f11 f12 f13 f14 f15 f16 f17 f18 f19 f20 f21 f22 f23 f24 f25 f26 f27 f28 f29 f30 f31 f32 f33 f34 f35 f36 f37 f38 f39 f40 f41 f42 : Addr} (X : K.In h) (G : h.Ns mainGlobals mg) (hfa : mg "law" = some (.ref fa)) {C_World : Addr} {t_MODULUS : Tok} {t_MOST : Tok} {t_MAX_THINGS : Tok} {t_MAX_FIELDS : Tok}
    {od0 an0 od1 an1 od2 an2 od3 an3 od4 an4 od5 an5 od6 an6 od7 an7 od8 an8 od9 an9 od10 an10 od11 an11 od12 an12 od13 an13 od14 an14 od15 an15 od16 an16 od17 an17 od18 an18 od19 an19 od20 an20 od21 an21 od22 an22 od23 an23 od24 an24 od25 an25 od26 an26 od27 an27 od28 an28 od29 an29 od30 an30 od31 an31 od32 an32 od33 an33 od34 an34 od35 an35 od36 an36 od37 an37 od38 an38 od39 an39 od40 an40 od41 an41 od42 an42 : Option Addr} {sl0 sl1 sl2 sl3 sl4 sl5 sl6 sl7 sl8 sl9 sl10 sl11 sl12 sl13 sl14 sl15 sl16 sl17 sl18 sl19 sl20 sl21 sl22 sl23 sl24 sl25 sl26 sl27 sl28 sl29 sl30 sl31 sl32 sl33 sl34 sl35 sl36 sl37 sl38 sl39 sl40 sl41 sl42 : Array (Option Value)} {oc0 kV0 dc0 pm0 cd0 ct0 oc1 kV1 dc1 pm1 cd1 ct1 oc2 kV2 dc2 pm2 cd2 ct2 oc3 kV3 dc3 pm3 cd3 ct3 oc4 kV4 dc4 pm4 cd4 ct4 oc5 kV5 dc5 pm5 cd5 ct5 oc6 kV6 dc6 pm6 cd6 ct6 oc7 kV7 dc7 pm7 cd7 ct7 oc8 kV8 dc8 pm8 cd8 ct8 oc9 kV9 dc9 pm9 cd9 ct9 oc10 kV10 dc10 pm10 cd10 ct10 oc11 kV11 dc11 pm11 cd11 ct11 oc12 kV12 dc12 pm12 cd12 ct12 oc13 kV13 dc13 pm13 cd13 ct13 oc14 kV14 dc14 pm14 cd14 ct14 oc15 kV15 dc15 pm15 cd15 ct15 oc16 kV16 dc16 pm16 cd16 ct16 oc17 kV17 dc17 pm17 cd17 ct17 oc18 kV18 dc18 pm18 cd18 ct18 oc19 kV19 dc19 pm19 cd19 ct19 oc20 kV20 dc20 pm20 cd20 ct20 oc21 kV21 dc21 pm21 cd21 ct21 oc22 kV22 dc22 pm22 cd22 ct22 oc23 kV23 dc23 pm23 cd23 ct23 oc24 kV24 dc24 pm24 cd24 ct24 oc25 kV25 dc25 pm25 cd25 ct25 oc26 kV26 dc26 pm26 cd26 ct26 oc27 kV27 dc27 pm27 cd27 ct27 oc28 kV28 dc28 pm28 cd28 ct28 oc29 kV29 dc29 pm29 cd29 ct29 oc30 kV30 dc30 pm30 cd30 ct30 oc31 kV31 dc31 pm31 cd31 ct31 oc32 kV32 dc32 pm32 cd32 ct32 oc33 kV33 dc33 pm33 cd33 ct33 oc34 kV34 dc34 pm34 cd34 ct34 oc35 kV35 dc35 pm35 cd35 ct35 oc36 kV36 dc36 pm36 cd36 ct36 oc37 kV37 dc37 pm37 cd37 ct37 oc38 kV38 dc38 pm38 cd38 ct38 oc39 kV39 dc39 pm39 cd39 ct39 oc40 kV40 dc40 pm40 cd40 ct40 oc41 kV41 dc41 pm41 cd41 ct41 oc42 kV42 dc42 pm42 cd42 ct42 : Value}
    (aC_World : PySem.W.nsIn K mainGlobals "World" = some (some (.ref C_World))) (pg_World : PySem.W.plainGet K C_World Str.empty = true) (hd_World : PySem.W.hasDictIn K C_World = true) (po_World : PySem.W.plainOver K C_World = true) (sa_World : PySem.W.findIn K (.ref C_World) "__setattr__" = some (some (.builtin "object.__setattr__"))) (mi_World : PySem.W.makesIn K C_World = true) (kc_World : PySem.W.keepIn K (.ref C_World) = true)
    (nA_World_tick : PySem.W.findIn K (.ref C_World) "tick" = some none)
    (nA_World_next_id : PySem.W.findIn K (.ref C_World) "next_id" = some none)
    (nA_World_luck : PySem.W.findIn K (.ref C_World) "luck" = some none)
    (nA_World_things : PySem.W.findIn K (.ref C_World) "things" = some none)
    (nA_World_order : PySem.W.findIn K (.ref C_World) "order" = some none)
    (nA_World_table : PySem.W.findIn K (.ref C_World) "table" = some none)
    (a0 : PySem.W.nsIn K mainGlobals "is_integer" = some (some (.ref f0))) (l0 : K.lookup f0 = some ⟨oc0, od0, .func (PySem.W.fnOf "is_integer" "is_integer" (defArgs s_is_integer) (defBody s_is_integer) (defScope s_is_integer) .none kV0 dc0 pm0 an0 cd0 ct0), sl0⟩) (c0 : PySem.W.codeIn K cd0 "is_integer" = true) (k0 : PySem.W.keepIn K (.ref f0) = true)
    (a1 : PySem.W.nsIn K mainGlobals "is_within" = some (some (.ref f1))) (l1 : K.lookup f1 = some ⟨oc1, od1, .func (PySem.W.fnOf "is_within" "is_within" (defArgs s_is_within) (defBody s_is_within) (defScope s_is_within) .none kV1 dc1 pm1 an1 cd1 ct1), sl1⟩) (c1 : PySem.W.codeIn K cd1 "is_within" = true) (k1 : PySem.W.keepIn K (.ref f1) = true)
    (a2 : PySem.W.nsIn K mainGlobals "is_whole" = some (some (.ref f2))) (l2 : K.lookup f2 = some ⟨oc2, od2, .func (PySem.W.fnOf "is_whole" "is_whole" (defArgs s_is_whole) (defBody s_is_whole) (defScope s_is_whole) .none kV2 dc2 pm2 an2 cd2 ct2), sl2⟩) (c2 : PySem.W.codeIn K cd2 "is_whole" = true) (k2 : PySem.W.keepIn K (.ref f2) = true)
    (a3 : PySem.W.nsIn K mainGlobals "is_name" = some (some (.ref f3))) (l3 : K.lookup f3 = some ⟨oc3, od3, .func (PySem.W.fnOf "is_name" "is_name" (defArgs s_is_name) (defBody s_is_name) (defScope s_is_name) .none kV3 dc3 pm3 an3 cd3 ct3), sl3⟩) (c3 : PySem.W.codeIn K cd3 "is_name" = true) (k3 : PySem.W.keepIn K (.ref f3) = true)
    (a4 : PySem.W.nsIn K mainGlobals "is_luck" = some (some (.ref f4))) (l4 : K.lookup f4 = some ⟨oc4, od4, .func (PySem.W.fnOf "is_luck" "is_luck" (defArgs s_is_luck) (defBody s_is_luck) (defScope s_is_luck) .none kV4 dc4 pm4 an4 cd4 ct4), sl4⟩) (c4 : PySem.W.codeIn K cd4 "is_luck" = true) (k4 : PySem.W.keepIn K (.ref f4) = true)
    (a5 : PySem.W.nsIn K mainGlobals "is_number" = some (some (.ref f5))) (l5 : K.lookup f5 = some ⟨oc5, od5, .func (PySem.W.fnOf "is_number" "is_number" (defArgs s_is_number) (defBody s_is_number) (defScope s_is_number) .none kV5 dc5 pm5 an5 cd5 ct5), sl5⟩) (c5 : PySem.W.codeIn K cd5 "is_number" = true) (k5 : PySem.W.keepIn K (.ref f5) = true)
    (a6 : PySem.W.findIn K (.ref C_World) "__init__" = some (some (.ref f6))) (i6 : PySem.W.isFn K (.ref f6) = true) (l6 : K.lookup f6 = some ⟨oc6, od6, .func (PySem.W.fnOf "__init__" "World.__init__" (defArgs s_World___init__) (defBody s_World___init__) (defScope s_World___init__) .none kV6 dc6 pm6 an6 cd6 ct6), sl6⟩) (c6 : PySem.W.codeIn K cd6 "World.__init__" = true) (k6 : PySem.W.keepIn K (.ref f6) = true)
    (a7 : PySem.W.findIn K (.ref C_World) "_fill" = some (some (.ref f7))) (i7 : PySem.W.isFn K (.ref f7) = true) (l7 : K.lookup f7 = some ⟨oc7, od7, .func (PySem.W.fnOf "_fill" "World._fill" (defArgs s_World__fill) (defBody s_World__fill) (defScope s_World__fill) .none kV7 dc7 pm7 an7 cd7 ct7), sl7⟩) (c7 : PySem.W.codeIn K cd7 "World._fill" = true) (k7 : PySem.W.keepIn K (.ref f7) = true)
    (a8 : PySem.W.findIn K (.ref C_World) "ids" = some (some (.ref f8))) (i8 : PySem.W.isFn K (.ref f8) = true) (l8 : K.lookup f8 = some ⟨oc8, od8, .func (PySem.W.fnOf "ids" "World.ids" (defArgs s_World_ids) (defBody s_World_ids) (defScope s_World_ids) .none kV8 dc8 pm8 an8 cd8 ct8), sl8⟩) (c8 : PySem.W.codeIn K cd8 "World.ids" = true) (k8 : PySem.W.keepIn K (.ref f8) = true)
    (a9 : PySem.W.findIn K (.ref C_World) "kind_of" = some (some (.ref f9))) (i9 : PySem.W.isFn K (.ref f9) = true) (l9 : K.lookup f9 = some ⟨oc9, od9, .func (PySem.W.fnOf "kind_of" "World.kind_of" (defArgs s_World_kind_of) (defBody s_World_kind_of) (defScope s_World_kind_of) .none kV9 dc9 pm9 an9 cd9 ct9), sl9⟩) (c9 : PySem.W.codeIn K cd9 "World.kind_of" = true) (k9 : PySem.W.keepIn K (.ref f9) = true)
    (a10 : PySem.W.findIn K (.ref C_World) "numbers" = some (some (.ref f10))) (i10 : PySem.W.isFn K (.ref f10) = true) (l10 : K.lookup f10 = some ⟨oc10, od10, .func (PySem.W.fnOf "numbers" "World.numbers" (defArgs s_World_numbers) (defBody s_World_numbers) (defScope s_World_numbers) .none kV10 dc10 pm10 an10 cd10 ct10), sl10⟩) (c10 : PySem.W.codeIn K cd10 "World.numbers" = true) (k10 : PySem.W.keepIn K (.ref f10) = true)
    (a11 : PySem.W.findIn K (.ref C_World) "__contains__" = some (some (.ref f11))) (i11 : PySem.W.isFn K (.ref f11) = true) (l11 : K.lookup f11 = some ⟨oc11, od11, .func (PySem.W.fnOf "__contains__" "World.__contains__" (defArgs s_World___contains__) (defBody s_World___contains__) (defScope s_World___contains__) .none kV11 dc11 pm11 an11 cd11 ct11), sl11⟩) (c11 : PySem.W.codeIn K cd11 "World.__contains__" = true) (k11 : PySem.W.keepIn K (.ref f11) = true)
    (a12 : PySem.W.findIn K (.ref C_World) "__len__" = some (some (.ref f12))) (i12 : PySem.W.isFn K (.ref f12) = true) (l12 : K.lookup f12 = some ⟨oc12, od12, .func (PySem.W.fnOf "__len__" "World.__len__" (defArgs s_World___len__) (defBody s_World___len__) (defScope s_World___len__) .none kV12 dc12 pm12 an12 cd12 ct12), sl12⟩) (c12 : PySem.W.codeIn K cd12 "World.__len__" = true) (k12 : PySem.W.keepIn K (.ref f12) = true)
    (a13 : PySem.W.findIn K (.ref C_World) "__iter__" = some (some (.ref f13))) (i13 : PySem.W.isFn K (.ref f13) = true) (l13 : K.lookup f13 = some ⟨oc13, od13, .func (PySem.W.fnOf "__iter__" "World.__iter__" (defArgs s_World___iter__) (defBody s_World___iter__) (defScope s_World___iter__) .none kV13 dc13 pm13 an13 cd13 ct13), sl13⟩) (c13 : PySem.W.codeIn K cd13 "World.__iter__" = true) (k13 : PySem.W.keepIn K (.ref f13) = true)
    (a14 : PySem.W.findIn K (.ref C_World) "__eq__" = some (some (.ref f14))) (i14 : PySem.W.isFn K (.ref f14) = true) (l14 : K.lookup f14 = some ⟨oc14, od14, .func (PySem.W.fnOf "__eq__" "World.__eq__" (defArgs s_World___eq__) (defBody s_World___eq__) (defScope s_World___eq__) .none kV14 dc14 pm14 an14 cd14 ct14), sl14⟩) (c14 : PySem.W.codeIn K cd14 "World.__eq__" = true) (k14 : PySem.W.keepIn K (.ref f14) = true)
    (a15 : PySem.W.findIn K (.ref C_World) "__str__" = some (some (.ref f15))) (i15 : PySem.W.isFn K (.ref f15) = true) (l15 : K.lookup f15 = some ⟨oc15, od15, .func (PySem.W.fnOf "__str__" "World.__str__" (defArgs s_World___str__) (defBody s_World___str__) (defScope s_World___str__) .none kV15 dc15 pm15 an15 cd15 ct15), sl15⟩) (c15 : PySem.W.codeIn K cd15 "World.__str__" = true) (k15 : PySem.W.keepIn K (.ref f15) = true)
    (a16 : PySem.W.nsIn K mainGlobals "properties_of" = some (some (.ref f16))) (l16 : K.lookup f16 = some ⟨oc16, od16, .func (PySem.W.fnOf "properties_of" "properties_of" (defArgs s_properties_of) (defBody s_properties_of) (defScope s_properties_of) .none kV16 dc16 pm16 an16 cd16 ct16), sl16⟩) (c16 : PySem.W.codeIn K cd16 "properties_of" = true) (k16 : PySem.W.keepIn K (.ref f16) = true)
    (a17 : PySem.W.nsIn K mainGlobals "world_of" = some (some (.ref f17))) (l17 : K.lookup f17 = some ⟨oc17, od17, .func (PySem.W.fnOf "world_of" "world_of" (defArgs s_world_of) (defBody s_world_of) (defScope s_world_of) .none kV17 dc17 pm17 an17 cd17 ct17), sl17⟩) (c17 : PySem.W.codeIn K cd17 "world_of" = true) (k17 : PySem.W.keepIn K (.ref f17) = true)
    (a18 : PySem.W.nsIn K mainGlobals "are_things" = some (some (.ref f18))) (l18 : K.lookup f18 = some ⟨oc18, od18, .func (PySem.W.fnOf "are_things" "are_things" (defArgs s_are_things) (defBody s_are_things) (defScope s_are_things) .none kV18 dc18 pm18 an18 cd18 ct18), sl18⟩) (c18 : PySem.W.codeIn K cd18 "are_things" = true) (k18 : PySem.W.keepIn K (.ref f18) = true)
    (a19 : PySem.W.nsIn K mainGlobals "is_thing" = some (some (.ref f19))) (l19 : K.lookup f19 = some ⟨oc19, od19, .func (PySem.W.fnOf "is_thing" "is_thing" (defArgs s_is_thing) (defBody s_is_thing) (defScope s_is_thing) .none kV19 dc19 pm19 an19 cd19 ct19), sl19⟩) (c19 : PySem.W.codeIn K cd19 "is_thing" = true) (k19 : PySem.W.keepIn K (.ref f19) = true)
    (a20 : PySem.W.nsIn K mainGlobals "are_numbers" = some (some (.ref f20))) (l20 : K.lookup f20 = some ⟨oc20, od20, .func (PySem.W.fnOf "are_numbers" "are_numbers" (defArgs s_are_numbers) (defBody s_are_numbers) (defScope s_are_numbers) .none kV20 dc20 pm20 an20 cd20 ct20), sl20⟩) (c20 : PySem.W.codeIn K cd20 "are_numbers" = true) (k20 : PySem.W.keepIn K (.ref f20) = true)
    (a21 : PySem.W.nsIn K mainGlobals "are_in_sequence" = some (some (.ref f21))) (l21 : K.lookup f21 = some ⟨oc21, od21, .func (PySem.W.fnOf "are_in_sequence" "are_in_sequence" (defArgs s_are_in_sequence) (defBody s_are_in_sequence) (defScope s_are_in_sequence) .none kV21 dc21 pm21 an21 cd21 ct21), sl21⟩) (c21 : PySem.W.codeIn K cd21 "are_in_sequence" = true) (k21 : PySem.W.keepIn K (.ref f21) = true)
    (a22 : PySem.W.nsIn K mainGlobals "need_world" = some (some (.ref f22))) (l22 : K.lookup f22 = some ⟨oc22, od22, .func (PySem.W.fnOf "need_world" "need_world" (defArgs s_need_world) (defBody s_need_world) (defScope s_need_world) .none kV22 dc22 pm22 an22 cd22 ct22), sl22⟩) (c22 : PySem.W.codeIn K cd22 "need_world" = true) (k22 : PySem.W.keepIn K (.ref f22) = true)
    (a23 : PySem.W.nsIn K mainGlobals "need_thing" = some (some (.ref f23))) (l23 : K.lookup f23 = some ⟨oc23, od23, .func (PySem.W.fnOf "need_thing" "need_thing" (defArgs s_need_thing) (defBody s_need_thing) (defScope s_need_thing) .none kV23 dc23 pm23 an23 cd23 ct23), sl23⟩) (c23 : PySem.W.codeIn K cd23 "need_thing" = true) (k23 : PySem.W.keepIn K (.ref f23) = true)
    (a24 : PySem.W.nsIn K mainGlobals "made" = some (some (.ref f24))) (l24 : K.lookup f24 = some ⟨oc24, od24, .func (PySem.W.fnOf "made" "made" (defArgs s_made) (defBody s_made) (defScope s_made) .none kV24 dc24 pm24 an24 cd24 ct24), sl24⟩) (c24 : PySem.W.codeIn K cd24 "made" = true) (k24 : PySem.W.keepIn K (.ref f24) = true)
    (a25 : PySem.W.nsIn K mainGlobals "dropped" = some (some (.ref f25))) (l25 : K.lookup f25 = some ⟨oc25, od25, .func (PySem.W.fnOf "dropped" "dropped" (defArgs s_dropped) (defBody s_dropped) (defScope s_dropped) .none kV25 dc25 pm25 an25 cd25 ct25), sl25⟩) (c25 : PySem.W.codeIn K cd25 "dropped" = true) (k25 : PySem.W.keepIn K (.ref f25) = true)
    (a26 : PySem.W.nsIn K mainGlobals "changed" = some (some (.ref f26))) (l26 : K.lookup f26 = some ⟨oc26, od26, .func (PySem.W.fnOf "changed" "changed" (defArgs s_changed) (defBody s_changed) (defScope s_changed) .none kV26 dc26 pm26 an26 cd26 ct26), sl26⟩) (c26 : PySem.W.codeIn K cd26 "changed" = true) (k26 : PySem.W.keepIn K (.ref f26) = true)
    (a27 : PySem.W.nsIn K mainGlobals "with_numbers" = some (some (.ref f27))) (l27 : K.lookup f27 = some ⟨oc27, od27, .func (PySem.W.fnOf "with_numbers" "with_numbers" (defArgs s_with_numbers) (defBody s_with_numbers) (defScope s_with_numbers) .none kV27 dc27 pm27 an27 cd27 ct27), sl27⟩) (c27 : PySem.W.codeIn K cd27 "with_numbers" = true) (k27 : PySem.W.keepIn K (.ref f27) = true)
    (a28 : PySem.W.nsIn K mainGlobals "_law_dice" = some (some (.ref f28))) (l28 : K.lookup f28 = some ⟨oc28, od28, .func (PySem.W.fnOf "_law_dice" "_law_dice" (defArgs s_law_dice) (defBody s_law_dice) (defScope s_law_dice) .none kV28 dc28 pm28 an28 cd28 ct28), sl28⟩) (c28 : PySem.W.codeIn K cd28 "_law_dice" = true) (k28 : PySem.W.keepIn K (.ref f28) = true)
    (a29 : PySem.W.nsIn K mainGlobals "_law_roll" = some (some (.ref f29))) (l29 : K.lookup f29 = some ⟨oc29, od29, .func (PySem.W.fnOf "_law_roll" "_law_roll" (defArgs s_law_roll) (defBody s_law_roll) (defScope s_law_roll) .none kV29 dc29 pm29 an29 cd29 ct29), sl29⟩) (c29 : PySem.W.codeIn K cd29 "_law_roll" = true) (k29 : PySem.W.keepIn K (.ref f29) = true)
    (a30 : PySem.W.nsIn K mainGlobals "_law_pick" = some (some (.ref f30))) (l30 : K.lookup f30 = some ⟨oc30, od30, .func (PySem.W.fnOf "_law_pick" "_law_pick" (defArgs s_law_pick) (defBody s_law_pick) (defScope s_law_pick) .none kV30 dc30 pm30 an30 cd30 ct30), sl30⟩) (c30 : PySem.W.codeIn K cd30 "_law_pick" = true) (k30 : PySem.W.keepIn K (.ref f30) = true)
    (a31 : PySem.W.nsIn K mainGlobals "_law_near" = some (some (.ref f31))) (l31 : K.lookup f31 = some ⟨oc31, od31, .func (PySem.W.fnOf "_law_near" "_law_near" (defArgs s_law_near) (defBody s_law_near) (defScope s_law_near) .none kV31 dc31 pm31 an31 cd31 ct31), sl31⟩) (c31 : PySem.W.codeIn K cd31 "_law_near" = true) (k31 : PySem.W.keepIn K (.ref f31) = true)
    (a32 : PySem.W.nsIn K mainGlobals "_law_wd_plain" = some (some (.ref f32))) (l32 : K.lookup f32 = some ⟨oc32, od32, .func (PySem.W.fnOf "_law_wd_plain" "_law_wd_plain" (defArgs s_law_wd_plain) (defBody s_law_wd_plain) (defScope s_law_wd_plain) .none kV32 dc32 pm32 an32 cd32 ct32), sl32⟩) (c32 : PySem.W.codeIn K cd32 "_law_wd_plain" = true) (k32 : PySem.W.keepIn K (.ref f32) = true)
    (a33 : PySem.W.nsIn K mainGlobals "_law_number" = some (some (.ref f33))) (l33 : K.lookup f33 = some ⟨oc33, od33, .func (PySem.W.fnOf "_law_number" "_law_number" (defArgs s_law_number) (defBody s_law_number) (defScope s_law_number) .none kV33 dc33 pm33 an33 cd33 ct33), sl33⟩) (c33 : PySem.W.codeIn K cd33 "_law_number" = true) (k33 : PySem.W.keepIn K (.ref f33) = true)
    (a34 : PySem.W.nsIn K mainGlobals "_law_numbers" = some (some (.ref f34))) (l34 : K.lookup f34 = some ⟨oc34, od34, .func (PySem.W.fnOf "_law_numbers" "_law_numbers" (defArgs s_law_numbers) (defBody s_law_numbers) (defScope s_law_numbers) .none kV34 dc34 pm34 an34 cd34 ct34), sl34⟩) (c34 : PySem.W.codeIn K cd34 "_law_numbers" = true) (k34 : PySem.W.keepIn K (.ref f34) = true)
    (a35 : PySem.W.nsIn K mainGlobals "_law_kind_drawn" = some (some (.ref f35))) (l35 : K.lookup f35 = some ⟨oc35, od35, .func (PySem.W.fnOf "_law_kind_drawn" "_law_kind_drawn" (defArgs s_law_kind_drawn) (defBody s_law_kind_drawn) (defScope s_law_kind_drawn) .none kV35 dc35 pm35 an35 cd35 ct35), sl35⟩) (c35 : PySem.W.codeIn K cd35 "_law_kind_drawn" = true) (k35 : PySem.W.keepIn K (.ref f35) = true)
    (a36 : PySem.W.nsIn K mainGlobals "_law_world_drawn" = some (some (.ref f36))) (l36 : K.lookup f36 = some ⟨oc36, od36, .func (PySem.W.fnOf "_law_world_drawn" "_law_world_drawn" (defArgs s_law_world_drawn) (defBody s_law_world_drawn) (defScope s_law_world_drawn) .none kV36 dc36 pm36 an36 cd36 ct36), sl36⟩) (c36 : PySem.W.codeIn K cd36 "_law_world_drawn" = true) (k36 : PySem.W.keepIn K (.ref f36) = true)
    (a37 : PySem.W.nsIn K mainGlobals "_law_is_told" = some (some (.ref f37))) (l37 : K.lookup f37 = some ⟨oc37, od37, .func (PySem.W.fnOf "_law_is_told" "_law_is_told" (defArgs s_law_is_told) (defBody s_law_is_told) (defScope s_law_is_told) .none kV37 dc37 pm37 an37 cd37 ct37), sl37⟩) (c37 : PySem.W.codeIn K cd37 "_law_is_told" = true) (k37 : PySem.W.keepIn K (.ref f37) = true)
    (a38 : PySem.W.nsIn K mainGlobals "_law_made" = some (some (.ref f38))) (l38 : K.lookup f38 = some ⟨oc38, od38, .func (PySem.W.fnOf "_law_made" "_law_made" (defArgs s_law_made) (defBody s_law_made) (defScope s_law_made) .none kV38 dc38 pm38 an38 cd38 ct38), sl38⟩) (c38 : PySem.W.codeIn K cd38 "_law_made" = true) (k38 : PySem.W.keepIn K (.ref f38) = true)
    (a39 : PySem.W.nsIn K mainGlobals "_law_done" = some (some (.ref f39))) (l39 : K.lookup f39 = some ⟨oc39, od39, .func (PySem.W.fnOf "_law_done" "_law_done" (defArgs s_law_done) (defBody s_law_done) (defScope s_law_done) .none kV39 dc39 pm39 an39 cd39 ct39), sl39⟩) (c39 : PySem.W.codeIn K cd39 "_law_done" = true) (k39 : PySem.W.keepIn K (.ref f39) = true)
    (a40 : PySem.W.nsIn K mainGlobals "_law_is_alone" = some (some (.ref f40))) (l40 : K.lookup f40 = some ⟨oc40, od40, .func (PySem.W.fnOf "_law_is_alone" "_law_is_alone" (defArgs s_law_is_alone) (defBody s_law_is_alone) (defScope s_law_is_alone) .none kV40 dc40 pm40 an40 cd40 ct40), sl40⟩) (c40 : PySem.W.codeIn K cd40 "_law_is_alone" = true) (k40 : PySem.W.keepIn K (.ref f40) = true)
    (a41 : PySem.W.nsIn K mainGlobals "_law_right" = some (some (.ref f41))) (l41 : K.lookup f41 = some ⟨oc41, od41, .func (PySem.W.fnOf "_law_right" "_law_right" (defArgs s_law_right) (defBody s_law_right) (defScope s_law_right) .none kV41 dc41 pm41 an41 cd41 ct41), sl41⟩) (c41 : PySem.W.codeIn K cd41 "_law_right" = true) (k41 : PySem.W.keepIn K (.ref f41) = true)
    (a42 : PySem.W.nsIn K mainGlobals "law" = some (some (.ref f42))) (l42 : K.lookup f42 = some ⟨oc42, od42, .func (PySem.W.fnOf "law" "law" (defArgs s_law) (defBody s_law) (defScope s_law) .none kV42 dc42 pm42 an42 cd42 ct42), sl42⟩) (c42 : PySem.W.codeIn K cd42 "law" = true) (k42 : PySem.W.keepIn K (.ref f42) = true)
    (z_abs : PySem.W.nsIn K mainGlobals "abs" = some none)
    (z_max : PySem.W.nsIn K mainGlobals "max" = some none)
    (z_min : PySem.W.nsIn K mainGlobals "min" = some none)
    (z_int : PySem.W.nsIn K mainGlobals "int" = some none)
    (z_len : PySem.W.nsIn K mainGlobals "len" = some none)
    (z_range : PySem.W.nsIn K mainGlobals "range" = some none)
    (z_isinstance : PySem.W.nsIn K mainGlobals "isinstance" = some none)
    (z_str : PySem.W.nsIn K mainGlobals "str" = some none)
    (z_bool : PySem.W.nsIn K mainGlobals "bool" = some none)
    (z_tuple : PySem.W.nsIn K mainGlobals "tuple" = some none)
    (z_list : PySem.W.nsIn K mainGlobals "list" = some none)
    (z_set : PySem.W.nsIn K mainGlobals "set" = some none)
    (z_all : PySem.W.nsIn K mainGlobals "all" = some none)
    (z_zip : PySem.W.nsIn K mainGlobals "zip" = some none)
    (z_iter : PySem.W.nsIn K mainGlobals "iter" = some none)
    (v_MODULUS : PySem.W.nsIn K mainGlobals "MODULUS" = some (some (.int 999999937 t_MODULUS)))
    (v_MOST : PySem.W.nsIn K mainGlobals "MOST" = some (some (.int 1000000000 t_MOST)))
    (v_MAX_THINGS : PySem.W.nsIn K mainGlobals "MAX_THINGS" = some (some (.int 12 t_MAX_THINGS)))
    (v_MAX_FIELDS : PySem.W.nsIn K mainGlobals "MAX_FIELDS" = some (some (.int 8 t_MAX_FIELDS)))
    (vha_World : PySem.W.findIn K (.ref C_World) "__class__" = some (some (.builtin "object.__class__")))
    (vhn_World : PySem.W.specialIn K (.builtin "object.__class__") "__get__" = some (some (.builtin "getset_descriptor.__get__")))
    (vht_World : PySem.W.takesIn K (.builtin "object.__class__") = some true)
    (vhm_World : PySem.W.mroIn K C_World (.type "object") = some true)
    (vhy_World : PySem.W.typeIn K (.ref C_World) = some (.type "type"))
    (vhs_World_tuple : PySem.W.subIn K (.type "tuple") (.ref C_World) = some false)
    (vhs_World_NoneType : PySem.W.subIn K (.type "NoneType") (.ref C_World) = some false)
    (vhs_World_str : PySem.W.subIn K (.type "str") (.ref C_World) = some false)
    (vne_World : PySem.W.findIn K (.ref C_World) "__ne__" = some (some (.builtin "object.__ne__")))
    (vob_World : PySem.W.subIn K (.ref C_World) (.type "object") = some true)
    : ∃ fd : FuncData, (∀ (s : Shared) (v : Value), BindsTo s fd ⟨[v], []⟩ [("script", v)]) ∧ ∀ base : Heap, K.In base → base.Ns mainGlobals mg → FnOk l.prog w K mg base CX0 14 fa fd ["script"] (spLaw K) := by
  have e := hfa.symm.trans (PySem.W.mg_of X G a42)
  cases e
  have F0 := fun_mk (st := s_is_integer) l0 c0 k0
  have b0 := F0.binds (ps := ["value"]) fun _ _ _ _ _ _ us hl => match us, hl with | [_], _ => rfl
  have F1 := fun_mk (st := s_is_within) l1 c1 k1
  have b1 := F1.binds (ps := ["value", "low", "high"]) fun _ _ _ _ _ _ us hl => match us, hl with | [_, _, _], _ => rfl
  have F2 := fun_mk (st := s_is_whole) l2 c2 k2
  have b2 := F2.binds (ps := ["value"]) fun _ _ _ _ _ _ us hl => match us, hl with | [_], _ => rfl
  have F3 := fun_mk (st := s_is_name) l3 c3 k3
  have b3 := F3.binds (ps := ["value"]) fun _ _ _ _ _ _ us hl => match us, hl with | [_], _ => rfl
  have F4 := fun_mk (st := s_is_luck) l4 c4 k4
  have b4 := F4.binds (ps := ["value"]) fun _ _ _ _ _ _ us hl => match us, hl with | [_], _ => rfl
  have F5 := fun_mk (st := s_is_number) l5 c5 k5
  have b5 := F5.binds (ps := ["value"]) fun _ _ _ _ _ _ us hl => match us, hl with | [_], _ => rfl
  have F6 := fun_mk (st := s_World___init__) l6 c6 k6
  have b6 := F6.binds (ps := ["self", "tick", "next_id", "luck", "things"]) fun _ _ _ _ _ _ us hl => match us, hl with | [_, _, _, _, _], _ => rfl
  have F7 := fun_mk (st := s_World__fill) l7 c7 k7
  have b7 := F7.binds (ps := ["self", "tick", "next_id", "luck", "things"]) fun _ _ _ _ _ _ us hl => match us, hl with | [_, _, _, _, _], _ => rfl
  have F8 := fun_mk (st := s_World_ids) l8 c8 k8
  have b8 := F8.binds (ps := ["self", "kind"]) fun _ _ _ _ _ _ us hl => match us, hl with | [_, _], _ => rfl
  have F9 := fun_mk (st := s_World_kind_of) l9 c9 k9
  have b9 := F9.binds (ps := ["self", "thing"]) fun _ _ _ _ _ _ us hl => match us, hl with | [_, _], _ => rfl
  have F10 := fun_mk (st := s_World_numbers) l10 c10 k10
  have b10 := F10.binds (ps := ["self", "thing"]) fun _ _ _ _ _ _ us hl => match us, hl with | [_, _], _ => rfl
  have F11 := fun_mk (st := s_World___contains__) l11 c11 k11
  have b11 := F11.binds (ps := ["self", "value"]) fun _ _ _ _ _ _ us hl => match us, hl with | [_, _], _ => rfl
  have F12 := fun_mk (st := s_World___len__) l12 c12 k12
  have b12 := F12.binds (ps := ["self"]) fun _ _ _ _ _ _ us hl => match us, hl with | [_], _ => rfl
  have F13 := fun_mk (st := s_World___iter__) l13 c13 k13
  have b13 := F13.binds (ps := ["self"]) fun _ _ _ _ _ _ us hl => match us, hl with | [_], _ => rfl
  have F14 := fun_mk (st := s_World___eq__) l14 c14 k14
  have b14 := F14.binds (ps := ["self", "other"]) fun _ _ _ _ _ _ us hl => match us, hl with | [_, _], _ => rfl
  have F15 := fun_mk (st := s_World___str__) l15 c15 k15
  have b15 := F15.binds (ps := ["self"]) fun _ _ _ _ _ _ us hl => match us, hl with | [_], _ => rfl
  have F16 := fun_mk (st := s_properties_of) l16 c16 k16
  have b16 := F16.binds (ps := ["world"]) fun _ _ _ _ _ _ us hl => match us, hl with | [_], _ => rfl
  have F17 := fun_mk (st := s_world_of) l17 c17 k17
  have b17 := F17.binds (ps := ["tick", "next_id", "luck", "things"]) fun _ _ _ _ _ _ us hl => match us, hl with | [_, _, _, _], _ => rfl
  have F18 := fun_mk (st := s_are_things) l18 c18 k18
  have b18 := F18.binds (ps := ["value"]) fun _ _ _ _ _ _ us hl => match us, hl with | [_], _ => rfl
  have F19 := fun_mk (st := s_is_thing) l19 c19 k19
  have b19 := F19.binds (ps := ["value"]) fun _ _ _ _ _ _ us hl => match us, hl with | [_], _ => rfl
  have F20 := fun_mk (st := s_are_numbers) l20 c20 k20
  have b20 := F20.binds (ps := ["value"]) fun _ _ _ _ _ _ us hl => match us, hl with | [_], _ => rfl
  have F21 := fun_mk (st := s_are_in_sequence) l21 c21 k21
  have b21 := F21.binds (ps := ["things", "next_id"]) fun _ _ _ _ _ _ us hl => match us, hl with | [_, _], _ => rfl
  have F22 := fun_mk (st := s_need_world) l22 c22 k22
  have b22 := F22.binds (ps := ["value"]) fun _ _ _ _ _ _ us hl => match us, hl with | [_], _ => rfl
  have F23 := fun_mk (st := s_need_thing) l23 c23 k23
  have b23 := F23.binds (ps := ["world", "thing"]) fun _ _ _ _ _ _ us hl => match us, hl with | [_, _], _ => rfl
  have F24 := fun_mk (st := s_made) l24 c24 k24
  have b24 := F24.binds (ps := ["world", "kind", "numbers"]) fun _ _ _ _ _ _ us hl => match us, hl with | [_, _, _], _ => rfl
  have F25 := fun_mk (st := s_dropped) l25 c25 k25
  have b25 := F25.binds (ps := ["world", "thing"]) fun _ _ _ _ _ _ us hl => match us, hl with | [_, _], _ => rfl
  have F26 := fun_mk (st := s_changed) l26 c26 k26
  have b26 := F26.binds (ps := ["world", "thing", "place", "number"]) fun _ _ _ _ _ _ us hl => match us, hl with | [_, _, _, _], _ => rfl
  have F27 := fun_mk (st := s_with_numbers) l27 c27 k27
  have b27 := F27.binds (ps := ["world", "numbers"]) fun _ _ _ _ _ _ us hl => match us, hl with | [_, _], _ => rfl
  have F28 := fun_mk (st := s_law_dice) l28 c28 k28
  have b28 := F28.binds (ps := ["script", "spot"]) fun _ _ _ _ _ _ us hl => match us, hl with | [_, _], _ => rfl
  have F29 := fun_mk (st := s_law_roll) l29 c29 k29
  have b29 := F29.binds (ps := ["dice", "total"]) fun _ _ _ _ _ _ us hl => match us, hl with | [_, _], _ => rfl
  have F30 := fun_mk (st := s_law_pick) l30 c30 k30
  have b30 := F30.binds (ps := ["dice", "items"]) fun _ _ _ _ _ _ us hl => match us, hl with | [_, _], _ => rfl
  have F31 := fun_mk (st := s_law_near) l31 c31 k31
  have b31 := F31.binds (ps := ["dice", "most"]) fun _ _ _ _ _ _ us hl => match us, hl with | [_, _], _ => rfl
  have F32 := fun_mk (st := s_law_wd_plain) l32 c32 k32
  have b32 := F32.binds (ps := ["world"]) fun _ _ _ _ _ _ us hl => match us, hl with | [_], _ => rfl
  have F33 := fun_mk (st := s_law_number) l33 c33 k33
  have b33 := F33.binds (ps := ["dice"]) fun _ _ _ _ _ _ us hl => match us, hl with | [_], _ => rfl
  have F34 := fun_mk (st := s_law_numbers) l34 c34 k34
  have b34 := F34.binds (ps := ["dice"]) fun _ _ _ _ _ _ us hl => match us, hl with | [_], _ => rfl
  have F35 := fun_mk (st := s_law_kind_drawn) l35 c35 k35
  have b35 := F35.binds (ps := ["dice"]) fun _ _ _ _ _ _ us hl => match us, hl with | [_], _ => rfl
  have F36 := fun_mk (st := s_law_world_drawn) l36 c36 k36
  have b36 := F36.binds (ps := ["dice"]) fun _ _ _ _ _ _ us hl => match us, hl with | [_], _ => rfl
  have F37 := fun_mk (st := s_law_is_told) l37 c37 k37
  have b37 := F37.binds (ps := ["world", "plain"]) fun _ _ _ _ _ _ us hl => match us, hl with | [_, _], _ => rfl
  have F38 := fun_mk (st := s_law_made) l38 c38 k38
  have b38 := F38.binds (ps := ["dice", "world", "plain"]) fun _ _ _ _ _ _ us hl => match us, hl with | [_, _, _], _ => rfl
  have F39 := fun_mk (st := s_law_done) l39 c39 k39
  have b39 := F39.binds (ps := ["dice", "world", "plain"]) fun _ _ _ _ _ _ us hl => match us, hl with | [_, _, _], _ => rfl
  have F40 := fun_mk (st := s_law_is_alone) l40 c40 k40
  have b40 := F40.binds (ps := ["world", "plain"]) fun _ _ _ _ _ _ us hl => match us, hl with | [_, _], _ => rfl
  have F41 := fun_mk (st := s_law_right) l41 c41 k41
  have b41 := F41.binds (ps := ["dice"]) fun _ _ _ _ _ _ us hl => match us, hl with | [_], _ => rfl
  have F42 := fun_mk (st := s_law) l42 c42 k42
  let T : Txt K mg w := {
    a_is_integer := f0
    fd_is_integer := _
    F_is_integer := F0
    g_is_integer := PySem.W.mg_of X G a0
    b_is_integer := b0
    a_is_within := f1
    fd_is_within := _
    F_is_within := F1
    g_is_within := PySem.W.mg_of X G a1
    b_is_within := b1
    a_is_whole := f2
    fd_is_whole := _
    F_is_whole := F2
    g_is_whole := PySem.W.mg_of X G a2
    b_is_whole := b2
    a_is_name := f3
    fd_is_name := _
    F_is_name := F3
    g_is_name := PySem.W.mg_of X G a3
    b_is_name := b3
    a_is_luck := f4
    fd_is_luck := _
    F_is_luck := F4
    g_is_luck := PySem.W.mg_of X G a4
    b_is_luck := b4
    a_is_number := f5
    fd_is_number := _
    F_is_number := F5
    g_is_number := PySem.W.mg_of X G a5
    b_is_number := b5
    a_World___init__ := f6
    fd_World___init__ := _
    F_World___init__ := F6
    m_World___init__ := ⟨a6, i6, k6⟩
    b_World___init__ := b6
    mk_World := ⟨mi_World, a6, i6, kc_World⟩
    a_World__fill := f7
    fd_World__fill := _
    F_World__fill := F7
    m_World__fill := ⟨a7, i7, k7⟩
    b_World__fill := b7
    a_World_ids := f8
    fd_World_ids := _
    F_World_ids := F8
    m_World_ids := ⟨a8, i8, k8⟩
    b_World_ids := b8
    a_World_kind_of := f9
    fd_World_kind_of := _
    F_World_kind_of := F9
    m_World_kind_of := ⟨a9, i9, k9⟩
    b_World_kind_of := b9
    a_World_numbers := f10
    fd_World_numbers := _
    F_World_numbers := F10
    m_World_numbers := ⟨a10, i10, k10⟩
    b_World_numbers := b10
    a_World___contains__ := f11
    fd_World___contains__ := _
    F_World___contains__ := F11
    m_World___contains__ := ⟨a11, i11, k11⟩
    b_World___contains__ := b11
    a_World___len__ := f12
    fd_World___len__ := _
    F_World___len__ := F12
    m_World___len__ := ⟨a12, i12, k12⟩
    b_World___len__ := b12
    a_World___iter__ := f13
    fd_World___iter__ := _
    F_World___iter__ := F13
    m_World___iter__ := ⟨a13, i13, k13⟩
    b_World___iter__ := b13
    a_World___eq__ := f14
    fd_World___eq__ := _
    F_World___eq__ := F14
    m_World___eq__ := ⟨a14, i14, k14⟩
    b_World___eq__ := b14
    a_World___str__ := f15
    fd_World___str__ := _
    F_World___str__ := F15
    m_World___str__ := ⟨a15, i15, k15⟩
    b_World___str__ := b15
    a_properties_of := f16
    fd_properties_of := _
    F_properties_of := F16
    g_properties_of := PySem.W.mg_of X G a16
    b_properties_of := b16
    a_world_of := f17
    fd_world_of := _
    F_world_of := F17
    g_world_of := PySem.W.mg_of X G a17
    b_world_of := b17
    a_are_things := f18
    fd_are_things := _
    F_are_things := F18
    g_are_things := PySem.W.mg_of X G a18
    b_are_things := b18
    a_is_thing := f19
    fd_is_thing := _
    F_is_thing := F19
    g_is_thing := PySem.W.mg_of X G a19
    b_is_thing := b19
    a_are_numbers := f20
    fd_are_numbers := _
    F_are_numbers := F20
    g_are_numbers := PySem.W.mg_of X G a20
    b_are_numbers := b20
    a_are_in_sequence := f21
    fd_are_in_sequence := _
    F_are_in_sequence := F21
    g_are_in_sequence := PySem.W.mg_of X G a21
    b_are_in_sequence := b21
    a_need_world := f22
    fd_need_world := _
    F_need_world := F22
    g_need_world := PySem.W.mg_of X G a22
    b_need_world := b22
    a_need_thing := f23
    fd_need_thing := _
    F_need_thing := F23
    g_need_thing := PySem.W.mg_of X G a23
    b_need_thing := b23
    a_made := f24
    fd_made := _
    F_made := F24
    g_made := PySem.W.mg_of X G a24
    b_made := b24
    a_dropped := f25
    fd_dropped := _
    F_dropped := F25
    g_dropped := PySem.W.mg_of X G a25
    b_dropped := b25
    a_changed := f26
    fd_changed := _
    F_changed := F26
    g_changed := PySem.W.mg_of X G a26
    b_changed := b26
    a_with_numbers := f27
    fd_with_numbers := _
    F_with_numbers := F27
    g_with_numbers := PySem.W.mg_of X G a27
    b_with_numbers := b27
    a_law_dice := f28
    fd_law_dice := _
    F_law_dice := F28
    g_law_dice := PySem.W.mg_of X G a28
    b_law_dice := b28
    a_law_roll := f29
    fd_law_roll := _
    F_law_roll := F29
    g_law_roll := PySem.W.mg_of X G a29
    b_law_roll := b29
    a_law_pick := f30
    fd_law_pick := _
    F_law_pick := F30
    g_law_pick := PySem.W.mg_of X G a30
    b_law_pick := b30
    a_law_near := f31
    fd_law_near := _
    F_law_near := F31
    g_law_near := PySem.W.mg_of X G a31
    b_law_near := b31
    a_law_wd_plain := f32
    fd_law_wd_plain := _
    F_law_wd_plain := F32
    g_law_wd_plain := PySem.W.mg_of X G a32
    b_law_wd_plain := b32
    a_law_number := f33
    fd_law_number := _
    F_law_number := F33
    g_law_number := PySem.W.mg_of X G a33
    b_law_number := b33
    a_law_numbers := f34
    fd_law_numbers := _
    F_law_numbers := F34
    g_law_numbers := PySem.W.mg_of X G a34
    b_law_numbers := b34
    a_law_kind_drawn := f35
    fd_law_kind_drawn := _
    F_law_kind_drawn := F35
    g_law_kind_drawn := PySem.W.mg_of X G a35
    b_law_kind_drawn := b35
    a_law_world_drawn := f36
    fd_law_world_drawn := _
    F_law_world_drawn := F36
    g_law_world_drawn := PySem.W.mg_of X G a36
    b_law_world_drawn := b36
    a_law_is_told := f37
    fd_law_is_told := _
    F_law_is_told := F37
    g_law_is_told := PySem.W.mg_of X G a37
    b_law_is_told := b37
    a_law_made := f38
    fd_law_made := _
    F_law_made := F38
    g_law_made := PySem.W.mg_of X G a38
    b_law_made := b38
    a_law_done := f39
    fd_law_done := _
    F_law_done := F39
    g_law_done := PySem.W.mg_of X G a39
    b_law_done := b39
    a_law_is_alone := f40
    fd_law_is_alone := _
    F_law_is_alone := F40
    g_law_is_alone := PySem.W.mg_of X G a40
    b_law_is_alone := b40
    a_law_right := f41
    fd_law_right := _
    F_law_right := F41
    g_law_right := PySem.W.mg_of X G a41
    b_law_right := b41
    C_World := C_World
    cl_World := ⟨pg_World, hd_World, po_World, sa_World⟩
    g_World := PySem.W.mg_of X G aC_World
    n_World_tick := nA_World_tick
    n_World_next_id := nA_World_next_id
    n_World_luck := nA_World_luck
    n_World_things := nA_World_things
    n_World_order := nA_World_order
    n_World_table := nA_World_table
    z_abs := PySem.W.mg_none_of X G z_abs
    z_max := PySem.W.mg_none_of X G z_max
    z_min := PySem.W.mg_none_of X G z_min
    z_int := PySem.W.mg_none_of X G z_int
    z_len := PySem.W.mg_none_of X G z_len
    z_range := PySem.W.mg_none_of X G z_range
    z_isinstance := PySem.W.mg_none_of X G z_isinstance
    z_str := PySem.W.mg_none_of X G z_str
    z_bool := PySem.W.mg_none_of X G z_bool
    z_tuple := PySem.W.mg_none_of X G z_tuple
    z_list := PySem.W.mg_none_of X G z_list
    z_set := PySem.W.mg_none_of X G z_set
    z_all := PySem.W.mg_none_of X G z_all
    z_zip := PySem.W.mg_none_of X G z_zip
    z_iter := PySem.W.mg_none_of X G z_iter
    t_MODULUS := t_MODULUS
    g_MODULUS := PySem.W.mg_of X G v_MODULUS
    t_MOST := t_MOST
    g_MOST := PySem.W.mg_of X G v_MOST
    t_MAX_THINGS := t_MAX_THINGS
    g_MAX_THINGS := PySem.W.mg_of X G v_MAX_THINGS
    t_MAX_FIELDS := t_MAX_FIELDS
    g_MAX_FIELDS := PySem.W.mg_of X G v_MAX_FIELDS
    ha_World := vha_World
    hn_World := vhn_World
    ht_World := vht_World
    hm_World := vhm_World
    hc_World := (by obtain ⟨cd, hc, _⟩ := PySem.W.any_some hd_World; rw [hc]; rfl)
    hy_World := vhy_World
    hs_World_tuple := vhs_World_tuple
    hs_World_NoneType := vhs_World_NoneType
    hs_World_str := vhs_World_str
    ne_World := vne_World
    ob_World := vob_World
  }
  exact ⟨PySem.W.fnOf "law" "law" (defArgs s_law) (defBody s_law) (defScope s_law) .none kV42 dc42 pm42 an42 cd42 ct42, fun s v => .of_eq rfl, fun base _ _ => ok_law T F42⟩
end Kz
open PySem PySem.W PyProof.Rows
set_option maxHeartbeats 0 in
theorem PySem.Challenge.cw_settledplay_k06_whole_rows_of_things_holds : PySem.Challenge.rw_settledplay_k06_whole_rows_of_things.Holds := by
  w_on; o_law; k_head; (case hw => w_witness2)
  k_fill
  refine L2.walk_of (l := PySem.Challenge.rw_settledplay_k06_whole_rows_of_things) (n := 63) (k := 14) (x := "script") (CX := fun _ => L2.CX0) (sp := fun w => Kz.spLaw _) rfl (by decide) rfl ⟨rfl, by decide, by decide⟩ (fun w h Y => PySem.W.kIn_of Y) ?F (fun _ _ a ns hl _ hS => ⟨a, ns, rfl, hS, hl, fun _ => rfl⟩) (fun _ _ _ _ _ h => h)
  case F =>
    intro w mg fa h KX G hmg
    refine' Kz.all_mk KX G hmg ?aC_World ?pg_World ?hd_World ?po_World ?sa_World ?mi_World ?kc_World ?nA_World_tick ?nA_World_next_id ?nA_World_luck ?nA_World_things ?nA_World_order ?nA_World_table ?a0 ?l0 ?c0 ?k0 ?a1 ?l1 ?c1 ?k1 ?a2 ?l2 ?c2 ?k2 ?a3 ?l3 ?c3 ?k3 ?a4 ?l4 ?c4 ?k4 ?a5 ?l5 ?c5 ?k5 ?a6 ?i6 ?l6 ?c6 ?k6 ?a7 ?i7 ?l7 ?c7 ?k7 ?a8 ?i8 ?l8 ?c8 ?k8 ?a9 ?i9 ?l9 ?c9 ?k9 ?a10 ?i10 ?l10 ?c10 ?k10 ?a11 ?i11 ?l11 ?c11 ?k11 ?a12 ?i12 ?l12 ?c12 ?k12 ?a13 ?i13 ?l13 ?c13 ?k13 ?a14 ?i14 ?l14 ?c14 ?k14 ?a15 ?i15 ?l15 ?c15 ?k15 ?a16 ?l16 ?c16 ?k16 ?a17 ?l17 ?c17 ?k17 ?a18 ?l18 ?c18 ?k18 ?a19 ?l19 ?c19 ?k19 ?a20 ?l20 ?c20 ?k20 ?a21 ?l21 ?c21 ?k21 ?a22 ?l22 ?c22 ?k22 ?a23 ?l23 ?c23 ?k23 ?a24 ?l24 ?c24 ?k24 ?a25 ?l25 ?c25 ?k25 ?a26 ?l26 ?c26 ?k26 ?a27 ?l27 ?c27 ?k27 ?a28 ?l28 ?c28 ?k28 ?a29 ?l29 ?c29 ?k29 ?a30 ?l30 ?c30 ?k30 ?a31 ?l31 ?c31 ?k31 ?a32 ?l32 ?c32 ?k32 ?a33 ?l33 ?c33 ?k33 ?a34 ?l34 ?c34 ?k34 ?a35 ?l35 ?c35 ?k35 ?a36 ?l36 ?c36 ?k36 ?a37 ?l37 ?c37 ?k37 ?a38 ?l38 ?c38 ?k38 ?a39 ?l39 ?c39 ?k39 ?a40 ?l40 ?c40 ?k40 ?a41 ?l41 ?c41 ?k41 ?a42 ?l42 ?c42 ?k42 ?z_abs ?z_max ?z_min ?z_int ?z_len ?z_range ?z_isinstance ?z_str ?z_bool ?z_tuple ?z_list ?z_set ?z_all ?z_zip ?z_iter ?v_MODULUS ?v_MOST ?v_MAX_THINGS ?v_MAX_FIELDS ?vha_World ?vhn_World ?vht_World ?vhm_World ?vhy_World ?vhs_World_tuple ?vhs_World_NoneType ?vhs_World_str ?vne_World ?vob_World
    (case aC_World => k_is)
    (case pg_World => k_is)
    (case hd_World => k_is)
    (case po_World => k_is)
    (case sa_World => k_is)
    (case mi_World => k_is)
    (case kc_World => k_is)
    (case nA_World_tick => k_is)
    (case nA_World_next_id => k_is)
    (case nA_World_luck => k_is)
    (case nA_World_things => k_is)
    (case nA_World_order => k_is)
    (case nA_World_table => k_is)
    (case a0 => k_is)
    (case l0 => k_is)
    (case c0 => k_is)
    (case k0 => k_is)
    (case a1 => k_is)
    (case l1 => k_is)
    (case c1 => k_is)
    (case k1 => k_is)
    (case a2 => k_is)
    (case l2 => k_is)
    (case c2 => k_is)
    (case k2 => k_is)
    (case a3 => k_is)
    (case l3 => k_is)
    (case c3 => k_is)
    (case k3 => k_is)
    (case a4 => k_is)
    (case l4 => k_is)
    (case c4 => k_is)
    (case k4 => k_is)
    (case a5 => k_is)
    (case l5 => k_is)
    (case c5 => k_is)
    (case k5 => k_is)
    (case a6 => k_is)
    (case i6 => k_is)
    (case l6 => k_is)
    (case c6 => k_is)
    (case k6 => k_is)
    (case a7 => k_is)
    (case i7 => k_is)
    (case l7 => k_is)
    (case c7 => k_is)
    (case k7 => k_is)
    (case a8 => k_is)
    (case i8 => k_is)
    (case l8 => k_is)
    (case c8 => k_is)
    (case k8 => k_is)
    (case a9 => k_is)
    (case i9 => k_is)
    (case l9 => k_is)
    (case c9 => k_is)
    (case k9 => k_is)
    (case a10 => k_is)
    (case i10 => k_is)
    (case l10 => k_is)
    (case c10 => k_is)
    (case k10 => k_is)
    (case a11 => k_is)
    (case i11 => k_is)
    (case l11 => k_is)
    (case c11 => k_is)
    (case k11 => k_is)
    (case a12 => k_is)
    (case i12 => k_is)
    (case l12 => k_is)
    (case c12 => k_is)
    (case k12 => k_is)
    (case a13 => k_is)
    (case i13 => k_is)
    (case l13 => k_is)
    (case c13 => k_is)
    (case k13 => k_is)
    (case a14 => k_is)
    (case i14 => k_is)
    (case l14 => k_is)
    (case c14 => k_is)
    (case k14 => k_is)
    (case a15 => k_is)
    (case i15 => k_is)
    (case l15 => k_is)
    (case c15 => k_is)
    (case k15 => k_is)
    (case a16 => k_is)
    (case l16 => k_is)
    (case c16 => k_is)
    (case k16 => k_is)
    (case a17 => k_is)
    (case l17 => k_is)
    (case c17 => k_is)
    (case k17 => k_is)
    (case a18 => k_is)
    (case l18 => k_is)
    (case c18 => k_is)
    (case k18 => k_is)
    (case a19 => k_is)
    (case l19 => k_is)
    (case c19 => k_is)
    (case k19 => k_is)
    (case a20 => k_is)
    (case l20 => k_is)
    (case c20 => k_is)
    (case k20 => k_is)
    (case a21 => k_is)
    (case l21 => k_is)
    (case c21 => k_is)
    (case k21 => k_is)
    (case a22 => k_is)
    (case l22 => k_is)
    (case c22 => k_is)
    (case k22 => k_is)
    (case a23 => k_is)
    (case l23 => k_is)
    (case c23 => k_is)
    (case k23 => k_is)
    (case a24 => k_is)
    (case l24 => k_is)
    (case c24 => k_is)
    (case k24 => k_is)
    (case a25 => k_is)
    (case l25 => k_is)
    (case c25 => k_is)
    (case k25 => k_is)
    (case a26 => k_is)
    (case l26 => k_is)
    (case c26 => k_is)
    (case k26 => k_is)
    (case a27 => k_is)
    (case l27 => k_is)
    (case c27 => k_is)
    (case k27 => k_is)
    (case a28 => k_is)
    (case l28 => k_is)
    (case c28 => k_is)
    (case k28 => k_is)
    (case a29 => k_is)
    (case l29 => k_is)
    (case c29 => k_is)
    (case k29 => k_is)
    (case a30 => k_is)
    (case l30 => k_is)
    (case c30 => k_is)
    (case k30 => k_is)
    (case a31 => k_is)
    (case l31 => k_is)
    (case c31 => k_is)
    (case k31 => k_is)
    (case a32 => k_is)
    (case l32 => k_is)
    (case c32 => k_is)
    (case k32 => k_is)
    (case a33 => k_is)
    (case l33 => k_is)
    (case c33 => k_is)
    (case k33 => k_is)
    (case a34 => k_is)
    (case l34 => k_is)
    (case c34 => k_is)
    (case k34 => k_is)
    (case a35 => k_is)
    (case l35 => k_is)
    (case c35 => k_is)
    (case k35 => k_is)
    (case a36 => k_is)
    (case l36 => k_is)
    (case c36 => k_is)
    (case k36 => k_is)
    (case a37 => k_is)
    (case l37 => k_is)
    (case c37 => k_is)
    (case k37 => k_is)
    (case a38 => k_is)
    (case l38 => k_is)
    (case c38 => k_is)
    (case k38 => k_is)
    (case a39 => k_is)
    (case l39 => k_is)
    (case c39 => k_is)
    (case k39 => k_is)
    (case a40 => k_is)
    (case l40 => k_is)
    (case c40 => k_is)
    (case k40 => k_is)
    (case a41 => k_is)
    (case l41 => k_is)
    (case c41 => k_is)
    (case k41 => k_is)
    (case a42 => k_is)
    (case l42 => k_is)
    (case c42 => k_is)
    (case k42 => k_is)
    (case z_abs => k_is)
    (case z_max => k_is)
    (case z_min => k_is)
    (case z_int => k_is)
    (case z_len => k_is)
    (case z_range => k_is)
    (case z_isinstance => k_is)
    (case z_str => k_is)
    (case z_bool => k_is)
    (case z_tuple => k_is)
    (case z_list => k_is)
    (case z_set => k_is)
    (case z_all => k_is)
    (case z_zip => k_is)
    (case z_iter => k_is)
    (case v_MODULUS => k_is)
    (case v_MOST => k_is)
    (case v_MAX_THINGS => k_is)
    (case v_MAX_FIELDS => k_is)
    (case vha_World => k_is)
    (case vhn_World => k_is)
    (case vht_World => k_is)
    (case vhm_World => k_is)
    (case vhy_World => k_is)
    (case vhs_World_tuple => k_is)
    (case vhs_World_NoneType => k_is)
    (case vhs_World_str => k_is)
    (case vne_World => k_is)
    (case vob_World => k_is)
