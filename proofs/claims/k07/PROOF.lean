import PyProof.Rows.All
import Wide.All
import OpenK.AllK
import Wide.FinOn
import HandS.ForMost
import HandS.Wide
import HandS.Evl
import HandS.IsInst
import HandS.RaiseMore
import HandS.More
import HandS.CallLocal
import HandS.Style
import HandS.TupAny
import HandS.Strs
import KE.IntTextLaws
import HandS.Walk
import HandS.Iter
import KE.GoesMore
import HandS.OwnEq
import HandS.OwnIter
import HandS.DictComp
import HandS.StrMore
import HandS.FStr
import HandS.Zip
import HandS.Text
import HandS.Star
import HandS.Defaults
import PyProof.InstEq
import PyProof.CallStr
import HandS.IterVal
import PyProof.NeKinds
import HandS.SetFor
import PyProof.SetRoads
import HandS.Deep
import HandS.NoneIn
import PyProof.ListStr
import HandS.MakeKwOnly
import HandS.Exc
import HandS.ExcOwn
import HandS.TryOnly
import HandS.WordsExc
import HandS.Codes
import PySem.Challenge.RW_settledplay_k07_whole_texts_of_worlds
import KE.KStrOpen
set_option Elab.async false
set_option linter.all false
set_option maxRecDepth 100000
set_option maxHeartbeats 4000000
namespace Vr
open PySem PySem.Spec PyProof.Rows L2 Evl
/-! ### rules of calls whose answer is one -/
section
variable {X : Cx}
def rI1 (g : Int → V) : List V → Hp → VK → Prop := fun xs H Q => ∃ i, xs = [.int i] ∧ Q (g i) H
def rB1 (g : Bool → V) : List V → Hp → VK → Prop := fun xs H Q => ∃ i, xs = [.bl i] ∧ Q (g i) H
def rI2 (g : Int → Int → V) : List V → Hp → VK → Prop := fun xs H Q => ∃ i j, xs = [.int i, .int j] ∧ Q (g i j) H
theorem callR_mono {f : Value} {r r' : List V → Hp → VK → Prop} (h : CallR X f r) (k : ∀ vs H Q, r' vs H Q → r vs H Q) : CallR X f r' :=
  fun pins s σ H xs us Q I rv q => h pins s σ H xs us Q I rv (k _ _ _ q)
theorem c_int : CallR X (.type "int") (rI1 fun i => .int i) := callR_mono call_int1 fun _ _ _ h => .inl h
theorem c_intB : CallR X (.type "int") (rB1 fun k => .int (if k then 1 else 0)) := callR_mono call_int1 fun _ _ _ h => .inr h
theorem c_abs : CallR X (.builtin "abs") (rI1 fun i => .int (if i < 0 then -i else i)) := call_abs
theorem c_max (hc : X.calm = true) : CallR X (.builtin "max") (rI2 fun i j => .int (if j > i then j else i)) := call_max2 hc
theorem c_min (hc : X.calm = true) : CallR X (.builtin "min") (rI2 fun i j => .int (if j < i then j else i)) := call_min2 hc
def rRepr : List V → Hp → VK → Prop := fun xs H Q => ∃ i : Int, xs = [.int i] ∧ i.natAbs.log2 < 1920 ∧ Q (.str (toString i)) H
theorem c_repr : CallR X (.builtin "repr") rRepr := SkE.call_repr_int
theorem c_len : CallR X (.builtin "len") (rLenS X.K) := call_len_seq
end
section
variable {K : PySem.W.Frag} {σ : L2.St} {H H' : Hp} {ta tb tc te : TE} {t u : TT} {x y z v : V} {r r' : R2} {D : Ends}
theorem sc_mul {i j : Int} (h : -18446744073709551616 < i ∧ i < 18446744073709551616) : CMul i j := .inl h
theorem sc_div {i j : Int} (h : 0 < j) (h2 : j.natAbs.log2 < 9000) : CDivW i j := ⟨h, h2⟩
theorem rc_I1 {g : Int → V} {i : Int} : RC (rI1 g) [.int i] H (g i) := fun H1 _ _ q => ⟨i, rfl, q H1 (Ex.refl H1)⟩
theorem rc_B1 {g : Bool → V} {i : Bool} : RC (rB1 g) [.bl i] H (g i) := fun H1 _ _ q => ⟨i, rfl, q H1 (Ex.refl H1)⟩
theorem rc_I2 {g : Int → Int → V} {i j : Int} : RC (rI2 g) [.int i, .int j] H (g i j) := fun H1 _ _ q => ⟨i, j, rfl, q H1 (Ex.refl H1)⟩
theorem rc_repr {i : Int} (h : i.natAbs.log2 < 1920) : RC rRepr [.int i] H (.str (toString i)) := fun H1 _ _ q => ⟨i, rfl, h, q H1 (Ex.refl H1)⟩
theorem rc_lenL {p : Addr} {xs : List V} (h : SqL K H p xs) : RC (rLenS K) [.ref p] H (.int (xs.length : Int)) := fun H1 e _ q => ⟨p, xs, rfl, .inl (ex_l e h), q H1 (Ex.refl H1)⟩
theorem ev_chain {a b : Bool} (h1 : Ev ta σ H x) (h2 : Ev tb σ H y) (r1 : RV r x y H (.bl a)) (h3 : Ev tc σ H z) (r2 : RV r' y z H (.bl b)) : Ev (tChain r r' ta tb tc) σ H (.bl (a && b)) := fun H1 e Q q =>
  h1 H1 e _ fun H2 e2 => h2 H2 (e.trans e2) _ fun H3 e3 => r1 H3 ((e.trans e2).trans e3) _ fun H4 e4 => ⟨a, rfl, by
    cases a with
    | true =>
      rw [if_pos rfl]
      exact h3 H4 (((e.trans e2).trans e3).trans e4) _ fun H5 e5 => r2 H5 ((((e.trans e2).trans e3).trans e4).trans e5) _ fun H6 e6 => q H6 ((((e2.trans e3).trans e4).trans e5).trans e6)
    | false =>
      rw [if_neg Bool.false_ne_true]
      exact q H4 ((e2.trans e3).trans e4)⟩
/-- an expression that evaluates, then what follows -/
theorem go {Q : VK} (h : Ev te σ H v) (k : ∀ H1, Ex H H1 → Q v H1) : te σ H Q := h H (Ex.refl H) Q k
theorem goT {b : Bool} {Q : Bool → Hp → Prop} (h : EvT t σ H b) (k : ∀ H1, Ex H H1 → Q b H1) : t σ H Q := h H (Ex.refl H) Q k
theorem goA {ts : TA} {vs : List V} {Q : List V → Hp → Prop} (h : EvA ts σ H vs) (k : ∀ H1, Ex H H1 → Q vs H1) : ts σ H Q := h H (Ex.refl H) Q k
/-! ### promises of defs that answer by their arguments, whatever else they make -/
def Pure (ok : List V → Hp → V → Prop) : Sp := fun vs H Q _ => ∃ z, ok vs H z ∧ ∀ H', Ex H H' → Q z H'
theorem ev_callP {ok : List V → Hp → V → Prop} {E : XK} {ts : TA} {vs : List V} (h : EvA ts σ H vs) (ho : ∀ H1, Ex H H1 → ok vs H1 z) : Ev (tCall (Pure ok) [] E ts) σ H z := fun H1 e Q q =>
  h H1 e _ fun H2 e2 => by
    show Pure ok (vs ++ []) H2 Q E
    rw [List.append_nil]
    exact ⟨z, ho H2 (e.trans e2), fun H3 e3 => q H3 (e2.trans e3)⟩
theorem fin {Q : VK} (k : ∀ H', Ex H H' → Q z H') (e : Ex H H') : Q z H' := k H' e
/-! ### the dice: a list of three ints at p, all else as it was -/
def Exd (p : Addr) (H H' : Hp) : Prop := ∀ a o, a ≠ p → H a = some o → H' a = some o
theorem Exd.refl (p : Addr) (H : Hp) : Exd p H H := fun _ _ _ h => h
theorem Exd.trans {p : Addr} {H H1 H2 : Hp} (a : Exd p H H1) (b : Exd p H1 H2) : Exd p H H2 := fun c o n h => b c o n (a c o n h)
theorem Exd.of {p : Addr} (e : Ex H H') : Exd p H H' := fun a o _ h => e a o h
theorem Exd.upd {p : Addr} {o : HO} : Exd p H (upd H p o) := fun a u n h => by rw [upd_ne n]; exact h
def Dice (p : Addr) (H : Hp) : Prop := ∃ a b c : Int, H p = some (.lst [.int a, .int b, .int c])
theorem Dice.ex {p : Addr} (e : Ex H H') (d : Dice p H) : Dice p H' := by
  obtain ⟨a, b, c, h⟩ := d
  exact ⟨a, b, c, e _ _ h⟩
theorem Exd.l {p a : Addr} {xs : List V} (e : Exd p H H') (n : a ≠ p) (h : SqL K H a xs) : SqL K H' a xs := by
  rcases h with (h | ⟨o, h⟩) | h
  · exact .inl (.inl (e _ _ n h))
  · exact .inl (.inr ⟨o, e _ _ n h⟩)
  · exact .inr h
/-! ### more values -/
theorem ev_ite {b : Bool} {v1 v2 : V} (h : EvT t σ H b) (h1 : b = true → Ev ta σ H v1) (h2 : b = false → Ev tb σ H v2) : Ev (tIf t ta tb) σ H (if b = true then v1 else v2) :=
  ev_if h (fun e => by rw [if_pos e]; exact h1 e) (fun e => by rw [if_neg (by rw [e]; exact Bool.false_ne_true)]; exact h2 e)
theorem ev_pow {a b c : Int} (h : 0 ≤ b ∧ b ≤ 1000000 ∧ a.natAbs < 2 ^ 64) (e : a ^ b.toNat = c) : Ev (tOp (rI CPow fun i j => .int (i ^ j.toNat)) (tC (.int a)) (tC (.int b))) σ H (.int c) := by
  rw [← e]
  exact ev_op ev_c ev_c (rv_I h)
/-- the type of a value, and what isinstance says of int and bool -/
def isIB : V → Bool
  | .int _ => true
  | .bl _ => true
  | _ => false
def isB : V → Bool
  | .bl _ => true
  | _ => false
def isS : V → Bool
  | .str _ => true
  | _ => false
/-- a plain value: its type is a built-in one -/
def Plain (K : PySem.W.Frag) (H : Hp) (x : V) : Prop := ∃ n, TyX K H x (.type n)
theorem isi_int {n : String} (h : TyX K H x (.type n)) : PySem.W.kitOne K (.type n) (.type "int") = some (isIB x) := by
  cases h with
  | base b => cases b <;> first | exact kit_ty (r := false) (by decide +kernel) | exact kit_ty (r := true) (by decide +kernel)
  | byt _ => first | exact kit_ty (r := false) (by decide +kernel) | exact kit_ty (r := true) (by decide +kernel)
  | set _ => first | exact kit_ty (r := false) (by decide +kernel) | exact kit_ty (r := true) (by decide +kernel)
  | kList _ _ => first | exact kit_ty (r := false) (by decide +kernel) | exact kit_ty (r := true) (by decide +kernel)
  | kTuple _ _ => first | exact kit_ty (r := false) (by decide +kernel) | exact kit_ty (r := true) (by decide +kernel)
  | kDict _ _ => first | exact kit_ty (r := false) (by decide +kernel) | exact kit_ty (r := true) (by decide +kernel)
  | fTuple _ => first | exact kit_ty (r := false) (by decide +kernel) | exact kit_ty (r := true) (by decide +kernel)
  | fDict _ => first | exact kit_ty (r := false) (by decide +kernel) | exact kit_ty (r := true) (by decide +kernel)
theorem isi_bool {n : String} (h : TyX K H x (.type n)) : PySem.W.kitOne K (.type n) (.type "bool") = some (isB x) := by
  cases h with
  | base b => cases b <;> first | exact kit_ty (r := false) (by decide +kernel) | exact kit_ty (r := true) (by decide +kernel)
  | byt _ => first | exact kit_ty (r := false) (by decide +kernel) | exact kit_ty (r := true) (by decide +kernel)
  | set _ => first | exact kit_ty (r := false) (by decide +kernel) | exact kit_ty (r := true) (by decide +kernel)
  | kList _ _ => first | exact kit_ty (r := false) (by decide +kernel) | exact kit_ty (r := true) (by decide +kernel)
  | kTuple _ _ => first | exact kit_ty (r := false) (by decide +kernel) | exact kit_ty (r := true) (by decide +kernel)
  | kDict _ _ => first | exact kit_ty (r := false) (by decide +kernel) | exact kit_ty (r := true) (by decide +kernel)
  | fTuple _ => first | exact kit_ty (r := false) (by decide +kernel) | exact kit_ty (r := true) (by decide +kernel)
  | fDict _ => first | exact kit_ty (r := false) (by decide +kernel) | exact kit_ty (r := true) (by decide +kernel)
theorem ty_ex {u : Value} (e : Ex H H') (h : TyX K H x u) : TyX K H' x u := by
  cases h with
  | base b =>
    cases b with
    | non => exact .base .non
    | bl y => exact .base (.bl y)
    | int y => exact .base (.int y)
    | str y => exact .base (.str y)
    | flt y => exact .base (.flt y)
    | lst h => exact .base (.lst (e _ _ h))
    | frz h => exact .base (.frz (e _ _ h))
    | tup h => exact .base (.tup (e _ _ h))
    | dK h => exact .base (.dK (e _ _ h))
    | dT h => exact .base (.dT (e _ _ h))
    | ins h a b c d f => exact .base (.ins (e _ _ h) a b c d f)
  | byt b => exact .byt b
  | set h => exact .set (e _ _ h)
  | kList h c => exact .kList h c
  | kTuple h c => exact .kTuple h c
  | kDict h c => exact .kDict h c
  | fTuple h => exact .fTuple (e _ _ h)
  | fDict h => exact .fDict (e _ _ h)
theorem Plain.ex (e : Ex H H') (h : Plain K H x) : Plain K H' x := by
  obtain ⟨n, h⟩ := h
  exact ⟨n, ty_ex e h⟩
theorem rc_isiInt (h : Plain K H x) : RC (rIsi K) [x, .ty "int"] H (.bl (isIB x)) := fun H1 e Q q => by
  obtain ⟨n, h⟩ := h.ex e
  exact ⟨x, .ty "int", .type n, .type "int", _, rfl, .ty _, h, isi_int h, q H1 (Ex.refl H1)⟩
theorem rc_isiBool (h : Plain K H x) : RC (rIsi K) [x, .ty "bool"] H (.bl (isB x)) := fun H1 e Q q => by
  obtain ⟨n, h⟩ := h.ex e
  exact ⟨x, .ty "bool", .type n, .type "bool", _, rfl, .ty _, h, isi_bool h, q H1 (Ex.refl H1)⟩
/-- an integer of at most sixty digits -/
def isIntV : V → Bool
  | .int i => decide (-1000000000000000000000000000000000000000000000000000000000000 < i) && decide (i < 1000000000000000000000000000000000000000000000000000000000000)
  | _ => false
def isWithin (lo hi : Int) : V → Bool
  | .int i => isIntV (.int i) && (decide (lo ≤ i) && decide (i ≤ hi))
  | _ => false
theorem pl_int {i : Int} : Plain K H (.int i) := ⟨_, .base (.int i)⟩
theorem pl_bl {i : Bool} : Plain K H (.bl i) := ⟨_, .base (.bl i)⟩
theorem pl_str {i : Str} : Plain K H (.str i) := ⟨_, .base (.str i)⟩
theorem pl_non : Plain K H .non := ⟨_, .base .non⟩
theorem pl_lst {a : Addr} {xs : List V} (h : H a = some (.lst xs)) : Plain K H (.ref a) := ⟨_, .base (.lst h)⟩
theorem pl_tup {a : Addr} {xs : List V} (h : H a = some (.tup xs)) : Plain K H (.ref a) := ⟨_, .base (.tup h)⟩
theorem pl_dK {a : Addr} {xs : List (Key × V)} (h : H a = some (.dK xs)) : Plain K H (.ref a) := ⟨_, .base (.dK h)⟩
/-! ### loops over a new tuple -/
variable {tu tw tz : TS} {g : TG}
theorem s_forNU {xs : List V} {tl : TE} (h : EvU tl σ H xs) (Pv : Addr → Nat → L2.St → Hp → Prop) (h0 : ∀ p H1, H p = none → Ex H H1 → H1 p = some (.tup xs) → Pv p 0 σ H1) (hl : ∀ p i σ' H', i ≤ xs.length → Pv p i σ' H' → SqT K H' p xs)
    (hs : ∀ p i x σ' H', xs[i]? = some x → Pv p i σ' H' → g x σ' H' fun σ2 H2 => tu { D with nx := Pv p (i + 1), ct := Pv p (i + 1), bk := D.nx } σ2 H2) (hd : ∀ p σ' H', Pv p xs.length σ' H' → D.nx σ' H') : tFor (iTup K tl) g tu D σ H :=
  h H (Ex.refl H) _ fun p H1 hp e h1 => ⟨p, rfl, ⟨xs, st_of h1⟩, for_tup (Pv p) (h0 p H1 hp e h1) (hl p) (hs p) (hd p)⟩
theorem q_forNU {xs : List V} {tl : TE} (h : EvU tl σ H xs) (Pv : Addr → Nat → L2.St → Hp → Prop) (h0 : ∀ p H1, H p = none → Ex H H1 → H1 p = some (.tup xs) → Pv p 0 σ H1) (hl : ∀ p i σ' H', i ≤ xs.length → Pv p i σ' H' → SqT K H' p xs)
    (hs : ∀ p i x σ' H', xs[i]? = some x → Pv p i σ' H' → g x σ' H' fun σ2 H2 => tu { D with nx := Pv p (i + 1), ct := Pv p (i + 1), bk := tz D } σ2 H2) (hd : ∀ p σ' H', Pv p xs.length σ' H' → tz D σ' H') : tSeq (tFor (iTup K tl) g tu) tz D σ H :=
  s_forNU (D := { D with nx := tz D }) h Pv h0 hl hs hd
/-! ### what draws from the dice -/
def Dv (p : Addr) (te : TE) (σ : L2.St) (H : Hp) (R : V → Prop) : Prop := ∀ H1, Exd p H H1 → Dice p H1 → ∀ Q : VK, (∀ v H2, R v → Exd p H1 H2 → Dice p H2 → Q v H2) → te σ H1 Q
def DvA (p : Addr) (ta : TA) (σ : L2.St) (H : Hp) (R : List V → Prop) : Prop := ∀ H1, Exd p H H1 → Dice p H1 → ∀ Q : List V → Hp → Prop, (∀ v H2, R v → Exd p H1 H2 → Dice p H2 → Q v H2) → ta σ H1 Q
theorem dv_ev {p : Addr} {R : V → Prop} (h : ∀ H1, Exd p H H1 → Dice p H1 → Ev te σ H1 v) (hr : R v) : Dv p te σ H R := fun H1 e d Q q => h H1 e d H1 (Ex.refl H1) Q fun H2 e2 => q v H2 hr (Exd.of e2) (d.ex e2)
theorem Dv.mono {p : Addr} {R R' : V → Prop} (h : Dv p te σ H R) (k : ∀ v, R v → R' v) : Dv p te σ H R' := fun H1 e d Q q => h H1 e d Q fun v H2 r => q v H2 (k v r)
theorem da_nil {p : Addr} {P : V → Prop} : DvA p tNil σ H (fun vs => vs.length = 0 ∧ ∀ v ∈ vs, P v) := fun H1 e d Q q => q [] H1 ⟨rfl, fun _ h => by cases h⟩ (Exd.refl p H1) d
theorem da_cons {p : Addr} {n : Nat} {P : V → Prop} {tr : TA} (h : Dv p te σ H P) (hr : DvA p tr σ H (fun vs => vs.length = n ∧ ∀ v ∈ vs, P v)) : DvA p (tCons te tr) σ H (fun vs => vs.length = n + 1 ∧ ∀ v ∈ vs, P v) := fun H1 e d Q q =>
  h H1 e d _ fun v H2 r e2 d2 => hr H2 (e.trans e2) d2 _ fun vs H3 rs e3 d3 => q (v :: vs) H3 ⟨by rw [List.length_cons, rs.1], fun x hx => by
    rcases List.mem_cons.mp hx with z | z
    · rw [z]; exact r
    · exact rs.2 x z⟩ (e2.trans e3) d3
theorem Exd.none {p a : Addr} (e : Exd p H H') (n : a ≠ p) (h : H' a = none) : H a = none := by
  cases q : H a with
  | none => rfl
  | some o => rw [e a o n q] at h; cases h
theorem Dice.ne {p a : Addr} (d : Dice p H) (h : H a = none) : a ≠ p := by
  obtain ⟨x, y, z, hp⟩ := d
  intro e
  rw [e, hp] at h
  cases h
/-- the call of a def that draws: what it promises of its answer -/
def Draws (ok : List V → Hp → Addr → (V → Prop) → Prop) : Sp := fun vs H Q _ => ∃ (p : Addr) (R : V → Prop), ok vs H p R ∧ Dice p H ∧ ∀ v H', R v → Exd p H H' → Dice p H' → Q v H'
theorem dv_call {ok : List V → Hp → Addr → (V → Prop) → Prop} {E : XK} {ts : TA} {p : Addr} {R : V → Prop} {vs : List V} (h : ∀ H1, Exd p H H1 → Dice p H1 → EvA ts σ H1 vs) (ho : ∀ H1, Exd p H H1 → Dice p H1 → ok vs H1 p R) : Dv p (tCall (Draws ok) [] E ts) σ H R := fun H1 e d Q q =>
  h H1 e d H1 (Ex.refl H1) _ fun H2 e2 => by
    show Draws ok (vs ++ []) H2 Q E
    rw [List.append_nil]
    exact ⟨p, R, ho H2 (e.trans (Exd.of e2)) (d.ex e2), d.ex e2, fun v H3 r e3 d3 => q v H3 r ((Exd.of e2).trans e3) d3⟩
theorem sc_mulr {i j : Int} (h : -18446744073709551616 < j ∧ j < 18446744073709551616) : CMul i j := .inr h
theorem q_asgI {i : Nat} (h : ∃ c : Int, Ev te σ H (.int c)) (k : ∀ (c : Int) H1, Ex H H1 → tz D (σ.set i (some (.int c))) H1) : tSeq (tAsg te (gName i)) tz D σ H := by
  obtain ⟨c, h⟩ := h
  exact q_asg h (k c)
/-! ### data of any depth -/
mutual
theorem dp_ex (e : Ex H H') : ∀ {d : PyData} {x : V}, Dp K H x d → Dp K H' x d
  | _, _, .non => .non
  | _, _, .bl b => .bl b
  | _, _, .int i => .int i
  | _, _, .str z => .str z
  | _, _, .lst h a => .lst (ex_l e h) (dpa_ex e a)
  | _, _, .tup h a => .tup (ex_t e h) (dpa_ex e a)
theorem dpa_ex (e : Ex H H') : ∀ {ds : List PyData} {xs : List V}, DpAll K H xs ds → DpAll K H' xs ds
  | _, _, .nil => .nil
  | _, _, .cons h t => .cons (dp_ex e h) (dpa_ex e t)
end
def EvD (K : PySem.W.Frag) (te : TE) (σ : L2.St) (H : Hp) (d : PyData) : Prop := ∀ H1, Ex H H1 → ∀ Q : VK, (∀ v H2, Ex H1 H2 → Dp K H2 v d → Q v H2) → te σ H1 Q
def EvDA (K : PySem.W.Frag) (ta : TA) (σ : L2.St) (H : Hp) (ds : List PyData) : Prop := ∀ H1, Ex H H1 → ∀ Q : List V → Hp → Prop, (∀ vs H2, Ex H1 H2 → DpAll K H2 vs ds → Q vs H2) → ta σ H1 Q
theorem dpa_len : ∀ {vs : List V} {ds : List PyData}, DpAll K H vs ds → vs.length = ds.length
  | _, _, .nil => rfl
  | _, _, .cons _ t => congrArg (· + 1) (dpa_len t)
theorem evd_of {d : PyData} (h : Ev te σ H v) (hd : ∀ H1, Ex H H1 → Dp K H1 v d) : EvD K te σ H d := fun H1 e Q q => h H1 e Q fun H2 e2 => q v H2 e2 (hd H2 (e.trans e2))
theorem evd_int {i : Int} (h : Ev te σ H (.int i)) : EvD K te σ H (.int i) := evd_of h fun _ _ => .int i
theorem evd_bl {b : Bool} (h : Ev te σ H (.bl b)) : EvD K te σ H (.bool b) := evd_of h fun _ _ => .bl b
theorem evd_str {z : Str} (h : Ev te σ H (.str z)) : EvD K te σ H (.str z) := evd_of h fun _ _ => .str z
theorem evd_non (h : Ev te σ H .non) : EvD K te σ H .none := evd_of h fun _ _ => .non
theorem evda_nil : EvDA K tNil σ H [] := fun H1 _ _ q => q [] H1 (Ex.refl H1) .nil
theorem evda_cons {d : PyData} {ds : List PyData} {tr : TA} (h : EvD K te σ H d) (hr : EvDA K tr σ H ds) : EvDA K (tCons te tr) σ H (d :: ds) := fun H1 e Q q =>
  h H1 e _ fun v H2 e2 hv => hr H2 (e.trans e2) _ fun vs H3 e3 hs => q (v :: vs) H3 (e2.trans e3) (.cons (dp_ex e3 hv) hs)
theorem evd_tup {ds : List PyData} {ts : TA} (h : EvDA K ts σ H ds) (hl : ds.length ≤ 100000) : EvD K (tTup ts) σ H (.tuple ds) := fun H1 e Q q =>
  h H1 e _ fun vs H2 e2 hs => ⟨by rw [dpa_len hs]; exact sz_of hl, fun p hp => q _ _ (e2.trans (Ex.new hp)) (.tup (st_of upd_same) (dpa_ex (Ex.new hp) hs))⟩
theorem evd_lst {ds : List PyData} {ts : TA} (h : EvDA K ts σ H ds) (hl : ds.length ≤ 100000) : EvD K (tLst ts) σ H (.list ds) := fun H1 e Q q =>
  h H1 e _ fun vs H2 e2 hs => ⟨by rw [dpa_len hs]; exact sz_of hl, fun p hp => q _ _ (e2.trans (Ex.new hp)) (.lst (sq_of upd_same) (dpa_ex (Ex.new hp) hs))⟩
theorem ev_eqD {d e : PyData} (h1 : EvD K ta σ H d) (h2 : EvD K tb σ H e) (s1 : SeqAt.shaped d = true) (s2 : SeqAt.shaped e = true) : Ev (tOp (rEqD K) ta tb) σ H (.bl (PyData.eqv d e)) := fun H1 x Q q =>
  h1 H1 x _ fun v H2 x2 hv => h2 H2 (x.trans x2) _ fun u H3 x3 hu => ⟨d, e, dp_ex x3 hv, hu, s1, s2, q H3 (x2.trans x3)⟩
theorem ev_neD {d e : PyData} (h1 : EvD K ta σ H d) (h2 : EvD K tb σ H e) (s1 : SeqAt.shaped d = true) (s2 : SeqAt.shaped e = true) : Ev (tOp (rNeD K) ta tb) σ H (.bl (!PyData.eqv d e)) := fun H1 x Q q =>
  h1 H1 x _ fun v H2 x2 hv => h2 H2 (x.trans x2) _ fun u H3 x3 hu => ⟨d, e, dp_ex x3 hv, hu, s1, s2, q H3 (x2.trans x3)⟩
/-! ### dicts laid on the way -/
def EvPs (trs : List (TE × TE)) (σ : L2.St) (H : Hp) (ps : List (V × V)) : Prop := ∀ H1, Ex H H1 → ∀ Q : List (V × V) → Hp → Prop, (∀ H2, Ex H1 H2 → Q ps H2) → tPairs trs σ H1 Q
theorem eps_nil : EvPs [] σ H [] := fun H1 _ _ q => q H1 (Ex.refl H1)
theorem eps_cons {trs : List (TE × TE)} {ps : List (V × V)} (h1 : Ev ta σ H x) (h2 : Ev tb σ H y) (hr : EvPs trs σ H ps) : EvPs ((ta, tb) :: trs) σ H ((x, y) :: ps) := fun H1 e Q q =>
  h1 H1 e _ fun H2 e2 => h2 H2 (e.trans e2) _ fun H3 e3 => hr H3 ((e.trans e2).trans e3) _ fun H4 e4 => q H4 ((e2.trans e3).trans e4)
def EvK (te : TE) (σ : L2.St) (H : Hp) (kvs : List (Key × V)) : Prop := ∀ H1, Ex H H1 → ∀ Q : VK, (∀ p H2, H1 p = none → Ex H1 H2 → H2 p = some (.dK kvs) → Q (.ref p) H2) → te σ H1 Q
theorem ek_disp {trs : List (TE × TE)} {ps : List (V × V)} (kvs : List (Key × V)) (h : EvPs trs σ H ps) (e : ps = kvs.map fun kv => (kV kv.1, kv.2)) (hl : kvs.length ≤ 15) : EvK (tDisp trs) σ H (mergeK [] kvs) := fun H1 x Q q p hp =>
  h (upd H1 p (.dK [])) (x.trans (Ex.new hp)) _ fun H2 x2 => ⟨x2 _ _ upd_same, kvs, e, hl, q p _ hp (fun a o ha => by rw [upd_ne (ne_of_none ha hp)]; exact x2 _ _ (Ex.new hp _ _ ha)) upd_same⟩
theorem ev_dgetK {kvs : List (Key × V)} {k : Key} (h1 : EvK ta σ H kvs) (h2 : Ev tb σ H (kV k)) (hv : valV kvs k = some v) : Ev (tDGet ta tb) σ H v := fun H1 e Q q =>
  h1 H1 e _ fun p H2 hp e2 h => h2 H2 (e.trans e2) _ fun H3 e3 => ⟨p, v, rfl, by rw [← hv]; exact DGet.k (e3 _ _ h), q H3 (e2.trans e3)⟩
/-! ### sorted ints, an item of a new list -/
theorem el_sorted {tl : TE} {ns ms : List Int} (h : EvL tl σ H (ns.map V.int)) (hl : ns.length < 64) (hp : ms.Perm ns) (hs : ms.Pairwise (· ≤ ·)) : EvL (tCB (rSorted K) (tCons tl tNil)) σ H (ms.map V.int) := fun H1 e Q q =>
  h H1 e _ fun p H2 hp2 e2 h2 => ⟨p, ns, rfl, sq_of h2, hl, fun ns' a hp' hs' ha => by
    have z : ns' = ms := PySem.W.ksm_same (hp'.trans hp.symm) hs' hs
    rw [z]
    exact q a _ (fresh_back e2 ha) (e2.trans (Ex.new ha)) upd_same⟩
theorem ev_ixN {xs : List V} {i : Int} (h : EvL ta σ H xs) (hb : ∀ H1, Ex H H1 → Ev tb σ H1 (.int i)) (ha : atI xs i = some v) : Ev (tOp (rIxL K) ta tb) σ H v := ev_opL1 h hb fun p H1 hp _ => rv_ixL (sq_of hp) ha
theorem q_asgDL {p : Addr} {i : Nat} {ts : TA} {R : List V → Prop} (h : DvA p ts σ H R) (hd : Dice p H) (hl : ∀ vs, R vs → vs.length ≤ 100000) (k : ∀ l xs H1, R xs → Exd p H H1 → Dice p H1 → H1 l = some (.lst xs) → l ≠ p → tz D (σ.set i (some (.ref l))) H1) : tSeq (tAsg (tLst ts) (gName i)) tz D σ H :=
  h H (Exd.refl p H) hd _ fun xs H1 hx e1 d1 => ⟨sz_of (hl xs hx), fun l hl => k l xs _ hx (e1.trans (Exd.of (Ex.new hl))) (d1.ex (Ex.new hl)) upd_same (d1.ne hl)⟩
/-- xs + [drawn things]: a new list of both -/
theorem cat_go {p : Addr} {ts : TA} {R : List V → Prop} {l : Addr} {i : Nat} {xs : List V} {Q : VK} (h : DvA p ts σ H R) (hd : Dice p H) (hx : H l = some (.lst xs)) (hlp : l ≠ p) (hi : σ[i]? = some (some (.ref l))) (hl : ∀ ys, R ys → xs.length + ys.length ≤ 100000)
    (k : ∀ ys l4 H', R ys → Exd p H H' → Dice p H' → H' l4 = some (.lst (xs ++ ys)) → l4 ≠ p → Q (.ref l4) H') : tOp rCat (tVar i) (tLst ts) σ H Q :=
  ⟨.ref l, hi, h H (Exd.refl p H) hd _ fun ys H3 hy e3 d3 => ⟨sz_of (Nat.le_trans (Nat.le_add_left _ _) (hl ys hy)), fun l2 hl2 => ⟨l, l2, xs, ys, rfl, rfl, Ex.new hl2 _ _ (e3 _ _ hlp hx), upd_same, sz_of (hl ys hy), fun l4 hl4 =>
    k ys l4 _ hy (e3.trans ((Exd.of (Ex.new hl2)).trans (Exd.of (Ex.new hl4)))) ((d3.ex (Ex.new hl2)).ex (Ex.new hl4)) upd_same ((d3.ex (Ex.new hl2)).ne hl4)⟩⟩⟩
/-- a if t else b, as a test -/
def tIfT (t u1 u2 : TT) : TT := fun σ H Q => t σ H fun c H1 => if c = true then u1 σ H1 Q else u2 σ H1 Q
theorem pt_ifExp {X : Cx} {c a b : Expr} {pos : Pos} {tA t1 t2 : TT} (hc : PT X c tA) (ha : PT X a t1) (hb : PT X b t2) : PT X (.IfExp c a b pos) (tIfT tA t1 t2) := by
  refine ⟨fun pins s σ H Q I h => ?_⟩
  refine isTrue_IfExp (thn (hc.run pins s σ H _ I h) fun d s1 ⟨H1, I1, q1⟩ => ?_)
  cases d with
  | true => exact ha.run pins s1 σ H1 Q I1 q1
  | false => exact hb.run pins s1 σ H1 Q I1 q1
theorem et_ifT {u1 u2 : TT} {b c : Bool} (h : EvT t σ H b) (h1 : b = true → EvT u1 σ H c) (h2 : b = false → EvT u2 σ H c) : EvT (tIfT t u1 u2) σ H c := fun H1 e Q q => h H1 e _ fun H2 e2 => by
  cases b with
  | true =>
    rw [if_pos rfl]
    exact h1 rfl H2 (e.trans e2) Q fun H3 e3 => q H3 (e2.trans e3)
  | false =>
    rw [if_neg Bool.false_ne_true]
    exact h2 rfl H2 (e.trans e2) Q fun H3 e3 => q H3 (e2.trans e3)
/-- a, b = a new tuple of two -/
theorem q_asg2U {i j : Nat} {v1 v2 : V} (h : EvU te σ H [v1, v2]) (k : ∀ H1, Ex H H1 → tz D ((σ.set i (some v1)).set j (some v2)) H1) : tSeq (tAsg te (gTup K 2 (gCons (gName i) (gCons (gName j) gNil)))) tz D σ H :=
  h H (Ex.refl H) _ fun p H1 hp e hl => ⟨p, [v1, v2], rfl, st_of hl, rfl, v1, [v2], rfl, v2, [], rfl, rfl, k H1 e⟩
/-! ### tests that hang on the dice, calls with a new tuple -/
def DvT (p : Addr) (t : TT) (σ : L2.St) (H : Hp) : Prop := ∀ H1, Exd p H H1 → Dice p H1 → ∀ Q : Bool → Hp → Prop, (∀ b H2, Exd p H1 H2 → Dice p H2 → Q b H2) → t σ H1 Q
def IntV (v : V) : Prop := ∃ n : Int, v = .int n
theorem dvt_eq {p : Addr} {k : Int} (h : Dv p ta σ H IntV) : DvT p (tTest (tOp rEq ta (tC (.int k)))) σ H := fun H1 e d Q q =>
  h H1 e d _ fun v H2 hv e2 d2 => by
    obtain ⟨n, rfl⟩ := hv
    exact ⟨rfl, _, rfl, q _ H2 e2 d2⟩
theorem dv_if {p : Addr} {R : V → Prop} (h : DvT p t σ H) (h1 : Dv p ta σ H R) (h2 : Dv p tb σ H R) : Dv p (tIf t ta tb) σ H R := fun H1 e d Q q =>
  h H1 e d _ fun b H2 e2 d2 => by
    cases b with
    | true =>
      rw [if_pos rfl]
      exact h1 H2 (e.trans e2) d2 Q fun v H3 r e3 d3 => q v H3 r (e2.trans e3) d3
    | false =>
      rw [if_neg Bool.false_ne_true]
      exact h2 H2 (e.trans e2) d2 Q fun v H3 r e3 d3 => q v H3 r (e2.trans e3) d3
theorem dv_op {p : Addr} {R1 R2' R : V → Prop} (h1 : Dv p ta σ H R1) (h2 : Dv p tb σ H R2') (hr : ∀ x y H1, R1 x → R2' y → ∃ z, RV r x y H1 z ∧ R z) : Dv p (tOp r ta tb) σ H R := fun H1 e d Q q =>
  h1 H1 e d _ fun x H2 hx e2 d2 => h2 H2 (e.trans e2) d2 _ fun y H3 hy e3 d3 => by
    obtain ⟨z, hz, rz⟩ := hr x y H3 hx hy
    exact hz H3 (Ex.refl H3) Q fun H4 e4 => q z H4 rz ((e2.trans e3).trans (Exd.of e4)) (d3.ex e4)
theorem dv_c {p : Addr} {R : V → Prop} (hr : R v) : Dv p (tC v) σ H R := dv_ev (fun H1 _ _ => ev_c) hr
theorem dv_var {p : Addr} {i : Nat} {R : V → Prop} (h : σ[i]? = some (some v)) (hr : R v) : Dv p (tVar i) σ H R := dv_ev (fun H1 _ _ => ev_var h) hr
theorem ev_callU {ok : List V → Hp → V → Prop} {E : XK} {xs : List V} (h1 : Ev ta σ H x) (h2 : EvU tb σ H xs) (ho : ∀ p H1, Ex H H1 → H1 p = some (.tup xs) → ok [x, .ref p] H1 z) : Ev (tCall (Pure ok) [] E (tCons ta (tCons tb tNil))) σ H z := fun H1 e Q q =>
  h1 H1 e _ fun H2 e2 => h2 H2 (e.trans e2) _ fun p H3 hp e3 h3 => ⟨z, ho p H3 ((e.trans e2).trans e3) h3, fun H4 e4 => q H4 ((e2.trans e3).trans e4)⟩
/-- a call that draws, whose last argument is a new list -/
theorem dv_pickL {ok : List V → Hp → Addr → (V → Prop) → Prop} {E : XK} {p : Addr} {R : V → Prop} {xs : List V} {i : Nat} (hs : σ[i]? = some (some (.ref p))) (h : ∀ H1, Exd p H H1 → Dice p H1 → EvL tb σ H1 xs) (ho : ∀ l H1, Exd p H H1 → Dice p H1 → l ≠ p → H1 l = some (.lst xs) → ok [.ref p, .ref l] H1 p R) :
    Dv p (tCall (Draws ok) [] E (tCons (tVar i) (tCons tb tNil))) σ H R := fun H1 e d Q q => ⟨.ref p, hs, h H1 e d H1 (Ex.refl H1) _ fun l H2 hl e2 h2 => ⟨p, R, ho l H2 (e.trans (Exd.of e2)) (d.ex e2) (d.ne hl) h2, d.ex e2, fun v H3 r e3 d3 => q v H3 r ((Exd.of e2).trans e3) d3⟩⟩
theorem q_asgDv {p : Addr} {i : Nat} {R : V → Prop} (h : Dv p te σ H R) (hd : Dice p H) (k : ∀ v H1, R v → Exd p H H1 → Dice p H1 → tz D (σ.set i (some v)) H1) : tSeq (tAsg te (gName i)) tz D σ H := h H (Exd.refl p H) hd _ fun v H1 r e1 d1 => k v H1 r e1 d1
theorem s_retDv {p : Addr} {R : V → Prop} (h : Dv p te σ H R) (hd : Dice p H) (k : ∀ v H1, R v → Exd p H H1 → Dice p H1 → D.rt v H1) : tRet te D σ H := h H (Exd.refl p H) hd _ fun v H1 r e1 d1 => k v H1 r e1 d1
theorem q_par {ts : TA} {i j : Nat} {v1 v2 : V} (h : EvA ts σ H [v1, v2]) (k : ∀ H1, Ex H H1 → tz D ((σ.set i (some v1)).set j (some v2)) H1) : tSeq (tPar i j ts) tz D σ H := h H (Ex.refl H) _ fun H1 e1 => ⟨v1, v2, rfl, k H1 e1⟩
theorem q_parDv {p : Addr} {i j : Nat} {R1 R2' : V → Prop} (h1 : Dv p ta σ H R1) (h2 : Dv p tb σ H R2') (hd : Dice p H) (k : ∀ v1 v2 H1, R1 v1 → R2' v2 → Exd p H H1 → Dice p H1 → tz D ((σ.set i (some v1)).set j (some v2)) H1) : tSeq (tPar i j (tCons ta (tCons tb tNil))) tz D σ H :=
  h1 H (Exd.refl p H) hd _ fun v1 H1 r1 e1 d1 => h2 H1 e1 d1 _ fun v2 H2 r2 e2 d2 => ⟨v1, v2, rfl, k v1 v2 H2 r1 r2 (e1.trans e2) d2⟩
/-! ### tests that are known, whatever the dice did -/
def DvF (p : Addr) (t : TT) (σ : L2.St) (H : Hp) (b : Bool) : Prop := ∀ H1, Exd p H H1 → Dice p H1 → ∀ Q : Bool → Hp → Prop, (∀ H2, Exd p H1 H2 → Dice p H2 → Q b H2) → t σ H1 Q
theorem dvf_et {p : Addr} {b : Bool} (h : ∀ H1, Exd p H H1 → Dice p H1 → EvT t σ H1 b) : DvF p t σ H b := fun H1 e d Q q => h H1 e d H1 (Ex.refl H1) Q fun H2 e2 => q H2 (Exd.of e2) (d.ex e2)
theorem dvf_or {p : Addr} {b : Bool} (h1 : DvF p t σ H false) (h2 : DvF p u σ H b) : DvF p (tOr t u) σ H b := fun H1 e d Q q => h1 H1 e d _ fun H2 e2 d2 => by
  rw [if_neg Bool.false_ne_true]
  exact h2 H2 (e.trans e2) d2 Q fun H3 e3 d3 => q H3 (e2.trans e3) d3
theorem dvf_not {p : Addr} {b : Bool} (h : DvF p t σ H b) : DvF p (tNot t) σ H (!b) := fun H1 e d Q q => h H1 e d _ fun H2 e2 d2 => q H2 e2 d2
theorem dvf_B {p : Addr} {b : Bool} (h : Dv p te σ H (fun v => v = .bl b)) : DvF p (tB te) σ H b := fun H1 e d Q q => h H1 e d _ fun v H2 hv e2 d2 => ⟨b, hv, q H2 e2 d2⟩
theorem q_whenF {p : Addr} (h : DvF p t σ H false) (hd : Dice p H) (k : ∀ H1, Exd p H H1 → Dice p H1 → tz D σ H1) : tSeq (tIfS t tu tNext) tz D σ H := h H (Exd.refl p H) hd _ fun H1 e1 d1 => by
  rw [if_neg Bool.false_ne_true]
  exact k H1 e1 d1
/-! ### tuples, whatever the dice did -/
def DvU (K : PySem.W.Frag) (p : Addr) (te : TE) (σ : L2.St) (H : Hp) (R : List V → Prop) : Prop := ∀ H1, Exd p H H1 → Dice p H1 → ∀ Q : VK, (∀ b xs H2, R xs → b ≠ p → Exd p H1 H2 → Dice p H2 → SqT K H2 b xs → Q (.ref b) H2) → te σ H1 Q
theorem Exd.tt {p a : Addr} {xs : List V} (e : Exd p H H') (n : a ≠ p) (h : SqT K H a xs) : SqT K H' a xs := by
  rcases h with (h | ⟨o, h⟩) | h
  · exact .inl (.inl (e _ _ n h))
  · exact .inl (.inr ⟨o, e _ _ n h⟩)
  · exact .inr h
theorem du_sl {p a : Addr} {i : Nat} {xs : List V} {lo hi : Option Int} {tl th : TO} (hs : σ[i]? = some (some (.ref a))) (hap : a ≠ p) (hT : SqT K H a xs) (hl : ∀ H1, EvO tl σ H1 lo) (hh : ∀ H1, EvO th σ H1 hi) (hc : HT.sIx xs.length 0 lo = 0 ∧ HT.sIx xs.length xs.length hi = xs.length → cutV xs lo hi = xs) :
    DvU K p (tSl (rSlA K) (tVar i) tl th) σ H (fun ys => ys = cutV xs lo hi) := fun H1 e d Q q => ⟨.ref a, hs, hl H1 H1 (Ex.refl H1) _ fun H2 e2 => hh H2 H2 (Ex.refl H2) _ fun H3 e3 => ⟨a, xs, rfl, ex_t (e2.trans e3) (e.tt hap hT),
  fun z => q a xs H3 (hc z).symm hap (Exd.of (e2.trans e3)) (d.ex (e2.trans e3)) (ex_t (e2.trans e3) (e.tt hap hT)),
  fun _ b hb => q b _ _ rfl ((d.ex (e2.trans e3)).ne hb) (Exd.of ((e2.trans e3).trans (Ex.new hb))) (d.ex ((e2.trans e3).trans (Ex.new hb))) (st_of upd_same)⟩⟩
theorem du_one {p : Addr} {R : V → Prop} (h : Dv p te σ H R) : DvU K p (tTup (tCons te tNil)) σ H (fun ys => ∃ v, ys = [v] ∧ R v) := fun H1 e d Q q => h H1 e d _ fun v H2 hv e2 d2 => ⟨by show 1 ≤ sizeLine; decide, fun b hb => q b [v] _ ⟨v, rfl, hv⟩ (d2.ne hb) (e2.trans (Exd.of (Ex.new hb))) (d2.ex (Ex.new hb)) (st_of upd_same)⟩
theorem du_cat {p : Addr} {R1 R2' R : List V → Prop} (h1 : DvU K p ta σ H R1) (h2 : DvU K p tb σ H R2') (hr : ∀ xs ys, R1 xs → R2' ys → R (xs ++ ys) ∧ xs.length + ys.length ≤ 100000) : DvU K p (tOp (rCatA K) ta tb) σ H R := fun H1 e d Q q =>
  h1 H1 e d _ fun a xs H2 hx ha e2 d2 h2x => h2 H2 (e.trans e2) d2 _ fun b ys H3 hy hb e3 d3 h3y => by
    obtain ⟨r1, r2⟩ := hr xs ys hx hy
    refine ⟨a, b, xs, ys, rfl, rfl, e3.tt ha h2x, h3y, sz_of r2, fun z => ?_, fun _ z => ?_, fun _ _ c hc => ?_⟩
    · subst z
      exact q b ys H3 r1 hb (e2.trans e3) d3 h3y
    · subst z
      rw [List.append_nil] at r1
      exact q a xs H3 r1 ha (e2.trans e3) d3 (e3.tt ha h2x)
    · exact q c _ _ r1 (d3.ne hc) ((e2.trans e3).trans (Exd.of (Ex.new hc))) (d3.ex (Ex.new hc)) (st_of upd_same)
theorem q_asgU2 {p : Addr} {i : Nat} {R : List V → Prop} (h : DvU K p te σ H R) (hd : Dice p H) (k : ∀ b xs H1, R xs → b ≠ p → Exd p H H1 → Dice p H1 → SqT K H1 b xs → tz D (σ.set i (some (.ref b))) H1) : tSeq (tAsg te (gName i)) tz D σ H := h H (Exd.refl p H) hd _ fun b xs H1 hx hb e1 d1 hT => k b xs H1 hx hb e1 d1 hT
def rTupL (K : PySem.W.Frag) : List V → Hp → VK → Prop := fun xs H Q => ∃ p ys, xs = [.ref p] ∧ SqL K H p ys ∧ ∀ l, H l = none → Q (.ref l) (upd H l (.tup ys))
theorem c_tupL {X : Cx} : CallR X (.type "tuple") (rTupL X.K) := callR_mono call_tuple_of fun vs H Q h => by
  obtain ⟨p, ys, e, hs, k⟩ := h
  exact ⟨p, ys, e, .inl ⟨hs, k⟩⟩
/-- [e for x in range(n)], each e drawn -/
theorem dl_lcR {p : Addr} {n j : Nat} {vs : List Nat} {R : V → Prop} {Q : VK} (hw : ∀ x, wipe ((wipe σ vs).set j (some x)) vs = wipe σ vs) (hn : n ≤ 1000) (he : ∀ i : Nat, i < n → Dv p te ((wipe σ vs).set j (some (.int (0 + (i : Int))))) H R) (hd : Dice p H)
    (k : ∀ l xs H2, (xs.length = n ∧ ∀ v ∈ xs, R v) → l ≠ p → Exd p H H2 → Dice p H2 → H2 l = some (.lst xs) → Q (.ref l) H2) : tLc (iRng1 (tCons (tC (.int n)) tNil)) (gName j) tYes te vs σ H Q :=
  ⟨n, rfl, by omega, by omega, fun Dl hD => by
    have hDp : Dl ≠ p := hd.ne hD
    rw [show ((n : Int).toNat) = n from Int.toNat_natCast n]
    refine lc_range (fun i H' => Exd p H H' ∧ Dice p H' ∧ ∃ acc, H' Dl = some (.lst acc) ∧ acc.length = i ∧ ∀ v ∈ acc, R v) ⟨Exd.of (Ex.new hD), hd.ex (Ex.new hD), [], upd_same, rfl, fun _ h => by cases h⟩ ?_ ?_
    · rintro i H' hi ⟨e', d', acc, hacc, hlen, hR⟩
      refine ⟨hw _, ?_⟩
      unfold tYes
      dsimp only
      rw [if_pos rfl]
      refine he i hi H' e' d' _ fun v H4 hv e4 d4 => ⟨acc, e4 _ _ hDp hacc, sz_lt (by omega), fun a o ha ho => ?_, ?_, acc ++ [v], upd_same, by rw [List.length_append, hlen]; rfl, fun x hx => ?_⟩
      · rw [upd_ne (ne_of_none ho hD)]
        exact e4 _ _ ha (e' _ _ ha ho)
      · obtain ⟨x, y, z, h⟩ := d4
        exact ⟨x, y, z, by rw [upd_ne (Ne.symm hDp)]; exact h⟩
      · rcases List.mem_append.mp hx with z | z
        · exact hR x z
        · rw [List.mem_singleton.mp z]; exact hv
    · rintro H' ⟨e', d', acc, hacc, hlen, hR⟩
      exact k Dl acc H' ⟨hlen, hR⟩ hDp e' d' hacc⟩
theorem du_tupLc {p : Addr} {n j : Nat} {vs : List Nat} {R : V → Prop} (hw : ∀ x, wipe ((wipe σ vs).set j (some x)) vs = wipe σ vs) (hn : n ≤ 1000) (he : ∀ i : Nat, i < n → Dv p te ((wipe σ vs).set j (some (.int (0 + (i : Int))))) H R) :
    DvU K p (tCB (rTupL K) (tCons (tLc (iRng1 (tCons (tC (.int n)) tNil)) (gName j) tYes te vs) tNil)) σ H (fun ys => ys.length = n ∧ ∀ v ∈ ys, R v) := fun H1 e d Q q =>
  dl_lcR (Q := fun x H2 => rTupL K [x] H2 Q) hw hn (fun i hi H2 e2 => he i hi H2 (e.trans e2)) d fun l xs H2 hx hl e2 d2 h2 => ⟨l, xs, rfl, sq_of h2, fun b hb => q b xs _ hx (d2.ne hb) (e2.trans (Exd.of (Ex.new hb))) (d2.ex (Ex.new hb)) (st_of upd_same)⟩
theorem q_parU {p : Addr} {i j : Nat} {R1 : V → Prop} {R2' : List V → Prop} (h1 : Dv p ta σ H R1) (h2 : DvU K p tb σ H R2') (hd : Dice p H) (k : ∀ v1 b xs H1, R1 v1 → R2' xs → b ≠ p → Exd p H H1 → Dice p H1 → SqT K H1 b xs → tz D ((σ.set i (some v1)).set j (some (.ref b))) H1) : tSeq (tPar i j (tCons ta (tCons tb tNil))) tz D σ H :=
  h1 H (Exd.refl p H) hd _ fun v1 H1 r1 e1 d1 => h2 H1 e1 d1 _ fun b xs H2 hx hb e2 d2 hT => ⟨v1, .ref b, rfl, k v1 b xs H2 r1 hx hb (e1.trans e2) d2 hT⟩
theorem s_retCallDv {p : Addr} {ok : List V → Hp → V → Prop} {E : XK} {R : V → Prop} {i j : Nat} {x1 x2 : V} (h1 : σ[i]? = some (some x1)) (h2 : σ[j]? = some (some x2)) (h3 : Dv p te σ H R) (hd : Dice p H) (k : ∀ v H1, R v → Exd p H H1 → Dice p H1 → ok [x1, x2, v] H1 z) (q : ∀ H1, Exd p H H1 → Dice p H1 → D.rt z H1) :
    tRet (tCall (Pure ok) [] E (tCons (tVar i) (tCons (tVar j) (tCons te tNil)))) D σ H := ⟨x1, h1, x2, h2, h3 H (Exd.refl p H) hd _ fun v H1 r e1 d1 => ⟨z, k v H1 r e1 d1, fun H2 e2 => q H2 (e1.trans (Exd.of e2)) (d1.ex e2)⟩⟩
theorem s_whenF {p : Addr} (h : DvF p t σ H false) (hd : Dice p H) (k : ∀ H1, Exd p H H1 → Dice p H1 → D.nx σ H1) : tIfS t tu tNext D σ H := h H (Exd.refl p H) hd _ fun H1 e1 d1 => by
  rw [if_neg Bool.false_ne_true]
  exact k H1 e1 d1
/-- what the dice did is nothing to a heap that has not got them -/
theorem Exd.out {p : Addr} {H0 : Hp} (e : Exd p H H') (e0 : Ex H0 H) (h : H0 p = Option.none) : Ex H0 H' := fun a o ho => e a o (fun z => by rw [z, h] at ho; cases ho) (e0 a o ho)
theorem dpa_ints : ∀ ns : List Int, DpAll K H (ns.map V.int) (ns.map PyData.int)
  | [] => .nil
  | n :: ns => .cons (.int n) (dpa_ints ns)
theorem evd_ints {ns : List Int} (h : EvL te σ H (ns.map V.int)) : EvD K te σ H (.list (ns.map PyData.int)) := fun H1 e Q q => h H1 e Q fun p H2 _ e2 h2 => q _ H2 e2 (.lst (sq_of h2) (dpa_ints ns))
end
end Vr
set_option Elab.async false
set_option linter.all false
set_option maxRecDepth 100000
set_option maxHeartbeats 4000000
namespace Tx
open PySem PySem.Builtin.Str PySem.StrLaws
/-! texts as lists of signs -/
abbrev S (l : List Nat) : Str := ⟨l.toArray⟩
theorem S_toList (l : List Nat) : (S l).cps.toList = l := rfl
theorem S_of (z : Str) : S z.cps.toList = z := by cases z; rfl
theorem S_len (l : List Nat) : (S l).length = l.length := by simp [Str.length]
theorem S_app (a b : List Nat) : S a ++ S b = S (a ++ b) := by
  apply Str.ext'
  simp [Str.cps_append]
theorem S_inj {a b : List Nat} (h : S a = S b) : a = b := by
  have := congrArg (fun z : Str => z.cps.toList) h
  exact this
def splitL (c : Nat) : List Nat → List (List Nat)
  | [] => [[]]
  | x :: xs => if x = c then [] :: splitL c xs else match splitL c xs with
    | [] => [[x]]
    | p :: ps => (x :: p) :: ps
def joinL (c : Nat) : List (List Nat) → List Nat
  | [] => []
  | [p] => p
  | p :: q :: r => p ++ c :: joinL c (q :: r)
theorem splitL_ne (c : Nat) : ∀ xs, ∃ p ps, splitL c xs = p :: ps
  | [] => ⟨[], [], rfl⟩
  | x :: xs => by
    obtain ⟨p, ps, h⟩ := splitL_ne c xs
    by_cases hx : x = c
    · exact ⟨[], splitL c xs, by show (if x = c then _ else _) = _; rw [if_pos hx]⟩
    · exact ⟨x :: p, ps, by show (if x = c then _ else _) = _; rw [if_neg hx, h]⟩
theorem splitL_hit {c x : Nat} {xs : List Nat} (h : x = c) : splitL c (x :: xs) = [] :: splitL c xs := by
  show (if x = c then _ else _) = _
  rw [if_pos h]
theorem splitL_miss {c x : Nat} {xs p : List Nat} {ps : List (List Nat)} (h : x ≠ c) (e : splitL c xs = p :: ps) : splitL c (x :: xs) = (x :: p) :: ps := by
  show (if x = c then _ else _) = _
  rw [if_neg h, e]
theorem joinL_cons {c : Nat} {p : List Nat} {ps : List (List Nat)} (h : ps ≠ []) : joinL c (p :: ps) = p ++ c :: joinL c ps := by
  cases ps with
  | nil => exact absurd rfl h
  | cons q r => rfl
theorem join_splitL (c : Nat) : ∀ xs, joinL c (splitL c xs) = xs
  | [] => rfl
  | x :: xs => by
    obtain ⟨p, ps, h⟩ := splitL_ne c xs
    have ih := join_splitL c xs
    by_cases hx : x = c
    · rw [splitL_hit hx, joinL_cons (by rw [h]; simp), ih, hx]
      rfl
    · rw [splitL_miss hx h]
      rw [h] at ih
      cases ps with
      | nil => show x :: p = x :: xs; rw [show p = xs from ih]
      | cons q r =>
        show x :: (p ++ c :: joinL c (q :: r)) = _
        rw [show p ++ c :: joinL c (q :: r) = xs from ih]
theorem splitL_no (c : Nat) : ∀ xs, ∀ p ∈ splitL c xs, c ∉ p
  | [], p, h => by
    rw [List.mem_singleton.mp h]
    simp
  | x :: xs, p, h => by
    have ih := splitL_no c xs
    obtain ⟨q, qs, e⟩ := splitL_ne c xs
    by_cases hx : x = c
    · rw [splitL_hit hx] at h
      rcases List.mem_cons.mp h with rfl | h
      · simp
      · exact ih p h
    · rw [splitL_miss hx e] at h
      rcases List.mem_cons.mp h with rfl | h
      · have := ih q (by rw [e]; exact List.mem_cons_self ..)
        simp only [List.mem_cons, not_or]
        exact ⟨fun z => hx z.symm, this⟩
      · exact ih p (by rw [e]; exact List.mem_cons_of_mem _ h)
theorem splitL_part {c : Nat} : ∀ {p rest : List Nat}, c ∉ p → splitL c (p ++ c :: rest) = p :: splitL c rest
  | [], rest, _ => splitL_hit rfl
  | x :: p, rest, h => by
    have h' : x ≠ c ∧ c ∉ p := ⟨fun z => h (by rw [z]; exact List.mem_cons_self ..), fun z => h (List.mem_cons_of_mem _ z)⟩
    exact splitL_miss h'.1 (splitL_part h'.2)
theorem splitL_one {c : Nat} : ∀ {p : List Nat}, c ∉ p → splitL c p = [p]
  | [], _ => rfl
  | x :: p, h => splitL_miss (fun z => h (by rw [z]; exact List.mem_cons_self ..)) (splitL_one fun z => h (List.mem_cons_of_mem _ z))
theorem split_joinL {c : Nat} : ∀ {ps : List (List Nat)}, ps ≠ [] → (∀ p ∈ ps, c ∉ p) → splitL c (joinL c ps) = ps
  | [], h, _ => absurd rfl h
  | [p], _, h => splitL_one (h p (List.mem_cons_self ..))
  | p :: q :: r, _, h => by
    show splitL c (p ++ c :: joinL c (q :: r)) = _
    rw [splitL_part (h p (List.mem_cons_self ..)), split_joinL (by simp) fun x hx => h x (List.mem_cons_of_mem _ hx)]
theorem splitL_infix (c : Nat) : ∀ xs, ∀ p ∈ splitL c xs, p <:+: xs := fun xs p hp => by
  have key : ∀ ps : List (List Nat), ∀ p ∈ ps, p <:+: joinL c ps := by
    intro ps
    induction ps with
    | nil => intro p h; cases h
    | cons q r ih =>
      intro p h
      cases r with
      | nil =>
        rw [List.mem_singleton.mp h]
        exact List.infix_refl _
      | cons q2 r =>
        show p <:+: q ++ c :: joinL c (q2 :: r)
        rcases List.mem_cons.mp h with rfl | h
        · exact ⟨[], c :: joinL c (q2 :: r), by simp⟩
        · obtain ⟨a, b, e⟩ := ih p h
          exact ⟨q ++ c :: a, b, by rw [← e]; simp⟩
  have := key _ p hp
  rwa [join_splitL] at this
theorem splitL_length (c : Nat) : ∀ xs, (splitL c xs).length ≤ xs.length + 1
  | [] => Nat.le_refl _
  | x :: xs => by
    have ih := splitL_length c xs
    obtain ⟨q, qs, e⟩ := splitL_ne c xs
    by_cases hx : x = c
    · rw [splitL_hit hx, List.length_cons, List.length_cons]; omega
    · rw [splitL_miss hx e]
      rw [e] at ih
      simp only [List.length_cons] at ih ⊢
      omega
/-! the model's split by one sign -/
def posL (c : Nat) : Nat → List Nat → List Nat
  | _, [] => []
  | k, x :: xs => if x = c then k :: posL c (k + 1) xs else posL c (k + 1) xs
theorem subAt1 {l : List Nat} {c k : Nat} {x : Nat} {xs : List Nat} (h : l.drop k = x :: xs) : subAt (S l) (S [c]) k = decide (x = c) := by
  rw [subAt_eq]
  show ((l.drop k).take 1 == [c]) = _
  rw [h]
  by_cases hx : x = c
  · subst hx; simp
  · simp [hx]
theorem occ_go (l : List Nat) (c : Nat) : ∀ (xs : List Nat) (k : Nat) (acc : Array Nat) (free : Nat), l.drop k = xs → k + xs.length = l.length → free ≤ k → acc.size ≤ k →
    (forIn (List.range' k (xs.length + 1)) (acc, free) (occBody (S l) (S [c]) l.length (l.length + 1))).run.fst.toList = acc.toList ++ posL c k xs
  | [], k, acc, free, h, hk, hf, ha => by
    rw [List.range'_succ, List.forIn_cons]
    unfold occBody
    rw [if_neg (fun z => by
      have z2 : k + (S [c]).length ≤ l.length := z.1.2
      rw [S_len] at z2
      have : k = l.length := by simpa using hk
      simp only [List.length_cons, List.length_nil] at z2
      omega)]
    show _ = acc.toList ++ []
    rw [List.append_nil]
    rfl
  | x :: xs, k, acc, free, h, hk, hf, ha => by
    have hs := subAt1 (c := c) h
    have h1 : l.drop (k + 1) = xs := by rw [← List.drop_drop, h]; rfl
    have h2 : k + 1 + xs.length = l.length := by rw [List.length_cons] at hk; omega
    have h3 : k + 1 ≤ l.length := by omega
    rw [List.length_cons, List.range'_succ, List.forIn_cons]
    by_cases hx : x = c
    · have e : occBody (S l) (S [c]) l.length (l.length + 1) k (acc, free) = pure (ForInStep.yield (acc.push k, k + 1)) := by
        unfold occBody
        rw [if_pos ⟨⟨⟨by show acc.size < l.length + 1; omega, hf⟩, by rw [S_len]; exact h3⟩, by rw [hs, decide_eq_true hx]⟩, S_len]
        rfl
      rw [e]
      refine Eq.trans (b := (forIn (m := Id) (List.range' (k + 1) (xs.length + 1)) (acc.push k, k + 1) (occBody (S l) (S [c]) l.length (l.length + 1))).run.fst.toList) rfl ?_
      rw [occ_go l c xs (k + 1) (acc.push k) (k + 1) h1 h2 (Nat.le_refl _) (by rw [Array.size_push]; omega), Array.toList_push]
      show _ = acc.toList ++ (if x = c then _ else _)
      rw [if_pos hx, List.append_assoc]
      rfl
    · have e : occBody (S l) (S [c]) l.length (l.length + 1) k (acc, free) = pure (ForInStep.yield (acc, free)) := by
        unfold occBody
        rw [if_neg (fun z => by rw [hs, decide_eq_false hx] at z; exact absurd z.2 (by simp))]
      rw [e]
      refine Eq.trans (b := (forIn (m := Id) (List.range' (k + 1) (xs.length + 1)) (acc, free) (occBody (S l) (S [c]) l.length (l.length + 1))).run.fst.toList) rfl ?_
      rw [occ_go l c xs (k + 1) acc free h1 h2 (by omega) (by omega)]
      show _ = acc.toList ++ (if x = c then _ else _)
      rw [if_neg hx]
theorem occ_one (l : List Nat) (c : Nat) : occurrences (S l) (S [c]) 0 (S l).length ((S l).length + 1) = posL c 0 l := by
  rw [occ_eq, S_len]
  have := occ_go l c l 0 #[] 0 rfl (by simp) (Nat.le_refl _) (Nat.le_refl _)
  simpa using this
theorem sub_S (l : List Nat) (a b : Nat) : strSub (S l) a b = S ((l.drop a).take (b - a)) := by
  apply Str.ext'
  apply Array.toList_inj.mp
  rw [strSub_toList]
theorem parts_go (l : List Nat) (c : Nat) : ∀ (xs : List Nat) (a k : Nat) (p : List Nat) (ps : List (List Nat)), l.drop k = xs → a ≤ k → k + xs.length = l.length → splitL c xs = p :: ps →
    partsFrom (S l) 1 a (posL c k xs) = S ((l.drop a).take (k - a) ++ p) :: ps.map S
  | [], a, k, p, ps, h, ha, hk, hs => by
    have e : splitL c [] = [[]] := rfl
    rw [e] at hs
    cases hs
    show [strSub (S l) a (S l).length] = _
    rw [sub_S, S_len, List.append_nil]
    have : k = l.length := by simpa using hk
    rw [this]
    rfl
  | x :: xs, a, k, p, ps, h, ha, hk, hs => by
    have h1 : l.drop (k + 1) = xs := by rw [← List.drop_drop, h]; rfl
    have h2 : k + 1 + xs.length = l.length := by rw [List.length_cons] at hk; omega
    obtain ⟨q, qs, e⟩ := splitL_ne c xs
    by_cases hx : x = c
    · rw [splitL_hit hx] at hs
      cases hs
      show partsFrom (S l) 1 a (if x = c then k :: posL c (k + 1) xs else _) = _
      rw [if_pos hx]
      show strSub (S l) a k :: partsFrom (S l) 1 (k + 1) (posL c (k + 1) xs) = _
      rw [parts_go l c xs (k + 1) (k + 1) q qs h1 (Nat.le_refl _) h2 e, sub_S, List.append_nil, e, Nat.sub_self]
      simp
    · rw [splitL_miss hx e] at hs
      cases hs
      show partsFrom (S l) 1 a (if x = c then _ else posL c (k + 1) xs) = _
      rw [if_neg hx, parts_go l c xs a (k + 1) q ps h1 (by omega) h2 e]
      congr 2
      have e1 : k + 1 - a = (k - a) + 1 := by omega
      have e2 : (l.drop a).drop (k - a) = x :: xs := by rw [List.drop_drop, ← h]; congr 1; omega
      rw [e1, List.take_add_one]
      have e3 : (l.drop a)[k - a]? = some x := by
        have := congrArg (fun z => z[0]?) e2
        simpa using this
      rw [e3]
      simp
theorem kind_small {c : Nat} (h : c < 256) (x : Str) : decide (Builtin.Str.strKind x < Builtin.Str.strKind (S [c])) = false := by
  have e : Builtin.Str.strKind (S [c]) = 1 := by
    unfold Builtin.Str.strKind
    rw [if_pos (by simp [S, h])]
  rw [e]
  refine decide_eq_false fun z => ?_
  unfold Builtin.Str.strKind at z
  split at z
  · omega
  · split at z <;> omega
theorem split_S {c : Nat} (hc : c < 256) (l : List Nat) : Txt.split (S l) (S [c]) = (splitL c l).map S := by
  obtain ⟨p, ps, e⟩ := splitL_ne c l
  have hp := parts_go l c l 0 0 p ps rfl (Nat.le_refl _) (by simp) e
  unfold Txt.split
  rw [kind_small hc, occ_one, partsBetween_eq]
  split
  · rename_i h
    have h0 : l.length < 1 := by simpa [S_len] using h
    have : l = [] := List.length_eq_zero_iff.mp (by omega)
    subst this
    rfl
  · have e1 : (S [c]).length = 1 := S_len _
    split
    · rename_i h
      have h0 : posL c 0 l = [] := by simpa using h
      rw [h0] at hp
      have h2 : partsFrom (S l) 1 0 [] = [S l] := by
        show [strSub (S l) 0 (S l).length] = _
        rw [sub_whole]
      rw [h2] at hp
      rw [hp, e]
      simp
    · rw [e1, hp, e]
      simp
theorem glued_S (c : List Nat) : ∀ ps : List (List Nat), Txt.join (S c) (ps.map S) = S (match ps with | [] => [] | p :: r => r.foldl (fun acc q => acc ++ c ++ q) p) := by
  intro ps
  show glued _ _ = _
  unfold glued
  cases ps with
  | nil => rfl
  | cons p r =>
    show (⟨((r.map S).foldl (fun acc q => acc ++ (S c).cps ++ q.cps) (S p).cps)⟩ : Str) = _
    apply Str.ext'
    show (r.map S).foldl (fun acc q => acc ++ (S c).cps ++ q.cps) p.toArray = (r.foldl (fun acc q => acc ++ c ++ q) p).toArray
    induction r generalizing p with
    | nil => rfl
    | cons q r ih =>
      rw [List.map_cons, List.foldl_cons, List.foldl_cons]
      have : p.toArray ++ (S c).cps ++ (S q).cps = (p ++ c ++ q).toArray := by simp
      rw [this]
      exact ih (p ++ c ++ q)
theorem fold_joinL (c : Nat) : ∀ (r : List (List Nat)) (p : List Nat), r.foldl (fun acc q => acc ++ [c] ++ q) p = joinL c (p :: r)
  | [], p => rfl
  | q :: r, p => by
    rw [List.foldl_cons, fold_joinL c r (p ++ [c] ++ q)]
    cases r with
    | nil => show p ++ [c] ++ q = p ++ c :: q; simp
    | cons q2 r =>
      show (p ++ [c] ++ q) ++ c :: joinL c (q2 :: r) = p ++ c :: (q ++ c :: joinL c (q2 :: r))
      simp
theorem join_S (c : Nat) (ps : List (List Nat)) : Txt.join (S [c]) (ps.map S) = S (joinL c ps) := by
  rw [glued_S]
  cases ps with
  | nil => rfl
  | cons p r => exact congrArg S (fold_joinL c r p)
end Tx
set_option Elab.async false
set_option linter.all false
set_option maxRecDepth 100000
set_option maxHeartbeats 4000000
namespace En
open PySem PySem.Spec PyProof.Rows L2 Evl Vr
theorem meets_newT (l : Addr) (items : Array Value) :
    Meets (Builtin.«enumerate.__new__» ⟨[.type "enumerate", .ref l], []⟩) (fun _ R s => s.heap.IsTuple l items ∧
      R (.ok (.ret (.ref (s.heap.push { cls := .type "tuple_iterator", data := .fields #[.ref l, .int 0 0] }).objs.size)))
        { s with heap := (s.heap.push { cls := .type "tuple_iterator", data := .fields #[.ref l, .int 0 0] }).push { cls := .type "enumerate", data := .fields #[.none, .bool false, .ref s.heap.objs.size, rawInt 0, .none, .none] } }) :=
  .of_wp fun prog w A R s h => by
    obtain ⟨hp, g, d, tk, os⟩ := s; obtain ⟨hl, h⟩ := h
    have hsub := sub_enumerate
    have q1 : ∀ {A' : Around} {E : Value → Shared → Prop} {Q : Value → Shared → Prop}, Q (.ref hp.objs.size) ⟨hp.push { cls := .type "tuple_iterator", data := .fields #[.ref l, .int 0 0] }, g, d, tk, os⟩ → wpAny (model prog w) A' (pyIter (.ref l)) Q E ⟨hp, g, d, tk, os⟩ :=
      fun q => wpAny_pyIter_tuple (s := ⟨hp, g, d, tk, os⟩) hl q
    wp_walk using q1
    refine wpAny_stack_any fun st => wpAny_pure ?_
    split
    · rename_i c _ _ _ _ _
      cases (c == Value.type "enumerate")
      · wp_walk using q1
        exact ⟨_, rfl, h⟩
      · wp_walk using q1
        exact ⟨_, rfl, h⟩
    · wp_walk using q1
      exact ⟨_, rfl, h⟩
theorem call_enumT {prog : Program} {w : World} {A : Around} {E : Value → Shared → Prop} {s : Shared} {l : Addr} {items : Array Value} {Q : Value → Shared → Prop} (hL : s.heap.IsTuple l items)
    (h : ∀ h', IsEnum h' (s.heap.objs.size + 1) s.heap.objs.size 0 .none → h'.IsTupleIter s.heap.objs.size l 0 → h'.objs.size = s.heap.objs.size + 2 →
      (∀ b o, s.heap.get? b = some o → h'.get? b = some o) → Q (.ref (s.heap.objs.size + 1)) { s with heap := h' }) :
    wpAny (model prog w) A (call (.type "enumerate") [.ref l]) Q E s := by
  refine callType_new F.called_enumerate (by decide) (F.typeCall_enumerate_1 _) (F.newCall_enumerate_1 _) (fun obj => F.args_object_init_2 obj _) F.entry_enumerate_new
    (meets_newT l items) ⟨hL, ?_⟩
  have hz : (s.heap.push { cls := .type "tuple_iterator", data := .fields #[.ref l, .int 0 0] }).objs.size = s.heap.objs.size + 1 := Heap.size_push ..
  show _ ∧ _
  rw [hz]
  have he : IsEnum ((s.heap.push { cls := .type "tuple_iterator", data := .fields #[.ref l, .int 0 0] }).push
      { cls := .type "enumerate", data := .fields #[.none, .bool false, .ref s.heap.objs.size, rawInt 0, .none, .none] }) (s.heap.objs.size + 1) s.heap.objs.size 0 .none := by
    have := Heap.get?_push_size (s.heap.push { cls := .type "tuple_iterator", data := .fields #[.ref l, .int 0 0] })
      (o := { cls := .type "enumerate", data := .fields #[.none, .bool false, .ref s.heap.objs.size, rawInt 0, .none, .none] }) rfl
    rw [hz] at this; exact this
  refine ⟨⟨_, he, rfl⟩, h _ he ⟨_, Heap.get?_push_of_some _ (Heap.get?_push_size _ rfl), rfl, rfl⟩ (by rw [Heap.size_push, hz]) fun b o x => Heap.get?_push_of_some _ (Heap.get?_push_of_some _ x)⟩
/-- the tuple at a, each item in a new pair -/
def IteT (K : PySem.W.Frag) (a : Addr) : It :=
  ⟨fun i H => ∃ (xs : List V) (x : V), SqT K H a xs ∧ xs[i]? = some x, fun i H v H' => ∃ T x, v = .ref T ∧ H T = none ∧ H' = upd H T (.tup [.int (i : Nat), x]) ∧ ∀ xs, SqT K H a xs → xs[i]? = some x, fun i H => ∃ xs : List V, SqT K H a xs ∧ xs.length ≤ i⟩
theorem turn_enumT {P : Program} {w : World} {K : PySem.W.Frag} {elts : List Expr} {kk : Nat} {tpos : Pos} (a e it : Addr) :
    Turn P w K (.Tuple elts kk tpos) (IteT K a) [e, it] e (fun i h => (∃ old, IsEnum h e it ((i : Nat) : Int) old) ∧ h.IsTupleIter it a i ∧ e ≠ it) where
  mem := by simp
  obj := fun i h st b hb => by
    obtain ⟨⟨old, he⟩, ⟨o, ho, hc, hd⟩, _⟩ := st
    have e' : b = e ∨ b = it := by simpa using hb
    rcases e' with z | z
    · rw [z]; exact ⟨_, he, fun v q => nomatch q⟩
    · rw [z]; exact ⟨o, ho, fun v q => by rw [hd] at q; cases q⟩
  keep := fun i h h' st k => let ⟨⟨old, he⟩, hi, hne⟩ := st; ⟨⟨old, k e (by simp) _ he⟩, hi.at fun o q => k it (by simp) o q, hne⟩
  item := by
    intro X hP hw hK hc i pins s σ H E I hf st hg
    subst hP hw hK
    obtain ⟨⟨old, he⟩, hit, hne⟩ := st
    obtain ⟨xs, x, hq, hx⟩ := hg
    obtain ⟨its, rv, p, hz⟩ := I.tuple hq
    have p : s.heap.IsTuple a its.toArray := p
    obtain ⟨u, hu, ru⟩ := rv.get hx
    have hel : e < s.heap.objs.size := Heap.lt_size he
    have hil : it < s.heap.objs.size := by obtain ⟨_, q, _⟩ := hit; exact Heap.lt_size q
    have hai : a ≠ it := by
      intro z
      obtain ⟨o, ho, hc1, _⟩ := hit
      obtain ⟨o2, ho2, hc2, _⟩ := p
      rw [z, ho] at ho2
      cases ho2
      rw [hc1] at hc2
      exact absurd hc2 (by decide)
    have hae : e ≠ a := by
      intro z
      obtain ⟨o2, ho2, hc2, _⟩ := p
      have he' : s.heap.get? e = _ := he
      rw [z, ho2] at he'
      cases he'
      exact absurd (show Value.type "enumerate" = Value.type "tuple" from hc2) (by decide)
    have hh : X.A.handled = none := I.ok.hd hc
    have Dr := Draws.tuple (prog := X.prog) (w := X.w) (A := X.A.in1) (by simp [hh]) it a hai its.toArray
    have hlt : i < its.toArray.size := by
      have := (List.getElem?_eq_some_iff.mp hu).1
      simpa using this
    refine wpAny_pyNext_enum_itemD Dr he ⟨hit, p⟩ hlt hne (by simp [hne, hae]) fun x' h' tk hPx ho hit' hT hsz hk => ?_
    have hxu : x' = u := by
      have h1 : its[i]? = some x' := by simpa using hPx
      rw [hu] at h1
      exact (Option.some.inj h1).symm
    subst hxu
    obtain ⟨hit', _⟩ := hit'
    refine ⟨_, rfl, wpAny_letOwnedTupleGo_enum (s := { s with heap := h', toks := tk + 1 }) ho fun h'' he' sb => ?_⟩
    have hT2 : h''.get? s.heap.objs.size = some { cls := .type "tuple", data := .seq #[.int i tk, x'] } := (sb.2 _ (Nat.ne_of_gt hel)).trans hT
    have new : ObjOk X.prog X.w (upd H s.heap.objs.size (.tup [.int (i : Nat), x])) h'' s.heap.objs.size (.tup [.int (i : Nat), x]) :=
      ⟨by show 2 ≤ sizeLine; decide, [.int i tk, x'], .cons ⟨_, rfl⟩ (.cons ru .nil), ⟨_, hT2, rfl, _, rfl⟩⟩
    have I1 : Inv X pins σ (upd H s.heap.objs.size (.tup [.int (i : Nat), x])) { s with heap := h'', toks := tk + 1 } :=
      I.turnedNew (ch := [e, it]) (fun b ob hb q => (sb.2 b (fun z => hb (by simp [z]))).trans (hk b ob (fun z => hb (by simp [z])) (fun z => hb (by simp [z])) q)) hf (Nat.le_refl _) new
    refine ⟨.ref s.heap.objs.size, _, I1, rfl, ⟨_, x, rfl, I.hok.fresh (Nat.le_refl _), rfl, fun ys hy => by rw [I.tuple_inj hy hq]; exact hx⟩, ⟨⟨x', ?_⟩, hit'.at fun o q => (sb.2 it (Ne.symm hne)).trans q, hne⟩, fun b hb => ?_⟩
    · have e1 : ((i + 1 : Nat) : Int) = (i : Int) + 1 := by omega
      rw [e1]; exact he'
    · have hb' : b < s.heap.objs.size := by
        have e' : b = e ∨ b = it := by simpa using hb
        rcases e' with z | z
        · rw [z]; exact hel
        · rw [z]; exact hil
      rw [upd_ne (Nat.ne_of_lt hb')]
      exact (hf b hb).1
  done := by
    intro X hP hw hK hc i pins s σ H E I hf st hg
    subst hP hw hK
    obtain ⟨⟨old, he⟩, hit, hne⟩ := st
    obtain ⟨xs, hq, hx⟩ := hg
    obtain ⟨its, rv, p, hz⟩ := I.tuple hq
    have p : s.heap.IsTuple a its.toArray := p
    obtain ⟨f0, f1, f2, f3, f4, f5⟩ := hf it (by simp)
    have hl := rv.length
    have hT : s.TypeIs (.ref e) "enumerate" := ⟨_, he, rfl⟩
    have hh : X.A.handled = none := I.ok.hd hc
    unfold pyNext
    refine wpAny_bind (wpAny_attempt (wpAny_callSpecial?_slot (name := Str.ofString "__next__") hT F.slot_enumerate_next
      (wpAny_call_entry F.slot_enumerate_next hT F.entry_enumerate_next ?_ (F.args_enumerate_next_1 _))))
    show wpAny _ _ (field (.ref e) 2 >>= _) _ _ _
    refine wpAny_bind (wpAny_field he rfl (x := .ref it) rfl ?_)
    refine wpAny_bind (wpAny_nextOf_tuple_end (by simp [hh]) hit p (by simp; omega) fun h' x he' hx' => ?_)
    obtain ⟨o, ho, hc⟩ := hx'
    refine wpAny_bind (wpAny_isInstance (T := "StopIteration") (b := true) ⟨o, ho, hc⟩ isSubtype_stop ?_)
    exact wpAny_pure ⟨rfl, I.turned (t' := s.toks) (fun b o hb q => he' b o hb q) f0 f1 f3 f4 f5⟩
  self := fun A i s Q E st h => let ⟨⟨_, he⟩, _⟩ := st; wpAny_pyIter_enum he h
def iEnumT (K : PySem.W.Frag) (ta : TA) : TI := fun σ H R => ta σ H fun vs H1 => ∃ a xs, vs = [.ref a] ∧ SqT K H1 a xs ∧ R (IteT K a) H1
theorem pi_enumT {X : Cx} {e : Expr} {ta : TA} {p pos tpos : Pos} {elts : List Expr} {kk : Nat} (hg : Gl X "enumerate") (hm : X.mg "enumerate" = none) (ha : PA X [e] ta) (hs : starEach [e] X.env = [(false, eval e X.env)] := by rfl) :
    PI X (.Tuple elts kk tpos) (.Call (.Name "enumerate" p) [e] [] pos) (iEnumT X.K ta) := by
  refine ⟨fun pins s σ H R I h => ?_⟩
  refine Call_ (ld_blt I hg hm boot_enumerate (PyProof.Rows.callWith_type1 (thn (ha.run pos pins s σ H _ I h) fun us s1 ⟨vs, H1, I1, r1, q1⟩ => ?_) hs rfl))
  obtain ⟨a, xs, ex, hq, q⟩ := q1
  subst ex
  cases r1 with
  | cons r rr =>
    cases rr
    cases r
    obtain ⟨its, rv, p', hz⟩ := I1.tuple hq
    have p' : s1.heap.IsTuple a its.toArray := p'
    refine call_enumT p' fun h' he hit hsz hk => wpAny_pyIter_enum he ?_
    have I2 : Inv X pins σ H1 { s1 with heap := h' } := I1.kept (t' := s1.toks) hk
    refine ⟨s1.heap.objs.size + 1, [s1.heap.objs.size + 1, s1.heap.objs.size], _, _, H1, rfl, I2, turn_enumT a (s1.heap.objs.size + 1) s1.heap.objs.size, ⟨⟨.none, he⟩, hit, Nat.succ_ne_self _⟩, fun b hb => ?_, q⟩
    have e' : b = s1.heap.objs.size + 1 ∨ b = s1.heap.objs.size := by simpa using hb
    have hle : s1.heap.objs.size ≤ b := by
      rcases e' with z | z
      · rw [z]; exact Nat.le_add_right _ _
      · rw [z]; exact Nat.le_refl _
    exact I1.fpOk hle (I1.hok.fresh hle)
theorem walk_enumT {K : PySem.W.Frag} {a : Addr} {xs : List V} : Walk (IteT K a) xs.length (fun H => SqT K H a xs) (YPair (fun i => some (.int (i : Nat))) (fun i => xs[i]?)) := by
  refine ⟨fun i _ hi q => ⟨xs, xs[i], q, by simp [hi]⟩, fun _ q => ⟨xs, q, Nat.le_refl _⟩, fun i H v H' _ q y => ?_⟩
  obtain ⟨T, x, h1, h2, h3, h4⟩ := y
  exact ⟨T, .int (i : Nat), x, h1, h2, h3, rfl, h4 xs q⟩
/-- [e for i, x in enumerate(tuple) if t] -/
theorem el_lcEnumT {σ : L2.St} {H : Hp} {te : TE} {t : TT} {K : PySem.W.Frag} {a : Addr} {xs : List V} {ta : TA} {j l : Nat} {vs : List Nat} (f : Nat → Bool) (v : Nat → V) (h : EvA ta σ H [.ref a]) (hx : SqT K H a xs) (hz : xs.length ≤ 40000)
    (hw : ∀ x y, wipe (((wipe σ vs).set j (some x)).set l (some y)) vs = wipe σ vs)
    (ht : ∀ (i : Nat) (x : V) H1, Ex H H1 → xs[i]? = some x → EvT t (((wipe σ vs).set j (some (.int (i : Nat)))).set l (some x)) H1 (f i)) (he : ∀ (i : Nat) (x : V) H1, Ex H H1 → xs[i]? = some x → f i = true → Ev te (((wipe σ vs).set j (some (.int (i : Nat)))).set l (some x)) H1 (v i)) :
    EvL (tLc (iEnumT K ta) (gTup K 2 (gCons (gName j) (gCons (gName l) gNil))) t te vs) σ H (given xs.length f v) := fun H0 e Q q => h H0 e _ fun H1 e1 => ⟨a, xs, rfl, ex_t (e.trans e1) hx, fun Dl hD =>
  lc_it walk_enumT (Cw H1 f v Dl) ⟨hD, Ex.new hD, upd_same⟩ (fun i H' _ p => ex_t ((e.trans e1).trans p.2.1) hx) (fun i x H' H'' hi p y => by
    obtain ⟨T, y1, y2, rfl, hT, rfl, h3, h4⟩ := y
    have h3 : y1 = .int (i : Nat) := (Option.some.inj h3).symm
    subst h3
    have eT : Ex H' (upd H' T (.tup [.int (i : Nat), y2])) := Ex.new hT
    refine ⟨T, [.int (i : Nat), y2], rfl, st_of upd_same, rfl, .int (i : Nat), [y2], rfl, y2, [], rfl, rfl, hw _ _, ?_⟩
    have p' : Cw H1 f v Dl i (upd H' T (.tup [.int (i : Nat), y2])) := ⟨p.1, p.2.1.trans eT, eT _ _ p.2.2⟩
    exact cw_turn p' (by omega) (ht i y2 H1 (e.trans e1) h4) (fun hf => he i y2 H1 (e.trans e1) h4 hf))
    (fun H' p => q Dl H' (fresh_back e1 p.1) (e1.trans p.2.1) p.2.2)⟩
end En
set_option Elab.async false
set_option linter.all false
set_option maxRecDepth 100000
set_option maxHeartbeats 4000000
namespace Wo
open PySem PySem.Spec PyProof.Rows L2 Evl Vr En
section
variable {X : Cx} {CX : CXT} {n f C : Addr} {fd : FuncData} {ps : List Str} {sp : Sp} {E : XK} {pins : List (Addr × Obj)} {σ : L2.St} {H : Hp} {s : Shared} {us : List Value} {vs : List V} {Q : VK}
theorem ix_tupK {X : Cx} {K : PySem.W.Frag} (h : X.K = K) : IxR X (rIxT K) := by subst h; exact ix_tup
theorem ix_listK {X : Cx} {K : PySem.W.Frag} (h : X.K = K) : IxR X (rIxL K) := by subst h; exact ix_list
/-- a def called from somewhere below the body -/
theorem call_sub {A : Around} {k : Nat} (sb : Sub X k A) (F : FnOk X.prog X.w X.K X.mg X.base CX k f fd ps sp) (hb : Binds X.K fd ps []) (hx : Passes CX X E) (I : Inv X pins σ H s) (r : Vals vs us) (h : sp vs H Q E) :
    wpAny (model X.prog X.w) A (call (.ref f) us) (EP X pins σ Q) X.xe s := by
  have e0 : Env0 X.prog X.w X.K X.mg X.base A X.stack s H := by
    have e := I.env0
    exact ⟨by rw [sb.fr]; exact e.frames, e.mod, e.bs, e.bsz, e.funs, e.frf, e.hok, e.bare⟩
  have hl := F.len _ _ _ _ h
  have hb' : BindsTo s fd ⟨us, []⟩ (ps.zip us) := by
    have := hb s us I.kIn (by rw [List.append_nil, ← r.length]; exact hl)
    simpa using this
  refine wpAny_call (codeAny_mono (F.run A X.stack s H ⟨us, []⟩ us vs Q E sb.room e0 hb' r h) fun r s' hq => ?_)
  cases r with
  | error e => exact hx pins σ H s e s' I hq
  | ok fl =>
    cases fl with
    | ret u => exact I.after hq
    | next => exact False.elim hq
    | brk => exact False.elim hq
    | cont => exact False.elim hq
/-- the bool that comes back -/
def backB (Q : VK) : VK := fun v H' => ∃ b, v = .bl b ∧ Q (.bl b) H'
def backN (Q : VK) : VK := fun v H' => ∃ b, v = .bl b ∧ Q (.bl (!b)) H'
/-- x in o, o's class with its own __contains__ -/
def rInO (C : Addr) (sp : Sp) (E : XK) : R2 := fun x y H Q => ∃ a dx fs, y = .ref a ∧ H a = some (.ins C dx fs) ∧ sp [.ref a, x] H (backB Q) E
def rNiO (C : Addr) (sp : Sp) (E : XK) : R2 := fun x y H Q => ∃ a dx fs, y = .ref a ∧ H a = some (.ins C dx fs) ∧ sp [.ref a, x] H (backN Q) E
theorem op_inO {k : Nat} (F : FnOk X.prog X.w X.K X.mg X.base CX k f fd ps sp) (hr : Room k X.A) (M : Meth X.K C "__contains__" f) (hb : Binds X.K fd ps []) (hx : Passes CX X E) : OpR X (compareOp .In) (rInO C sp E) := by
  intro pins s σ H x y v u Q I rx ry h
  obtain ⟨a, dx, fs, rfl, ha, h⟩ := h
  cases ry
  obtain ⟨mA, J, _⟩ := ins_get I.hok ha
  obtain ⟨od, J, _⟩ := J.look
  obtain ⟨m, hF⟩ := I.fr
  refine PySem.W.in_K hF I.ok.mod.kin J M.at_ M.fn ?_
  refine wpAny_mono (call_sub (vs := [.ref a, x]) ⟨hr, rfl⟩ F hb hx I (.cons rfl (.cons rx .nil)) h) (fun r s' z => ?_) fun _ _ z => z
  obtain ⟨w, H', I', rw', b, rfl, q⟩ := z
  cases rw'
  exact wpAny_truthy_bool ⟨.bl b, H', I', rfl, q⟩
theorem op_niO {k : Nat} (F : FnOk X.prog X.w X.K X.mg X.base CX k f fd ps sp) (hr : Room k X.A) (M : Meth X.K C "__contains__" f) (hb : Binds X.K fd ps []) (hx : Passes CX X E) : OpR X (compareOp .NotIn) (rNiO C sp E) := by
  intro pins s σ H x y v u Q I rx ry h
  obtain ⟨a, dx, fs, rfl, ha, h⟩ := h
  cases ry
  obtain ⟨mA, J, _⟩ := ins_get I.hok ha
  obtain ⟨od, J, _⟩ := J.look
  obtain ⟨m, hF⟩ := I.fr
  refine PySem.W.notIn_K hF I.ok.mod.kin J M.at_ M.fn ?_
  refine wpAny_mono (call_sub (vs := [.ref a, x]) ⟨hr, rfl⟩ F hb hx I (.cons rfl (.cons rx .nil)) h) (fun r s' z => ?_) fun _ _ z => z
  obtain ⟨w, H', I', rw', b, rfl, q⟩ := z
  cases rw'
  exact wpAny_truthy_bool ⟨.bl (!b), H', I', rfl, q⟩
/-- len(o) -/
def rLenO (C : Addr) (sp : Sp) (E : XK) : List V → Hp → VK → Prop := fun xs H Q => ∃ a dx fs, xs = [.ref a] ∧ H a = some (.ins C dx fs) ∧ sp [.ref a] H (fun v H' => ∃ n : Int, v = .int n ∧ 0 ≤ n ∧ n < 2 ^ 63 ∧ Q (.int n) H') E
theorem c_lenO {k : Nat} (F : FnOk X.prog X.w X.K X.mg X.base CX k f fd ps sp) (hr : Room (k + 1) X.A) (M : Meth X.K C "__len__" f) (hb : Binds X.K fd ps []) (hx : Passes CX X E) : CallR X (.builtin "len") (rLenO C sp E) := by
  intro pins s σ H xs us Q I r h
  obtain ⟨a, dx, fs, rfl, ha, h⟩ := h
  rw [Vals.ref1 r]
  obtain ⟨mA, J, _⟩ := ins_get I.hok ha
  obtain ⟨od, J, _⟩ := J.look
  obtain ⟨m, hF⟩ := I.fr
  refine PySem.W.len_K hF I.ok.mod.kin J M.at_ M.fn ?_
  have hs : Sub X k X.A.in1 := Sub.in1 ⟨hr, rfl⟩
  refine wpAny_mono (call_sub (vs := [.ref a]) hs F hb hx I (.cons rfl .nil) h) (fun r s' z => ?_) fun _ _ z => z
  obtain ⟨w, H', I', rw', n, rfl, h0, h1, q⟩ := z
  obtain ⟨t, rfl⟩ := rw'
  exact ⟨⟨h0, h1⟩, .int n, H', I'.tok _, ⟨_, rfl⟩, q⟩
end
section
variable {σ : L2.St} {H : Hp} {te ta tb to : TE} {ts tr : TA} {K : PySem.W.Frag} {a C dx : Addr} {fs : List (Str × V)} {f : Str} {v z x : V}
theorem ev_fld (h : Ev ta σ H (.ref a)) (ho : H a = some (.ins C dx fs)) (c : Cls K C) (n : NoAttr K C f) (l : fs.lookup f = some v) : Ev (tFld K ta f) σ H v := fun H1 e Q q =>
  h H1 e _ fun H2 e2 => ⟨a, C, dx, fs, v, rfl, (e.trans e2) _ _ ho, c, n, l, q H2 e2⟩
theorem ev_methP {m : Str} {ok : List V → Hp → V → Prop} {E : XK} {vs : List V} (h : Ev to σ H (.ref a)) (ho : H a = some (.ins C dx fs)) (hl : fs.lookup m = none) (ha : EvA ts σ H vs) (hok : ∀ H1, Ex H H1 → ok (.ref a :: vs) H1 z) : Ev (tMeth C m (Pure ok) [] E to ts) σ H z := fun H1 e Q q =>
  h H1 e _ fun H2 e2 => ⟨a, dx, fs, rfl, (e.trans e2) _ _ ho, hl, ha H2 (e.trans e2) _ fun H3 e3 => by
    rw [List.append_nil]
    exact ⟨z, hok H3 ((e.trans e2).trans e3), fun H4 e4 => q H4 ((e2.trans e3).trans e4)⟩⟩
theorem rv_inO {ok : List V → Hp → V → Prop} {E : XK} {b : Bool} (ho : H a = some (.ins C dx fs)) (hok : ∀ H1, Ex H H1 → ok [.ref a, x] H1 (.bl b)) : RV (rInO C (Pure ok) E) x (.ref a) H (.bl b) := fun H1 e Q q =>
  ⟨a, dx, fs, rfl, e _ _ ho, .bl b, hok H1 e, fun H2 e2 => ⟨b, rfl, q H2 e2⟩⟩
theorem rv_niO {ok : List V → Hp → V → Prop} {E : XK} {b : Bool} (ho : H a = some (.ins C dx fs)) (hok : ∀ H1, Ex H H1 → ok [.ref a, x] H1 (.bl b)) : RV (rNiO C (Pure ok) E) x (.ref a) H (.bl (!b)) := fun H1 e Q q =>
  ⟨a, dx, fs, rfl, e _ _ ho, .bl b, hok H1 e, fun H2 e2 => ⟨b, rfl, q H2 e2⟩⟩
theorem rc_lenO {ok : List V → Hp → V → Prop} {E : XK} {n : Int} (ho : H a = some (.ins C dx fs)) (h0 : 0 ≤ n) (h1 : n < 2 ^ 63) (hok : ∀ H1, Ex H H1 → ok [.ref a] H1 (.int n)) : RC (rLenO C (Pure ok) E) [.ref a] H (.int n) := fun H1 e Q q =>
  ⟨a, dx, fs, rfl, e _ _ ho, .int n, hok H1 e, fun H2 e2 => ⟨n, rfl, h0, h1, q H2 e2⟩⟩
end
end Wo
set_option Elab.async false
set_option linter.all false
set_option maxRecDepth 100000
set_option maxHeartbeats 4000000
namespace Wo
open PySem PySem.Spec PyProof.Rows L2 Evl Vr En
section
variable {σ : L2.St} {H H' : Hp} {te ta tb tc tn to : TE} {t : TT} {tr ts tk : TA} {tz tu : TS} {D : Ends} {K : PySem.W.Frag} {w : World} {x y z v : V} {g : TG}
def Tupd (ok : List V → Hp → List V → Prop) : Sp := fun vs H Q _ => ∃ xs, ok vs H xs ∧ ∀ p H', H p = none → Ex H H' → H' p = some (.tup xs) → Q (.ref p) H'
theorem eu_callT {ok : List V → Hp → List V → Prop} {E : XK} {ts : TA} {vs xs : List V} (h : EvA ts σ H vs) (ho : ∀ H1, Ex H H1 → ok vs H1 xs) : EvU (tCall (Tupd ok) [] E ts) σ H xs := fun H1 e Q q =>
  h H1 e _ fun H2 e2 => by
    show Tupd ok (vs ++ []) H2 Q E
    rw [List.append_nil]
    exact ⟨xs, ho H2 (e.trans e2), fun p H3 hp e3 h3 => q p H3 (fresh_back e2 hp) (e2.trans e3) h3⟩
theorem q_asg2T {i j : Nat} {p : Addr} {v1 v2 : V} (h : Ev te σ H (.ref p)) (hT : SqT K H p [v1, v2]) (k : ∀ H1, Ex H H1 → tz D ((σ.set i (some v1)).set j (some v2)) H1) : tSeq (tAsg te (gTup K 2 (gCons (gName i) (gCons (gName j) gNil)))) tz D σ H :=
  h H (Ex.refl H) _ fun H1 e => ⟨p, [v1, v2], rfl, ex_t e hT, rfl, v1, [v2], rfl, v2, [], rfl, rfl, k H1 e⟩
theorem q_asg4T {i j l m : Nat} {p : Addr} {v1 v2 v3 v4 : V} (h : Ev te σ H (.ref p)) (hT : SqT K H p [v1, v2, v3, v4]) (k : ∀ H1, Ex H H1 → tz D ((((σ.set i (some v1)).set j (some v2)).set l (some v3)).set m (some v4)) H1) : tSeq (tAsg te (gTup K 4 (gCons (gName i) (gCons (gName j) (gCons (gName l) (gCons (gName m) gNil)))))) tz D σ H :=
  h H (Ex.refl H) _ fun H1 e => ⟨p, [v1, v2, v3, v4], rfl, ex_t e hT, rfl, v1, _, rfl, v2, _, rfl, v3, _, rfl, v4, [], rfl, rfl, k H1 e⟩
def Lstd (ok : List V → Hp → List V → Prop) : Sp := fun vs H Q _ => ∃ xs, ok vs H xs ∧ ∀ p H', H p = none → Ex H H' → H' p = some (.lst xs) → Q (.ref p) H'
theorem el_callL {ok : List V → Hp → List V → Prop} {E : XK} {ts : TA} {vs xs : List V} (h : EvA ts σ H vs) (ho : ∀ H1, Ex H H1 → ok vs H1 xs) : EvL (tCall (Lstd ok) [] E ts) σ H xs := fun H1 e Q q =>
  h H1 e _ fun H2 e2 => by
    show Lstd ok (vs ++ []) H2 Q E
    rw [List.append_nil]
    exact ⟨xs, ho H2 (e.trans e2), fun p H3 hp e3 h3 => q p H3 (fresh_back e2 hp) (e2.trans e3) h3⟩
theorem eu_if {b : Bool} {xs : List V} (h : EvT t σ H b) (h1 : b = true → EvU ta σ H xs) (h2 : b = false → EvU tb σ H xs) : EvU (tIf t ta tb) σ H xs := fun H1 e Q q => h H1 e _ fun H2 e2 => by
  match b with
  | true =>
    rw [if_pos rfl]
    exact h1 rfl H2 (e.trans e2) Q fun p H3 hp e3 h3 => q p H3 (fresh_back e2 hp) (e2.trans e3) h3
  | false =>
    rw [if_neg Bool.false_ne_true]
    exact h2 rfl H2 (e.trans e2) Q fun p H3 hp e3 h3 => q p H3 (fresh_back e2 hp) (e2.trans e3) h3
theorem ea_starL {xs ys : List V} (h : EvL te σ H xs) (hr : ∀ H1, Ex H H1 → EvA tr σ H1 ys) : EvA (StX.tStar K te tr) σ H (xs ++ ys) := fun H1 e Q q =>
  h H1 e _ fun p H2 hp e2 h2 => ⟨p, xs, rfl, .inr (sq_of h2), hr H2 (e.trans e2) H2 (Ex.refl H2) _ fun H3 e3 => q H3 (e2.trans e3)⟩
theorem given_int (l : List Int) (g : Int → Bool) : given l.length (fun i => g (l.getD i 0)) (fun i => V.int (l.getD i 0)) = (l.filter g).map V.int := by
  unfold given
  have e : (List.range l.length).map (fun i => l.getD i 0) = l := by
    apply List.ext_getElem
    · simp
    · intro i h1 h2
      simp [List.getD_eq_getElem?_getD, List.getElem?_eq_getElem h2]
  conv => rhs; rw [← e, List.filter_map, List.map_map]
  rfl
theorem ev_callT {ok : List V → Hp → V → Prop} {E : XK} {xs vs : List V} (h1 : EvU ta σ H xs) (h2 : ∀ H1, Ex H H1 → EvA tr σ H1 vs) (ho : ∀ p H1, Ex H H1 → H1 p = some (.tup xs) → ok (.ref p :: vs) H1 z) : Ev (tCall (Pure ok) [] E (tCons ta tr)) σ H z := fun H1 e Q q =>
  h1 H1 e _ fun p H2 hp e2 hx => h2 H2 (e.trans e2) H2 (Ex.refl H2) _ fun H3 e3 => by
    show Pure ok ((.ref p :: vs) ++ []) H3 Q E
    rw [List.append_nil]
    exact ⟨z, ho p H3 ((e.trans e2).trans e3) (e3 _ _ hx), fun H4 e4 => q H4 ((e2.trans e3).trans e4)⟩
theorem ev_anyN {bs : List Bool} (ha : EvL ta σ H (bs.map V.bl)) : Ev (tCB (rAny K) (tCons ta tNil)) σ H (.bl (bs.any id)) := fun H1 e Q q =>
  ha H1 e _ fun p H2 _ e2 h2 => ⟨p, bs, rfl, sq_of h2, q H2 e2⟩
theorem ev_minN {ns : List Int} {m : Int} (ha : EvL ta σ H (ns.map V.int)) (hm : m ∈ ns) (hl : ∀ y ∈ ns, m ≤ y) : Ev (tCB (rMin K) (tCons ta tNil)) σ H (.int m) := fun H1 e Q q =>
  ha H1 e _ fun p H2 _ e2 h2 => ⟨p, ns, rfl, sq_of h2, List.length_pos_of_mem hm, fun m' h1 h3 => by
    have e4 : m' = m := Int.le_antisymm (h3 m hm) (hl m' h1)
    rw [e4]
    exact q H2 e2⟩
theorem el_lcT {a : Addr} {xs : List V} {tl : TE} {j : Nat} {vs : List Nat} (f : Nat → Bool) (v : Nat → V) (h : Ev tl σ H (.ref a)) (hx : SqT K H a xs) (hz : xs.length ≤ 40000) (hw : ∀ x, wipe ((wipe σ vs).set j (some x)) vs = wipe σ vs)
    (ht : ∀ (i : Nat) (x : V) H1, Ex H H1 → xs[i]? = some x → EvT t ((wipe σ vs).set j (some x)) H1 (f i)) (he : ∀ (i : Nat) (x : V) H1, Ex H H1 → xs[i]? = some x → f i = true → Ev te ((wipe σ vs).set j (some x)) H1 (v i)) :
    EvL (tLc (iTup K tl) (gName j) t te vs) σ H (given xs.length f v) := fun H0 e Q q => h H0 e _ fun H1 e1 => ⟨a, rfl, ⟨xs, ex_t (e.trans e1) hx⟩, fun Dl hD =>
  lc_tup (xs := xs) (Cw H1 f v Dl) ⟨hD, Ex.new hD, upd_same⟩ (fun i H' _ p => ex_t ((e.trans e1).trans p.2.1) hx) (fun i x H' hi p => ⟨hw x, cw_turn p (by have := (List.getElem?_eq_some_iff.mp hi).1; omega) (ht i x H1 (e.trans e1) hi) (fun hf => he i x H1 (e.trans e1) hi hf)⟩)
    (fun H' p => q Dl H' (fresh_back e1 p.1) (e1.trans p.2.1) p.2.2)⟩
theorem given_yes_map {α : Type} (l : List α) (d : α) (g : α → V) : given l.length (fun _ => true) (fun i => g (l.getD i d)) = l.map g := by
  unfold given
  rw [List.filter_eq_self.mpr (fun _ _ => rfl)]
  apply List.ext_getElem
  · simp
  · intro i h1 h2
    have h3 : i < l.length := by simpa using h2
    simp [List.getD_eq_getElem?_getD, List.getElem?_eq_getElem h3]
theorem rc_isiTup {a : Addr} {xs : List V} (h : SqT K H a xs) : RC (rIsi K) [.ref a, .ty "tuple"] H (.bl true) := fun H1 e Q q => by
  have ht : TyX K H1 (.ref a) (.type "tuple") := by
    rcases ex_t e h with h | ⟨o, its, n, h1, h2, _⟩
    · rcases h with h | ⟨d, h⟩
      · exact .base (.tup h)
      · exact .fTuple h
    · exact .kTuple h1 h2
  exact ⟨_, .ty "tuple", .type "tuple", .type "tuple", true, rfl, .ty _, ht, kit_ty (r := true) (by decide +kernel), q H1 (Ex.refl H1)⟩
theorem rc_lenT {a : Addr} {xs : List V} (h : SqT K H a xs) : RC (rLenS K) [.ref a] H (.int (xs.length : Int)) := fun H1 e _ q => ⟨a, xs, rfl, .inr (ex_t e h), q H1 (Ex.refl H1)⟩
theorem within_ok {lo hi n : Int} (h : lo ≤ n ∧ n ≤ hi) (hl : -1000000000 ≤ lo) (hh : hi ≤ 1000000000) : isWithin lo hi (.int n) = true := by
  unfold isWithin isIntV
  simp only [Bool.and_eq_true, decide_eq_true_eq]
  omega
theorem ev_allN {bs : List Bool} (ha : EvL ta σ H (bs.map V.bl)) : Ev (tCB (rAll K) (tCons ta tNil)) σ H (.bl (bs.all id)) := fun H1 e Q q =>
  ha H1 e _ fun p H2 _ e2 h2 => ⟨p, bs, rfl, sq_of h2, q H2 e2⟩
theorem ev_callVT {ok : List V → Hp → V → Prop} {E : XK} {x : V} {xs vs : List V} (h0 : Ev ta σ H x) (h1 : EvU tb σ H xs) (h2 : ∀ H1, Ex H H1 → EvA tr σ H1 vs) (ho : ∀ p H1, Ex H H1 → H1 p = some (.tup xs) → ok (x :: .ref p :: vs) H1 z) : Ev (tCall (Pure ok) [] E (tCons ta (tCons tb tr))) σ H z := fun H0 e0 Q q =>
  h0 H0 e0 _ fun H1 e1 => h1 H1 (e0.trans e1) _ fun p H2 hp e2 hx => h2 H2 ((e0.trans e1).trans e2) H2 (Ex.refl H2) _ fun H3 e3 => by
    show Pure ok ((x :: .ref p :: vs) ++ []) H3 Q E
    rw [List.append_nil]
    exact ⟨z, ho p H3 (((e0.trans e1).trans e2).trans e3) (e3 _ _ hx), fun H4 e4 => q H4 (((e1.trans e2).trans e3).trans e4)⟩
theorem given_filter {α : Type} (l : List α) (d : α) (g : α → Bool) (h : α → V) : given l.length (fun i => g (l.getD i d)) (fun i => h (l.getD i d)) = (l.filter g).map h := by
  unfold given
  have e : (List.range l.length).map (fun i => l.getD i d) = l := by
    apply List.ext_getElem
    · simp
    · intro i h1 h2
      simp [List.getD_eq_getElem?_getD, List.getElem?_eq_getElem h2]
  conv => rhs; rw [← e, List.filter_map, List.map_map]
  rfl
theorem lay_ints : ∀ ns : List Int, PyData.canLayAll0 (ns.map PyData.int) = true ∧ PyData.depthAll (ns.map PyData.int) = 0
  | [] => ⟨rfl, rfl⟩
  | n :: ns => by
    have h := lay_ints ns
    refine ⟨?_, ?_⟩
    · show (true && PyData.canLayAll0 (ns.map PyData.int)) = true
      rw [h.1]
      rfl
    · show max 0 (PyData.depthAll (ns.map PyData.int)) = 0
      rw [h.2]
      rfl
theorem shaped_ints (ns : List Int) : SeqAt.shaped (.list (ns.map PyData.int)) = true := by
  have h := lay_ints ns
  show (PyData.canLayAll0 (ns.map PyData.int) && decide (PyData.depthAll (ns.map PyData.int) + 1 ≤ 64)) = true
  rw [h.1, h.2]
  rfl
def DrawsT (ok : List V → Hp → Addr → (List V → Prop) → Prop) : Sp := fun vs H Q _ => ∃ p R, ok vs H p R ∧ Dice p H ∧ ∀ a xs H', R xs → a ≠ p → Exd p H H' → Dice p H' → H' a = some (.tup xs) → Q (.ref a) H'
theorem du_callT {ok : List V → Hp → Addr → (List V → Prop) → Prop} {E : XK} {ts : TA} {p : Addr} {R : List V → Prop} {vs : List V} (h : ∀ H1, Exd p H H1 → Dice p H1 → EvA ts σ H1 vs) (ho : ∀ H1, Exd p H H1 → Dice p H1 → ok vs H1 p R) : DvU K p (tCall (DrawsT ok) [] E ts) σ H R := fun H1 e d Q q =>
  h H1 e d H1 (Ex.refl H1) _ fun H2 e2 => by
    show DrawsT ok (vs ++ []) H2 Q E
    rw [List.append_nil]
    exact ⟨p, R, ho H2 (e.trans (Exd.of e2)) (d.ex e2), d.ex e2, fun a xs H3 hx ha e3 d3 h3 => q a xs H3 hx ha ((Exd.of e2).trans e3) d3 (st_of h3)⟩
theorem s_retT {p : Addr} {ts : TA} {R : List V → Prop} (h : DvA p ts σ H R) (hd : Dice p H) (hl : ∀ xs, R xs → xs.length ≤ 100000) (k : ∀ a xs H1, R xs → a ≠ p → Exd p H H1 → Dice p H1 → H1 a = some (.tup xs) → D.rt (.ref a) H1) : tRet (tTup ts) D σ H :=
  h H (Exd.refl p H) hd _ fun xs H1 hx e1 d1 => ⟨sz_of (hl xs hx), fun a ha => k a xs _ hx (d1.ne ha) (e1.trans (Exd.of (Ex.new ha))) (d1.ex (Ex.new ha)) upd_same⟩
theorem da_nil0 {p : Addr} : DvA p tNil σ H (fun vs => vs = []) := fun H1 e d Q q => q [] H1 rfl (Exd.refl p H1) d
theorem da_cons2 {p : Addr} {R1 : V → Prop} {R2' : List V → Prop} (h : Dv p te σ H R1) (hr : DvA p tr σ H R2') : DvA p (tCons te tr) σ H (fun vs => ∃ v ws, vs = v :: ws ∧ R1 v ∧ R2' ws) := fun H1 e d Q q =>
  h H1 e d _ fun v H2 r e2 d2 => hr H2 (e.trans e2) d2 _ fun ws H3 rs e3 d3 => q (v :: ws) H3 ⟨v, ws, rfl, r, rs⟩ (e2.trans e3) d3
theorem q_asgLc {p : Addr} {n i j : Nat} {vs : List Nat} {R : V → Prop} {tz : TS} (hw : ∀ x, wipe ((wipe σ vs).set j (some x)) vs = wipe σ vs) (hn : n ≤ 1000) (he : ∀ k : Nat, k < n → Dv p te ((wipe σ vs).set j (some (.int (0 + (k : Int))))) H R) (hd : Dice p H)
    (k : ∀ l xs H2, (xs.length = n ∧ ∀ v ∈ xs, R v) → l ≠ p → Exd p H H2 → Dice p H2 → H2 l = some (.lst xs) → tz D (σ.set i (some (.ref l))) H2) : tSeq (tAsg (tLc (iRng1 (tCons (tC (.int n)) tNil)) (gName j) tYes te vs) (gName i)) tz D σ H := dl_lcR (Q := fun v H2 => tz D (σ.set i (some v)) H2) hw hn he hd k
def reprV : V → Str
  | .int i => toString i
  | .bl b => if b then "True" else "False"
  | _ => "None"
def reprOk : V → Prop
  | .int i => i.natAbs.log2 < 1920
  | .bl _ => True
  | .non => True
  | _ => False
def rReprA : List V → Hp → VK → Prop := fun xs H Q => ∃ x, xs = [x] ∧ reprOk x ∧ Q (.str (reprV x)) H
theorem c_reprA {X : Cx} : CallR X (.builtin "repr") rReprA := by
  intro pins s σ H xs us Q I r h
  obtain ⟨x, rfl, hz, q⟩ := h
  match x, hz with
  | .int i, hz => 
    obtain ⟨u, rfl, t, rfl⟩ := vals1 r
    exact PySem.P.repr_of_int hz ⟨.str _, H, I.tok _, ⟨_, rfl⟩, q⟩
  | .bl b, _ =>
    obtain ⟨u, rfl, rfl⟩ := vals1 r
    exact PySem.P.repr_of_bool ⟨.str _, H, I.tok _, ⟨_, rfl⟩, q⟩
  | .non, _ =>
    obtain ⟨u, rfl, rfl⟩ := vals1 r
    exact PySem.P.repr_of_none ⟨.str _, H, I.tok _, ⟨_, rfl⟩, q⟩
theorem rc_reprA (h : reprOk x) : RC rReprA [x] H (.str (reprV x)) := fun H1 _ _ q => ⟨x, rfl, h, q H1 (Ex.refl H1)⟩
theorem el_cat {xs ys : List V} (h1 : EvL ta σ H xs) (h2 : EvL tb σ H ys) (hz : xs.length + ys.length ≤ 100000) : EvL (tOp rCat ta tb) σ H (xs ++ ys) := fun H1 e Q q =>
  h1 H1 e _ fun p H2 hp e2 hx => h2 H2 (e.trans e2) _ fun r H3 hr e3 hy => ⟨p, r, xs, ys, rfl, rfl, e3 _ _ hx, hy, sz_of hz, fun l hl =>
    q l _ (fresh_back (e2.trans e3) hl) ((e2.trans e3).trans (Ex.new hl)) upd_same⟩
theorem q_asg2UU {tz : TS} {i j : Nat} {xs ys : List V} (h1 : EvU ta σ H xs) (h2 : EvU tb σ H ys) (k : ∀ p r H1, H p = none → H r = none → Ex H H1 → H1 p = some (.tup xs) → H1 r = some (.tup ys) → tz D ((σ.set i (some (.ref p))).set j (some (.ref r))) H1) :
    tSeq (tAsg (tTup (tCons ta (tCons tb tNil))) (gTup K 2 (gCons (gName i) (gCons (gName j) gNil)))) tz D σ H :=
  h1 H (Ex.refl H) _ fun p H1 hp e1 hx => h2 H1 e1 _ fun r H2 hr e2 hy => ⟨by show 2 ≤ sizeLine; decide, fun t ht => ⟨t, [.ref p, .ref r], rfl, st_of upd_same, rfl, .ref p, [.ref r], rfl, .ref r, [], rfl, rfl,
    k p r _ hp (fresh_back e1 hr) ((e1.trans e2).trans (Ex.new ht)) (Ex.new ht _ _ (e2 _ _ hx)) (Ex.new ht _ _ hy)⟩⟩
theorem q_parUU {tz : TS} {i j : Nat} {xs ys : List V} (h1 : EvU ta σ H xs) (h2 : EvU tb σ H ys) (k : ∀ p r H1, H p = none → H r = none → Ex H H1 → H1 p = some (.tup xs) → H1 r = some (.tup ys) → tz D ((σ.set i (some (.ref p))).set j (some (.ref r))) H1) : tSeq (tPar i j (tCons ta (tCons tb tNil))) tz D σ H :=
  h1 H (Ex.refl H) _ fun p H1 hp e1 hx => h2 H1 e1 _ fun r H2 hr e2 hy => ⟨.ref p, .ref r, rfl, k p r H2 hp (fresh_back e1 hr) (e1.trans e2) (e2 _ _ hx) hy⟩
theorem bool_iff {a b : Bool} (h : a = true ↔ b = true) : a = b := by
  cases a <;> cases b <;> simp_all
theorem s_forDv {p : Addr} {R : List V → Prop} (h : DvA p ts σ H R) (hd : Dice p H) (hz : ∀ xs, R xs → xs.length ≤ 100000) (Pv : Addr → List V → Nat → L2.St → Hp → Prop) (h0 : ∀ t xs H1, R xs → t ≠ p → Exd p H H1 → Dice p H1 → H1 t = some (.tup xs) → Pv t xs 0 σ H1)
    (hl : ∀ t xs i σ' H', i ≤ xs.length → Pv t xs i σ' H' → SqT K H' t xs) (hs : ∀ t xs i x σ' H', R xs → xs[i]? = some x → Pv t xs i σ' H' → g x σ' H' fun σ2 H2 => tu { D with nx := Pv t xs (i + 1), ct := Pv t xs (i + 1), bk := D.nx } σ2 H2) (hd2 : ∀ t xs σ' H', Pv t xs xs.length σ' H' → D.nx σ' H') : tFor (iTup K (tTup ts)) g tu D σ H :=
  h H (Exd.refl p H) hd _ fun xs H1 hx e1 d1 => ⟨sz_of (hz xs hx), fun t ht => ⟨t, rfl, ⟨xs, st_of upd_same⟩, for_tup (Pv t xs) (h0 t xs _ hx (d1.ne ht) (e1.trans (Exd.of (Ex.new ht))) (d1.ex (Ex.new ht)) upd_same) (hl t xs) (fun i x σ' H' hi p' => hs t xs i x σ' H' hx hi p') (hd2 t xs)⟩⟩
theorem q_same {x : V} : (!decide (x = x)) = false := by simp
theorem shaped_tup (ns : List Int) : SeqAt.shaped (.tuple (ns.map PyData.int)) = true := by
  have h := lay_ints ns
  show (PyData.canLayAll0 (ns.map PyData.int) && decide (PyData.depthAll (ns.map PyData.int) + 1 ≤ 64)) = true
  rw [h.1, h.2]
  rfl
theorem eqv_ints : ∀ ns : List Int, PyData.eqvAll (ns.map PyData.int) (ns.map PyData.int) = true
  | [] => rfl
  | n :: ns => by
    show ((n == n) && PyData.eqvAll (ns.map PyData.int) (ns.map PyData.int)) = true
    rw [eqv_ints ns]
    simp
theorem eqv_tup (ns : List Int) : PyData.eqv (.tuple (ns.map PyData.int)) (.tuple (ns.map PyData.int)) = true := eqv_ints ns
theorem evd_intsU {ns : List Int} (h : EvU te σ H (ns.map V.int)) : EvD K te σ H (.tuple (ns.map PyData.int)) := fun H1 e Q q => h H1 e Q fun p H2 _ e2 h2 => q _ H2 e2 (.tup (st_of h2) (dpa_ints ns))
theorem evd_intsT {a : Addr} {ns : List Int} (h : Ev te σ H (.ref a)) (hT : SqT K H a (ns.map V.int)) : EvD K te σ H (.tuple (ns.map PyData.int)) := fun H1 e Q q => h H1 e Q fun H2 e2 => q _ H2 e2 (.tup (ex_t (e.trans e2) hT) (dpa_ints ns))
def DvN (p : Addr) (te : TE) (σ : L2.St) (H : Hp) (R : List V → Prop) : Prop := ∀ H1, Exd p H H1 → Dice p H1 → ∀ Q : VK, (∀ b xs H2, R xs → b ≠ p → Exd p H1 H2 → Dice p H2 → H2 b = some (.tup xs) → Q (.ref b) H2) → te σ H1 Q
theorem dn_callT {ok : List V → Hp → Addr → (List V → Prop) → Prop} {E : XK} {ts : TA} {p : Addr} {R : List V → Prop} {vs : List V} (h : ∀ H1, Exd p H H1 → Dice p H1 → EvA ts σ H1 vs) (ho : ∀ H1, Exd p H H1 → Dice p H1 → ok vs H1 p R) : DvN p (tCall (DrawsT ok) [] E ts) σ H R := fun H1 e d Q q =>
  h H1 e d H1 (Ex.refl H1) _ fun H2 e2 => by
    show DrawsT ok (vs ++ []) H2 Q E
    rw [List.append_nil]
    exact ⟨p, R, ho H2 (e.trans (Exd.of e2)) (d.ex e2), d.ex e2, fun a xs H3 hx ha e3 d3 h3 => q a xs H3 hx ha ((Exd.of e2).trans e3) d3 h3⟩
def EvAP (ta : TA) (σ : L2.St) (H : Hp) (P : List V → Hp → Prop) : Prop := ∀ H1, Ex H H1 → ∀ Q : List V → Hp → Prop, (∀ vs H2, Ex H1 H2 → P vs H2 → Q vs H2) → ta σ H1 Q
theorem ap_nil : EvAP tNil σ H (fun vs _ => vs = []) := fun H1 _ _ q => q [] H1 (Ex.refl H1) rfl
theorem ap_cons {P : List V → Hp → Prop} (h : Ev te σ H x) (hr : EvAP tr σ H P) : EvAP (tCons te tr) σ H (fun vs H' => ∃ ws, vs = x :: ws ∧ P ws H') := fun H1 e Q q =>
  h H1 e _ fun H2 e2 => hr H2 (e.trans e2) _ fun ws H3 e3 p => q (x :: ws) H3 (e2.trans e3) ⟨ws, rfl, p⟩
theorem ap_consU {P : List V → Hp → Prop} {xs : List V} (h : EvU te σ H xs) (hr : EvAP tr σ H P) : EvAP (tCons te tr) σ H (fun vs H' => ∃ p ws, vs = .ref p :: ws ∧ H' p = some (.tup xs) ∧ P ws H') := fun H1 e Q q =>
  h H1 e _ fun p H2 hp e2 h2 => hr H2 (e.trans e2) _ fun ws H3 e3 pw => q (.ref p :: ws) H3 (e2.trans e3) ⟨p, ws, rfl, e3 _ _ h2, pw⟩
theorem ev_callAP {ok : List V → Hp → V → Prop} {E : XK} {P : List V → Hp → Prop} (h : EvAP ts σ H P) (ho : ∀ vs H1, Ex H H1 → P vs H1 → ok vs H1 z) : Ev (tCall (Pure ok) [] E ts) σ H z := fun H1 e Q q =>
  h H1 e _ fun vs H2 e2 p => by
    show Pure ok (vs ++ []) H2 Q E
    rw [List.append_nil]
    exact ⟨z, ho vs H2 (e.trans e2) p, fun H3 e3 => q H3 (e2.trans e3)⟩
theorem eu_callAP {ok : List V → Hp → List V → Prop} {E : XK} {P : List V → Hp → Prop} {xs : List V} (h : EvAP ts σ H P) (ho : ∀ vs H1, Ex H H1 → P vs H1 → ok vs H1 xs) : EvU (tCall (Tupd ok) [] E ts) σ H xs := fun H1 e Q q =>
  h H1 e _ fun vs H2 e2 pw => by
    show Tupd ok (vs ++ []) H2 Q E
    rw [List.append_nil]
    exact ⟨xs, ho vs H2 (e.trans e2) pw, fun p H3 hp e3 h3 => q p H3 (fresh_back e2 hp) (e2.trans e3) h3⟩
theorem EvAP.mono {P P' : List V → Hp → Prop} (h : EvAP ts σ H P) (k : ∀ vs H1, P vs H1 → P' vs H1) : EvAP ts σ H P' := fun H1 e Q q => h H1 e Q fun vs H2 e2 p => q vs H2 e2 (k vs H2 p)
theorem q_asgD {i : Nat} {d : PyData} (h : EvD K te σ H d) (k : ∀ v H1, Ex H H1 → Dp K H1 v d → tz D (σ.set i (some v)) H1) : tSeq (tAsg te (gName i)) tz D σ H := h H (Ex.refl H) _ fun v H1 e p => k v H1 e p
theorem evd_var {i : Nat} {d : PyData} {v : V} (h : σ[i]? = some (some v)) (p : Dp K H v d) : EvD K (tVar i) σ H d := evd_of (ev_var h) fun H1 e => dp_ex e p
theorem q_asg3U {i j l : Nat} {xs ys zs : List V} (h1 : EvU ta σ H xs) (h2 : EvU tb σ H ys) (h3 : EvU tc σ H zs) (k : ∀ p r s H1, Ex H H1 → H1 p = some (.tup xs) → H1 r = some (.tup ys) → H1 s = some (.tup zs) → tz D (((σ.set i (some (.ref p))).set j (some (.ref r))).set l (some (.ref s))) H1) :
    tSeq (tAsg (tTup (tCons ta (tCons tb (tCons tc tNil)))) (gTup K 3 (gCons (gName i) (gCons (gName j) (gCons (gName l) gNil))))) tz D σ H :=
  h1 H (Ex.refl H) _ fun p H1 hp e1 hx => h2 H1 e1 _ fun r H2 hr e2 hy => h3 H2 (e1.trans e2) _ fun s H3 hs e3 hz => ⟨by show 3 ≤ sizeLine; decide, fun t ht => ⟨t, [.ref p, .ref r, .ref s], rfl, st_of upd_same, rfl, .ref p, [.ref r, .ref s], rfl, .ref r, [.ref s], rfl, .ref s, [], rfl, rfl,
    k p r s _ (((e1.trans e2).trans e3).trans (Ex.new ht)) (Ex.new ht _ _ (e3 _ _ (e2 _ _ hx))) (Ex.new ht _ _ (e3 _ _ hy)) (Ex.new ht _ _ hz)⟩⟩
theorem el_lcNT {xs : List V} {tl : TE} {j : Nat} {vs : List Nat} (f : Nat → Bool) (v : Nat → V) (h : EvU tl σ H xs) (hz : xs.length ≤ 40000) (hw : ∀ x, wipe ((wipe σ vs).set j (some x)) vs = wipe σ vs)
    (ht : ∀ (i : Nat) (x : V) H1, Ex H H1 → xs[i]? = some x → EvT t ((wipe σ vs).set j (some x)) H1 (f i)) (he : ∀ (i : Nat) (x : V) H1, Ex H H1 → xs[i]? = some x → f i = true → Ev te ((wipe σ vs).set j (some x)) H1 (v i)) :
    EvL (tLc (iTup K tl) (gName j) t te vs) σ H (given xs.length f v) := fun H0 e Q q => h H0 e _ fun a H1 ha e1 hx => ⟨a, rfl, ⟨xs, st_of hx⟩, fun Dl hD =>
  lc_tup (xs := xs) (Cw H1 f v Dl) ⟨hD, Ex.new hD, upd_same⟩ (fun i H' _ p => st_of (p.2.1 a _ hx)) (fun i x H' hi p => ⟨hw x, cw_turn p (by have := (List.getElem?_eq_some_iff.mp hi).1; omega) (ht i x H1 (e.trans e1) hi) (fun hf => he i x H1 (e.trans e1) hi hf)⟩)
    (fun H' p => q Dl H' (fresh_back e1 p.1) (e1.trans p.2.1) p.2.2)⟩
theorem dpa_bls {H : Hp} : ∀ bs : List Bool, DpAll K H (bs.map V.bl) (bs.map PyData.bool)
  | [] => .nil
  | b :: bs => .cons (.bl b) (dpa_bls bs)
theorem evd_bls {bs : List Bool} (h : EvL te σ H (bs.map V.bl)) : EvD K te σ H (.list (bs.map PyData.bool)) := fun H1 e Q q => h H1 e Q fun p H2 _ e2 h2 => q _ H2 e2 (.lst (sq_of h2) (dpa_bls bs))
theorem et_notN (h : Ev te σ H x) : EvT (tB (tNotN te)) σ H (!decide (x = .non)) := fun H1 e _ q => h H1 e _ fun H2 e2 => ⟨_, rfl, q H2 e2⟩
theorem ap_consL {P : List V → Hp → Prop} {xs : List V} (h : EvL te σ H xs) (hr : EvAP tr σ H P) : EvAP (tCons te tr) σ H (fun vs H' => ∃ p ws, vs = .ref p :: ws ∧ H' p = some (.lst xs) ∧ P ws H') := fun H1 e Q q =>
  h H1 e _ fun p H2 hp e2 h2 => hr H2 (e.trans e2) _ fun ws H3 e3 pw => q (.ref p :: ws) H3 (e2.trans e3) ⟨p, ws, rfl, e3 _ _ h2, pw⟩
theorem cut1 (xs : List V) : cutV xs (some 1) none = xs.drop 1 := by
  unfold cutV HT.sIx
  cases xs with
  | nil => rfl
  | cons x xs => simp
/-- [e for x, y in zip(list, list) if t] -/
theorem el_lcZip {xs ys : List V} {ta : TA} {j l : Nat} {vs : List Nat} (f : Nat → Bool) (v : Nat → V) (h : EvAP ta σ H (fun vs H1 => ∃ a b, vs = [.ref a, .ref b] ∧ SqL K H1 a xs ∧ SqL K H1 b ys)) (hz : xs.length ≤ 40000)
    (hw : ∀ x y, wipe (((wipe σ vs).set j (some x)).set l (some y)) vs = wipe σ vs)
    (ht : ∀ (i : Nat) (x y : V) H1, Ex H H1 → xs[i]? = some x → ys[i]? = some y → EvT t (((wipe σ vs).set j (some x)).set l (some y)) H1 (f i)) (he : ∀ (i : Nat) (x y : V) H1, Ex H H1 → xs[i]? = some x → ys[i]? = some y → f i = true → Ev te (((wipe σ vs).set j (some x)).set l (some y)) H1 (v i)) :
    EvL (tLc (iZip K ta) (gTup K 2 (gCons (gName j) (gCons (gName l) gNil))) t te vs) σ H (given (min xs.length ys.length) f v) := fun H0 e Q q => h H0 e _ fun us H1 e1 ⟨a, b, hv, hx, hy⟩ => ⟨a, b, xs, ys, hv, hx, hy, fun Dl hD =>
  lc_it (walk_zip rfl) (Cw H1 f v Dl) ⟨hD, Ex.new hD, upd_same⟩ (fun i H' _ p => ⟨ex_l p.2.1 hx, ex_l p.2.1 hy⟩) (fun i x H' H'' hi p y => by
    obtain ⟨T, y1, y2, rfl, hT, rfl, h3, h4⟩ := y
    have eT : Ex H' (upd H' T (.tup [y1, y2])) := Ex.new hT
    refine ⟨T, [y1, y2], rfl, st_of upd_same, rfl, y1, [y2], rfl, y2, [], rfl, rfl, hw _ _, ?_⟩
    have p' : Cw H1 f v Dl i (upd H' T (.tup [y1, y2])) := ⟨p.1, p.2.1.trans eT, eT _ _ p.2.2⟩
    exact cw_turn p' (by omega) (ht i y1 y2 H1 (e.trans e1) h3 h4) (fun hf => he i y1 y2 H1 (e.trans e1) h3 h4 hf))
    (fun H' p => q Dl H' (fresh_back e1 p.1) (e1.trans p.2.1) p.2.2)⟩
theorem ev_strM {z : Str} {g : Str → Bool} (h : Ev to σ H (.str z)) : Ev (tM0 (fun x xs H Q => ∃ a, x = .str a ∧ xs = [] ∧ True ∧ Q (.bl (g a)) H) to) σ H (.bl (g z)) := fun H1 e Q q => h H1 e _ fun H2 e2 => ⟨⟨z, rfl⟩, z, rfl, rfl, trivial, q H2 e2⟩
theorem rc_lenS {z : Str} (h : z.length ≤ 100000) : RC (fun xs H Q => ∃ z, xs = [V.str z] ∧ z.length ≤ sizeLine ∧ Q (.int z.length) H) [.str z] H (.int z.length) := fun H1 _ _ q => ⟨z, rfl, sz_of h, q H1 (Ex.refl H1)⟩
theorem et_yes : EvT tYes σ H true := fun H4 e4 Q' q' => q' H4 (Ex.refl H4)
end
end Wo
set_option Elab.async false
set_option linter.all false
set_option maxRecDepth 100000
set_option maxHeartbeats 4000000
namespace Wo
open PySem PySem.Spec PyProof.Rows L2 Evl Vr En
theorem op_eqDK {X : Cx} {K : PySem.W.Frag} {A0 : Around} (hu : A0.units + 64 < cLine) (hA : X.A = A0) (hK : X.K = K) : OpR X (compareOp .Eq) (rEqD K) := by subst hA hK; exact op_eqD hu
theorem op_neDK {X : Cx} {K : PySem.W.Frag} {A0 : Around} (hu : A0.units + 64 < cLine) (hA : X.A = A0) (hK : X.K = K) : OpR X (compareOp .NotEq) (rNeD K) := by subst hA hK; exact op_neD hu
section
variable {σ : L2.St} {H H' : Hp} {te ta tb tc tn to tl tk tv td ty tx : TE} {t : TT} {tr ts : TA} {tz tu : TS} {D : Ends} {K : PySem.W.Frag} {w : World} {x y z v : V} {g : TG} {a C dx p : Addr} {fs : List (Str × V)} {f : Str}
/-- o.f = value, the object as it was ahead but for this -/
theorem s_fld (hv : Ev tv σ H y) (ha : Ev ta σ H (.ref a)) (ho : H a = some (.ins C dx fs)) (c : Cls K C) (n : NoAttr K C f) (hl : fs.length < 1000) (k : ∀ H1, Ex H H1 → D.nx σ (upd H1 a (.ins C dx (putF f y fs)))) : sFld K ta tv f D σ H :=
  hv H (Ex.refl H) _ fun H1 e1 => ha H1 e1 _ fun H2 e2 => ⟨a, C, dx, fs, rfl, (e1.trans e2) _ _ ho, c, n, hl, k H2 (e1.trans e2)⟩
theorem q_fld (hv : Ev tv σ H y) (ha : Ev ta σ H (.ref a)) (ho : H a = some (.ins C dx fs)) (c : Cls K C) (n : NoAttr K C f) (hl : fs.length < 1000) (k : ∀ H1, Ex H H1 → tz D σ (upd H1 a (.ins C dx (putF f y fs)))) : tSeq (sFld K ta tv f) tz D σ H :=
  s_fld (D := { D with nx := tz D }) hv ha ho c n hl k
theorem q_fldU {xs : List V} (hv : EvU tv σ H xs) (ha : ∀ H1, Ev ta σ H1 (.ref a)) (ho : H a = some (.ins C dx fs)) (c : Cls K C) (n : NoAttr K C f) (hl : fs.length < 1000) (k : ∀ r H1, H r = none → Ex H H1 → H1 r = some (.tup xs) → tz D σ (upd H1 a (.ins C dx (putF f (.ref r) fs)))) : tSeq (sFld K ta tv f) tz D σ H :=
  hv H (Ex.refl H) _ fun r H1 hr e1 h1 => ha H1 H1 (Ex.refl H1) _ fun H2 e2 => ⟨a, C, dx, fs, rfl, (e1.trans e2) _ _ ho, c, n, hl, k r H2 hr (e1.trans e2) (e2 _ _ h1)⟩
theorem s_fldK {kvs : List (Key × V)} (hv : EvK tv σ H kvs) (ha : ∀ H1, Ev ta σ H1 (.ref a)) (ho : H a = some (.ins C dx fs)) (c : Cls K C) (n : NoAttr K C f) (hl : fs.length < 1000) (k : ∀ r H1, H r = none → Ex H H1 → H1 r = some (.dK kvs) → D.nx σ (upd H1 a (.ins C dx (putF f (.ref r) fs)))) : sFld K ta tv f D σ H :=
  hv H (Ex.refl H) _ fun r H1 hr e1 h1 => ha H1 H1 (Ex.refl H1) _ fun H2 e2 => ⟨a, C, dx, fs, rfl, (e1.trans e2) _ _ ho, c, n, hl, k r H2 hr (e1.trans e2) (e2 _ _ h1)⟩
/-- what stands at p is an instance: a tuple told of is another -/
theorem _root_.Vr.Exd.ti {b : Addr} {xs : List V} (e : Exd p H H') (hp : H p = some (.ins C dx fs)) (h : SqT K H b xs) : SqT K H' b xs := by
  rcases h with (h | ⟨o, h⟩) | h
  · exact .inl (.inl (e _ _ (fun z => by rw [z, hp] at h; cases h) h))
  · exact .inl (.inr ⟨o, e _ _ (fun z => by rw [z, hp] at h; cases h) h⟩)
  · exact .inr h
theorem eu_tupL {xs : List V} (h : EvL te σ H xs) : EvU (tCB (rTupL K) (tCons te tNil)) σ H xs := fun H1 e Q q => h H1 e _ fun p H2 hp e2 h2 => ⟨p, xs, rfl, sq_of h2, fun l hl => q l _ (fresh_back e2 hl) (e2.trans (Ex.new hl)) upd_same⟩
/-- {k: v for x in tuple}: the keys all new -/
theorem ek_dcT {xs : List V} {j : Nat} {vs : List Nat} (kvs : Nat → List (Key × V)) (h0 : kvs 0 = []) (h : Ev tl σ H (.ref a)) (hx : SqT K H a xs) (hz : ∀ i, i ≤ xs.length → (kvs i).length ≤ 1000) (hw : ∀ x, wipe ((wipe σ vs).set j (some x)) vs = wipe σ vs)
    (hs : ∀ (i : Nat) (x : V) H1, Ex H H1 → xs[i]? = some x → ∃ k v, Ev tk ((wipe σ vs).set j (some x)) H1 (kV k) ∧ (∀ H2, Ex H1 H2 → Ev tv ((wipe σ vs).set j (some x)) H2 v) ∧ putK (kvs i) k v = kvs (i + 1)) :
    EvK (tDc (iTup K tl) (gName j) tYes tk tv vs) σ H (kvs xs.length) := fun H0 e Q q => h H0 e _ fun H1 e1 => ⟨a, rfl, ⟨xs, ex_t (e.trans e1) hx⟩, fun Dl hD => by
  refine dc_tup (xs := xs) (fun i H' => H1 Dl = none ∧ Ex H1 H' ∧ H' Dl = some (.dK (kvs i))) ⟨hD, Ex.new hD, by rw [h0]; exact upd_same⟩ (fun i H' _ p => ex_t ((e.trans e1).trans p.2.1) hx) (fun i x H' hi p => ⟨hw x, ?_⟩) (fun H' p => q Dl H' (fresh_back e1 p.1) (e1.trans p.2.1) p.2.2)
  obtain ⟨p1, p2, p3⟩ := p
  have hil : i ≤ xs.length := by have := (List.getElem?_eq_some_iff.mp hi).1; omega
  obtain ⟨k, v, hk, hv, hp⟩ := hs i x H' ((e.trans e1).trans p2) hi
  unfold tYes
  dsimp only
  rw [if_pos rfl]
  refine hk H' (Ex.refl H') _ fun H2 e2 => hv H2 e2 H2 (Ex.refl H2) _ fun H3 e3 => ⟨kvs i, k, rfl, (e2.trans e3) _ _ p3, sz_lt (by have := hz i hil; omega), p1, Ex.mut ((p2.trans e2).trans e3) p1, ?_⟩
  rw [hp]
  exact upd_same⟩
theorem ev_dget {d : Addr} {kvs : List (Key × V)} {k : Key} (h1 : Ev td σ H (.ref d)) (h2 : Ev ty σ H (kV k)) (hd : H d = some (.dK kvs)) (hv : valV kvs k = some v) : Ev (tDGet td ty) σ H v := fun H1 e Q q =>
  h1 H1 e _ fun H2 e2 => h2 H2 (e.trans e2) _ fun H3 e3 => ⟨d, v, rfl, by rw [← hv]; exact DGet.k (((e.trans e2).trans e3) _ _ hd), q H3 (e2.trans e3)⟩
theorem ev_din {d : Addr} {kvs : List (Key × V)} {k : Key} (h1 : Ev ty σ H (kV k)) (h2 : Ev td σ H (.ref d)) (hd : H d = some (.dK kvs)) : Ev (tDIn ty td) σ H (.bl (valV kvs k).isSome) := fun H1 e Q q =>
  h1 H1 e _ fun H2 e2 => h2 H2 (e.trans e2) _ fun H3 e3 => ⟨d, _, rfl, DGet.k (((e.trans e2).trans e3) _ _ hd), q H3 (e2.trans e3)⟩
/-- a method that answers None, called for what it does: the object at p is made anew -/
theorem s_dropM {m : Str} {sp : Sp} {E : XK} {vs : List V} (h : Ev to σ H (.ref a)) (ho : H a = some (.ins C dx fs)) (hl : fs.lookup m = none) (ha : ∀ H1, Ex H H1 → EvA ts σ H1 vs) (k : ∀ H1, Ex H H1 → sp (.ref a :: vs) H1 (fun _ H2 => D.nx σ H2) E) : tDrop (tMeth C m sp [] E to ts) D σ H :=
  h H (Ex.refl H) _ fun H2 e2 => ⟨a, dx, fs, rfl, e2 _ _ ho, hl, ha H2 e2 H2 (Ex.refl H2) _ fun H3 e3 => by
    rw [List.append_nil]
    exact k H3 (e2.trans e3)⟩
theorem q_dropM {m : Str} {sp : Sp} {E : XK} {vs : List V} (h : Ev to σ H (.ref a)) (ho : H a = some (.ins C dx fs)) (hl : fs.lookup m = none) (ha : ∀ H1, Ex H H1 → EvA ts σ H1 vs) (k : ∀ H1, Ex H H1 → sp (.ref a :: vs) H1 (fun _ H2 => tz D σ H2) E) : tSeq (tDrop (tMeth C m sp [] E to ts)) tz D σ H :=
  s_dropM (D := { D with nx := tz D }) h ho hl ha k
end
end Wo
set_option Elab.async false
set_option linter.all false
set_option maxRecDepth 100000
set_option maxHeartbeats 4000000
namespace Wo
open PySem PySem.Spec PyProof.Rows L2 Evl Vr En
theorem c_listS {X : Cx} : CallR X (.type "list") (rListS X.K) := call_list_of
section
variable {σ : L2.St} {H H' : Hp} {te ta tb tc tn to tl tk tv td ty tx : TE} {t : TT} {tr ts : TA} {tz tu : TS} {D : Ends} {K : PySem.W.Frag} {w : World} {x y z v : V} {g : TG} {a C dx p : Addr} {fs : List (Str × V)} {f : Str}
theorem _root_.Vr.Exd.tlst {b : Addr} {xs ys : List V} (e : Exd p H H') (hp : H p = some (.lst ys)) (h : SqT K H b xs) : SqT K H' b xs := by
  rcases h with (h | ⟨o, h⟩) | h
  · exact .inl (.inl (e _ _ (fun z => by rw [z, hp] at h; cases h) h))
  · exact .inl (.inr ⟨o, e _ _ (fun z => by rw [z, hp] at h; cases h) h⟩)
  · exact .inr h
theorem el_listT {xs : List V} (ha : Ev ta σ H (.ref p)) (h : SqT K H p xs) : EvL (tCB (rListS K) (tCons ta tNil)) σ H xs := fun H1 e Q q =>
  ha H1 e _ fun H2 e2 => ⟨p, xs, rfl, .inr (ex_t (e.trans e2) h), fun l hl => q l _ (fresh_back e2 hl) (e2.trans (Ex.new hl)) upd_same⟩
/-- [new object for .. in tuple] -/
theorem lcT_new {xs : List V} {vs : List Nat} {Q : VK} (Pr : Nat → Addr → Hp → Prop) (hP : ∀ i r H H' Dl acc, H Dl = some (.lst acc) → Exd Dl H H' → Pr i r H → Pr i r H') (h : Ev tl σ H (.ref a)) (hx : SqT K H a xs) (hz : xs.length ≤ 40000)
    (hs : ∀ (i : Nat) (x : V) (H1 : Hp) (R : VK), Ex H H1 → xs[i]? = some x → (∀ r H2, Ex H1 H2 → Pr i r H2 → R (.ref r) H2) → g x (wipe σ vs) H1 fun σ2 H2 => wipe σ2 vs = wipe σ vs ∧ te σ2 H2 R)
    (k : ∀ l (rs : List Addr) H', H l = none → Ex H H' → H' l = some (.lst (rs.map V.ref)) → rs.length = xs.length → (∀ (i : Nat) r, rs[i]? = some r → Pr i r H') → Q (.ref l) H') : tLc (iTup K tl) g tYes te vs σ H Q := h H (Ex.refl H) _ fun H1 e1 => ⟨a, rfl, ⟨xs, ex_t e1 hx⟩, fun Dl hD => by
  refine lc_tup (xs := xs) (fun i H' => Ex H1 H' ∧ ∃ rs : List Addr, H' Dl = some (.lst (rs.map V.ref)) ∧ rs.length = i ∧ ∀ (j : Nat) r, rs[j]? = some r → Pr j r H') ⟨Ex.new hD, [], upd_same, rfl, fun j r h => by cases h⟩ (fun i H' _ p => ex_t (e1.trans p.1) hx) (fun i x H' hi p => ?_) (fun H' ⟨p1, rs, p2, p3, p4⟩ => k Dl rs H' (fresh_back e1 hD) (e1.trans p1) p2 p3 p4)
  obtain ⟨p1, rs, p2, p3, p4⟩ := p
  have hil : i < xs.length := (List.getElem?_eq_some_iff.mp hi).1
  refine hs i x H' _ (e1.trans p1) hi fun r H4 e4 hr => ?_
  have hD4 := e4 _ _ p2
  have xd : Exd Dl H4 (upd H4 Dl (.lst (rs.map V.ref ++ [.ref r]))) := Exd.upd
  refine ⟨rs.map V.ref, hD4, sz_lt (by rw [List.length_map]; omega), Ex.mut (p1.trans e4) hD, rs ++ [r], ?_, by rw [List.length_append, p3]; rfl, fun j r' hj => ?_⟩
  · rw [upd_same, List.map_append]
    rfl
  · refine hP j r' H4 _ Dl _ hD4 xd ?_
    by_cases hjl : j < i
    · rw [List.getElem?_append_left (by omega)] at hj
      exact hP j r' H' H4 Dl _ p2 (Exd.of e4) (p4 j r' hj)
    · have hj2 : j = i := by
        have := (List.getElem?_eq_some_iff.mp hj).1
        rw [List.length_append, p3, List.length_singleton] at this
        omega
      subst hj2
      rw [List.getElem?_append_right (by omega), p3, Nat.sub_self] at hj
      cases hj
      exact hr⟩
theorem ap_starT {P : List V → Hp → Prop} {xs : List V} (h : Ev te σ H (.ref p)) (hx : SqT K H p xs) (hr : EvAP tr σ H P) : EvAP (StX.tStar K te tr) σ H (fun vs H' => ∃ ws, vs = xs ++ ws ∧ P ws H') := fun H1 e Q q =>
  h H1 e _ fun H2 e2 => ⟨p, xs, rfl, .inl (ex_t (e.trans e2) hx), hr H2 (e.trans e2) _ fun ws H3 e3 pw => q (xs ++ ws) H3 (e2.trans e3) ⟨ws, rfl, pw⟩⟩
theorem q_asgTP {i : Nat} {P : List V → Hp → Prop} (h : EvAP ts σ H P) (hl : ∀ vs H1, P vs H1 → vs.length ≤ 100000) (k : ∀ r vs H2, Ex H H2 → P vs H2 → H2 r = none → tz D (σ.set i (some (.ref r))) (upd H2 r (.tup vs))) : tSeq (tAsg (tTup ts) (gName i)) tz D σ H :=
  h H (Ex.refl H) _ fun vs H2 e2 pv => ⟨sz_of (hl vs H2 pv), fun r hr => k r vs H2 e2 pv hr⟩
theorem s_retTP {P : List V → Hp → Prop} (h : EvAP ts σ H P) (hl : ∀ vs H1, P vs H1 → vs.length ≤ 100000) (k : ∀ r vs H2, Ex H H2 → P vs H2 → H2 r = none → D.rt (.ref r) (upd H2 r (.tup vs))) : tRet (tTup ts) D σ H :=
  h H (Ex.refl H) _ fun vs H2 e2 pv => ⟨sz_of (hl vs H2 pv), fun r hr => k r vs H2 e2 pv hr⟩
theorem eu_tupV {xs : List V} (h : Ev te σ H (.ref p)) (hx : SqL K H p xs) : EvU (tCB (rTupL K) (tCons te tNil)) σ H xs := fun H1 e Q q => h H1 e _ fun H2 e2 => ⟨p, xs, rfl, ex_l (e.trans e2) hx, fun l hl => q l _ (fresh_back e2 hl) (e2.trans (Ex.new hl)) upd_same⟩
/-- {k: new tuple} -/
def EvK1 (te : TE) (σ : L2.St) (H : Hp) (k : Key) (xs : List V) : Prop := ∀ H1, Ex H H1 → ∀ Q : VK, (∀ d r H2, Ex H1 H2 → H2 d = some (.dK [(k, .ref r)]) → H2 r = some (.tup xs) → Q (.ref d) H2) → te σ H1 Q
theorem ek1_disp {k : Key} {xs : List V} (hk : ∀ H1, Ex H H1 → Ev ta σ H1 (kV k)) (hv : ∀ H1, Ex H H1 → EvU tb σ H1 xs) : EvK1 (tDisp [(ta, tb)]) σ H k xs := fun H1 e Q q d hd => by
  have e1 : Ex H1 (upd H1 d (.dK [])) := Ex.new hd
  refine hk _ (e.trans e1) _ (Ex.refl _) _ fun H2 e2 => hv H2 ((e.trans e1).trans e2) H2 (Ex.refl H2) _ fun r H3 hr e3 h3 => ?_
  have hd3 := e3 _ _ (e2 _ _ (upd_same (H := H1) (a := d) (o := .dK [])))
  have hrd : r ≠ d := fun z => by rw [z, hd3] at h3; cases h3
  refine ⟨hd3, [(k, .ref r)], rfl, by show 1 ≤ 15; decide, ?_⟩
  refine q d r _ (Ex.mut ((e1.trans e2).trans e3) hd) upd_same (by rw [upd_ne hrd]; exact h3)
end
end Wo
set_option Elab.async false
set_option linter.all false
set_option maxRecDepth 100000
set_option maxHeartbeats 4000000
namespace Wo
open PySem PySem.Spec PyProof.Rows L2 Evl Vr En PySem.W
theorem ne_bind (v : Value) : bindSpecial (.builtin "object.__ne__") v = pure (.builtin "object.__ne__", [v]) := PySem.F.cmp_object.ne.bind v
section
variable {prog : Program} {w : PySem.World} {A : Around} {E : Value → Shared → Prop} {s : Shared} {K : Frag} {x C L f : Addr} {h₀ : Heap} {m : Str → Option Value} {ox : Obj} {od : Option Obj} {b tb : Value}
/-- a special name that stands for a built-in -/
theorem bound_b {M : Model} {i : String} {nm : Str} {as : List Value} {Q : Option Value → Shared → Prop} (X : K.In s.heap) (J : InstAt s.heap x ox C od) (hf : findIn K (.ref C) nm = some (some (.builtin i))) (hb : ∀ v, bindSpecial (.builtin i) v = pure (.builtin i, [v]))
    (k : wpAny M A (call (.builtin i) (.ref x :: as)) (fun v => Q (some v)) E s) : wpAny M A (callSpecialIfBound? (.ref x) nm as) Q E s := by
  have go : wpAny M A (call (.builtin i) ([.ref x] ++ as) >>= fun v => pure (some v)) Q E s := wpAny_bind (wpAny_mono k (fun _ _ z => wpAny_pure z) fun _ _ z => z)
  simp only [callSpecialIfBound?, bindSpecialIfBound?]
  refine wpAny_holding (wpAny_bind (wpAny_bind (wpAny_bind (J.type.here ((looks_findIn X hf).here ?_)))))
  simp only [hb]
  refine wpAny_bind (wpAny_askSetting (wpAny_ite ?_))
  split
  · exact wpAny_bind (wpAny_pure (wpAny_pure (by exact go)))
  · exact wpAny_tryCatch (wpAny_bind (wpAny_pure (wpAny_pure (by exact go))))
/-- a comparison that the left one answers -/
theorem cmp_left {op : CmpOp} {Q : Value → Shared → Prop} (hu : A.units < cLine) (X : K.In s.heap) (J : InstAt s.heap x ox C od) (hb : Looks (model prog w) s.heap (typeOf b) tb) (hn : notFirst K C tb = true)
    (one : wpAny (model prog w) A (tryCompare (.ref x) (cmpInfo op).2.1 b) (fun r s' => ∃ v, r = some v ∧ Q v s') E s) : wpAny (model prog w) A (richCompare op (.ref x) b) Q E s := by
  unfold richCompare
  simp only [oneThing_ref]
  refine wpAny_holding (wpAny_bind (wpAny_cRoomFor hu (wpAny_bind (J.type.here (wpAny_bind (hb.here ?_))))))
  by_cases e : tb = .ref C
  · subst e
    rw [show (Value.ref C != Value.ref C) = false from by simp]
    refine wpAny_bind (wpAny_pure ?_)
    rw [if_neg Bool.false_ne_true]
    exact wpAny_bind (wpAny_mono one (fun r s' ⟨v, hv, q⟩ => by subst hv; exact wpAny_pure q) fun _ _ z => z)
  · have e1 : (Value.ref C != tb) = true := by simpa using Ne.symm e
    have e2 : subIn K tb (.ref C) = some false := by
      unfold notFirst at hn
      simp only [Bool.or_eq_true, beq_iff_eq] at hn
      exact hn.resolve_left e
    rw [e1, if_pos rfl]
    refine wpAny_bind ((looks_subIn X e2).here ?_)
    rw [if_neg Bool.false_ne_true]
    exact wpAny_bind (wpAny_mono one (fun r s' ⟨v, hv, q⟩ => by subst hv; exact wpAny_pure q) fun _ _ z => z)
/-- != of what has its own == alone -/
theorem ne_left {Q : Value → Shared → Prop} (hu : A.units + 1 < cLine) (X : K.In s.heap) (J : InstAt s.heap x ox C od) (hb : Looks (model prog w) s.heap (typeOf b) tb) (hn : notFirst K C tb = true)
    (hne : findIn K (.ref C) "__ne__" = some (some (.builtin "object.__ne__"))) (hob : subIn K (.ref C) (.type "object") = some true) (hs : findIn K (.ref C) "__eq__" = some (some (.ref f))) (hf : isFn K (.ref f) = true)
    (k : wpAny (model prog w) A.in1 (call (.ref f) [.ref x, b]) (fun v s' => ∃ z, v = .bool z ∧ Q (.bool (!z)) s') E s) : wpAny (model prog w) A (richCompare .NotEq (.ref x) b) Q E s := by
  refine cmp_left (by omega) X J hb hn ?_
  unfold tryCompare
  refine wpAny_bind (bound_b X J hne ne_bind (wpAny_call (codeAny_call_builtin PySem.F.cmp_object.ne.plain PySem.F.cmpEntry_ne (check_slot PySem.F.cmpKind_ne PySem.F.cmpSplit_ne (J.type.andThen (looks_subIn X hob)) (PySem.F.cmpArgs_ne _ _) ?_))))
  unfold Builtin.«object.__ne__»
  refine wpAny_bind (wpAny_pure ?_)
  refine wpAny_bind (wpAny_cRoomFor (by show A.units + 1 < cLine; exact hu) ?_)
  refine wpAny_bind (m := callSpecialIfBound? _ _ _) (ifBound_K X J hs hf (wpAny_mono k (fun v s' ⟨z, hz, q⟩ => ?_) fun _ _ z => z))
  subst hz
  refine wpAny_bind (wpAny_truthy_bool ?_)
  exact wpAny_pure (wpAny_pure ⟨_, rfl, q⟩)
end
section
variable {X : Cx} {CX : CXT} {n f C : Addr} {fd : FuncData} {ps : List Str} {sp : Sp} {E : XK} {k : Nat}
/-- o == y, o's class with its own __eq__ -/
def rEqO (K : PySem.W.Frag) (C : Addr) (sp : Sp) (E : XK) : R2 := fun x y H Q => ∃ a dx fs tb, x = .ref a ∧ H a = some (.ins C dx fs) ∧ TyX K H y tb ∧ notFirst K C tb = true ∧ sp [.ref a, y] H (backB Q) E
def rNeO (K : PySem.W.Frag) (C : Addr) (sp : Sp) (E : XK) : R2 := fun x y H Q => ∃ a dx fs tb, x = .ref a ∧ H a = some (.ins C dx fs) ∧ TyX K H y tb ∧ notFirst K C tb = true ∧ sp [.ref a, y] H (backN Q) E
theorem op_eqO (F : FnOk X.prog X.w X.K X.mg X.base CX k f fd ps sp) (hr : Room k X.A) (M : Meth X.K C "__eq__" f) (hb : Binds X.K fd ps []) (hx : Passes CX X E) : OpR X (compareOp .Eq) (rEqO X.K C sp E) := by
  intro pins s σ H x y v u Q I rx ry h
  obtain ⟨a, dx, fs, tb, rfl, ha, ty, hn, h⟩ := h
  cases rx
  obtain ⟨mA, J, _⟩ := ins_get I.hok ha
  obtain ⟨od, J, _⟩ := J.look
  obtain ⟨m, hF⟩ := I.fr
  obtain ⟨P, Z, p, _⟩ := kit_of I ry ty
  refine cmp_K (op := .Eq) (tb := tb) hr.units0 hF I.ok.mod.kin J (Z.ty _ _ I.kIn p) hn M.at_ M.fn ?_
  refine wpAny_mono (call_sub (vs := [.ref a, y]) ⟨hr, rfl⟩ F hb hx I (.cons rfl (.cons ry .nil)) h) (fun r s' z => ?_) fun _ _ z => z
  obtain ⟨w, H', I', rw', b, rfl, q⟩ := z
  cases rw'
  exact ⟨.bl b, H', I', rfl, q⟩
theorem op_neO (F : FnOk X.prog X.w X.K X.mg X.base CX k f fd ps sp) (hr : Room (k + 1) X.A) (M : Meth X.K C "__eq__" f) (hne : findIn X.K (.ref C) "__ne__" = some (some (.builtin "object.__ne__"))) (hob : subIn X.K (.ref C) (.type "object") = some true) (hb : Binds X.K fd ps []) (hx : Passes CX X E) : OpR X (compareOp .NotEq) (rNeO X.K C sp E) := by
  intro pins s σ H x y v u Q I rx ry h
  obtain ⟨a, dx, fs, tb, rfl, ha, ty, hn, h⟩ := h
  cases rx
  obtain ⟨mA, J, _⟩ := ins_get I.hok ha
  obtain ⟨od, J, _⟩ := J.look
  obtain ⟨P, Z, p, _⟩ := kit_of I ry ty
  refine ne_left hr.in1.units0 I.kIn J (Z.ty _ _ I.kIn p) hn hne hob M.at_ M.fn ?_
  have sb : Sub X k X.A.in1 := Sub.in1 ⟨hr, rfl⟩
  refine wpAny_mono (call_sub (vs := [.ref a, y]) sb F hb hx I (.cons rfl (.cons ry .nil)) h) (fun r s' z => ?_) fun _ _ z => z
  obtain ⟨w, H', I', rw', b, rfl, q⟩ := z
  cases rw'
  exact ⟨b, rfl, .bl (!b), H', I', rfl, q⟩
end
section
variable {H : Hp} {K : PySem.W.Frag} {a C dx : Addr} {fs : List (Str × V)} {y : V} {E : XK} {ok : List V → Hp → V → Prop} {b : Bool} {tb : Value}
theorem rv_eqO (ho : H a = some (.ins C dx fs)) (ht : ∀ H1, Ex H H1 → TyX K H1 y tb) (hn : notFirst K C tb = true) (hok : ∀ H1, Ex H H1 → ok [.ref a, y] H1 (.bl b)) : RV (rEqO K C (Pure ok) E) (.ref a) y H (.bl b) := fun H1 e Q q =>
  ⟨a, dx, fs, tb, rfl, e _ _ ho, ht H1 e, hn, .bl b, hok H1 e, fun H2 e2 => ⟨b, rfl, q H2 e2⟩⟩
theorem rv_neO (ho : H a = some (.ins C dx fs)) (ht : ∀ H1, Ex H H1 → TyX K H1 y tb) (hn : notFirst K C tb = true) (hok : ∀ H1, Ex H H1 → ok [.ref a, y] H1 (.bl b)) : RV (rNeO K C (Pure ok) E) (.ref a) y H (.bl (!b)) := fun H1 e Q q =>
  ⟨a, dx, fs, tb, rfl, e _ _ ho, ht H1 e, hn, .bl b, hok H1 e, fun H2 e2 => ⟨b, rfl, q H2 e2⟩⟩
end
end Wo
set_option Elab.async false
set_option linter.all false
set_option maxRecDepth 100000
set_option maxHeartbeats 4000000
namespace Wo
open PySem PySem.Spec PyProof.Rows L2 Evl Vr En PySem.W
section
variable {prog : Program} {w : PySem.World} {A : Around} {E : Value → Shared → Prop} {s : Shared}
/-- a built-in type called, its __new__ followed in this very program -/
theorem ty_call {T i : String} {as : List Value} {Q : Value → Shared → Prop} (ft : TypeCalled T i "object.__init__") (hne : (some i != some "object.__new__") = true) (hct : checkTypeCall T ⟨as, []⟩ = pure ()) (hok : ∀ o, argsOk "object.__init__" ⟨o :: as, []⟩)
    (g : codeAny (model prog w) A.in1 (.call (.builtin i) ⟨.type T :: as, []⟩) (wants (fun o s1 => s1.TypeIs o T ∧ Q o s1) E) s) : wpAny (model prog w) A (call (.type T) as) Q E s := by
  obtain ⟨c, tl, k1⟩ := ft.mro
  have k2 := ft.made
  have k3 := ft.sub
  have k4 := ft.notType
  have k5 := ft.canCreate
  refine wpAny_call (codeAny_of_tree ?_)
  show wpAny (model prog w) A.in1 (callAny (.type T) ⟨as, []⟩) _ _ s
  refine wpAny_pure ⟨Code.quiet_builtin _ (by decide +kernel), codeAny_builtin PySem.F.entry_type_call ?_⟩
  rw [Around.under_plain (weight_type_call_type T as []) (units_type_call_type T as [])]
  repeat (any_goals (first | assumption | wp_step))
  refine codeAny_mono g fun r s1 hr => ?_
  cases r with
  | error e => exact hr
  | ok fl =>
    cases fl with
    | ret o =>
      obtain ⟨hT, hq⟩ := hr
      have k6 := ft.init.lookup
      have k7 := ft.init.bind o
      repeat (any_goals (first | assumption | wp_step))
      refine codeAny_mono (codeAny_call_builtin ft.init.plain PySem.F.entry_object_init (ft.init.check _ _ _ _ _ _ _ _ hT (hok o) (object_init_meets ft.init.lookup ft.made hne prog w A.in1 (wants (fun r s2 => r = .none ∧ Q o s2) E) s1 ⟨hT, rfl, hq⟩))) fun r2 s2 h2 => ?_
      cases r2 with
      | error e => exact h2
      | ok f2 =>
        cases f2 with
        | ret r =>
          obtain ⟨rfl, hq⟩ := h2
          repeat (any_goals (first | assumption | wp_step))
        | _ => exact h2.elim
    | _ => exact hr.elim
theorem str_call {v : Value} {Q : Value → Shared → Prop} (k : wpAny (model prog w) A.in1.in1 (Builtin.Str.strOf v) (fun r s1 => s1.TypeIs r "str" ∧ Q r s1) E s) : wpAny (model prog w) A (call (.type "str") [v]) Q E s := by
  refine ty_call PySem.F.called_str (by decide) (PySem.F.typeCall_str_1 _) (fun o => PySem.F.args_object_init_2 o _) (codeAny_call_builtin PySem.F.called_str.plain PySem.F.entry_str_new (wpAny_of_eq (PySem.F.newCall_str_1 _) ?_))
  rw [str_new_tree v]
  refine wpAny_bind (wpAny_pure ?_)
  refine wpAny_bind (wpAny_of_eq isSubtype_str_str ?_)
  exact wpAny_bind (wpAny_mono k (fun r s' h' => wpAny_pure h') fun _ _ e => e)
end
section
variable {X : Cx} {CX : CXT} {k f C : Addr} {fd : FuncData} {ps : List Str} {sp : Sp} {E : XK} {n : Nat}
/-- str(o), o's class with its own __str__ -/
def rStrO (C : Addr) (sp : Sp) (E : XK) : List V → Hp → VK → Prop := fun xs H Q => ∃ a dx fs, xs = [.ref a] ∧ H a = some (.ins C dx fs) ∧ sp [.ref a] H (fun v H' => ∃ z, v = .str z ∧ Q (.str z) H') E
theorem c_strO (F : FnOk X.prog X.w X.K X.mg X.base CX n f fd ps sp) (hr : Room (n + 2) X.A) (M : Meth X.K C "__str__" f) (hb : Binds X.K fd ps []) (hx : Passes CX X E) : CallR X (.type "str") (rStrO C sp E) := by
  intro pins s σ H xs us Q I r h
  obtain ⟨a, dx, fs, rfl, ha, h⟩ := h
  rw [Vals.ref1 r]
  obtain ⟨mA, J, _⟩ := ins_get I.hok ha
  obtain ⟨od, J, _⟩ := J.look
  refine str_call ?_
  unfold Builtin.Str.strOf
  rw [if_neg (show ¬ (Builtin.Str.isExactStr (Value.ref a) = true) from fun z => nomatch z)]
  have hs : Sub X n X.A.in1.in1 := Sub.in1 (Sub.in1 ⟨hr, rfl⟩)
  refine wpAny_bind (wpAny_cRoomFor hs.room.units0 ?_)
  refine wpAny_bind (m := callSpecial? (.ref a) (Str.ofString "__str__")) (special_fn I.kIn J M.at_ (beq_iff_eq.mp M.fn) (wpAny_mono (call_sub (vs := [.ref a]) hs F hb hx I (.cons rfl .nil) h) (fun v s' z => ?_) fun _ _ e => e))
  obtain ⟨w, H', I', rw', x, rfl, q⟩ := z
  obtain ⟨t, rfl⟩ := rw'
  exact wpAny_pure ⟨typeIs_str _ _ _, .str x, H', I', ⟨t, rfl⟩, q⟩
end
end Wo
set_option Elab.async false
set_option linter.all false
set_option maxRecDepth 100000
set_option maxHeartbeats 4000000
namespace Wo
open PySem PySem.Spec PyProof.Rows L2 Evl Vr En PySem.W
abbrev tiObj (t : Addr) (i : Nat) : Obj := { cls := .type "tuple_iterator", data := .fields #[.ref t, .int i 0] }
/-- an iterator over the tuple at t -/
def TiO (t it : Addr) (i : Nat) : HO := .ext fun h => h.get? it = some (tiObj t i)
section
variable {prog : Program} {w : PySem.World} {A : Around} {E : Value → Shared → Prop} {s : Shared} {it t : Addr} {i : Nat} {its : Array Value}
theorem ti_call {Q : Value → Shared → Prop} (ht : s.heap.IsTuple t its) (k : Q (.ref s.heap.objs.size) { s with heap := s.heap.push (tiObj t 0) }) : wpAny (model prog w) A (call (.builtin "iter") [.ref t]) Q E s := by
  refine Calls.call_function_entry (by decide +kernel) (by decide +kernel) kdk_entry_iter (kdk_args_iter _) ?_
  unfold Builtin.«iter»
  refine wpAny_bind (m := someArgs "iter" 1 2 _) (wpAny_of_eq (a := [Value.ref t]) (by first | rfl | kernel_rfl!) (wpAny_bind (m := pyIter (.ref t)) (wpAny_pyIter_tuple ht (wpAny_pure ⟨_, rfl, k⟩))))
theorem ti_next {x : Value} {Q : Option Value → Shared → Prop} (ho : s.heap.get? it = some (tiObj t i)) (ht : s.heap.IsTuple t its) (hx : its[i]? = some x)
    (k : Q (some x) { s with heap := s.heap.update it (Obj.mapFields (·.setIfInBounds 1 (rawInt ((i : Int) + 1)))) }) : wpAny (model prog w) A (pyNext (.ref it)) Q E s := by
  obtain ⟨ot, hot, _, nt, hdt⟩ := ht
  have hT : s.TypeIs (.ref it) "tuple_iterator" := ⟨_, ho, rfl⟩
  unfold pyNext
  refine wpAny_bind (wpAny_attempt (wpAny_callSpecial?_slot (name := Str.ofString "__next__") hT PySem.F.slot_tuple_iterator_next (wpAny_call_entry PySem.F.slot_tuple_iterator_next hT PySem.F.entry_tuple_iterator_next ?_ (PySem.F.args_tuple_iterator_next_1 _))))
  show wpAny (model prog w) A.in1 (field (.ref it) 0 >>= _) _ _ s
  refine wpAny_bind (wpAny_field ho rfl (x := .ref t) rfl ?_)
  rw [if_neg (show ¬ ((Value.ref t == Value.none) = true) from fun z => nomatch z)]
  refine wpAny_bind (m := field (.ref it) 1) (wpAny_field ho rfl (x := .int i 0) rfl ?_)
  refine wpAny_bind (m := seqItems? (.ref t)) (wpAny_seqItems hot hdt ?_)
  simp only [Int.toNat_natCast, hx]
  exact wpAny_bind (wpAny_setField ho rfl (by simp) (wpAny_pure ⟨x, rfl, wpAny_pure k⟩))
theorem ti_stop {Q : Option Value → Shared → Prop} (hh : A.handled = none) (ho : s.heap.get? it = some (tiObj t i)) (ht : s.heap.IsTuple t its) (hx : its[i]? = none)
    (k : ∀ h', (∀ b o, b ≠ it → s.heap.get? b = some o → h'.get? b = some o) → (∃ o, h'.get? it = some o) → Q none { s with heap := h' }) : wpAny (model prog w) A (pyNext (.ref it)) Q E s := by
  obtain ⟨ot, hot, _, nt, hdt⟩ := ht
  have hT : s.TypeIs (.ref it) "tuple_iterator" := ⟨_, ho, rfl⟩
  unfold pyNext
  refine wpAny_bind (wpAny_attempt (wpAny_callSpecial?_slot (name := Str.ofString "__next__") hT PySem.F.slot_tuple_iterator_next (wpAny_call_entry PySem.F.slot_tuple_iterator_next hT PySem.F.entry_tuple_iterator_next ?_ (PySem.F.args_tuple_iterator_next_1 _))))
  show wpAny (model prog w) A.in1 (field (.ref it) 0 >>= _) _ _ s
  refine wpAny_bind (wpAny_field ho rfl (x := .ref t) rfl ?_)
  rw [if_neg (show ¬ ((Value.ref t == Value.none) = true) from fun z => nomatch z)]
  refine wpAny_bind (m := field (.ref it) 1) (wpAny_field ho rfl (x := .int i 0) rfl ?_)
  refine wpAny_bind (m := seqItems? (.ref t)) (wpAny_seqItems hot hdt ?_)
  simp only [Int.toNat_natCast, hx]
  refine wpAny_bind (wpAny_rule (wpAny_bind (wpAny_setField ho rfl (by simp) ?_)))
  have e0 := Heap.get?_update_self (Obj.mapFields (·.setIfInBounds 0 Value.none)) ho (Obj.isFreed_of_fields (Obj.data_mapFields (o := tiObj t i) rfl _))
  show wpAny (model prog w) A.in1 (newExc (.type "StopIteration") [] >>= _) _ _ _
  refine wpAny_bind ?_
  simp only [newExc, newTuple]
  refine wpAny_bind (wpAny_newObj_type (wpAny_bind (m := firstArgMember _ _) (wpAny_of_eq (a := Value.none) (by first | rfl | (simp only [firstArgMember]; rfl)) (wpAny_newObj_type ?_ (by size_fits)))) (by size_fits))
  simp only [raiseNew]
  refine wpAny_bind (wpAny_handled ?_)
  rw [show A.in1.handled = none from hh]
  refine wpAny_bind (wpAny_pure (wpAny_throw ?_))
  refine wpAny_bind (wpAny_isInstance (T := "StopIteration") (b := true) ⟨_, Heap.get?_push_size _ rfl, rfl⟩ isSubtype_stop ?_)
  rw [if_pos rfl]
  refine wpAny_pure (k _ (fun b o hb e => ?_) ?_)
  · exact Heap.get?_push_of_some _ (Heap.get?_push_of_some _ ((Heap.get?_update_other s.heap _ (Ne.symm hb)).trans e))
  · exact ⟨_, Heap.get?_push_of_some _ (Heap.get?_push_of_some _ e0)⟩
end
section
variable {X : Cx} {pins : List (Addr × Obj)} {σ : L2.St} {H : Hp} {s : Shared} {it t q : Addr} {i : Nat}
theorem ti_ok {P : Program} {w : PySem.World} {H : Hp} {h : Heap} (e : h.get? it = some (tiObj t i)) : ObjOk P w H h it (TiO t it i) := ⟨e, ⟨_, e⟩, fun h1 h2 q k => k _ q⟩
theorem ti_get (I : Inv X pins σ H s) (e : H it = some (TiO t it i)) : s.heap.get? it = some (tiObj t i) := (I.hok it _ e).1
/-- iter(t), t a tuple -/
def rIterT (K : PySem.W.Frag) : List V → Hp → VK → Prop := fun xs H Q => ∃ (t : Addr) (zs : List V), xs = [.ref t] ∧ SqT K H t zs ∧ ∀ it, H it = none → Q (.ref it) (upd H it (TiO t it 0))
theorem c_iterT : CallR X (.builtin "iter") (rIterT X.K) := by
  intro pins s σ H xs us Q I r h
  obtain ⟨t, zs, rfl, ht, q⟩ := h
  rw [Vals.ref1 r]
  obtain ⟨its, rv, hT, _⟩ := I.tuple ht
  obtain ⟨o, h1, h2, h3⟩ := hT
  refine ti_call ⟨o, h1, h2, h3⟩ ?_
  exact ⟨.ref s.heap.objs.size, _, I.laid (t' := s.toks) (fun b u e => Heap.get?_push_of_some _ e) (Nat.le_refl _) (ti_ok (Heap.get?_push_size _ rfl)), rfl, q _ (I.hok.fresh (Nat.le_refl _))⟩
theorem ti_step (I : Inv X pins σ H s) (e : H it = some (TiO t it i)) : Inv X pins σ (upd H it (TiO t it (i + 1))) { s with heap := s.heap.update it (Obj.mapFields (·.setIfInBounds 1 (rawInt ((i : Int) + 1)))) } := by
  have ho := ti_get I e
  have hn := Heap.get?_update_self (Obj.mapFields (·.setIfInBounds 1 (rawInt ((i : Int) + 1)))) ho (Obj.isFreed_of_fields (Obj.data_mapFields (o := tiObj t i) rfl _))
  have hf : Obj.mapFields (·.setIfInBounds 1 (rawInt ((i : Int) + 1))) (tiObj t i) = tiObj t (i + 1) := by simp [Obj.mapFields, rawInt]
  rw [hf] at hn
  exact I.write (x := it) (e := it) (t' := s.toks) (by rw [e]; exact trivial) (.inl rfl) (fun b u hb hu => (Heap.get?_update_other s.heap _ (Ne.symm hb)).trans hu) ⟨_, hn⟩ (ti_ok hn)
/-- an iterator that is done -/
def TiX (it : Addr) : HO := .ext fun h => ∃ o, h.get? it = some o
theorem tx_ok {P : Program} {w : PySem.World} {H : Hp} {h : Heap} (e : ∃ o, h.get? it = some o) : ObjOk P w H h it (TiX it) := ⟨e, e, fun h1 h2 q k => let ⟨o, ho⟩ := q; ⟨o, k _ ho⟩⟩
theorem hint_split : splitId "tuple_iterator.__length_hint__" = some ("tuple_iterator", "__length_hint__") := by decide +kernel
theorem ti_hint {M : Model} {A : Around} {E : Value → Shared → Prop} {Q : Bool → Shared → Prop} (ho : s.heap.get? it = some (tiObj t i)) (h : Q false s) : wpAny M A (Builtin.List.listLengthHint (.ref it)) Q E s := by
  have hT : s.TypeIs (.ref it) "tuple_iterator" := ⟨_, ho, rfl⟩
  unfold Builtin.List.listLengthHint
  refine wpAny_bind (wpAny_specialOf hT PySem.F.nolen_tu ?_)
  show wpAny M A (specialOf (Value.ref it) (Str.ofString "__length_hint__") >>= _) _ _ _
  refine wpAny_bind (wpAny_specialOf hT PySem.F.hint_tu ?_)
  generalize hd : ("tuple_iterator.__length_hint__" : String) = d
  wp_delta
  rw [show splitId d = some ("tuple_iterator", "__length_hint__") from by rw [← hd]; exact hint_split]
  subst hd
  refine wpAny_bind (wpAny_isInstance (b := true) hT (by rw [isSubtype_type]; kernel_rfl) ?_)
  exact wpAny_pure h
theorem ti_loop {Rs : Result → Shared → Prop} {A1 : Around} {xs : List V} (hh : A1.handled = none) (hz : xs.length ≤ 40000) (hqi : q ≠ it) (hti : ∀ H', (∀ b, b ≠ q → b ≠ it → H' b = H b) → SqT X.K H' t xs)
    (hdone : ∀ H' s', Inv X pins σ H' s' → (∀ b, b ≠ q → b ≠ it → H' b = H b) → H' q = some (.lst xs) → Rs (.ok (.ret .none)) s') :
    ∀ (m i : Nat) (H' : Hp) (s : Shared), xs.length - i = m → i ≤ xs.length → Inv X pins σ H' s → (∀ b, b ≠ q → b ≠ it → H' b = H b) → H' q = some (.lst (xs.take i)) → H' it = some (TiO t it i) → codeAny (model X.prog X.w) A1 (.builtin "list.extend.loop" ⟨[.ref q, .ref it, .none], []⟩) Rs s := by
  intro m
  induction m with
  | zero =>
    intro i H' s hm hi I hO hq hit
    have hi' : i = xs.length := by omega
    subst hi'
    refine codeAny_builtin PySem.F.entry_extend_loop ?_
    rw [Around.under_plainId PySem.F.plain_extend_loop _]
    show wpAny (model X.prog X.w) A1.in1 (pyNext (.ref it) >>= _) _ _ s
    obtain ⟨its, rv, ⟨o, h1, h2, h3⟩, _⟩ := I.tuple (hti H' hO)
    refine wpAny_bind (ti_stop hh (ti_get I hit) ⟨o, h1, h2, h3⟩ (by simp [← rv.length]) fun h' k1 k2 => wpAny_pure ?_)
    refine hdone (upd H' it (TiX it)) _ (I.write (x := it) (e := it) (t' := s.toks) (by rw [hit]; exact trivial) (.inl rfl) k1 k2 (tx_ok k2)) (fun b hb hb2 => by rw [upd_ne hb2]; exact hO b hb hb2) ?_
    rw [upd_ne hqi, hq, List.take_of_length_le (Nat.le_refl _)]
  | succ m ih =>
    intro i H' s hm hi I hO hq hit
    have hlt : i < xs.length := by omega
    refine codeAny_builtin PySem.F.entry_extend_loop ?_
    rw [Around.under_plainId PySem.F.plain_extend_loop _]
    show wpAny (model X.prog X.w) A1.in1 (pyNext (.ref it) >>= _) _ _ s
    obtain ⟨its, rv, ⟨o, h1, h2, h3⟩, _⟩ := I.tuple (hti H' hO)
    obtain ⟨u, hu, ru⟩ := rv.get (List.getElem?_eq_getElem hlt)
    refine wpAny_bind (ti_next (ti_get I hit) ⟨o, h1, h2, h3⟩ (x := u) (by simpa using hu) ?_)
    have I1 := ti_step I hit
    have hq1 : upd H' it (TiO t it (i + 1)) q = some (.lst (xs.take i)) := by rw [upd_ne hqi]; exact hq
    obtain ⟨z, il, k, r2, hl, e⟩ := I1.lstM hq1
    have hll : il.length = i := by rw [← r2.length, List.length_take]; omega
    show wpAny (model X.prog X.w) A1.in1 (updateSeq q (·.push u) >>= _) _ _ _
    refine wpAny_bind (wpAny_updateSeq e rfl (wpAny_pure ⟨plainId_quiet PySem.F.plain_extend_loop _, ?_⟩) (by rw [List.size_toArray, hll, sizeLine_eq]; omega) (by show (il.toArray.push u).size ≤ sizeLine + 1; rw [Array.size_push, List.size_toArray, hll, sizeLine_eq]; omega))
    refine ih (i + 1) _ _ (by omega) hlt (I1.lset (its' := il ++ [u]) (ys := xs.take (i + 1)) (t' := s.toks) hq1 e (by simp) (by rw [List.take_succ_eq_append_getElem hlt]; exact r2.append (.cons ru .nil)) (by rw [List.length_take, sizeLine_eq]; omega)) (fun b hb hb2 => by rw [upd_ne hb, upd_ne hb2]; exact hO b hb hb2) upd_same (by rw [upd_ne (Ne.symm hqi)]; exact upd_same)
end
end Wo
set_option Elab.async false
set_option linter.all false
set_option maxRecDepth 100000
set_option maxHeartbeats 4000000
namespace Wo
open PySem PySem.Spec PyProof.Rows L2 Evl Vr En PySem.W
section
variable {X : Cx} {pins : List (Addr × Obj)} {σ : L2.St} {H : Hp} {s : Shared} {f f2 C a q : Addr} {fd fd2 : FuncData} {ps ps2 : List Str} {sp sp2 : Sp} {E : XK} {k n : Nat}
/-- a def that raises nothing, called anywhere -/
theorem call_sub0 {A : Around} {us : List Value} {vs : List V} {Q : VK} {Er : Value → Shared → Prop} (sb : Sub X k A) (F : FnOk X.prog X.w X.K X.mg X.base CX0 k f fd ps sp) (hb : Binds X.K fd ps []) (I : Inv X pins σ H s) (r : Vals vs us) (h : sp vs H Q E) :
    wpAny (model X.prog X.w) A (call (.ref f) us) (EP X pins σ Q) Er s := by
  have e := I.env0
  have z0 : Env0 X.prog X.w X.K X.mg X.base A X.stack s H := ⟨by rw [sb.fr]; exact e.frames, e.mod, e.bs, e.bsz, e.funs, e.frf, e.hok, e.bare⟩
  have z1 : BindsTo s fd ⟨us, []⟩ (ps.zip us) := by simpa using hb s us I.kIn (by rw [List.append_nil, ← r.length]; exact F.len _ _ _ _ h)
  refine wpAny_call (codeAny_mono (F.run A X.stack s H ⟨us, []⟩ us vs Q E sb.room z0 z1 r h) fun r s' hq => ?_)
  cases r with
  | error e => exact False.elim hq
  | ok fl => cases fl with
    | ret u => exact I.after hq
    | _ => exact False.elim hq
/-- what the own __iter__ gives: an iterator over a tuple, and then the list q of its things -/
def AftI (K : PySem.W.Frag) (a q : Addr) (sp2 : Sp) (E : XK) (Q : VK) : VK := fun v H' => ∃ (it t : Addr) (xs : List V), v = .ref it ∧ it ≠ q ∧ xs.length ≤ 40000 ∧ H' it = some (TiO t it 0) ∧
  sp2 [.ref a] H' (fun u H1 => ∃ m : Int, u = .int m ∧ 0 ≤ m ∧ m ≤ 40000 ∧ H1 it = some (TiO t it 0) ∧ H1 q = some (.lst []) ∧ (∀ H2, (∀ b, b ≠ q → b ≠ it → H2 b = H1 b) → SqT K H2 t xs) ∧ ∀ H2, (∀ b, b ≠ q → b ≠ it → H2 b = H1 b) → H2 q = some (.lst xs) → Q (.ref q) H2) E
/-- list(o), o's class with its own __iter__ and __len__ -/
def rListO (K : PySem.W.Frag) (C : Addr) (sp sp2 : Sp) (E : XK) : List V → Hp → VK → Prop := fun xs H Q => ∃ a dx fs, xs = [.ref a] ∧ H a = some (.ins C dx fs) ∧ ∀ q, H q = none → sp [.ref a] (upd H q (.lst [])) (fun v H' => H' a = some (.ins C dx fs) ∧ AftI K a q sp2 E Q v H') E
theorem long_no {m : Int} (h0 : 0 ≤ m) (h1 : m ≤ 40000) : Builtin.List.listTooLong m.toNat = false := by
  unfold Builtin.List.listTooLong
  have : m.toNat ≤ 40000 := by omega
  simp only [decide_eq_false_iff_not, sizeLine_eq]
  omega
theorem ol_hint {A : Around} {Q : Bool → Shared → Prop} {Er : Value → Shared → Prop} {dx : Addr} {fs : List (Str × V)} {R : Int → Hp → Prop} (sb : Sub X k A.in1) (F : FnOk X.prog X.w X.K X.mg X.base CX0 k f fd ps sp) (hs : findIn X.K (.ref C) "__len__" = some (some (.ref f))) (hf : isFn X.K (.ref f) = true) (hb : Binds X.K fd ps [])
    (I : Inv X pins σ H s) (ha : H a = some (.ins C dx fs)) (h : sp [.ref a] H (fun u H1 => ∃ m : Int, u = .int m ∧ 0 ≤ m ∧ m ≤ 40000 ∧ R m H1) E) (hq : ∀ b m H1 s1, Inv X pins σ H1 s1 → R m H1 → Q b s1) : wpAny (model X.prog X.w) A (Builtin.List.listLengthHint (.ref a)) Q Er s := by
  obtain ⟨mA, J, _⟩ := ins_get I.hok ha
  obtain ⟨od, J, _⟩ := J.look
  obtain ⟨m0, hF⟩ := I.fr
  unfold Builtin.List.listLengthHint
  refine wpAny_bind (wpAny_bind (J.type.here ((looks_findIn I.kIn hs).here ?_)))
  refine KFB.if_not rfl ?_
  rw [if_pos (by rfl)]
  refine wpAny_bind (wpAny_rule (wpAny_bind (wpAny_attempt (len_K hF I.ok.mod.kin J hs hf (wpAny_mono (call_sub0 (vs := [.ref a]) sb F hb I (.cons rfl .nil) h) (fun r s' z => ?_) fun _ _ z => z)))))
  obtain ⟨v, H', I', rv, m, rfl, h0, h1, hR⟩ := z
  obtain ⟨t, rfl⟩ := rv
  refine ⟨⟨h0, by omega⟩, ?_⟩
  refine wpAny_bind (m := asInt? _) (wpAny_pure ?_)
  dsimp only
  rw [if_neg (by rw [long_no h0 h1]; exact fun z => nomatch z)]
  exact wpAny_pure (hq _ m H' _ (I'.tok _) hR)
theorem oe_run {Q : VK} {A1 : Around} {dx : Addr} {fs : List (Str × V)} (hh : A1.handled = none) (sb : Sub X n A1.in1) (sb2 : Sub X k A1.in1.in1) (F : FnOk X.prog X.w X.K X.mg X.base CX0 n f fd ps sp) (M : Meth X.K C "__iter__" f) (hb : Binds X.K fd ps [])
    (F2 : FnOk X.prog X.w X.K X.mg X.base CX0 k f2 fd2 ps2 sp2) (M2 : Meth X.K C "__len__" f2) (hb2 : Binds X.K fd2 ps2 [])
    (I : Inv X pins σ H s) (ha : H a = some (.ins C dx fs)) (hq : H q = some (.lst [])) (h : sp [.ref a] H (fun v H' => H' a = some (.ins C dx fs) ∧ AftI X.K a q sp2 E Q v H') E) :
    wpAny (model X.prog X.w) A1.in1 (Builtin.List.listExtendWith (.ref q) (.ref a) .none) (fun fin s' => match fin with
      | .done g => wants (fun r s2 => r = .none ∧ EP X pins σ Q (.ref q) s2) X.xe (.ok g) s'
      | .again c' => c'.quiet = true ∧ codeAny (model X.prog X.w) A1 c' (wants (fun r s2 => r = .none ∧ EP X pins σ Q (.ref q) s2) X.xe) s') X.xe s := by
  have hne : q ≠ a := ne_of hq ha (fun z => nomatch z)
  obtain ⟨mA, J, _⟩ := ins_get I.hok ha
  obtain ⟨od, J, _⟩ := J.look
  obtain ⟨m0, hF⟩ := I.fr
  unfold Builtin.List.listExtendWith
  refine wpAny_bind (J.type.here ?_)
  rw [if_neg (by
    have z1 : Builtin.List.listSameRef (.ref q) (.ref a) = false := by simp [Builtin.List.listSameRef, hne]
    rw [z1]
    exact fun z => nomatch z)]
  refine wpAny_bind (owit_iter hF I.ok.mod.kin J M.at_ M.fn (wpAny_mono (call_sub0 (vs := [.ref a]) sb F hb I (.cons rfl .nil) h) (fun u s2 z => ?_) fun _ _ z => z))
  obtain ⟨v, H', I', rv, ha', it, t, xs, rfl, hiq, hz, hi0, h2⟩ := z
  cases rv
  have hT : s2.TypeIs (.ref it) "tuple_iterator" := ⟨_, ti_get I' hi0, rfl⟩
  unfold OwitIt
  refine wpAny_specialOf hT PySem.F.slot_tuple_iterator_next.lookup ?_
  refine wpAny_bind (wpAny_holding (ol_hint sb2 F2 M2.at_ M2.fn hb2 I' ha' h2 fun b m H1 s3 I1 ⟨hit, hq1, hti, hQ⟩ => ?_))
  have go : ∀ s4 : Shared, Inv X pins σ H1 s4 → codeAny (model X.prog X.w) A1 (.builtin "list.extend.loop" ⟨[.ref q, .ref it, .none], []⟩) (wants (fun r s2 => r = .none ∧ EP X pins σ Q (.ref q) s2) X.xe) s4 := fun s4 I4 =>
    ti_loop (t := t) (H := H1) (xs := xs) hh hz (Ne.symm hiq) hti (fun H2 s3 I2 o1 o2 => ⟨rfl, .ref q, H2, I2, rfl, hQ H2 o1 o2⟩) xs.length 0 H1 s4 rfl (Nat.zero_le _) I4 (fun _ _ _ => rfl) (by rw [List.take_zero]; exact hq1) hit
  refine wpAny_ite_split (fun _ => ?_) (fun _ => wpAny_pure ⟨plainId_quiet PySem.F.plain_extend_loop _, go _ I1⟩)
  refine wpAny_bind (wpAny_rule (wpAny_bind ?_))
  obtain ⟨z, il, c, r3, hl3, e3⟩ := I1.lstM hq1
  cases r3
  show wpAny (model X.prog X.w) _ (updateSeq q (·.push .none) >>= fun _ => updateSeq q (·.pop)) _ _ _
  refine wpAny_bind (wpAny_updateSeq e3 rfl ?_)
  have I2 := I1.lset (f := (·.push Value.none)) (its' := [Value.none]) (ys := [.non]) (t' := s3.toks) hq1 e3 (by simp) (.cons rfl .nil) (by rw [List.length_singleton, sizeLine_eq]; decide)
  obtain ⟨z4, il4, c4, r4, hl4, e4⟩ := I2.lstM upd_same
  obtain ⟨u4, rfl, ru4⟩ := r4.one
  refine wpAny_updateSeq e4 rfl ?_ (by show 1 ≤ sizeLine; rw [sizeLine_eq]; decide) (by show 0 ≤ sizeLine + 1; exact Nat.zero_le _)
  have I3 := I2.lset (f := (·.pop)) (its := [u4]) (its' := []) (ys := []) (t' := s3.toks) upd_same e4 (by rfl) .nil (Nat.zero_le _)
  rw [upd_upd] at I3
  have hH : upd H1 q (.lst []) = H1 := by
    funext b
    by_cases hb : b = q
    · rw [hb, upd_same, hq1]
    · exact upd_ne hb
  rw [hH] at I3
  exact wpAny_pure ⟨plainId_quiet PySem.F.plain_extend_loop _, go _ I3⟩
theorem c_listO (hc : X.calm = true) (F : FnOk X.prog X.w X.K X.mg X.base CX0 n f fd ps sp) (hr : Room (n + 2) X.A) (M : Meth X.K C "__iter__" f) (hb : Binds X.K fd ps []) (F2 : FnOk X.prog X.w X.K X.mg X.base CX0 k f2 fd2 ps2 sp2) (hr2 : Room (k + 3) X.A) (M2 : Meth X.K C "__len__" f2) (hb2 : Binds X.K fd2 ps2 []) (hx : Passes CX0 X E) : CallR X (.type "list") (rListO X.K C sp sp2 E) := by
  intro pins s σ H xs us Q I r h
  obtain ⟨a, dx, fs, rfl, ha, h⟩ := h
  rw [Vals.ref1 r]
  have sb : Sub X n X.A.in1.in1 := Sub.in1 (Sub.in1 ⟨hr, rfl⟩)
  have sb2 : Sub X k X.A.in1.in1.in1 := Sub.in1 (Sub.in1 (Sub.in1 ⟨hr2, rfl⟩))
  have fr : H s.heap.objs.size = none := I.hok.fresh (Nat.le_refl _)
  refine callType_codes (Q₁ := fun o s1 => o = .ref s.heap.objs.size ∧ s1 = { s with heap := s.heap.push { cls := .type "list", data := .seq #[] } }) PySem.F.called_list (PySem.F.typeCall_list_1 _) PySem.F.entry_list_init (code_list_new _ ⟨rfl, rfl⟩) fun o s1 h1 => ?_
  obtain ⟨rfl, rfl⟩ := h1
  have hS : (s.heap.push { cls := .type "list", data := .seq #[] }).get? s.heap.objs.size = some { cls := .type "list", data := .seq #[] } := Heap.get?_push_size _ rfl
  refine ⟨⟨_, hS, rfl⟩, PySem.F.args_list_init_2 _ _, ?_⟩
  have I1 : Inv X pins σ (upd H s.heap.objs.size (.lst [])) { s with heap := s.heap.push { cls := .type "list", data := .seq #[] } } := I.lnew (its := []) (t' := s.toks) .nil (Nat.zero_le _)
  show wpAny (model X.prog X.w) _ (Builtin.List.listItems (.ref s.heap.objs.size) >>= fun old => Builtin.List.listUpdate (.ref s.heap.objs.size) (fun _ => #[]) >>= fun _ => letGo old.toList.reverse >>= fun _ => Builtin.List.listExtendWith (.ref s.heap.objs.size) (.ref a) .none) _ _ _
  refine wpAny_bind ?_
  unfold Builtin.List.listItems
  refine wpAny_bind (wpAny_seqItems hS rfl (wpAny_pure ?_))
  show wpAny (model X.prog X.w) _ (updateSeq s.heap.objs.size (fun _ => #[]) >>= fun _ => letGo (#[] : Array Value).toList.reverse >>= fun _ => Builtin.List.listExtendWith (.ref s.heap.objs.size) (.ref a) .none) _ _ _
  refine wpAny_bind (wpAny_updateSeq hS rfl ?_)
  have I2 := I1.lset (f := fun _ => #[]) (its := []) (its' := []) (ys := []) (t' := s.toks) upd_same hS rfl .nil (Nat.zero_le _)
  rw [upd_upd] at I2
  refine wpAny_bind (wpAny_letGo ?_)
  exact oe_run (A1 := X.A.in1) (I.ok.hd hc) sb sb2 F M hb F2 M2 hb2 I2 (by rw [upd_ne (ne_of_none ha fr)]; exact ha) upd_same (h _ fr)
end
section
variable {X : Cx} {CX : CXT} {f C : Addr} {fd : FuncData} {ps : List Str} {sp : Sp} {E : XK} {k : Nat} {K : PySem.W.Frag}
theorem op_eqOK (hK : X.K = K) (F : FnOk X.prog X.w X.K X.mg X.base CX k f fd ps sp) (hr : Room k X.A) (M : Meth X.K C "__eq__" f) (hb : Binds X.K fd ps []) (hx : Passes CX X E) : OpR X (compareOp .Eq) (rEqO K C sp E) := by subst hK; exact op_eqO F hr M hb hx
theorem op_neOK (hK : X.K = K) (F : FnOk X.prog X.w X.K X.mg X.base CX k f fd ps sp) (hr : Room (k + 1) X.A) (M : Meth X.K C "__eq__" f) (hne : findIn X.K (.ref C) "__ne__" = some (some (.builtin "object.__ne__"))) (hob : subIn X.K (.ref C) (.type "object") = some true) (hb : Binds X.K fd ps []) (hx : Passes CX X E) : OpR X (compareOp .NotEq) (rNeO K C sp E) := by subst hK; exact op_neO F hr M hne hob hb hx
end
end Wo
set_option Elab.async false
set_option linter.all false
set_option maxRecDepth 100000
set_option maxHeartbeats 4000000
namespace Wo
open PySem PySem.Spec PyProof.Rows L2 Evl Vr En
/-- != of two tuples of the very same objects -/
def rNeS (K : PySem.W.Frag) : R2 := fun x y H Q => ∃ a b xs, x = .ref a ∧ y = .ref b ∧ SqT K H a xs ∧ SqT K H b xs ∧ (∀ v ∈ xs, v = .non ∨ ∃ r, v = .ref r) ∧ Q (.bl false) H
theorem same_val {v : V} {u u' : Value} (h : v = .non ∨ ∃ r, v = .ref r) (r : RelV v u) (r' : RelV v u') : u = u' := by
  rcases h with rfl | ⟨a, rfl⟩
  · cases r; cases r'; rfl
  · cases r; cases r'; rfl
theorem op_neS {X : Cx} (hu : X.A.units < cLine) : OpR X (compareOp .NotEq) (rNeS X.K) := by
  intro pins s σ H x y v u Q I rx ry h
  obtain ⟨a, b, xs, rfl, rfl, ha, hb, hs, q⟩ := h
  cases rx
  cases ry
  obtain ⟨its, rv, h1, _⟩ := I.tuple ha
  obtain ⟨its2, rv2, h2, _⟩ := I.tuple hb
  have t1 : s.heap.IsTuple a its.toArray := by obtain ⟨o, p1, p2, p3⟩ := h1; exact ⟨o, p1, p2, p3⟩
  have t2 : s.heap.IsTuple b its2.toArray := by obtain ⟨o, p1, p2, p3⟩ := h2; exact ⟨o, p1, p2, p3⟩
  have hsz : its.toArray.size = its2.toArray.size := by rw [List.size_toArray, List.size_toArray, ← rv.length, ← rv2.length]
  have hc := SeqAt.RcNeAt.tuples (A := X.A) (s := s) (e := fun _ => true) t1 t2 hu fun j g1 g2 => by
    have k1 : j < xs.length := by rw [rv.length]; simpa using g1
    obtain ⟨w1, e1, r1⟩ := rv.get (List.getElem?_eq_getElem k1)
    obtain ⟨w2, e2, r2⟩ := rv2.get (List.getElem?_eq_getElem k1)
    have f1 : its.toArray[j] = w1 := by
      have g1' : j < its.length := by simpa using g1
      rw [List.getElem?_eq_getElem g1'] at e1
      simpa using Option.some.inj e1
    have f2 : its2.toArray[j] = w2 := by
      have g2' : j < its2.length := by simpa using g2
      rw [List.getElem?_eq_getElem g2'] at e2
      simpa using Option.some.inj e2
    rw [f1, f2, same_val (hs _ (List.getElem_mem k1)) r1 r2]
    exact SeqAt.EqAt.same _
  have h3 : ((List.range (min its.toArray.size its2.toArray.size)).all fun _ => true) = true := List.all_eq_true.mpr fun _ _ => rfl
  have h4 : (!(((List.range (min its.toArray.size its2.toArray.size)).all fun _ => true) && its.toArray.size == its2.toArray.size)) = false := by
    rw [h3, hsz, beq_self_eq_true]
    rfl
  rw [h4] at hc
  exact hc X.prog X.w X.xe _ ⟨.bl false, H, I, rfl, q⟩
theorem op_neSK {X : Cx} {K : PySem.W.Frag} (hK : X.K = K) (hu : X.A.units < cLine) : OpR X (compareOp .NotEq) (rNeS K) := by subst hK; exact op_neS hu
end Wo
set_option Elab.async false
set_option linter.all false
set_option maxRecDepth 100000
set_option maxHeartbeats 4000000
namespace Sl
open PySem PySem.Spec PyProof.Rows L2
section
variable {P : Program} {w : World} {A : Around} {E : Value → Shared → Prop} {s : Shared}
/-- the object that set() begins with -/
abbrev blank (w : World) : Obj := { cls := .type "set", dict := none, data := .set #[] 0 (.fresh 0 0 (!w.params.followText "set-order")) }
/-- the new set is filled from a list of ints -/
theorem fill {l : Addr} {items : Array Value} {ns : List Int} (calm : A.handled = none) (isL : s.heap.IsList l items) (whole : IntsAre items.toList ns) (few : ns.length + 1 < scanBound) {R : Value → Shared → Prop}
    (k : ∀ (h2 : Heap) (tk c : Nat), SetR w h2 s.heap.objs.size (fun j => decide (j ∈ ns)) c → c ≤ ns.length → (∀ b o, s.heap.get? b = some o → h2.get? b = some o) → R .none { s with heap := h2, toks := tk }) :
    codeAny (model P w) A (.call (.builtin "set.__init__") ⟨[.ref s.heap.objs.size, .ref l], []⟩) (wants R E) { s with heap := s.heap.push (blank w) } := by
  have sz : items.size = ns.length := by have z := IntsAre.length whole; simpa only [Array.length_toList] using z
  have at0 : (s.heap.push (blank w)).get? s.heap.objs.size = some (blank w) := Heap.get?_push_size _ rfl
  have ty : Shared.TypeIs { s with heap := s.heap.push (blank w) } (.ref s.heap.objs.size) "set" := ⟨_, at0, rfl⟩
  have isL1 : (s.heap.push (blank w)).IsList l items := isL.push _
  have hl : l < s.heap.objs.size := by obtain ⟨o, e, _⟩ := isL; exact Heap.lt_size e
  refine codeAny_call_builtin F.called_set.init.plain F.entry_set_init (check_set_init_1 ty ?_)
  obtain ⟨ol, eol, cl, nl, dl⟩ := isL1
  obtain ⟨c0, d0, x0, s0⟩ := ol
  simp only at cl dl; subst cl dl
  have f1 := F.sub_list_set; have f2 := F.sub_list_frozenset
  have f3 : (Value.type "list" == Value.type "dict") = false := by decide
  have again : (s.heap.push (blank w)).IsList l items := ⟨_, eol, rfl, nl, rfl⟩
  unfold Builtin.«set.__init__» noKeywords Builtin.Frozenset.updateFrom
  generalize hI : pyIter = I0
  wp_walk
  subst hI
  refine wpAny_pyIter_list again (wpAny_bind (wpAny_runValue ?_))
  have c3 : A.in1.in1.in1.handled = none := by simp [calm]
  have s1 : (s.heap.push (blank w)).objs.size = s.heap.objs.size + 1 := Heap.size_push ..
  have nI : l ≠ (s.heap.push (blank w)).objs.size := fun z => absurd (z.trans s1) (Nat.ne_of_lt (Nat.lt_succ_of_lt hl))
  have nS : s.heap.objs.size ∉ [(s.heap.push (blank w)).objs.size, l] := by
    intro z; rcases List.mem_cons.mp z with z | z
    · exact absurd (z.trans s1) (Nat.ne_of_lt (Nat.lt_succ_self _))
    · exact absurd (List.mem_singleton.mp z) (Nat.ne_of_gt hl)
  have each : ∀ (i : Nat) (v : Value), items[i]? = some v → ∃ k t, ns[i]? = some k ∧ v = .int k t := fun i v hv => by
    have hi : i < ns.length := by have := (Array.getElem?_eq_some_iff.mp hv).1; omega
    obtain ⟨t, e⟩ := IntsAre.int_at whole i v (by rw [Array.getElem?_toList]; exact hv)
    exact ⟨ns[i], t, List.getElem?_eq_getElem hi, by rw [e, List.getD_eq_getElem?_getD, List.getElem?_eq_getElem hi]; rfl⟩
  have W := (Walks.list (prog := P) (w := w) (A := A.in1.in1) c3 (s.heap.push (blank w)).objs.size l nI items).toS
  refine set_update_ints W s.heap.objs.size nS ns sz few each (items.size - 0) 0 _ rfl (Nat.zero_le _) ⟨⟨_, Heap.get?_push_size _ rfl, rfl, rfl⟩, again.push _⟩ ⟨0, Nat.le_refl 0, ?_⟩ ?_
  · exact setR_new_at (Heap.get?_push_of_some _ at0)
  · rintro ⟨h2, g2, d2, t2, o2⟩ c mv hc hs
    have e1 : g2 = s.gens := mv.gens
    have e2 : d2 = s.drawn := mv.drawn
    have e3 : o2 = s.os := mv.os
    subst e1 e2 e3
    refine wpAny_pure (wpAny_pure ?_)
    rw [sz] at hc
    refine k h2 t2 c hs hc fun b o e => ?_
    have hb : b < s.heap.objs.size := Heap.lt_size e
    refine mv.heap b o (fun z => ?_) (Heap.get?_push_of_some _ (Heap.get?_push_of_some _ e))
    rcases List.mem_cons.mp z with z | z
    · exact absurd z (Nat.ne_of_lt hb)
    · exact absurd ((List.mem_singleton.mp z).trans s1) (Nat.ne_of_lt (Nat.lt_succ_of_lt hb))
theorem made {l : Addr} {items : Array Value} {ns : List Int} {Q : Value → Shared → Prop} (calm : A.handled = none) (isL : s.heap.IsList l items) (whole : IntsAre items.toList ns) (few : ns.length + 1 < scanBound)
    (k : ∀ (h2 : Heap) (tk c : Nat), SetR w h2 s.heap.objs.size (fun j => decide (j ∈ ns)) c → c ≤ ns.length → (∀ b o, s.heap.get? b = some o → h2.get? b = some o) → Q (.ref s.heap.objs.size) { s with heap := h2, toks := tk }) :
    wpAny (model P w) A (call (.type "set") [.ref l]) Q E s := by
  obtain ⟨c, tl, m0⟩ := F.called_set.mro
  have m1 := F.called_set.made; have m2 := F.called_set.sub
  refine wpAny_call (codeAny_of_tree (show wpAny _ _ (callAny (.type "set") _) _ _ _ from wpAny_pure ⟨Code.quiet_builtin _ (by decide +kernel), codeAny_builtin F.entry_type_call ?_⟩))
  rw [Around.under_plain (weight_type_call_type "set" [.ref l] []) rfl]
  have m3 := F.called_set.notType; have m4 := F.called_set.canCreate; have m5 := F.typeCall_set_1 (.ref l)
  repeat (any_goals (first | assumption | wp_step))
  refine codeAny_mono (code_set_led1 (Q₁ := fun v s1 => v = .ref s.heap.objs.size ∧ s1 = { s with heap := s.heap.push (blank w) }) (.ref l) (E := E) ⟨rfl, rfl⟩) fun r s1 hr => ?_
  match r, hr with
  | .error e, hr => exact hr
  | .ok .next, hr => exact hr.elim
  | .ok .brk, hr => exact hr.elim
  | .ok .cont, hr => exact hr.elim
  | .ok (.ret v), hr =>
    obtain ⟨rfl, rfl⟩ := hr
    have ty : Shared.TypeIs { s with heap := s.heap.push (blank w) } (.ref s.heap.objs.size) "set" := ⟨_, Heap.get?_push_size _ rfl, rfl⟩
    have i1 := F.called_set.init.lookup; have i2 := F.called_set.init.bind (.ref s.heap.objs.size)
    repeat (any_goals (first | assumption | wp_step))
    refine codeAny_mono (fill (R := fun v s2 => v = .none ∧ ∃ h2 tk c, s2 = { s with heap := h2, toks := tk } ∧ SetR w h2 s.heap.objs.size (fun j => decide (j ∈ ns)) c ∧ c ≤ ns.length ∧ ∀ b o, s.heap.get? b = some o → h2.get? b = some o) (E := E) (A := A.in1) (by simp [calm]) isL whole few fun h2 tk c x y z => ⟨rfl, h2, tk, c, rfl, x, y, z⟩) fun r s2 hr => ?_
    match r, hr with
    | .error e, hr => exact hr
    | .ok .next, hr => exact hr.elim
    | .ok .brk, hr => exact hr.elim
    | .ok .cont, hr => exact hr.elim
    | .ok (.ret v), hr =>
      obtain ⟨rfl, h2, tk, c, rfl, x, y, z⟩ := hr
      repeat (any_goals (first | assumption | wp_step))
      exact k _ _ _ x y z
end
/-- set(xs) of a list of ints, as a rule -/
def rSetL (K : PySem.W.Frag) (w : World) : List V → Hp → VK → Prop := fun xs H Q => ∃ (l : Addr) (ns : List Int), xs = [.ref l] ∧ SqL K H l (ns.map V.int) ∧ ns.length ≤ 1000 ∧ ∀ a c, H a = none → (∀ ms : List Int, (∀ k ∈ ns, k ∈ ms) → c ≤ ms.length) → Q (.ref a) (upd H a (SetO w a (fun j => decide (j ∈ ns)) c))
theorem ints_of : ∀ {ns : List Int} {us : List Value}, Vals (ns.map V.int) us → IntsAre us ns
  | [], _, .nil => .nil
  | n :: ns, _, .cons r t => by
    obtain ⟨k, rfl⟩ := r
    exact .cons n k (ints_of t)
theorem c_setL {X : Cx} (hc : X.calm = true) : CallR X (.type "set") (rSetL X.K X.w) := by
  intro pins s σ H xs us Q I r h
  obtain ⟨l, ns, rfl, hq, hl, q⟩ := h
  rw [Vals.ref1 r]
  obtain ⟨its, rv, pl, hz⟩ := I.list hq
  refine made (I.ok.hd hc) pl.isList (by simpa using ints_of rv) (by unfold scanBound; omega) fun h2 tk c hs hc2 hk => ?_
  have hn : H s.heap.objs.size = none := I.hok.fresh (Nat.le_refl _)
  have J : Inv X pins σ (upd H s.heap.objs.size (SetO X.w s.heap.objs.size (fun j => decide (j ∈ ns)) c)) { s with heap := h2, toks := tk } :=
    I.call (ch := []) (Un.laid hk (Nat.le_refl _) hn) (I.hok.laid hk (Nat.le_refl _) (setO_new hs)) I.bare (fun _ z => nomatch z)
  refine ⟨.ref s.heap.objs.size, _, J, rfl, q _ _ hn fun ms hm => ?_⟩
  obtain ⟨o, es, ep, t, _, _, _, _, nd, mem, _, _, sz, _⟩ := hs
  have z := nd.length_le_of_subset (l₂ := ms) fun k hk' => hm k (by simpa using (mem k).mpr hk')
  rw [List.length_map, Array.length_toList] at z
  omega
theorem sorted_one : ∀ {as bs : List Int}, as.Pairwise (· < ·) → bs.Pairwise (· < ·) → (∀ k, k ∈ as ↔ k ∈ bs) → as = bs
  | [], [], _, _, _ => rfl
  | [], b :: bs, _, _, h => nomatch (h b).mpr (List.mem_cons_self ..)
  | a :: as, [], _, _, h => nomatch (h a).mp (List.mem_cons_self ..)
  | a :: as, b :: bs, ha, hb, h => by
    rw [List.pairwise_cons] at ha hb
    have e : a = b := by
      rcases List.mem_cons.mp ((h a).mp (List.mem_cons_self ..)) with x | x
      · exact x
      · rcases List.mem_cons.mp ((h b).mpr (List.mem_cons_self ..)) with y | y
        · exact y.symm
        · have := hb.1 _ x; have := ha.1 _ y; omega
    subst e
    congr 1
    refine sorted_one ha.2 hb.2 fun k => ⟨fun x => ?_, fun x => ?_⟩
    · rcases List.mem_cons.mp ((h k).mp (List.mem_cons_of_mem _ x)) with y | y
      · have := ha.1 _ x; omega
      · exact y
    · rcases List.mem_cons.mp ((h k).mpr (List.mem_cons_of_mem _ x)) with y | y
      · have := hb.1 _ x; omega
      · exact y
end Sl
set_option Elab.async false
set_option linter.all false
set_option maxRecDepth 100000
set_option maxHeartbeats 4000000
namespace Wo
open PySem PySem.Spec PyProof.Rows L2 Evl Vr En
/-- set(xs), xs a list of ints: as many as they are, if no one stands twice -/
def rSetN (K : PySem.W.Frag) (w : World) : List V → Hp → VK → Prop := fun xs H Q => ∃ (l : Addr) (ns : List Int), xs = [.ref l] ∧ SqL K H l (ns.map V.int) ∧ ns.length ≤ 1000 ∧ ns.Nodup ∧ ∀ a, H a = none → Q (.ref a) (upd H a (SetO w a (fun j => decide (j ∈ ns)) ns.length))
theorem c_setN {X : Cx} (hc : X.calm = true) : CallR X (.type "set") (rSetN X.K X.w) := by
  intro pins s σ H xs us Q I r h
  obtain ⟨l, ns, rfl, hq, hl, hnd, q⟩ := h
  rw [Vals.ref1 r]
  obtain ⟨its, rv, pl, hz⟩ := I.list hq
  refine Sl.made (I.ok.hd hc) pl.isList (by simpa using Sl.ints_of rv) (by unfold scanBound; omega) fun h2 tk c hs hc2 hk => ?_
  have hn : H s.heap.objs.size = none := I.hok.fresh (Nat.le_refl _)
  have hc3 : c = ns.length := by
    obtain ⟨o, es, ep, t, _, _, _, _, nd, mem, _, _, sz, _⟩ := id hs
    have z : ns.length ≤ es.size := by
      have z0 := hnd.length_le_of_subset (l₂ := es.toList.map keyOf) fun k hk' => (mem k).mp (decide_eq_true hk')
      simpa using z0
    omega
  subst hc3
  have J : Inv X pins σ (upd H s.heap.objs.size (SetO X.w s.heap.objs.size (fun j => decide (j ∈ ns)) ns.length)) { s with heap := h2, toks := tk } :=
    I.call (ch := []) (Un.laid hk (Nat.le_refl _) hn) (I.hok.laid hk (Nat.le_refl _) (setO_new hs)) I.bare (fun _ z => nomatch z)
  exact ⟨.ref s.heap.objs.size, _, J, rfl, q _ hn⟩
/-- len of such a set -/
def rLenN (w : World) : List V → Hp → VK → Prop := fun xs H Q => ∃ (a : Addr) (S : Int → Bool) (n : Nat), xs = [.ref a] ∧ H a = some (SetO w a S n) ∧ Q (.int n) H
theorem c_lenN {X : Cx} : CallR X (.builtin "len") (rLenN X.w) := by
  intro pins s σ H xs us Q I r h
  obtain ⟨a, S, n, rfl, ha, q⟩ := h
  rw [Vals.ref1 r]
  obtain ⟨o, es, ep, t, ho, ex, hd, _, _, _, hlt, hf, sz, _⟩ := setO_get I ha
  subst sz
  exact call_len_set (o := o) (es := es) (ep := ep) (t := t) ho ex hd hf (by unfold scanBound at hlt; omega) ⟨.int es.size, H, I.tok _, ⟨_, rfl⟩, q⟩
end Wo
set_option Elab.async false
set_option linter.all false
set_option maxRecDepth 100000
set_option maxHeartbeats 4000000
namespace Tx
open PySem PySem.Spec PyProof.Rows L2 Evl Vr En Wo
/-- list(text) -/
def rListStr : List V → Hp → VK → Prop := fun xs H Q => ∃ z, xs = [.str z] ∧ z.length ≤ sizeLine ∧ ∀ p, H p = none → Q (.ref p) (upd H p (.lst (z.cps.toList.map fun c => V.str (S [c]))))
theorem vals_of : ∀ (xs : List V) (us : List Value), xs.length = us.length → (∀ (i : Nat) (x : V) (u : Value), xs[i]? = some x → us[i]? = some u → RelV x u) → Vals xs us
  | [], [], _, _ => .nil
  | [], _ :: _, h, _ => by cases h
  | _ :: _, [], h, _ => by cases h
  | x :: xs, u :: us, h, k => .cons (k 0 x u rfl rfl) (vals_of xs us (by simpa using h) fun i y v a b => k (i + 1) y v a b)
theorem c_listStr {X : Cx} (hc : X.calm = true) : CallR X (.type "list") rListStr := by
  intro pins s σ H xs us Q I r h
  obtain ⟨z, rfl, hz, q⟩ := h
  obtain ⟨u, rfl, t, rfl⟩ := vals1 r
  refine call_list_str (hn := hz) (I.ok.hd hc) z t fun h' tk acc' c' kp e hi => ?_
  have hv : Vals (z.cps.toList.map fun c => V.str (S [c])) acc'.toList := by
    refine vals_of _ _ (by rw [List.length_map, Array.length_toList, Array.length_toList]; exact hi.1.symm) fun i x u hx hu => ?_
    rw [List.getElem?_map] at hx
    rw [Array.getElem?_toList] at hu
    obtain ⟨c, w, h1, rfl⟩ := hi.2 i u hu
    rw [Array.getElem?_toList, h1] at hx
    cases hx
    exact ⟨w, rfl⟩
  exact ⟨.ref s.heap.objs.size, _, I.laid (t' := tk) kp (Nat.le_refl _) (show ObjOk X.prog X.w _ h' _ (.lst (z.cps.toList.map fun c => V.str (S [c]))) from ⟨by rw [List.length_map, Array.length_toList]; exact hz, acc'.toList, c', hv, by rw [e]⟩), rfl, q _ (I.hok.fresh (Nat.le_refl _))⟩
abbrev vS (l : List Nat) : V := .str (S l)
section
variable {σ : L2.St} {H H' : Hp} {te ta tb tc tn to tl tk tv td ty tx : TE} {t : TT} {tr ts : TA} {tz tu : TS} {D : Ends} {K : PySem.W.Frag} {w : World} {x y z v : V} {g : TG} {l m : List Nat}
theorem el_split {c : Nat} (hc : c < 256) (h : Ev to σ H (vS l)) (h2 : ∀ H1, Ex H H1 → Ev te σ H1 (vS [c])) (hl : l.length ≤ 100000) : EvL (tM1 (fun x xs H Q => ∃ a b, x = .str a ∧ xs = [.str b] ∧ (b.length == 0) = false ∧ a.length + 2 ≤ sizeLine ∧ rNewStrs (Txt.split a b) H Q) to te) σ H ((splitL c l).map vS) := fun H1 e Q q =>
  h H1 e _ fun H2 e2 => ⟨⟨_, rfl⟩, h2 H2 (e.trans e2) H2 (Ex.refl H2) _ fun H3 e3 => ⟨_, _, rfl, rfl, rfl, by rw [S_len]; exact Nat.le_trans (Nat.add_le_add_right hl 2) (by decide), fun p hp => by
    have e4 : (Txt.split (S l) (S [c])).map V.str = (splitL c l).map vS := by rw [split_S hc, List.map_map]; rfl
    rw [e4]
    exact q p _ (fresh_back (e2.trans e3) hp) ((e2.trans e3).trans (Ex.new hp)) upd_same⟩⟩
def lenAll (ps : List (List Nat)) : Nat := (ps.map List.length).sum + ps.length
theorem joinL_le (c : Nat) : ∀ ps : List (List Nat), (joinL c ps).length ≤ lenAll ps
  | [] => Nat.le_refl _
  | [p] => by simp [joinL, lenAll]
  | p :: q :: r => by
    have := joinL_le c (q :: r)
    show (p ++ c :: joinL c (q :: r)).length ≤ _
    simp only [lenAll, List.map_cons, List.sum_cons, List.length_cons, List.length_append] at this ⊢
    omega
theorem sum_len (ps : List (List Nat)) : ((ps.map S).map (·.length)).sum = (ps.map List.length).sum := by
  rw [List.map_map]
  exact congrArg List.sum (List.map_congr_left fun p _ => S_len p)
/-- sep.join(a new list) -/
theorem ev_joinN {c : Nat} {ps : List (List Nat)} (h : Ev to σ H (vS [c])) (h2 : ∀ H1, Ex H H1 → EvL te σ H1 (ps.map vS)) (hl : lenAll ps ≤ 100000) : Ev (tM1 (fun x xs H Q => ∃ a p, ∃ ys : List Str, x = .str a ∧ xs = [.ref p] ∧ (SqL K H p (ys.map V.str) ∨ SqT K H p (ys.map V.str)) ∧ (ys.map (·.length)).sum + ys.length * a.length ≤ 16777216 ∧ Q (.str (Txt.join a ys)) H) to te) σ H (vS (joinL c ps)) := fun H1 e Q q =>
  h H1 e _ fun H2 e2 => ⟨⟨_, rfl⟩, h2 H2 (e.trans e2) H2 (Ex.refl H2) _ fun p H3 hp e3 h3 => ⟨_, p, ps.map S, rfl, rfl, .inl (sq_of (by rw [List.map_map]; exact h3)), by
    rw [sum_len, List.length_map, S_len]
    unfold lenAll at hl
    show _ + ps.length * 1 ≤ _
    omega, by rw [join_S]; exact q H3 (e2.trans e3)⟩⟩
theorem ev_joinV {c : Nat} {ps : List (List Nat)} {p : Addr} (h : Ev to σ H (vS [c])) (h2 : ∀ H1, Ex H H1 → Ev te σ H1 (.ref p)) (hp : SqL K H p (ps.map vS)) (hl : lenAll ps ≤ 100000) : Ev (tM1 (fun x xs H Q => ∃ a p, ∃ ys : List Str, x = .str a ∧ xs = [.ref p] ∧ (SqL K H p (ys.map V.str) ∨ SqT K H p (ys.map V.str)) ∧ (ys.map (·.length)).sum + ys.length * a.length ≤ 16777216 ∧ Q (.str (Txt.join a ys)) H) to te) σ H (vS (joinL c ps)) := fun H1 e Q q =>
  h H1 e _ fun H2 e2 => ⟨⟨_, rfl⟩, h2 H2 (e.trans e2) H2 (Ex.refl H2) _ fun H3 e3 => ⟨_, p, ps.map S, rfl, rfl, .inl (by rw [List.map_map]; exact ex_l ((e.trans e2).trans e3) hp), by
    rw [sum_len, List.length_map, S_len]
    unfold lenAll at hl
    show _ + ps.length * 1 ≤ _
    omega, by rw [join_S]; exact q H3 (e2.trans e3)⟩⟩
theorem ev_m1 {r : V → List V → Hp → VK → Prop} {a b : Str} (h : Ev to σ H (.str a)) (h2 : ∀ H1, Ex H H1 → Ev te σ H1 (.str b)) (hr : ∀ H1 Q, Q z H1 → r (.str a) [.str b] H1 Q) : Ev (tM1 r to te) σ H z := fun H1 e Q q =>
  h H1 e _ fun H2 e2 => ⟨⟨_, rfl⟩, h2 H2 (e.trans e2) H2 (Ex.refl H2) _ fun H3 e3 => hr H3 Q (q H3 (e2.trans e3))⟩
theorem ev_m0 {r : V → List V → Hp → VK → Prop} {a : Str} (h : Ev to σ H (.str a)) (hr : ∀ H1 Q, Q z H1 → r (.str a) [] H1 Q) : Ev (tM0 r to) σ H z := fun H1 e Q q =>
  h H1 e _ fun H2 e2 => ⟨⟨_, rfl⟩, hr H2 Q (q H2 e2)⟩
def rIntS : List V → Hp → VK → Prop := fun xs H Q => ∃ a n, xs = [.str a] ∧ PySem.intText? a = some n ∧ a.length ≤ 640 ∧ Q (.int n) H
theorem c_intS {X : Cx} : CallR X (.type "int") rIntS := call_int_str
theorem rc_intS {n : Int} (h : PySem.intText? (S l) = some n) (hl : l.length ≤ 640) : RC rIntS [vS l] H (.int n) := fun H1 _ _ q => ⟨_, n, rfl, h, by rw [S_len]; exact hl, q H1 (Ex.refl H1)⟩
def rStrI : List V → Hp → VK → Prop := fun xs H Q => ∃ i, xs = [.int i] ∧ i.natAbs.log2 < 1920 ∧ Q (.str (toString i)) H
theorem c_strI {X : Cx} : CallR X (.type "str") rStrI := call_str_int
theorem rc_strI {i : Int} (h : i.natAbs.log2 < 1920) : RC rStrI [.int i] H (.str (toString i)) := fun H1 _ _ q => ⟨i, rfl, h, q H1 (Ex.refl H1)⟩
theorem ev_slS {lo hi : Option Int} {t1 t2 : TO} (h : Ev te σ H (vS l)) (h1 : ∀ H1, Ex H H1 → EvO t1 σ H1 lo) (h2 : ∀ H1, Ex H H1 → EvO t2 σ H1 hi) (hl : l.length ≤ 100000) : Ev (L2.tSl rSlS te t1 t2) σ H (vS ((l.drop (HT.sIx l.length 0 lo)).take (HT.sIx l.length l.length hi - HT.sIx l.length 0 lo))) := fun H1 e Q q =>
  h H1 e _ fun H2 e2 => h1 H2 (e.trans e2) H2 (Ex.refl H2) _ fun H3 e3 => h2 H3 ((e.trans e2).trans e3) H3 (Ex.refl H3) _ fun H4 e4 => ⟨S l, rfl, by rw [S_len]; exact sz_of hl, by
    have e5 : cutS (S l) lo hi = S ((l.drop (HT.sIx l.length 0 lo)).take (HT.sIx l.length l.length hi - HT.sIx l.length 0 lo)) := by
      unfold cutS
      rw [S_len]
    rw [e5]
    exact q H4 ((e2.trans e3).trans e4)⟩
/-- [e for sign in text if t] -/
theorem el_lcS {j : Nat} {vs : List Nat} (f : Nat → Bool) (v : Nat → V) (h : Ev tl σ H (vS l)) (hz : l.length ≤ 40000) (hw : ∀ x, wipe ((wipe σ vs).set j (some x)) vs = wipe σ vs)
    (ht : ∀ (i c : Nat) H1, Ex H H1 → l[i]? = some c → EvT t ((wipe σ vs).set j (some (vS [c]))) H1 (f i)) (he : ∀ (i c : Nat) H1, Ex H H1 → l[i]? = some c → f i = true → Ev te ((wipe σ vs).set j (some (vS [c]))) H1 (v i)) :
    EvL (tLc (iStr tl) (gName j) t te vs) σ H (given l.length f v) := fun H0 e Q q => h H0 e _ fun H1 e1 => ⟨S l, rfl, fun Dl hD =>
  lc_it (n := l.length) (by have := walk_str (z := S l); simpa using this) (Cw H1 f v Dl) ⟨hD, Ex.new hD, upd_same⟩ (fun i H' _ p => trivial) (fun i x H' H'' hi p y => by
    obtain ⟨rfl, c, hc, rfl⟩ := y
    have hc' : l[i]? = some c := by simpa using hc
    exact ⟨hw _, cw_turn p (by omega) (ht i c H1 (e.trans e1) hc') (fun hf => he i c H1 (e.trans e1) hc' hf)⟩)
    (fun H' p => q Dl H' (fresh_back e1 p.1) (e1.trans p.2.1) p.2.2)⟩
theorem el_listS (h : Ev te σ H (vS l)) (hl : l.length ≤ 100000) : EvL (tCB rListStr (tCons te tNil)) σ H (l.map fun c => vS [c]) := fun H1 e Q q =>
  h H1 e _ fun H2 e2 => ⟨_, rfl, by rw [S_len]; exact sz_of hl, fun p hp => q p _ (fresh_back e2 hp) (e2.trans (Ex.new hp)) upd_same⟩
theorem ev_maxN {ns : List Int} {m : Int} (ha : EvL ta σ H (ns.map V.int)) (hm : m ∈ ns) (hl : ∀ y ∈ ns, y ≤ m) : Ev (tCB (rMax K) (tCons ta tNil)) σ H (.int m) := fun H1 e Q q =>
  ha H1 e _ fun p H2 _ e2 h2 => ⟨p, ns, rfl, sq_of h2, List.length_pos_of_mem hm, fun m' h1 h3 => by
    have e4 : m' = m := Int.le_antisymm (hl m' h1) (h3 m hm)
    rw [e4]
    exact q H2 e2⟩
theorem el_rev {xs : List V} (h : EvL te σ H xs) : EvL (tRevL K te) σ H xs.reverse := fun H1 e Q q =>
  h H1 e _ fun p H2 hp e2 h2 => ⟨p, xs, rfl, sq_of h2, fun r hr => q r _ (fresh_back e2 hr) (e2.trans (Ex.new hr)) upd_same⟩
theorem rv_cat {a b : Str} (h : (a ++ b).length ≤ sizeLine) {r : R2} (hr : ∀ H1 Q, Q (.str (a ++ b)) H1 → r (.str a) (.str b) H1 Q) : RV r (.str a) (.str b) H (.str (a ++ b)) := fun H1 _ Q q => hr H1 Q (q H1 (Ex.refl H1))
end
end Tx
set_option Elab.async false
set_option linter.all false
set_option maxRecDepth 100000
set_option maxHeartbeats 4000000
set_option exponentiation.threshold 500
namespace Kz
open PySem PySem.Spec PyProof.Rows L2 Evl Vr
def top (i : Nat) : Stmt := PySem.Challenge.pw_settledplay_k07_whole_texts_of_worlds.main.body.getD i (.Pass ⟨0, 0, 0, 0⟩)
abbrev s_wall : Stmt := top 0
theorem sc_wall : FnScope ["k"] ["k"] (defScope s_wall) := ⟨rfl, rfl, rfl, by decide +kernel, rfl, by decide +kernel, by decide +kernel⟩
abbrev s_UnknownName___init__ : Stmt := inClass (top 4) 0
theorem sc_UnknownName___init__ : FnScope ["self", "wanted"] ["self", "wanted"] (defScope s_UnknownName___init__) := ⟨rfl, rfl, rfl, by decide +kernel, rfl, by decide +kernel, by decide +kernel⟩
abbrev s_is_integer : Stmt := top 6
theorem sc_is_integer : FnScope ["value"] ["value"] (defScope s_is_integer) := ⟨rfl, rfl, rfl, by decide +kernel, rfl, by decide +kernel, by decide +kernel⟩
abbrev s_is_within : Stmt := top 7
theorem sc_is_within : FnScope ["value", "low", "high"] ["value", "low", "high"] (defScope s_is_within) := ⟨rfl, rfl, rfl, by decide +kernel, rfl, by decide +kernel, by decide +kernel⟩
abbrev s_is_whole : Stmt := top 8
theorem sc_is_whole : FnScope ["value"] ["value"] (defScope s_is_whole) := ⟨rfl, rfl, rfl, by decide +kernel, rfl, by decide +kernel, by decide +kernel⟩
abbrev s_is_name : Stmt := top 9
theorem sc_is_name : FnScope ["value"] ["value"] (defScope s_is_name) := ⟨rfl, rfl, rfl, by decide +kernel, rfl, by decide +kernel, by decide +kernel⟩
abbrev s_is_luck : Stmt := top 12
theorem sc_is_luck : FnScope ["value"] ["value"] (defScope s_is_luck) := ⟨rfl, rfl, rfl, by decide +kernel, rfl, by decide +kernel, by decide +kernel⟩
abbrev s_is_number : Stmt := top 15
theorem sc_is_number : FnScope ["value"] ["value"] (defScope s_is_number) := ⟨rfl, rfl, rfl, by decide +kernel, rfl, by decide +kernel, by decide +kernel⟩
abbrev s_World___init__ : Stmt := inClass (top 20) 0
theorem sc_World___init__ : FnScope ["self", "tick", "next_id", "luck", "things"] ["self", "tick", "next_id", "luck", "things"] (defScope s_World___init__) := ⟨rfl, rfl, rfl, by decide +kernel, rfl, by decide +kernel, by decide +kernel⟩
abbrev s_World__fill : Stmt := inClass (top 20) 1
theorem sc_World__fill : FnScope ["self", "tick", "next_id", "luck", "things", "thing"] ["self", "tick", "next_id", "luck", "things"] (defScope s_World__fill) := ⟨rfl, rfl, rfl, by decide +kernel, rfl, by decide +kernel, by decide +kernel⟩
abbrev s_World_ids : Stmt := inClass (top 20) 2
theorem sc_World_ids : FnScope ["self", "kind", "thing"] ["self", "kind"] (defScope s_World_ids) := ⟨rfl, rfl, rfl, by decide +kernel, rfl, by decide +kernel, by decide +kernel⟩
abbrev s_World_kind_of : Stmt := inClass (top 20) 3
theorem sc_World_kind_of : FnScope ["self", "thing"] ["self", "thing"] (defScope s_World_kind_of) := ⟨rfl, rfl, rfl, by decide +kernel, rfl, by decide +kernel, by decide +kernel⟩
abbrev s_World_numbers : Stmt := inClass (top 20) 4
theorem sc_World_numbers : FnScope ["self", "thing"] ["self", "thing"] (defScope s_World_numbers) := ⟨rfl, rfl, rfl, by decide +kernel, rfl, by decide +kernel, by decide +kernel⟩
abbrev s_World___contains__ : Stmt := inClass (top 20) 5
theorem sc_World___contains__ : FnScope ["self", "value"] ["self", "value"] (defScope s_World___contains__) := ⟨rfl, rfl, rfl, by decide +kernel, rfl, by decide +kernel, by decide +kernel⟩
abbrev s_World___len__ : Stmt := inClass (top 20) 6
theorem sc_World___len__ : FnScope ["self"] ["self"] (defScope s_World___len__) := ⟨rfl, rfl, rfl, by decide +kernel, rfl, by decide +kernel, by decide +kernel⟩
abbrev s_World___iter__ : Stmt := inClass (top 20) 7
theorem sc_World___iter__ : FnScope ["self"] ["self"] (defScope s_World___iter__) := ⟨rfl, rfl, rfl, by decide +kernel, rfl, by decide +kernel, by decide +kernel⟩
abbrev s_World___eq__ : Stmt := inClass (top 20) 8
theorem sc_World___eq__ : FnScope ["self", "other"] ["self", "other"] (defScope s_World___eq__) := ⟨rfl, rfl, rfl, by decide +kernel, rfl, by decide +kernel, by decide +kernel⟩
abbrev s_World___str__ : Stmt := inClass (top 20) 9
theorem sc_World___str__ : FnScope ["self"] ["self"] (defScope s_World___str__) := ⟨rfl, rfl, rfl, by decide +kernel, rfl, by decide +kernel, by decide +kernel⟩
abbrev s_properties_of : Stmt := top 21
theorem sc_properties_of : FnScope ["world"] ["world"] (defScope s_properties_of) := ⟨rfl, rfl, rfl, by decide +kernel, rfl, by decide +kernel, by decide +kernel⟩
abbrev s_world_of : Stmt := top 22
theorem sc_world_of : FnScope ["tick", "next_id", "luck", "things", "world"] ["tick", "next_id", "luck", "things"] (defScope s_world_of) := ⟨rfl, rfl, rfl, by decide +kernel, rfl, by decide +kernel, by decide +kernel⟩
abbrev s_are_things : Stmt := top 23
theorem sc_are_things : FnScope ["value", "thing"] ["value"] (defScope s_are_things) := ⟨rfl, rfl, rfl, by decide +kernel, rfl, by decide +kernel, by decide +kernel⟩
abbrev s_is_thing : Stmt := top 24
theorem sc_is_thing : FnScope ["value"] ["value"] (defScope s_is_thing) := ⟨rfl, rfl, rfl, by decide +kernel, rfl, by decide +kernel, by decide +kernel⟩
abbrev s_are_numbers : Stmt := top 25
theorem sc_are_numbers : FnScope ["value", "number"] ["value"] (defScope s_are_numbers) := ⟨rfl, rfl, rfl, by decide +kernel, rfl, by decide +kernel, by decide +kernel⟩
abbrev s_are_in_sequence : Stmt := top 26
theorem sc_are_in_sequence : FnScope ["things", "next_id", "ids", "thing", "low", "high"] ["things", "next_id"] (defScope s_are_in_sequence) := ⟨rfl, rfl, rfl, by decide +kernel, rfl, by decide +kernel, by decide +kernel⟩
abbrev s_need_world : Stmt := top 27
theorem sc_need_world : FnScope ["value"] ["value"] (defScope s_need_world) := ⟨rfl, rfl, rfl, by decide +kernel, rfl, by decide +kernel, by decide +kernel⟩
abbrev s_world_text : Stmt := top 28
theorem sc_world_text : FnScope ["world", "parts", "thing", "kind", "numbers", "number"] ["world"] (defScope s_world_text) := ⟨rfl, rfl, rfl, by decide +kernel, rfl, by decide +kernel, by decide +kernel⟩
abbrev s_read_world : Stmt := top 29
theorem sc_read_world : FnScope ["text", "parts", "head", "things", "tick", "next_id", "luck", "part", "word"] ["text"] (defScope s_read_world) := ⟨rfl, rfl, rfl, by decide +kernel, rfl, by decide +kernel, by decide +kernel⟩
abbrev s_read_thing : Stmt := top 30
theorem sc_read_thing : FnScope ["text", "words", "numbers", "word"] ["text"] (defScope s_read_thing) := ⟨rfl, rfl, rfl, by decide +kernel, rfl, by decide +kernel, by decide +kernel⟩
abbrev s_is_count : Stmt := top 31
theorem sc_is_count : FnScope ["word"] ["word"] (defScope s_is_count) := ⟨rfl, rfl, rfl, by decide +kernel, rfl, by decide +kernel, by decide +kernel⟩
abbrev s_is_signed : Stmt := top 32
theorem sc_is_signed : FnScope ["word"] ["word"] (defScope s_is_signed) := ⟨rfl, rfl, rfl, by decide +kernel, rfl, by decide +kernel, by decide +kernel⟩
abbrev s_law_dice : Stmt := top 34
theorem sc_law_dice : FnScope ["script", "spot", "cell", "left"] ["script", "spot"] (defScope s_law_dice) := ⟨rfl, rfl, rfl, by decide +kernel, rfl, by decide +kernel, by decide +kernel⟩
abbrev s_law_roll : Stmt := top 35
theorem sc_law_roll : FnScope ["dice", "total", "found", "one", "two"] ["dice", "total"] (defScope s_law_roll) := ⟨rfl, rfl, rfl, by decide +kernel, rfl, by decide +kernel, by decide +kernel⟩
abbrev s_law_pick : Stmt := top 36
theorem sc_law_pick : FnScope ["dice", "items"] ["dice", "items"] (defScope s_law_pick) := ⟨rfl, rfl, rfl, by decide +kernel, rfl, by decide +kernel, by decide +kernel⟩
abbrev s_law_near : Stmt := top 37
theorem sc_law_near : FnScope ["dice", "most"] ["dice", "most"] (defScope s_law_near) := ⟨rfl, rfl, rfl, by decide +kernel, rfl, by decide +kernel, by decide +kernel⟩
abbrev s_law_wd_plain : Stmt := top 38
theorem sc_law_wd_plain : FnScope ["world"] ["world"] (defScope s_law_wd_plain) := ⟨rfl, rfl, rfl, by decide +kernel, rfl, by decide +kernel, by decide +kernel⟩
abbrev s_law_world_drawn : Stmt := top 39
theorem sc_law_world_drawn : FnScope ["dice", "things", "ahead", "turn", "here", "numbers", "tick", "spot"] ["dice"] (defScope s_law_world_drawn) := ⟨rfl, rfl, rfl, by decide +kernel, rfl, by decide +kernel, by decide +kernel⟩
abbrev s_law_written : Stmt := top 40
theorem sc_law_written : FnScope ["plain", "found", "thing", "kind", "numbers", "number"] ["plain"] (defScope s_law_written) := ⟨rfl, rfl, rfl, by decide +kernel, rfl, by decide +kernel, by decide +kernel⟩
abbrev s_law_integer : Stmt := top 41
theorem sc_law_integer : FnScope ["part", "plain", "sign"] ["part"] (defScope s_law_integer) := ⟨rfl, rfl, rfl, by decide +kernel, rfl, by decide +kernel, by decide +kernel⟩
abbrev s_law_read_thing : Stmt := top 42
theorem sc_law_read_thing : FnScope ["part", "least", "words", "thing", "numbers", "kind", "word", "sign", "one"] ["part", "least"] (defScope s_law_read_thing) := ⟨rfl, rfl, rfl, by decide +kernel, rfl, by decide +kernel, by decide +kernel⟩
abbrev s_law_read : Stmt := top 43
theorem sc_law_read : FnScope ["text", "parts", "things", "least", "head", "part", "thing", "word"] ["text"] (defScope s_law_read) := ⟨rfl, rfl, rfl, by decide +kernel, rfl, by decide +kernel, by decide +kernel⟩
abbrev s_law_near_texts : Stmt := top 44
theorem sc_law_near_texts : FnScope ["dice", "text", "at", "parts", "sign", "found", "place", "twice", "words", "spot", "word"] ["dice", "text"] (defScope s_law_near_texts) := ⟨rfl, rfl, rfl, by decide +kernel, rfl, by decide +kernel, by decide +kernel⟩
abbrev s_law_told : Stmt := top 45
theorem sc_law_told : FnScope ["text"] ["text"] (defScope s_law_told) := ⟨rfl, rfl, rfl, by decide +kernel, rfl, by decide +kernel, by decide +kernel⟩
abbrev s_law_right : Stmt := top 46
theorem sc_law_right : FnScope ["dice", "one", "other", "first", "second", "text"] ["dice"] (defScope s_law_right) := ⟨rfl, rfl, rfl, by decide +kernel, rfl, by decide +kernel, by decide +kernel⟩
abbrev s_law : Stmt := top 47
theorem sc_law : FnScope ["script", "spot", "dice", "turn", "told", "odd", "text"] ["script"] (defScope s_law) := ⟨rfl, rfl, rfl, by decide +kernel, rfl, by decide +kernel, by decide +kernel⟩
structure Txt (K : PySem.W.Frag) (mg : Str → Option Value) (w : World) where
  C_World : Addr
  cl_World : Cls K C_World
  g_World : mg "World" = some (.ref C_World)
  n_World_tick : NoAttr K C_World "tick"
  n_World_next_id : NoAttr K C_World "next_id"
  n_World_luck : NoAttr K C_World "luck"
  n_World_things : NoAttr K C_World "things"
  n_World_order : NoAttr K C_World "order"
  n_World_table : NoAttr K C_World "table"
  a_wall : Addr
  fd_wall : FuncData
  F_wall : Fun K "_wall" "_wall" s_wall a_wall fd_wall
  g_wall : mg "_wall" = some (.ref a_wall)
  b_wall : Binds K fd_wall ["k"] []
  a_is_integer : Addr
  fd_is_integer : FuncData
  F_is_integer : Fun K "is_integer" "is_integer" s_is_integer a_is_integer fd_is_integer
  g_is_integer : mg "is_integer" = some (.ref a_is_integer)
  b_is_integer : Binds K fd_is_integer ["value"] []
  a_is_within : Addr
  fd_is_within : FuncData
  F_is_within : Fun K "is_within" "is_within" s_is_within a_is_within fd_is_within
  g_is_within : mg "is_within" = some (.ref a_is_within)
  b_is_within : Binds K fd_is_within ["value", "low", "high"] []
  a_is_whole : Addr
  fd_is_whole : FuncData
  F_is_whole : Fun K "is_whole" "is_whole" s_is_whole a_is_whole fd_is_whole
  g_is_whole : mg "is_whole" = some (.ref a_is_whole)
  b_is_whole : Binds K fd_is_whole ["value"] []
  a_is_name : Addr
  fd_is_name : FuncData
  F_is_name : Fun K "is_name" "is_name" s_is_name a_is_name fd_is_name
  g_is_name : mg "is_name" = some (.ref a_is_name)
  b_is_name : Binds K fd_is_name ["value"] []
  a_is_luck : Addr
  fd_is_luck : FuncData
  F_is_luck : Fun K "is_luck" "is_luck" s_is_luck a_is_luck fd_is_luck
  g_is_luck : mg "is_luck" = some (.ref a_is_luck)
  b_is_luck : Binds K fd_is_luck ["value"] []
  a_is_number : Addr
  fd_is_number : FuncData
  F_is_number : Fun K "is_number" "is_number" s_is_number a_is_number fd_is_number
  g_is_number : mg "is_number" = some (.ref a_is_number)
  b_is_number : Binds K fd_is_number ["value"] []
  a_World___init__ : Addr
  fd_World___init__ : FuncData
  F_World___init__ : Fun K "__init__" "World.__init__" s_World___init__ a_World___init__ fd_World___init__
  m_World___init__ : Meth K C_World "__init__" a_World___init__
  b_World___init__ : Binds K fd_World___init__ ["self", "tick", "next_id", "luck", "things"] []
  a_World__fill : Addr
  fd_World__fill : FuncData
  F_World__fill : Fun K "_fill" "World._fill" s_World__fill a_World__fill fd_World__fill
  m_World__fill : Meth K C_World "_fill" a_World__fill
  b_World__fill : Binds K fd_World__fill ["self", "tick", "next_id", "luck", "things"] []
  a_World_ids : Addr
  fd_World_ids : FuncData
  F_World_ids : Fun K "ids" "World.ids" s_World_ids a_World_ids fd_World_ids
  m_World_ids : Meth K C_World "ids" a_World_ids
  b_World_ids : Binds K fd_World_ids ["self", "kind"] []
  a_World_kind_of : Addr
  fd_World_kind_of : FuncData
  F_World_kind_of : Fun K "kind_of" "World.kind_of" s_World_kind_of a_World_kind_of fd_World_kind_of
  m_World_kind_of : Meth K C_World "kind_of" a_World_kind_of
  b_World_kind_of : Binds K fd_World_kind_of ["self", "thing"] []
  a_World_numbers : Addr
  fd_World_numbers : FuncData
  F_World_numbers : Fun K "numbers" "World.numbers" s_World_numbers a_World_numbers fd_World_numbers
  m_World_numbers : Meth K C_World "numbers" a_World_numbers
  b_World_numbers : Binds K fd_World_numbers ["self", "thing"] []
  a_World___contains__ : Addr
  fd_World___contains__ : FuncData
  F_World___contains__ : Fun K "__contains__" "World.__contains__" s_World___contains__ a_World___contains__ fd_World___contains__
  m_World___contains__ : Meth K C_World "__contains__" a_World___contains__
  b_World___contains__ : Binds K fd_World___contains__ ["self", "value"] []
  a_World___len__ : Addr
  fd_World___len__ : FuncData
  F_World___len__ : Fun K "__len__" "World.__len__" s_World___len__ a_World___len__ fd_World___len__
  m_World___len__ : Meth K C_World "__len__" a_World___len__
  b_World___len__ : Binds K fd_World___len__ ["self"] []
  a_World___iter__ : Addr
  fd_World___iter__ : FuncData
  F_World___iter__ : Fun K "__iter__" "World.__iter__" s_World___iter__ a_World___iter__ fd_World___iter__
  m_World___iter__ : Meth K C_World "__iter__" a_World___iter__
  b_World___iter__ : Binds K fd_World___iter__ ["self"] []
  a_World___eq__ : Addr
  fd_World___eq__ : FuncData
  F_World___eq__ : Fun K "__eq__" "World.__eq__" s_World___eq__ a_World___eq__ fd_World___eq__
  m_World___eq__ : Meth K C_World "__eq__" a_World___eq__
  b_World___eq__ : Binds K fd_World___eq__ ["self", "other"] []
  a_World___str__ : Addr
  fd_World___str__ : FuncData
  F_World___str__ : Fun K "__str__" "World.__str__" s_World___str__ a_World___str__ fd_World___str__
  m_World___str__ : Meth K C_World "__str__" a_World___str__
  b_World___str__ : Binds K fd_World___str__ ["self"] []
  a_properties_of : Addr
  fd_properties_of : FuncData
  F_properties_of : Fun K "properties_of" "properties_of" s_properties_of a_properties_of fd_properties_of
  g_properties_of : mg "properties_of" = some (.ref a_properties_of)
  b_properties_of : Binds K fd_properties_of ["world"] []
  a_world_of : Addr
  fd_world_of : FuncData
  F_world_of : Fun K "world_of" "world_of" s_world_of a_world_of fd_world_of
  g_world_of : mg "world_of" = some (.ref a_world_of)
  b_world_of : Binds K fd_world_of ["tick", "next_id", "luck", "things"] []
  a_are_things : Addr
  fd_are_things : FuncData
  F_are_things : Fun K "are_things" "are_things" s_are_things a_are_things fd_are_things
  g_are_things : mg "are_things" = some (.ref a_are_things)
  b_are_things : Binds K fd_are_things ["value"] []
  a_is_thing : Addr
  fd_is_thing : FuncData
  F_is_thing : Fun K "is_thing" "is_thing" s_is_thing a_is_thing fd_is_thing
  g_is_thing : mg "is_thing" = some (.ref a_is_thing)
  b_is_thing : Binds K fd_is_thing ["value"] []
  a_are_numbers : Addr
  fd_are_numbers : FuncData
  F_are_numbers : Fun K "are_numbers" "are_numbers" s_are_numbers a_are_numbers fd_are_numbers
  g_are_numbers : mg "are_numbers" = some (.ref a_are_numbers)
  b_are_numbers : Binds K fd_are_numbers ["value"] []
  a_are_in_sequence : Addr
  fd_are_in_sequence : FuncData
  F_are_in_sequence : Fun K "are_in_sequence" "are_in_sequence" s_are_in_sequence a_are_in_sequence fd_are_in_sequence
  g_are_in_sequence : mg "are_in_sequence" = some (.ref a_are_in_sequence)
  b_are_in_sequence : Binds K fd_are_in_sequence ["things", "next_id"] []
  a_need_world : Addr
  fd_need_world : FuncData
  F_need_world : Fun K "need_world" "need_world" s_need_world a_need_world fd_need_world
  g_need_world : mg "need_world" = some (.ref a_need_world)
  b_need_world : Binds K fd_need_world ["value"] []
  a_world_text : Addr
  fd_world_text : FuncData
  F_world_text : Fun K "world_text" "world_text" s_world_text a_world_text fd_world_text
  g_world_text : mg "world_text" = some (.ref a_world_text)
  b_world_text : Binds K fd_world_text ["world"] []
  a_read_world : Addr
  fd_read_world : FuncData
  F_read_world : Fun K "read_world" "read_world" s_read_world a_read_world fd_read_world
  g_read_world : mg "read_world" = some (.ref a_read_world)
  b_read_world : Binds K fd_read_world ["text"] []
  a_read_thing : Addr
  fd_read_thing : FuncData
  F_read_thing : Fun K "read_thing" "read_thing" s_read_thing a_read_thing fd_read_thing
  g_read_thing : mg "read_thing" = some (.ref a_read_thing)
  b_read_thing : Binds K fd_read_thing ["text"] []
  a_is_count : Addr
  fd_is_count : FuncData
  F_is_count : Fun K "is_count" "is_count" s_is_count a_is_count fd_is_count
  g_is_count : mg "is_count" = some (.ref a_is_count)
  b_is_count : Binds K fd_is_count ["word"] []
  a_is_signed : Addr
  fd_is_signed : FuncData
  F_is_signed : Fun K "is_signed" "is_signed" s_is_signed a_is_signed fd_is_signed
  g_is_signed : mg "is_signed" = some (.ref a_is_signed)
  b_is_signed : Binds K fd_is_signed ["word"] []
  a_law_dice : Addr
  fd_law_dice : FuncData
  F_law_dice : Fun K "_law_dice" "_law_dice" s_law_dice a_law_dice fd_law_dice
  g_law_dice : mg "_law_dice" = some (.ref a_law_dice)
  b_law_dice : Binds K fd_law_dice ["script", "spot"] []
  a_law_roll : Addr
  fd_law_roll : FuncData
  F_law_roll : Fun K "_law_roll" "_law_roll" s_law_roll a_law_roll fd_law_roll
  g_law_roll : mg "_law_roll" = some (.ref a_law_roll)
  b_law_roll : Binds K fd_law_roll ["dice", "total"] []
  a_law_pick : Addr
  fd_law_pick : FuncData
  F_law_pick : Fun K "_law_pick" "_law_pick" s_law_pick a_law_pick fd_law_pick
  g_law_pick : mg "_law_pick" = some (.ref a_law_pick)
  b_law_pick : Binds K fd_law_pick ["dice", "items"] []
  a_law_near : Addr
  fd_law_near : FuncData
  F_law_near : Fun K "_law_near" "_law_near" s_law_near a_law_near fd_law_near
  g_law_near : mg "_law_near" = some (.ref a_law_near)
  b_law_near : Binds K fd_law_near ["dice", "most"] []
  a_law_wd_plain : Addr
  fd_law_wd_plain : FuncData
  F_law_wd_plain : Fun K "_law_wd_plain" "_law_wd_plain" s_law_wd_plain a_law_wd_plain fd_law_wd_plain
  g_law_wd_plain : mg "_law_wd_plain" = some (.ref a_law_wd_plain)
  b_law_wd_plain : Binds K fd_law_wd_plain ["world"] []
  a_law_world_drawn : Addr
  fd_law_world_drawn : FuncData
  F_law_world_drawn : Fun K "_law_world_drawn" "_law_world_drawn" s_law_world_drawn a_law_world_drawn fd_law_world_drawn
  g_law_world_drawn : mg "_law_world_drawn" = some (.ref a_law_world_drawn)
  b_law_world_drawn : Binds K fd_law_world_drawn ["dice"] []
  a_law_written : Addr
  fd_law_written : FuncData
  F_law_written : Fun K "_law_written" "_law_written" s_law_written a_law_written fd_law_written
  g_law_written : mg "_law_written" = some (.ref a_law_written)
  b_law_written : Binds K fd_law_written ["plain"] []
  a_law_integer : Addr
  fd_law_integer : FuncData
  F_law_integer : Fun K "_law_integer" "_law_integer" s_law_integer a_law_integer fd_law_integer
  g_law_integer : mg "_law_integer" = some (.ref a_law_integer)
  b_law_integer : Binds K fd_law_integer ["part"] []
  a_law_read_thing : Addr
  fd_law_read_thing : FuncData
  F_law_read_thing : Fun K "_law_read_thing" "_law_read_thing" s_law_read_thing a_law_read_thing fd_law_read_thing
  g_law_read_thing : mg "_law_read_thing" = some (.ref a_law_read_thing)
  b_law_read_thing : Binds K fd_law_read_thing ["part", "least"] []
  a_law_read : Addr
  fd_law_read : FuncData
  F_law_read : Fun K "_law_read" "_law_read" s_law_read a_law_read fd_law_read
  g_law_read : mg "_law_read" = some (.ref a_law_read)
  b_law_read : Binds K fd_law_read ["text"] []
  a_law_near_texts : Addr
  fd_law_near_texts : FuncData
  F_law_near_texts : Fun K "_law_near_texts" "_law_near_texts" s_law_near_texts a_law_near_texts fd_law_near_texts
  g_law_near_texts : mg "_law_near_texts" = some (.ref a_law_near_texts)
  b_law_near_texts : Binds K fd_law_near_texts ["dice", "text"] []
  a_law_told : Addr
  fd_law_told : FuncData
  F_law_told : Fun K "_law_told" "_law_told" s_law_told a_law_told fd_law_told
  g_law_told : mg "_law_told" = some (.ref a_law_told)
  b_law_told : Binds K fd_law_told ["text"] []
  a_law_right : Addr
  fd_law_right : FuncData
  F_law_right : Fun K "_law_right" "_law_right" s_law_right a_law_right fd_law_right
  g_law_right : mg "_law_right" = some (.ref a_law_right)
  b_law_right : Binds K fd_law_right ["dice"] []
  mk_World : Mk K C_World a_World___init__
  z_abs : mg "abs" = none
  z_max : mg "max" = none
  z_min : mg "min" = none
  z_int : mg "int" = none
  z_len : mg "len" = none
  z_range : mg "range" = none
  z_isinstance : mg "isinstance" = none
  z_str : mg "str" = none
  z_bool : mg "bool" = none
  z_tuple : mg "tuple" = none
  z_list : mg "list" = none
  z_all : mg "all" = none
  z_zip : mg "zip" = none
  z_iter : mg "iter" = none
  t_MODULUS : Tok
  g_MODULUS : mg "MODULUS" = some (.int 999999937 t_MODULUS)
  t_MOST : Tok
  g_MOST : mg "MOST" = some (.int 1000000000 t_MOST)
  t_MAX_THINGS : Tok
  g_MAX_THINGS : mg "MAX_THINGS" = some (.int 12 t_MAX_THINGS)
  t_MAX_FIELDS : Tok
  g_MAX_FIELDS : mg "MAX_FIELDS" = some (.int 8 t_MAX_FIELDS)
  t_MOST_DIGITS : Tok
  g_MOST_DIGITS : mg "MOST_DIGITS" = some (.int 4000 t_MOST_DIGITS)
  ha_World : PySem.W.findIn K (.ref C_World) "__class__" = some (some (.builtin "object.__class__"))
  hn_World : PySem.W.specialIn K (.builtin "object.__class__") "__get__" = some (some (.builtin "getset_descriptor.__get__"))
  ht_World : PySem.W.takesIn K (.builtin "object.__class__") = some true
  hm_World : PySem.W.mroIn K C_World (.type "object") = some true
  hc_World : (PySem.W.clsIn K C_World).isSome = true
  hy_World : PySem.W.typeIn K (.ref C_World) = some (.type "type")
  hs_World_tuple : PySem.W.subIn K (.type "tuple") (.ref C_World) = some false
  hs_World_NoneType : PySem.W.subIn K (.type "NoneType") (.ref C_World) = some false
  hs_World_str : PySem.W.subIn K (.type "str") (.ref C_World) = some false
  ne_World : PySem.W.findIn K (.ref C_World) "__ne__" = some (some (.builtin "object.__ne__"))
  ob_World : PySem.W.subIn K (.ref C_World) (.type "object") = some true
  C_IW : Addr
  g_InvalidWorld : mg "InvalidWorld" = some (.ref C_IW)
  x_IW : PySem.W.excIn K C_IW [.type "ValueError", .type "Exception", .type "BaseException", .type "object"] "ValueError.__new__" = true
  k_IW : PySem.W.keepIn K (.ref C_IW) = true
  e_IW : PySem.W.subIn K (.ref C_IW) (.type "BaseException") = some true
  y_IW : PySem.W.typeIn K (.ref C_IW) = some (.type "type")
  c_IW : PySem.W.isClsIn K C_IW = true
  s_IW : PySem.W.subIn K (.ref C_IW) (.ref C_IW) = some true
end Kz
set_option Elab.async false
set_option linter.all false
set_option maxRecDepth 100000
set_option maxHeartbeats 4000000
set_option exponentiation.threshold 500
namespace Kz
open PySem PySem.Spec PyProof.Rows L2 Evl Vr
local macro_rules | `(tactic| walk_at "sc") => `(tactic| first | (with_reducible assumption) | (with_reducible exact sc_mul (by omega)) | (with_reducible exact sc_mulr (by omega)) | (with_reducible exact sc_div (by omega) (by decide)) | (show (0 : Int) < _; omega) | (show _ ≠ (0 : Int); omega) | (with_reducible rfl) | decide)
local macro_rules | `(tactic| walk_at "sq") => `(tactic| first | assumption | exact sq_of (by assumption) | exact st_of (by assumption))
local macro_rules | `(tactic| walk_at "pl") => `(tactic| first | assumption | exact pl_int | exact pl_bl | exact pl_str | exact pl_non | exact pl_lst (by assumption) | exact pl_tup (by assumption) | exact pl_dK (by assumption))
local macro_rules | `(tactic| walk_at "rv") => `(tactic| first
  | with_reducible exact rv_I0
  | with_reducible exact ru_neg
  | ((with_reducible apply rv_I); walk_at "sc")
  | ((with_reducible apply rv_ixL); walk_at "sq"; first | rfl | assumption)
  | ((with_reducible apply rv_ixT); walk_at "sq"; first | rfl | assumption)
  | ((with_reducible apply rv_eq); rfl) | ((with_reducible apply rv_ne); rfl))
local macro_rules | `(tactic| walk_at "rc") => `(tactic| first
  | with_reducible exact rc_I1 | with_reducible exact rc_B1 | with_reducible exact rc_I2 | ((with_reducible apply rc_repr); walk_at "sc") | ((with_reducible apply rc_lenL); walk_at "sq")
  | ((with_reducible apply rc_isiInt); walk_at "pl") | ((with_reducible apply rc_isiBool); walk_at "pl"))
local macro_rules | `(tactic| walk_at "ea") => `(tactic| first
  | with_reducible exact ea_nil | ((with_reducible apply ea_cons); walk_at "ev"; walk_at "ea"))
local macro_rules | `(tactic| walk_at "pow") => `(tactic| first
  | with_reducible exact ev_pow (a := 10) (b := 9) (c := 1000000000) (by decide +kernel) (by decide +kernel)
  | with_reducible exact ev_pow (a := 10) (b := 10) (c := 10000000000) (by decide +kernel) (by decide +kernel)
  | with_reducible exact ev_pow (a := 10) (b := 12) (c := 1000000000000) (by decide +kernel) (by decide +kernel)
  | with_reducible exact ev_pow (a := 10) (b := 17) (c := 100000000000000000) (by decide +kernel) (by decide +kernel)
  | with_reducible exact ev_pow (a := 10) (b := 20) (c := 100000000000000000000) (by decide +kernel) (by decide +kernel)
  | with_reducible exact ev_pow (a := 10) (b := 29) (c := 100000000000000000000000000000) (by decide +kernel) (by decide +kernel)
  | with_reducible exact ev_pow (a := 10) (b := 30) (c := 1000000000000000000000000000000) (by decide +kernel) (by decide +kernel)
  | with_reducible exact ev_pow (a := 10) (b := 40) (c := 10000000000000000000000000000000000000000) (by decide +kernel) (by decide +kernel)
  | with_reducible exact ev_pow (a := 10) (b := 57) (c := 1000000000000000000000000000000000000000000000000000000000) (by decide +kernel) (by decide +kernel)
  | with_reducible exact ev_pow (a := 10) (b := 58) (c := 10000000000000000000000000000000000000000000000000000000000) (by decide +kernel) (by decide +kernel)
  | with_reducible exact ev_pow (a := 10) (b := 59) (c := 100000000000000000000000000000000000000000000000000000000000) (by decide +kernel) (by decide +kernel)
  | with_reducible exact ev_pow (a := 10) (b := 60) (c := 1000000000000000000000000000000000000000000000000000000000000) (by decide +kernel) (by decide +kernel))
local macro_rules | `(tactic| walk_at "call") => `(tactic| (intro H9 e9; first | exact ⟨_, rfl, rfl⟩ | exact ⟨_, _, rfl, rfl⟩ | exact ⟨_, _, _, rfl, rfl⟩ | exact ⟨_, rfl, by walk_at "pl", rfl⟩ | (refine ⟨_, _, _, rfl, ?_, rfl⟩; first | exact Plain.ex e9 (by assumption) | walk_at "pl") | (refine ⟨_, rfl, ?_, rfl⟩; first | exact Plain.ex e9 (by assumption) | walk_at "pl")))
local macro_rules | `(tactic| walk_at "ev") => `(tactic| first
  | with_reducible exact ev_c
  | exact ev_var rfl
  | walk_at "pow"
  | ((with_reducible apply ev_op); walk_at "ev"; walk_at "ev"; walk_at "rv")
  | ((with_reducible apply ev_un); walk_at "ev"; walk_at "rv")
  | ((with_reducible apply ev_cb); walk_at "ea"; walk_at "rc")
  | ((with_reducible apply ev_callP); walk_at "ea"; walk_at "call")
  | ((with_reducible apply ev_chain); walk_at "ev"; walk_at "ev"; walk_at "rv"; walk_at "ev"; walk_at "rv")
  | ((with_reducible apply ev_andV); walk_at "ev"; intro _; walk_at "ev")
  | ((with_reducible apply ev_orV); walk_at "ev"; intro _; walk_at "ev")
  | ((with_reducible apply ev_ite); walk_at "et"; intro _; walk_at "ev"; intro _; walk_at "ev")
  | ((with_reducible apply ev_notV); walk_at "ev"))
local macro_rules | `(tactic| walk_at "et") => `(tactic| first
  | ((with_reducible apply et_test); walk_at "ev")
  | ((with_reducible apply et_B); walk_at "ev")
  | ((with_reducible apply et_and); walk_at "et"; intro _; walk_at "et")
  | ((with_reducible apply et_or); walk_at "et"; intro _; walk_at "et")
  | ((with_reducible apply et_not); walk_at "et"))
section
variable {P : Program} {w : World} {K : PySem.W.Frag} {mg : Str → Option Value} {base : Heap}
def kIsInteger (K : PySem.W.Frag) (vs : List V) (H : Hp) (z : V) : Prop := ∃ x, vs = [x] ∧ Plain K H x ∧ z = .bl (isIntV x)
theorem ok_is_integer (T : Txt K mg w) : FnOk P w K mg base CX0 1 T.a_is_integer T.fd_is_integer ["value"] (Pure (kIsInteger K)) := by
  refine T.F_is_integer.ok sc_is_integer (fun vs H Q E h => ?_) (fun cdv A outer s H vs Q E hr h => ?_)
  · obtain ⟨_, ⟨a, rfl, _⟩, _⟩ := h; rfl
  · obtain ⟨_, ⟨x, rfl, hp, rfl⟩, q⟩ := h
    refine ⟨_, (pss_one (ps_ret (pe_and (pe_callB call_isi (by rfl) T.z_isinstance (by decide +kernel) (pa_cons (pv 0) (pa_cons (pe_bltn (v := .ty "int") (by rfl) T.z_int (by decide +kernel) rfl) pa_nil))) (pe_and (pe_not (pe_callB call_isi (by rfl) T.z_isinstance (by decide +kernel) (pa_cons (pv 0) (pa_cons (pe_bltn (v := .ty "bool") (by rfl) T.z_bool (by decide +kernel) rfl) pa_nil)))) (pe_one (pe_chain op_lt op_lt (pe_un un_neg (pe_op op_pow pe_int pe_int)) (pv 0) (pe_op op_pow pe_int pe_int))))))), ?_⟩
    refine s_ret (v := .bl (isIntV x)) ?_ q
    cases x with
    | int i =>
      apply ev_is
      walk_at "ev"
      show V.bl (true && (!false && (decide (-1000000000000000000000000000000000000000000000000000000000000 < i) && decide (i < 1000000000000000000000000000000000000000000000000000000000000)))) = _
      rfl
    | bl b =>
      refine ev_andV (a := true) (b := false) (by apply ev_is; walk_at "ev"; rfl) fun _ => ?_
      exact ev_andV (a := false) (b := false) (by apply ev_is; walk_at "ev"; rfl) (fun h => by cases h)
    | non => exact ev_andV (a := false) (b := false) (by apply ev_is; walk_at "ev"; rfl) (fun h => by cases h)
    | str _ => exact ev_andV (a := false) (b := false) (by apply ev_is; walk_at "ev"; rfl) (fun h => by cases h)
    | byt _ => exact ev_andV (a := false) (b := false) (by apply ev_is; walk_at "ev"; rfl) (fun h => by cases h)
    | flt _ => exact ev_andV (a := false) (b := false) (by apply ev_is; walk_at "ev"; rfl) (fun h => by cases h)
    | ref _ => exact ev_andV (a := false) (b := false) (by apply ev_is; walk_at "ev"; rfl) (fun h => by cases h)
    | ty _ => exact ev_andV (a := false) (b := false) (by apply ev_is; walk_at "ev"; rfl) (fun h => by cases h)
def kIsWithin (K : PySem.W.Frag) (vs : List V) (H : Hp) (z : V) : Prop := ∃ x lo hi, vs = [x, .int lo, .int hi] ∧ Plain K H x ∧ z = .bl (isWithin lo hi x)
theorem ok_is_within (T : Txt K mg w) : FnOk P w K mg base CX0 2 T.a_is_within T.fd_is_within ["value", "low", "high"] (Pure (kIsWithin K)) := by
  have G_is_integer := ok_is_integer (P := P) (w := w) (base := base) T
  refine T.F_is_within.ok sc_is_within (fun vs H Q E h => ?_) (fun cdv A outer s H vs Q E hr h => ?_)
  · obtain ⟨_, ⟨a, _, _, rfl, _⟩, _⟩ := h; rfl
  · obtain ⟨_, ⟨x, lo, hi, rfl, hp, rfl⟩, q⟩ := h
    refine ⟨_, (pss_one (ps_ret (pe_and (pe_call G_is_integer (hr.mono (by decide)) (by rfl) T.g_is_integer T.F_is_integer.kp T.b_is_integer .nil pass0 (pa_cons (pv 0) pa_nil)) (pe_one (pe_chain op_le op_le (pv 1) (pv 0) (pv 2)))))), ?_⟩
    refine s_ret (v := .bl (isWithin lo hi x)) ?_ q
    cases x with
    | int i => apply ev_is; walk_at "ev"; rfl
    | bl b => exact ev_andV (a := false) (b := false) (by apply ev_is; walk_at "ev"; rfl) (fun h => by cases h)
    | non => exact ev_andV (a := false) (b := false) (by apply ev_is; walk_at "ev"; rfl) (fun h => by cases h)
    | str _ => exact ev_andV (a := false) (b := false) (by apply ev_is; walk_at "ev"; rfl) (fun h => by cases h)
    | byt _ => exact ev_andV (a := false) (b := false) (by apply ev_is; walk_at "ev"; rfl) (fun h => by cases h)
    | flt _ => exact ev_andV (a := false) (b := false) (by apply ev_is; walk_at "ev"; rfl) (fun h => by cases h)
    | ref _ => exact ev_andV (a := false) (b := false) (by apply ev_is; walk_at "ev"; rfl) (fun h => by cases h)
    | ty _ => exact ev_andV (a := false) (b := false) (by apply ev_is; walk_at "ev"; rfl) (fun h => by cases h)
def kRoll (vs : List V) (_ : Hp) (p : Addr) (R : V → Prop) : Prop := ∃ t : Int, vs = [.ref p, .int t] ∧ 0 < t ∧ t.natAbs < 2 ^ 400 ∧ R = fun v => ∃ r : Int, v = .int r ∧ 0 ≤ r ∧ r < t
theorem ok_roll (T : Txt K mg w) : FnOk P w K mg base CX0 1 T.a_law_roll T.fd_law_roll ["dice", "total"] (Draws kRoll) := by
  refine T.F_law_roll.ok sc_law_roll (fun vs H Q E h => ?_) (fun cdv A outer s H vs Q E hr h => ?_)
  · obtain ⟨p, _, ⟨t, rfl, _⟩, _⟩ := h; rfl
  · obtain ⟨p, _, ⟨t, rfl, h0, h1, rfl⟩, ⟨a, b, c, hp⟩, q0⟩ := h
    have q : ∀ (r : Int) H', 0 ≤ r → r < t → Exd p H H' → Dice p H' → Q (.int r) H' := fun r H' a b => q0 _ H' ⟨r, rfl, a, b⟩
    refine ⟨_, (pss_cons (ps_if (pt_cmpR op_gt (pe_ix ix_list (pv 0) pe_int (fun _ _ => rfl)) pe_int (nomark _)) (pss_cons (ps_set (i := 2) sc_law_roll.nd rfl (.inl rfl) (pe_op op_mod (pe_callTy c_int (by rfl) T.z_int (by decide +kernel) (pa_cons (pe_ix ix_list (pv 0) pe_int (fun _ _ => rfl)) pa_nil)) (pv 1)))
  (pss_cons (ps_asg (pe_op op_fdivW (pe_ix ix_list (pv 0) pe_int (fun _ _ => rfl)) (pv 1)) (pg_sub (pv 0) pe_int set_list))
  (pss_one (ps_ret (pv 2))))) pss_nil)
  (pss_cons (ps_asg (pe_op op_add (pe_ix ix_list (pv 0) pe_int (fun _ _ => rfl)) pe_int) (pg_sub (pv 0) pe_int set_list))
  (pss_cons (ps_set (i := 3) sc_law_roll.nd rfl (.inl rfl) (pe_op op_mod (pe_callTy c_int (by rfl) T.z_int (by decide +kernel) (pa_cons (pe_op op_add (pe_ix ix_list (pv 0) pe_int (fun _ _ => rfl)) (pe_op op_mul pe_int (pe_ix ix_list (pv 0) pe_int (fun _ _ => rfl)))) pa_nil)) pe_int))
  (pss_cons (ps_set (i := 4) sc_law_roll.nd rfl (.inl rfl) (pe_op op_add (pe_op op_mul (pe_op op_mod (pe_callTy c_int (by rfl) T.z_int (by decide +kernel) (pa_cons (pe_op op_add (pe_op op_mul (pv 3) (pv 3)) (pe_op op_mul pe_int (pe_ix ix_list (pv 0) pe_int (fun _ _ => rfl)))) pa_nil)) pe_int) pe_int) (pv 3)))
  (pss_one (ps_ret (pe_op op_mod (pe_callTy c_int (by rfl) T.z_int (by decide +kernel) (pa_cons (pe_op op_fdivW (pv 4) pe_int) pa_nil)) (pv 1)))))))), ?_⟩
    have cd : CDivW a t := wide_div h0 h1 (by decide) (by decide)
    apply q_when
    case h => walk_at "et"
    · intro hb H1 e1
      have hp := e1 _ _ hp
      apply q_asg
      case h => walk_at "ev"
      intro H2 e2
      have hp := e2 _ _ hp
      refine q_setL (j := 0) hp (v := .int (a / t)) (by walk_at "ev") (ev_var rfl) ev_c (by show 0 < 3; decide) fun H3 e3 => ?_
      refine ⟨_, rfl, q _ _ (Int.emod_nonneg _ (by omega)) (Int.emod_lt_of_pos _ h0) ?_ ⟨_, _, _, upd_same⟩⟩
      exact (Exd.of (e1.trans (e2.trans e3))).trans Exd.upd
    · intro hb H1 e1
      have hp := e1 _ _ hp
      refine q_setL (j := 2) hp (v := .int (c + 1)) (by walk_at "ev") (ev_var rfl) ev_c (by show 2 < 3; decide) fun H3 e3 => ?_
      have hq : (upd H3 p (.lst ([.int a, .int b, .int c].set 2 (.int (c + 1))))) p = some (.lst [.int a, .int b, .int (c + 1)]) := upd_same
      have ex := (Exd.of (e1.trans e3)).trans (Exd.upd (p := p) (o := .lst ([.int a, .int b, .int c].set 2 (.int (c + 1)))))
      generalize upd H3 p (.lst ([.int a, .int b, .int c].set 2 (.int (c + 1)))) = H4 at hq ex
      apply q_asg
      case h => walk_at "ev"
      intro H5 e5
      have hq := e5 _ _ hq
      generalize ho : (b + 67867979 * (c + 1)) % 2305843009213693723 = one
      have ho1 : 0 ≤ one := by rw [← ho]; exact Int.emod_nonneg _ (by omega)
      have ho2 : one < 2305843009213693723 := by rw [← ho]; exact Int.emod_lt_of_pos _ (by omega)
      have cm : CMul one one := .inl (by constructor <;> omega)
      apply q_asg
      case h => walk_at "ev"
      intro H6 e6
      have hq := e6 _ _ hq
      apply s_ret
      case h => walk_at "ev"
      intro H7 e7
      exact q _ _ (Int.emod_nonneg _ (by omega)) (Int.emod_lt_of_pos _ h0) (ex.trans (Exd.of (e5.trans (e6.trans e7)))) ⟨_, _, _, e7 _ _ hq⟩
def spDice (K : PySem.W.Frag) : Sp := fun vs H Q _ => ∃ (a : Addr) (ns : List Int) (sp : Nat), vs = [.ref a, .int sp] ∧ SqL K H a (ns.map V.int) ∧ ∀ p H', H p = none → Ex H H' → Dice p H' → Q (.ref p) H'
theorem ok_dice (T : Txt K mg w) : FnOk P w K mg base CX0 1 T.a_law_dice T.fd_law_dice ["script", "spot"] (spDice K) := by
  refine T.F_law_dice.ok sc_law_dice (fun vs H Q E h => ?_) (fun cdv A outer s H vs Q E hr h => ?_)
  · obtain ⟨_, _, _, rfl, _⟩ := h; rfl
  · obtain ⟨a, ns, sp, rfl, hS, q⟩ := h
    refine ⟨_, (pss_cons (ps_set (i := 2) sc_law_dice.nd rfl (.inl rfl) (pe_ifExp (pt_cmpR op_lt (pv 1) (pe_callB c_len (by rfl) T.z_len PySem.boot_len (pa_cons (pv 0) pa_nil)) (nomark _)) (pe_callTy c_int (by rfl) T.z_int (by decide +kernel) (pa_cons (pe_ix ix_list (pv 0) (pv 1) (fun _ _ => rfl)) pa_nil)) (pe_op op_add (pe_op op_mul pe_int (pv 1)) pe_int)))
  (pss_cons (ps_set (i := 3) sc_law_dice.nd rfl (.inl rfl) (pe_op op_mod (pe_callB (c_max rfl) (by rfl) T.z_max (by decide +kernel) (pa_cons pe_int (pa_cons (pe_op op_sub (pe_callB c_abs (by rfl) T.z_abs (by decide +kernel) (pa_cons (pv 2) pa_nil)) (pe_op op_pow pe_int pe_int)) pa_nil))) (pe_op op_mulW (pe_op op_pow pe_int pe_int) (pe_op op_pow pe_int pe_int))))
  (pss_one (ps_ret (pe_lst (pa_cons (pv 3) (pa_cons (pe_op op_add (pe_op op_add (pe_op op_add (pe_op op_mul (pe_op op_mod (pe_callB c_abs (by rfl) T.z_abs (by decide +kernel) (pa_cons (pv 2) pa_nil)) pe_int) pe_int) (pe_op op_mul pe_int (pv 1))) (pe_op op_mul pe_int (pe_callTy c_intB (by rfl) T.z_int (by decide +kernel) (pa_cons (pe_cmpR op_lt (pv 2) pe_int (nomark _)) pa_nil)))) pe_int) (pa_cons pe_int pa_nil)))))))), ?_⟩
    refine q_asgI ?_ fun cell H1 e1 => ?_
    · by_cases hs : sp < ns.length
      · have hx : (ns.map V.int)[sp]? = some (.int ns[sp]) := by rw [List.getElem?_map, List.getElem?_eq_getElem hs]; rfl
        have hi : atI (ns.map V.int) (sp : Int) = some (.int ns[sp]) := atI_nat hx
        refine ⟨ns[sp], ev_if (b := true) ?_ (fun _ => by walk_at "ev") (fun h => by cases h)⟩
        apply et_is
        walk_at "et"
        rw [List.length_map]
        exact decide_eq_true (by omega)
      · refine ⟨_, ev_if (b := false) ?_ (fun h => by cases h) (fun _ => by walk_at "ev")⟩
        apply et_is
        walk_at "et"
        rw [List.length_map]
        exact decide_eq_false (by omega)
    refine q_asgI ⟨_, ev_op (y := .int 1000000000000000000000000000000000000000000000000000000000000000000000000000000000000000000000000000000000000000000000) (by walk_at "ev") (ev_is (ev_op (by walk_at "pow") (by walk_at "pow") (rv_I (by unfold CMulW; decide +kernel))) (by decide +kernel)) (rv_I (by decide))⟩ fun left H2 e2 => ?_
    have hm : ∀ n : Int, CMul (n % 1152921504606846817) 83 := fun n => .inr (by omega)
    have hm2 := hm (if cell < 0 then -cell else cell)
    refine s_retL (el_lst (by walk_at "ea") (by show 3 ≤ 100000; decide)) fun p H3 hp e3 h3 => ?_
    exact q p H3 (fresh_back (e1.trans e2) hp) ((e1.trans e2).trans e3) ⟨_, _, _, h3⟩
def kPick (K : PySem.W.Frag) (vs : List V) (H : Hp) (p : Addr) (R : V → Prop) : Prop := ∃ (a : Addr) (xs : List V), vs = [.ref p, .ref a] ∧ a ≠ p ∧ SqL K H a xs ∧ 0 < xs.length ∧ xs.length < 1000000 ∧ R = fun v => v ∈ xs
theorem ok_pick (T : Txt K mg w) : FnOk P w K mg base CX0 2 T.a_law_pick T.fd_law_pick ["dice", "items"] (Draws (kPick K)) := by
  have G_law_roll := ok_roll (P := P) (w := w) (base := base) T
  refine T.F_law_pick.ok sc_law_pick (fun vs H Q E h => ?_) (fun cdv A outer s H vs Q E hr h => ?_)
  · obtain ⟨p, _, ⟨_, _, rfl, _⟩, _⟩ := h; rfl
  · obtain ⟨p, _, ⟨a, xs, rfl, hne, hS, hl, hl2, rfl⟩, hd, q⟩ := h
    refine ⟨_, (pss_one (ps_ret (pe_ix ix_list (pv 1) (pe_call G_law_roll (hr.mono (by decide)) (by rfl) T.g_law_roll T.F_law_roll.kp T.b_law_roll .nil pass0 (pa_cons (pv 0) (pa_cons (pe_callB c_len (by rfl) T.z_len PySem.boot_len (pa_cons (pv 1) pa_nil)) pa_nil))) (fun _ _ => rfl)))), ?_⟩
    refine ⟨.ref a, rfl, ?_⟩
    refine goA (vs := [.ref p, .int xs.length]) (by walk_at "ea") fun H1 e1 => ?_
    refine ⟨p, _, ⟨(xs.length : Int), rfl, by omega, by rw [Int.natAbs_natCast]; exact Nat.lt_trans hl2 (by decide), rfl⟩, hd.ex e1, ?_⟩
    rintro v H2 ⟨r, rfl, hr0, hr1⟩ e2 d2
    obtain ⟨n, rfl⟩ := Int.eq_ofNat_of_zero_le hr0
    have hn : n < xs.length := by omega
    refine ⟨a, xs, n, xs[n], rfl, rfl, e2.l hne (ex_l e1 hS), atI_nat (List.getElem?_eq_getElem hn), ?_⟩
    exact q _ H2 (List.getElem_mem hn) ((Exd.of e1).trans e2) d2
end
end Kz
set_option Elab.async false
set_option linter.all false
set_option maxRecDepth 100000
set_option maxHeartbeats 4000000
set_option exponentiation.threshold 500
namespace Kz
open PySem PySem.Spec PyProof.Rows L2 Evl Vr
local macro_rules | `(tactic| walk_at "sc") => `(tactic| first | (with_reducible assumption) | (with_reducible exact sc_mul (by omega)) | (with_reducible exact sc_mulr (by omega)) | (with_reducible exact sc_div (by omega) (by decide)) | (show (0 : Int) < _; omega) | (show _ ≠ (0 : Int); omega) | (with_reducible rfl) | decide)
local macro_rules | `(tactic| walk_at "sq") => `(tactic| first | assumption | exact sq_of (by assumption) | exact st_of (by assumption))
local macro_rules | `(tactic| walk_at "pl") => `(tactic| first | assumption | exact pl_int | exact pl_bl | exact pl_str | exact pl_non | exact pl_lst (by assumption) | exact pl_tup (by assumption) | exact pl_dK (by assumption))
local macro_rules | `(tactic| walk_at "rv") => `(tactic| first
  | with_reducible exact rv_I0
  | with_reducible exact ru_neg
  | ((with_reducible apply rv_I); walk_at "sc")
  | ((with_reducible apply rv_ixL); walk_at "sq"; first | rfl | assumption)
  | ((with_reducible apply rv_ixT); walk_at "sq"; first | rfl | assumption)
  | ((with_reducible apply rv_eq); rfl) | ((with_reducible apply rv_ne); rfl))
local macro_rules | `(tactic| walk_at "rc") => `(tactic| first
  | with_reducible exact rc_I1 | with_reducible exact rc_B1 | with_reducible exact rc_I2 | ((with_reducible apply rc_repr); walk_at "sc") | ((with_reducible apply rc_lenL); walk_at "sq")
  | ((with_reducible apply rc_isiInt); walk_at "pl") | ((with_reducible apply rc_isiBool); walk_at "pl"))
local macro_rules | `(tactic| walk_at "ea") => `(tactic| first
  | with_reducible exact ea_nil | ((with_reducible apply ea_cons); walk_at "ev"; walk_at "ea"))
local macro_rules | `(tactic| walk_at "pow") => `(tactic| first
  | with_reducible exact ev_pow (a := 10) (b := 9) (c := 1000000000) (by decide +kernel) (by decide +kernel)
  | with_reducible exact ev_pow (a := 10) (b := 10) (c := 10000000000) (by decide +kernel) (by decide +kernel)
  | with_reducible exact ev_pow (a := 10) (b := 12) (c := 1000000000000) (by decide +kernel) (by decide +kernel)
  | with_reducible exact ev_pow (a := 10) (b := 17) (c := 100000000000000000) (by decide +kernel) (by decide +kernel)
  | with_reducible exact ev_pow (a := 10) (b := 20) (c := 100000000000000000000) (by decide +kernel) (by decide +kernel)
  | with_reducible exact ev_pow (a := 10) (b := 29) (c := 100000000000000000000000000000) (by decide +kernel) (by decide +kernel)
  | with_reducible exact ev_pow (a := 10) (b := 30) (c := 1000000000000000000000000000000) (by decide +kernel) (by decide +kernel)
  | with_reducible exact ev_pow (a := 10) (b := 40) (c := 10000000000000000000000000000000000000000) (by decide +kernel) (by decide +kernel)
  | with_reducible exact ev_pow (a := 10) (b := 57) (c := 1000000000000000000000000000000000000000000000000000000000) (by decide +kernel) (by decide +kernel)
  | with_reducible exact ev_pow (a := 10) (b := 58) (c := 10000000000000000000000000000000000000000000000000000000000) (by decide +kernel) (by decide +kernel)
  | with_reducible exact ev_pow (a := 10) (b := 59) (c := 100000000000000000000000000000000000000000000000000000000000) (by decide +kernel) (by decide +kernel)
  | with_reducible exact ev_pow (a := 10) (b := 60) (c := 1000000000000000000000000000000000000000000000000000000000000) (by decide +kernel) (by decide +kernel))
local macro_rules | `(tactic| walk_at "call") => `(tactic| (intro H9 e9; first | exact ⟨_, rfl, rfl⟩ | exact ⟨_, _, rfl, rfl⟩ | exact ⟨_, _, _, rfl, rfl⟩ | exact ⟨_, rfl, by walk_at "pl", rfl⟩ | (refine ⟨_, _, _, rfl, ?_, rfl⟩; first | exact Plain.ex e9 (by assumption) | walk_at "pl") | (refine ⟨_, rfl, ?_, rfl⟩; first | exact Plain.ex e9 (by assumption) | walk_at "pl")))
local macro_rules | `(tactic| walk_at "ev") => `(tactic| first
  | with_reducible exact ev_c
  | exact ev_var rfl
  | walk_at "pow"
  | ((with_reducible apply ev_op); walk_at "ev"; walk_at "ev"; walk_at "rv")
  | ((with_reducible apply ev_un); walk_at "ev"; walk_at "rv")
  | ((with_reducible apply ev_cb); walk_at "ea"; walk_at "rc")
  | ((with_reducible apply ev_callP); walk_at "ea"; walk_at "call")
  | ((with_reducible apply ev_chain); walk_at "ev"; walk_at "ev"; walk_at "rv"; walk_at "ev"; walk_at "rv")
  | ((with_reducible apply ev_andV); walk_at "ev"; intro _; walk_at "ev")
  | ((with_reducible apply ev_orV); walk_at "ev"; intro _; walk_at "ev")
  | ((with_reducible apply ev_ite); walk_at "et"; intro _; walk_at "ev"; intro _; walk_at "ev")
  | ((with_reducible apply ev_notV); walk_at "ev"))
local macro_rules | `(tactic| walk_at "et") => `(tactic| first
  | ((with_reducible apply et_test); walk_at "ev")
  | ((with_reducible apply et_B); walk_at "ev")
  | ((with_reducible apply et_and); walk_at "et"; intro _; walk_at "et")
  | ((with_reducible apply et_or); walk_at "et"; intro _; walk_at "et")
  | ((with_reducible apply et_not); walk_at "et"))
open En Wo
def num (n : Int) : Prop := -1000000000 ≤ n ∧ n ≤ 1000000000
def whole (n : Int) : Prop := 0 ≤ n ∧ n < 1000000000000000000000000000000000000000000000000000000000000
def nameOk (z : Str) : Prop := 1 ≤ z.length ∧ z.length ≤ 8 ∧ Txt.isascii z = true ∧ Txt.isalpha z = true ∧ Txt.islower z = true
/-- a thing -/
structure Tg where
  id : Int
  kd : Str
  ns : List Int
  deriving DecidableEq
def Tg.ok (t : Tg) : Prop := whole t.id ∧ nameOk t.kd ∧ 1 ≤ t.ns.length ∧ t.ns.length ≤ 8 ∧ ∀ n ∈ t.ns, num n
def NsAt (K : PySem.W.Frag) (H : Hp) (r : Addr) (ns : List Int) : Prop := SqT K H r (ns.map V.int)
def TgAt (K : PySem.W.Frag) (H : Hp) (r : Addr) (t : Tg) : Prop := ∃ rn, SqT K H r [.int t.id, .str t.kd, .ref rn] ∧ NsAt K H rn t.ns
/-- the tuples rs of the things ts -/
def RsAt (K : PySem.W.Frag) (H : Hp) (rs : List Addr) (ts : List Tg) : Prop := rs.length = ts.length ∧ ∀ (i : Nat) (r : Addr) (t : Tg), rs[i]? = some r → ts[i]? = some t → TgAt K H r t
def TsAt (K : PySem.W.Frag) (H : Hp) (a : Addr) (ts : List Tg) : Prop := ∃ rs, SqT K H a (rs.map V.ref) ∧ RsAt K H rs ts
def TsOk (ts : List Tg) : Prop := ts.length ≤ 12 ∧ ∀ t ∈ ts, t.ok
theorem TgAt.ex {K : PySem.W.Frag} {H H' : Hp} {r : Addr} {t : Tg} (e : Ex H H') (h : TgAt K H r t) : TgAt K H' r t := by
  obtain ⟨rn, h1, h2⟩ := h
  exact ⟨rn, ex_t e h1, ex_t e h2⟩
theorem RsAt.ex {K : PySem.W.Frag} {H H' : Hp} {rs : List Addr} {ts : List Tg} (e : Ex H H') (h : RsAt K H rs ts) : RsAt K H' rs ts := ⟨h.1, fun i r t a b => (h.2 i r t a b).ex e⟩
theorem TsAt.ex {K : PySem.W.Frag} {H H' : Hp} {a : Addr} {ts : List Tg} (e : Ex H H') (h : TsAt K H a ts) : TsAt K H' a ts := by
  obtain ⟨rs, h1, h2⟩ := h
  exact ⟨rs, ex_t e h1, h2.ex e⟩
/-- the i-th of the tuples -/
theorem RsAt.at {K : PySem.W.Frag} {H : Hp} {rs : List Addr} {ts : List Tg} (h : RsAt K H rs ts) {i : Nat} {x : V} (hx : (rs.map V.ref)[i]? = some x) : ∃ r t, x = .ref r ∧ rs[i]? = some r ∧ ts[i]? = some t ∧ TgAt K H r t := by
  rw [List.getElem?_map] at hx
  cases h1 : rs[i]? with
  | none => rw [h1] at hx; cases hx
  | some r =>
    rw [h1] at hx
    have hi : i < ts.length := by have := (List.getElem?_eq_some_iff.mp h1).1; have := h.1; omega
    exact ⟨r, ts[i], (Option.some.inj hx).symm, rfl, List.getElem?_eq_getElem hi, h.2 i r _ h1 (List.getElem?_eq_getElem hi)⟩
/-- ids that ascend, all of them below the next one -/
def asc : List Int → Int → Prop
  | [], _ => True
  | [i], n => i < n
  | i :: j :: r, n => i < j ∧ asc (j :: r) n
theorem whole_is {n : Int} (h : whole n) : isIntV (.int n) = true := by
  obtain ⟨h0, h1⟩ := h
  unfold isIntV
  simp only [Bool.and_eq_true, decide_eq_true_eq]
  omega
section
variable {H : Hp} {K : PySem.W.Frag} {z : Str}
theorem isi_str : RC (rIsi K) [.str z, .ty "str"] H (.bl true) := fun H1 e Q q => ⟨.str z, .ty "str", .type "str", .type "str", true, rfl, .ty _, .base (.str z), kit_ty (r := true) (by decide +kernel), q H1 (Ex.refl H1)⟩
end
section
variable {P : Program} {w : World} {K : PySem.W.Frag} {mg : Str → Option Value} {base : Heap}
def kWhole (vs : List V) (_ : Hp) (z : V) : Prop := ∃ n : Int, vs = [.int n] ∧ whole n ∧ z = .bl true
theorem ok_is_whole (T : Txt K mg w) : FnOk P w K mg base CX0 2 T.a_is_whole T.fd_is_whole ["value"] (Pure kWhole) := by
  have G_is_integer := ok_is_integer (P := P) (w := w) (base := base) T
  refine T.F_is_whole.ok sc_is_whole (fun vs H Q E h => ?_) (fun cdv A outer s H vs Q E hr h => ?_)
  · obtain ⟨_, ⟨_, rfl, _⟩, _⟩ := h; rfl
  · obtain ⟨_, ⟨n, rfl, hn, rfl⟩, q⟩ := h
    refine ⟨_, (pss_one (ps_ret (pe_and (pe_call G_is_integer (hr.mono (by decide)) (by rfl) T.g_is_integer T.F_is_integer.kp T.b_is_integer .nil pass0 (pa_cons (pv 0) pa_nil)) (pe_one (pe_cmpR op_ge (pv 0) pe_int (nomark _)))))), ?_⟩
    exact s_ret (v := .bl true) (ev_is (ev_andV (a := true) (b := true) (ev_callP (vs := [.int n]) (by walk_at "ea") fun H1 e1 => ⟨.int n, rfl, pl_int, by rw [whole_is hn]⟩) fun _ => ev_is (ev_op (ev_var rfl) ev_c rv_I0) (by obtain ⟨h0, _⟩ := hn; rw [decide_eq_true (by omega)])) rfl) q
theorem ok_is_luck (T : Txt K mg w) : FnOk P w K mg base CX0 3 T.a_is_luck T.fd_is_luck ["value"] (Pure fun vs _ z => ∃ n : Int, vs = [.int n] ∧ 0 ≤ n ∧ n < 999999937 ∧ z = .bl true) := by
  have G_is_within := ok_is_within (P := P) (w := w) (base := base) T
  refine T.F_is_luck.ok sc_is_luck (fun vs H Q E h => ?_) (fun cdv A outer s H vs Q E hr h => ?_)
  · obtain ⟨_, ⟨_, rfl, _⟩, _⟩ := h; rfl
  · obtain ⟨_, ⟨n, rfl, h0, h1, rfl⟩, q⟩ := h
    refine ⟨_, (pss_one (ps_ret (pe_call G_is_within (hr.mono (by decide)) (by rfl) T.g_is_within T.F_is_within.kp T.b_is_within .nil pass0 (pa_cons (pv 0) (pa_cons pe_int (pa_cons (pe_op op_sub (pe_glob (v := .int 999999937) rfl T.g_MODULUS ⟨_, rfl⟩) pe_int) pa_nil)))))), ?_⟩
    exact s_ret (v := .bl true) (ev_callP (vs := [.int n, .int 0, .int (999999937 - 1)]) (by walk_at "ea") fun H1 e1 => ⟨.int n, _, _, rfl, pl_int, by rw [within_ok (by omega) (by omega) (by omega)]⟩) q
theorem ok_is_number (T : Txt K mg w) : FnOk P w K mg base CX0 3 T.a_is_number T.fd_is_number ["value"] (Pure fun vs _ z => ∃ n : Int, vs = [.int n] ∧ num n ∧ z = .bl true) := by
  have G_is_within := ok_is_within (P := P) (w := w) (base := base) T
  refine T.F_is_number.ok sc_is_number (fun vs H Q E h => ?_) (fun cdv A outer s H vs Q E hr h => ?_)
  · obtain ⟨_, ⟨_, rfl, _⟩, _⟩ := h; rfl
  · obtain ⟨_, ⟨n, rfl, hn, rfl⟩, q⟩ := h
    refine ⟨_, (pss_one (ps_ret (pe_call G_is_within (hr.mono (by decide)) (by rfl) T.g_is_within T.F_is_within.kp T.b_is_within .nil pass0 (pa_cons (pv 0) (pa_cons (pe_un un_neg (pe_glob (v := .int 1000000000) rfl T.g_MOST ⟨_, rfl⟩)) (pa_cons (pe_glob (v := .int 1000000000) rfl T.g_MOST ⟨_, rfl⟩) pa_nil)))))), ?_⟩
    exact s_ret (v := .bl true) (ev_callP (vs := [.int n, .int (-1000000000), .int 1000000000]) (by walk_at "ea") fun H1 e1 => ⟨.int n, _, _, rfl, pl_int, by rw [within_ok hn (by omega) (by omega)]⟩) q
theorem ok_is_name (T : Txt K mg w) : FnOk P w K mg base CX0 1 T.a_is_name T.fd_is_name ["value"] (Pure fun vs _ z => ∃ s : Str, vs = [.str s] ∧ nameOk s ∧ z = .bl true) := by
  refine T.F_is_name.ok sc_is_name (fun vs H Q E h => ?_) (fun cdv A outer s H vs Q E hr h => ?_)
  · obtain ⟨_, ⟨_, rfl, _⟩, _⟩ := h; rfl
  · obtain ⟨_, ⟨z, rfl, ⟨h1, h2, h3, h4, h5⟩, rfl⟩, q⟩ := h
    refine ⟨_, (pss_cons (ps_if (PW.pt (pw_or (pt_not (pt_val (pe_callB call_isi (by rfl) T.z_isinstance (by decide +kernel) (pa_cons (pv 0) (pa_cons (pe_bltn (v := .ty "str") (by rfl) T.z_str (by decide +kernel) rfl) pa_nil))))) (pw_or1 (pt_not (pt_chain op_le op_le pe_int (pe_callB call_len_str (by rfl) T.z_len PySem.boot_len (pa_cons (pv 0) pa_nil)) pe_int))))) (pss_one (ps_ret pe_bl)) pss_nil)
  (pss_one (ps_ret (pe_and (pe_m0 PySem.F.slot_str_isascii PySem.F.type_str_isascii mt_isascii (pv 0)) (pe_and (pe_m0 PySem.F.slot_str_isalpha PySem.F.type_str_isalpha mt_isalpha (pv 0)) (pe_one (pe_m0 PySem.F.slot_str_islower PySem.F.type_str_islower mt_islower (pv 0)))))))), ?_⟩
    refine q_when (b := false) (et_or (a := false) (b := false) (et_is (et_not (et_B (ev_cb (vs := [.str z, .ty "str"]) (by walk_at "ea") isi_str))) rfl) fun _ => et_is (et_not (et_test (ev_chain (a := true) (b := true) ev_c (ev_cb (vs := [.str z]) (by walk_at "ea") (rc_lenS (by omega))) (fun H1 e Q q => by
        refine rv_I0 (i := 1) (j := (z.length : Int)) (g := fun i j => .bl (decide (i ≤ j))) H1 e Q fun H2 e2 => ?_
        rw [decide_eq_true (by omega)]
        exact q H2 e2) ev_c (fun H1 e Q q => by
        refine rv_I0 (i := (z.length : Int)) (j := 8) (g := fun i j => .bl (decide (i ≤ j))) H1 e Q fun H2 e2 => ?_
        rw [decide_eq_true (by omega)]
        exact q H2 e2)))) rfl) (fun h => by cases h) fun _ H1 e1 => ?_
    exact s_ret (v := .bl true) (ev_is (ev_andV (a := true) (b := true) (ev_is (ev_strM (ev_var rfl)) (by rw [h3])) fun _ => ev_is (ev_andV (a := true) (b := true) (ev_is (ev_strM (ev_var rfl)) (by rw [h4])) fun _ => ev_is (ev_strM (ev_var rfl)) (by rw [h5])) rfl) rfl) fun H2 e2 => q H2 (e1.trans e2)
/-- at a reference the numbers of a thing -/
def kNumbers (K : PySem.W.Frag) (vs : List V) (H : Hp) (z : V) : Prop := ∃ (r : Addr) (ns : List Int), vs = [.ref r] ∧ NsAt K H r ns ∧ 1 ≤ ns.length ∧ ns.length ≤ 8 ∧ (∀ n ∈ ns, num n) ∧ z = .bl true
theorem ok_are_numbers (T : Txt K mg w) : FnOk P w K mg base CX0 4 T.a_are_numbers T.fd_are_numbers ["value"] (Pure (kNumbers K)) := by
  have G_is_number := ok_is_number (P := P) (w := w) (base := base) T
  refine T.F_are_numbers.ok sc_are_numbers (fun vs H Q E h => ?_) (fun cdv A outer s H vs Q E hr h => ?_)
  · obtain ⟨_, ⟨_, _, rfl, _⟩, _⟩ := h; rfl
  · obtain ⟨_, ⟨r, ns, rfl, hN, h1, h2, hn, rfl⟩, q⟩ := h
    refine ⟨_, (pss_cons (ps_if (PW.pt (pw_or (pt_not (pt_val (pe_callB call_isi (by rfl) T.z_isinstance (by decide +kernel) (pa_cons (pv 0) (pa_cons (pe_bltn (v := .ty "tuple") (by rfl) T.z_tuple (by decide +kernel) rfl) pa_nil))))) (pw_or1 (pt_not (pt_chain op_le op_le pe_int (pe_callB c_len (by rfl) T.z_len PySem.boot_len (pa_cons (pv 0) pa_nil)) (pe_glob (v := .int 8) rfl T.g_MAX_FIELDS ⟨_, rfl⟩)))))) (pss_one (ps_ret pe_bl)) pss_nil)
  (pss_one (ps_ret (pe_callB (cr_all rfl) (by rfl) T.z_all (by decide +kernel) (pa_cons (pe_lc (own := [("number", 1)]) (g := gName 1) (by rfl) sc_are_numbers.nd (pi_tup (pv 0)) (blkOk_by (own := [("number", 1)]) (N := ["value", "number"]) (sc := defScope s_are_numbers) (by decide +kernel)) (fun _ _ _ _ _ => pg_name (i := 1) sc_are_numbers.nd rfl (Or.inl rfl)) (fun _ _ _ _ _ => pts_nil) (fun _ _ _ _ _ => (pe_call G_is_number (hr.mono (by decide)) (by rfl) T.g_is_number T.F_is_number.kp T.b_is_number .nil pass0 (pa_cons (pv 1) pa_nil)))) pa_nil))))), ?_⟩
    have hl : (ns.map V.int).length = ns.length := List.length_map ..
    refine q_when (b := false) (et_or (a := false) (b := false) (et_is (et_not (et_B (ev_cb (vs := [.ref r, .ty "tuple"]) (by walk_at "ea") (rc_isiTup hN)))) rfl) fun _ => et_is (et_not (et_test (ev_chain (a := true) (b := true) ev_c (ev_cb (vs := [.ref r]) (by walk_at "ea") (rc_lenT hN)) (fun H1 e Q q => by
        refine rv_I0 (i := 1) (g := fun i j => .bl (decide (i ≤ j))) H1 e Q fun H2 e2 => ?_
        rw [decide_eq_true (by omega)]
        exact q H2 e2) ev_c (fun H1 e Q q => by
        refine rv_I0 (j := 8) (g := fun i j => .bl (decide (i ≤ j))) H1 e Q fun H2 e2 => ?_
        rw [decide_eq_true (by omega)]
        exact q H2 e2)))) rfl) (fun h => by cases h) fun _ H1 e1 => ?_
    refine s_ret (v := .bl true) (ev_is (ev_allN (bs := ns.map fun _ => true) ?_) (by simp)) fun H2 e2 => q H2 (e1.trans e2)
    have e : given (ns.map V.int).length (fun _ => true) (fun i => V.bl true) = (ns.map fun _ => true).map V.bl := by
      rw [hl, given_yes_map ns 0 fun _ => V.bl true, List.map_map]
      rfl
    rw [← e]
    refine el_lcT (fun _ => true) (fun i => V.bl true) (ev_var rfl) (ex_t e1 hN) (by rw [hl]; omega) (fun _ => rfl) (fun i x H2 e2 hx => et_yes) fun i x H2 e2 hx _ => ?_
    rw [List.getElem?_map] at hx
    cases h : ns[i]? with
    | none => rw [h] at hx; cases hx
    | some n =>
      rw [h] at hx
      obtain rfl : x = .int n := (Option.some.inj hx).symm
      exact ev_callP (vs := [.int n]) (by walk_at "ea") fun H3 e3 => ⟨n, rfl, hn n (List.mem_of_getElem? h), rfl⟩
def kThing (K : PySem.W.Frag) (vs : List V) (H : Hp) (z : V) : Prop := ∃ (r : Addr) (t : Tg), vs = [.ref r] ∧ TgAt K H r t ∧ t.ok ∧ z = .bl true
theorem ok_is_thing (T : Txt K mg w) : FnOk P w K mg base CX0 5 T.a_is_thing T.fd_is_thing ["value"] (Pure (kThing K)) := by
  have G_is_whole := ok_is_whole (P := P) (w := w) (base := base) T
  have G_is_name := ok_is_name (P := P) (w := w) (base := base) T
  have G_are_numbers := ok_are_numbers (P := P) (w := w) (base := base) T
  refine T.F_is_thing.ok sc_is_thing (fun vs H Q E h => ?_) (fun cdv A outer s H vs Q E hr h => ?_)
  · obtain ⟨_, ⟨_, _, rfl, _⟩, _⟩ := h; rfl
  · obtain ⟨_, ⟨r, t, rfl, ⟨rn, hT, hN⟩, ⟨k1, k2, k3, k4, k5⟩, rfl⟩, q⟩ := h
    refine ⟨_, (pss_cons (ps_if (PW.pt (pw_or (pt_not (pt_val (pe_callB call_isi (by rfl) T.z_isinstance (by decide +kernel) (pa_cons (pv 0) (pa_cons (pe_bltn (v := .ty "tuple") (by rfl) T.z_tuple (by decide +kernel) rfl) pa_nil))))) (pw_or1 (pt_cmpR op_ne (pe_callB c_len (by rfl) T.z_len PySem.boot_len (pa_cons (pv 0) pa_nil)) pe_int (nomark _))))) (pss_one (ps_ret pe_bl)) pss_nil)
  (pss_one (ps_ret (pe_and (pe_call G_is_whole (hr.mono (by decide)) (by rfl) T.g_is_whole T.F_is_whole.kp T.b_is_whole .nil pass0 (pa_cons (pe_ix ix_tup (pv 0) pe_int (fun _ _ => rfl)) pa_nil)) (pe_and (pe_call G_is_name (hr.mono (by decide)) (by rfl) T.g_is_name T.F_is_name.kp T.b_is_name .nil pass0 (pa_cons (pe_ix ix_tup (pv 0) pe_int (fun _ _ => rfl)) pa_nil)) (pe_one (pe_call G_are_numbers (hr.mono (by decide)) (by rfl) T.g_are_numbers T.F_are_numbers.kp T.b_are_numbers .nil pass0 (pa_cons (pe_ix ix_tup (pv 0) pe_int (fun _ _ => rfl)) pa_nil)))))))), ?_⟩
    have i0 : atI [V.int t.id, .str t.kd, .ref rn] 0 = some (.int t.id) := rfl
    have i1 : atI [V.int t.id, .str t.kd, .ref rn] 1 = some (.str t.kd) := rfl
    have i2 : atI [V.int t.id, .str t.kd, .ref rn] 2 = some (.ref rn) := rfl
    refine q_when (b := false) (et_or (a := false) (b := false) (et_is (et_not (et_B (ev_cb (vs := [.ref r, .ty "tuple"]) (by walk_at "ea") (rc_isiTup hT)))) rfl) fun _ => et_is (et_test (ev_op (ev_cb (vs := [.ref r]) (by walk_at "ea") (rc_lenT hT)) ev_c (rv_ne rfl))) (show (!decide (V.int ((3 : Nat) : Int) = V.int 3)) = false by decide)) (fun h => by cases h) fun _ H1 e1 => ?_
    have hT := ex_t e1 hT
    exact s_ret (v := .bl true) (ev_is (ev_andV (a := true) (b := true) (ev_callP (vs := [.int t.id]) (by walk_at "ea") fun H2 e2 => ⟨_, rfl, k1, rfl⟩) fun _ => ev_is (ev_andV (a := true) (b := true) (ev_callP (vs := [.str t.kd]) (by walk_at "ea") fun H2 e2 => ⟨_, rfl, k2, rfl⟩) fun _ => ev_callP (vs := [.ref rn]) (by walk_at "ea") fun H2 e2 => ⟨rn, t.ns, rfl, ex_t (e1.trans e2) hN, k3, k4, k5, rfl⟩) rfl) rfl) fun H2 e2 => q H2 (e1.trans e2)
def kThings (K : PySem.W.Frag) (vs : List V) (H : Hp) (z : V) : Prop := ∃ (a : Addr) (ts : List Tg), vs = [.ref a] ∧ TsAt K H a ts ∧ TsOk ts ∧ z = .bl true
theorem ok_are_things (T : Txt K mg w) : FnOk P w K mg base CX0 6 T.a_are_things T.fd_are_things ["value"] (Pure (kThings K)) := by
  have G_is_thing := ok_is_thing (P := P) (w := w) (base := base) T
  refine T.F_are_things.ok sc_are_things (fun vs H Q E h => ?_) (fun cdv A outer s H vs Q E hr h => ?_)
  · obtain ⟨_, ⟨_, _, rfl, _⟩, _⟩ := h; rfl
  · obtain ⟨_, ⟨a, ts, rfl, ⟨rs, hT, hR⟩, ⟨k1, k2⟩, rfl⟩, q⟩ := h
    refine ⟨_, (pss_cons (ps_if (PW.pt (pw_or (pt_not (pt_val (pe_callB call_isi (by rfl) T.z_isinstance (by decide +kernel) (pa_cons (pv 0) (pa_cons (pe_bltn (v := .ty "tuple") (by rfl) T.z_tuple (by decide +kernel) rfl) pa_nil))))) (pw_or1 (pt_cmpR op_gt (pe_callB c_len (by rfl) T.z_len PySem.boot_len (pa_cons (pv 0) pa_nil)) (pe_glob (v := .int 12) rfl T.g_MAX_THINGS ⟨_, rfl⟩) (nomark _))))) (pss_one (ps_ret pe_bl)) pss_nil)
  (pss_one (ps_ret (pe_callB (cr_all rfl) (by rfl) T.z_all (by decide +kernel) (pa_cons (pe_lc (own := [("thing", 1)]) (g := gName 1) (by rfl) sc_are_things.nd (pi_tup (pv 0)) (blkOk_by (own := [("thing", 1)]) (N := ["value", "thing"]) (sc := defScope s_are_things) (by decide +kernel)) (fun _ _ _ _ _ => pg_name (i := 1) sc_are_things.nd rfl (Or.inl rfl)) (fun _ _ _ _ _ => pts_nil) (fun _ _ _ _ _ => (pe_call G_is_thing (hr.mono (by decide)) (by rfl) T.g_is_thing T.F_is_thing.kp T.b_is_thing .nil pass0 (pa_cons (pv 1) pa_nil)))) pa_nil))))), ?_⟩
    have hl : (rs.map V.ref).length = ts.length := by rw [List.length_map, hR.1]
    refine q_when (b := false) (et_or (a := false) (b := false) (et_is (et_not (et_B (ev_cb (vs := [.ref a, .ty "tuple"]) (by walk_at "ea") (rc_isiTup hT)))) rfl) fun _ => et_is (et_test (ev_op (ev_cb (vs := [.ref a]) (by walk_at "ea") (rc_lenT hT)) ev_c rv_I0)) (decide_eq_false (by omega))) (fun h => by cases h) fun _ H1 e1 => ?_
    refine s_ret (v := .bl true) (ev_is (ev_allN (bs := ts.map fun _ => true) ?_) (by simp)) fun H2 e2 => q H2 (e1.trans e2)
    have e : given (rs.map V.ref).length (fun _ => true) (fun i => V.bl true) = (ts.map fun _ => true).map V.bl := by
      rw [hl, given_yes_map ts ⟨0, "", []⟩ fun _ => V.bl true, List.map_map]
      rfl
    rw [← e]
    refine el_lcT (fun _ => true) (fun i => V.bl true) (ev_var rfl) (ex_t e1 hT) (by omega) (fun _ => rfl) (fun i x H2 e2 hx => et_yes) fun i x H2 e2 hx _ => ?_
    obtain ⟨r, t, rfl, _, ht, hA⟩ := hR.at hx
    exact ev_callP (vs := [.ref r]) (by walk_at "ea") fun H3 e3 => ⟨r, t, rfl, hA.ex ((e1.trans e2).trans e3), k2 t (List.mem_of_getElem? ht), rfl⟩
end
end Kz
set_option Elab.async false
set_option linter.all false
set_option maxRecDepth 100000
set_option maxHeartbeats 4000000
set_option exponentiation.threshold 500
namespace Kz
open PySem PySem.Spec PyProof.Rows L2 Evl Vr
local macro_rules | `(tactic| walk_at "sc") => `(tactic| first | (with_reducible assumption) | (with_reducible exact sc_mul (by omega)) | (with_reducible exact sc_mulr (by omega)) | (with_reducible exact sc_div (by omega) (by decide)) | (show (0 : Int) < _; omega) | (show _ ≠ (0 : Int); omega) | (with_reducible rfl) | decide)
local macro_rules | `(tactic| walk_at "sq") => `(tactic| first | assumption | exact sq_of (by assumption) | exact st_of (by assumption))
local macro_rules | `(tactic| walk_at "pl") => `(tactic| first | assumption | exact pl_int | exact pl_bl | exact pl_str | exact pl_non | exact pl_lst (by assumption) | exact pl_tup (by assumption) | exact pl_dK (by assumption))
local macro_rules | `(tactic| walk_at "rv") => `(tactic| first
  | with_reducible exact rv_I0
  | with_reducible exact ru_neg
  | ((with_reducible apply rv_I); walk_at "sc")
  | ((with_reducible apply rv_ixL); walk_at "sq"; first | rfl | assumption)
  | ((with_reducible apply rv_ixT); walk_at "sq"; first | rfl | assumption)
  | ((with_reducible apply rv_eq); rfl) | ((with_reducible apply rv_ne); rfl))
local macro_rules | `(tactic| walk_at "rc") => `(tactic| first
  | with_reducible exact rc_I1 | with_reducible exact rc_B1 | with_reducible exact rc_I2 | ((with_reducible apply rc_repr); walk_at "sc") | ((with_reducible apply rc_lenL); walk_at "sq")
  | ((with_reducible apply rc_isiInt); walk_at "pl") | ((with_reducible apply rc_isiBool); walk_at "pl"))
local macro_rules | `(tactic| walk_at "ea") => `(tactic| first
  | with_reducible exact ea_nil | ((with_reducible apply ea_cons); walk_at "ev"; walk_at "ea"))
local macro_rules | `(tactic| walk_at "pow") => `(tactic| first
  | with_reducible exact ev_pow (a := 10) (b := 9) (c := 1000000000) (by decide +kernel) (by decide +kernel)
  | with_reducible exact ev_pow (a := 10) (b := 10) (c := 10000000000) (by decide +kernel) (by decide +kernel)
  | with_reducible exact ev_pow (a := 10) (b := 12) (c := 1000000000000) (by decide +kernel) (by decide +kernel)
  | with_reducible exact ev_pow (a := 10) (b := 17) (c := 100000000000000000) (by decide +kernel) (by decide +kernel)
  | with_reducible exact ev_pow (a := 10) (b := 20) (c := 100000000000000000000) (by decide +kernel) (by decide +kernel)
  | with_reducible exact ev_pow (a := 10) (b := 29) (c := 100000000000000000000000000000) (by decide +kernel) (by decide +kernel)
  | with_reducible exact ev_pow (a := 10) (b := 30) (c := 1000000000000000000000000000000) (by decide +kernel) (by decide +kernel)
  | with_reducible exact ev_pow (a := 10) (b := 40) (c := 10000000000000000000000000000000000000000) (by decide +kernel) (by decide +kernel)
  | with_reducible exact ev_pow (a := 10) (b := 57) (c := 1000000000000000000000000000000000000000000000000000000000) (by decide +kernel) (by decide +kernel)
  | with_reducible exact ev_pow (a := 10) (b := 58) (c := 10000000000000000000000000000000000000000000000000000000000) (by decide +kernel) (by decide +kernel)
  | with_reducible exact ev_pow (a := 10) (b := 59) (c := 100000000000000000000000000000000000000000000000000000000000) (by decide +kernel) (by decide +kernel)
  | with_reducible exact ev_pow (a := 10) (b := 60) (c := 1000000000000000000000000000000000000000000000000000000000000) (by decide +kernel) (by decide +kernel))
local macro_rules | `(tactic| walk_at "call") => `(tactic| (intro H9 e9; first | exact ⟨_, rfl, rfl⟩ | exact ⟨_, _, rfl, rfl⟩ | exact ⟨_, _, _, rfl, rfl⟩ | exact ⟨_, rfl, by walk_at "pl", rfl⟩ | (refine ⟨_, _, _, rfl, ?_, rfl⟩; first | exact Plain.ex e9 (by assumption) | walk_at "pl") | (refine ⟨_, rfl, ?_, rfl⟩; first | exact Plain.ex e9 (by assumption) | walk_at "pl")))
local macro_rules | `(tactic| walk_at "ev") => `(tactic| first
  | with_reducible exact ev_c
  | exact ev_var rfl
  | walk_at "pow"
  | ((with_reducible apply ev_op); walk_at "ev"; walk_at "ev"; walk_at "rv")
  | ((with_reducible apply ev_un); walk_at "ev"; walk_at "rv")
  | ((with_reducible apply ev_cb); walk_at "ea"; walk_at "rc")
  | ((with_reducible apply ev_callP); walk_at "ea"; walk_at "call")
  | ((with_reducible apply ev_chain); walk_at "ev"; walk_at "ev"; walk_at "rv"; walk_at "ev"; walk_at "rv")
  | ((with_reducible apply ev_andV); walk_at "ev"; intro _; walk_at "ev")
  | ((with_reducible apply ev_orV); walk_at "ev"; intro _; walk_at "ev")
  | ((with_reducible apply ev_ite); walk_at "et"; intro _; walk_at "ev"; intro _; walk_at "ev")
  | ((with_reducible apply ev_notV); walk_at "ev"))
local macro_rules | `(tactic| walk_at "et") => `(tactic| first
  | ((with_reducible apply et_test); walk_at "ev")
  | ((with_reducible apply et_B); walk_at "ev")
  | ((with_reducible apply et_and); walk_at "et"; intro _; walk_at "et")
  | ((with_reducible apply et_or); walk_at "et"; intro _; walk_at "et")
  | ((with_reducible apply et_not); walk_at "et"))
open En Wo
def Tg.ids (ts : List Tg) : List Int := ts.map Tg.id
/-- ids that ascend, all of them below the next one -/
def Asc (ts : List Tg) (n : Int) : Prop := (Tg.ids ts ++ [n]).Pairwise (· < ·)
theorem tg_len (ts : List Tg) : (Tg.ids ts).length = ts.length := List.length_map ..
section
variable {σ : L2.St} {H : Hp} {t : TT} {te tl : TE} {K : PySem.W.Frag}
/-- [e for x in things if t], the things told by their references -/
theorem el_lcTs {a : Addr} {rs : List Addr} {ts : List Tg} {j : Nat} {vs : List Nat} (f : Tg → Bool) (v : Addr → Tg → V) (g : Tg → V) (h : Ev tl σ H (.ref a)) (hT : SqT K H a (rs.map V.ref)) (hR : RsAt K H rs ts) (hz : ts.length ≤ 40000) (hw : ∀ x, wipe ((wipe σ vs).set j (some x)) vs = wipe σ vs)
    (ht : ∀ (r : Addr) (t' : Tg) H1, Ex H H1 → TgAt K H1 r t' → t' ∈ ts → EvT t ((wipe σ vs).set j (some (.ref r))) H1 (f t')) (he : ∀ (r : Addr) (t' : Tg) H1, Ex H H1 → TgAt K H1 r t' → t' ∈ ts → f t' = true → Ev te ((wipe σ vs).set j (some (.ref r))) H1 (g t')) :
    EvL (tLc (iTup K tl) (gName j) t te vs) σ H ((ts.filter f).map g) := by
  have e : given (rs.map V.ref).length (fun i => f (ts.getD i ⟨0, "", []⟩)) (fun i => g (ts.getD i ⟨0, "", []⟩)) = (ts.filter f).map g := by
    rw [List.length_map, hR.1, given_filter ts ⟨0, "", []⟩ f g]
  rw [← e]
  refine el_lcT _ _ h hT (by rw [List.length_map, hR.1]; omega) hw (fun i x H1 e1 hx => ?_) fun i x H1 e1 hx hf => ?_
  · obtain ⟨r, t', rfl, _, h2, hA⟩ := hR.at hx
    have hd : ts.getD i ⟨0, "", []⟩ = t' := by rw [List.getD_eq_getElem?_getD, h2]; rfl
    rw [hd]
    exact ht r t' H1 e1 (hA.ex e1) (List.mem_of_getElem? h2)
  · obtain ⟨r, t', rfl, _, h2, hA⟩ := hR.at hx
    have hd : ts.getD i ⟨0, "", []⟩ = t' := by rw [List.getD_eq_getElem?_getD, h2]; rfl
    rw [hd] at hf ⊢
    exact he r t' H1 e1 (hA.ex e1) (List.mem_of_getElem? h2) hf
theorem ev_tg0 {te : TE} {r : Addr} {t' : Tg} (h : Ev te σ H (.ref r)) (hA : TgAt K H r t') : Ev (tOp (rIxT K) te (tC (.int 0))) σ H (.int t'.id) := by
  obtain ⟨rn, h1, _⟩ := hA
  exact ev_op h ev_c (rv_ixT h1 rfl)
theorem ev_tg1 {te : TE} {r : Addr} {t' : Tg} (h : Ev te σ H (.ref r)) (hA : TgAt K H r t') : Ev (tOp (rIxT K) te (tC (.int 1))) σ H (.str t'.kd) := by
  obtain ⟨rn, h1, _⟩ := hA
  exact ev_op h ev_c (rv_ixT h1 rfl)
end
section
variable {P : Program} {w : World} {K : PySem.W.Frag} {mg : Str → Option Value} {base : Heap}
def kSeq (K : PySem.W.Frag) (vs : List V) (H : Hp) (z : V) : Prop := ∃ (a : Addr) (ts : List Tg) (n : Int), vs = [.ref a, .int n] ∧ TsAt K H a ts ∧ ts.length ≤ 12 ∧ Asc ts n ∧ z = .bl true
theorem ok_are_in_sequence (T : Txt K mg w) : FnOk P w K mg base CX0 1 T.a_are_in_sequence T.fd_are_in_sequence ["things", "next_id"] (Pure (kSeq K)) := by
  refine T.F_are_in_sequence.ok sc_are_in_sequence (fun vs H Q E h => ?_) (fun cdv A outer s H vs Q E hr h => ?_)
  · obtain ⟨_, ⟨_, _, _, rfl, _⟩, _⟩ := h; rfl
  · obtain ⟨_, ⟨a, ts, n, rfl, ⟨rs, hT, hR⟩, hl, hA, rfl⟩, q⟩ := h
    refine ⟨_, (pss_cons (ps_set (i := 2) sc_are_in_sequence.nd rfl (.inl rfl) (pe_op op_cat (pe_lc (own := [("thing", 3)]) (g := gName 3) (by rfl) sc_are_in_sequence.nd (pi_tup (pv 0)) (blkOk_by (own := [("thing", 3)]) (N := ["things", "next_id", "ids", "thing", "low", "high"]) (sc := defScope s_are_in_sequence) (by decide +kernel)) (fun _ _ _ _ _ => pg_name (i := 3) sc_are_in_sequence.nd rfl (Or.inl rfl)) (fun _ _ _ _ _ => pts_nil) (fun _ _ _ _ _ => (pe_ix (ix_tupK (K := K) rfl) (pv 3) pe_int (fun _ _ => rfl)))) (pe_lst (pa_cons (pv 1) pa_nil))))
  (pss_one (ps_ret (pe_callB (cr_all rfl) (by rfl) T.z_all (by decide +kernel) (pa_cons (pe_lc (own := [("low", 4), ("high", 5)]) (g := gTup _ 2 (gCons (gName 4) (gCons (gName 5) gNil))) (by rfl) sc_are_in_sequence.nd (pi_zip rfl T.z_zip (pa_cons (pv 2) (pa_cons (pe_slice sl_list (pv 2) (po_some pe_int) po_none) pa_nil))) (blkOk_by (own := [("low", 4), ("high", 5)]) (N := ["things", "next_id", "ids", "thing", "low", "high"]) (sc := defScope s_are_in_sequence) (by decide +kernel)) (fun _ _ _ _ _ => pg_tup rfl (pgs_cons (pg_name (i := 4) sc_are_in_sequence.nd rfl (Or.inl rfl)) (pgs_cons (pg_name (i := 5) sc_are_in_sequence.nd rfl (Or.inl rfl)) pgs_nil))) (fun _ _ _ _ _ => pts_nil) (fun _ _ _ _ _ => (pe_cmpR op_lt (pv 4) (pv 5) (nomark _)))) pa_nil))))), ?_⟩
    refine q_asgL (xs := (Tg.ids ts ++ [n]).map V.int) (by
      have e : (Tg.ids ts ++ [n]).map V.int = (ts.filter fun _ => true).map (fun t => V.int t.id) ++ [.int n] := by
        rw [List.filter_eq_self.mpr (fun _ _ => rfl), List.map_append]
        unfold Tg.ids
        rw [List.map_map]
        rfl
      rw [e]
      exact el_cat (el_lcTs (fun _ => true) (fun _ t => V.int t.id) (fun t => V.int t.id) (ev_var rfl) hT hR (by omega) (fun _ => rfl) (fun r t H1 e1 _ _ => et_yes) fun r t H1 e1 hA _ _ => ev_tg0 (ev_var rfl) hA) (el_lst (by walk_at "ea") (by show 1 ≤ 100000; decide)) (by
        rw [List.filter_eq_self.mpr (fun _ _ => rfl), List.length_map]
        show _ + 1 ≤ _
        omega)) fun l H1 hl1 e1 h1 => ?_
    have hL := sq_of (K := K) h1
    have len : (Tg.ids ts ++ [n]).length = ts.length + 1 := by rw [List.length_append, tg_len]; rfl
    generalize hI : Tg.ids ts ++ [n] = ids at *
    unfold Asc at hA
    rw [hI] at hA
    refine s_ret (v := .bl true) (ev_is (ev_allN (bs := (List.range (min (ids.map V.int).length ((ids.map V.int).drop 1).length)).map fun _ => true) ?_) (by simp)) fun H2 e2 => q H2 (e1.trans e2)
    have e : given (min (ids.map V.int).length ((ids.map V.int).drop 1).length) (fun _ => true) (fun _ => V.bl true) = ((List.range (min (ids.map V.int).length ((ids.map V.int).drop 1).length)).map fun _ => true).map V.bl := by
      unfold given
      rw [List.filter_eq_self.mpr (fun _ _ => rfl), List.map_map]
      rfl
    rw [← e]
    refine el_lcZip (fun _ => true) (fun _ => V.bl true) ?_ (by rw [List.length_map]; omega) (fun _ _ => rfl) (fun i x y H2 e2 hx hy => et_yes) fun i x y H2 e2 hx hy _ => ?_
    · have hsl := el_sl (K := K) (te := tVar 2) (σ := [some (.ref a), some (.int n), some (.ref l), none, none, none]) (ev_var (i := 2) rfl) (eo_some (ev_c (v := .int 1))) eo_none hL
      rw [cut1] at hsl
      exact fun H2 e2 Q2 q2 => (ap_cons (ev_var rfl) (ap_consL hsl ap_nil)) H2 e2 Q2 fun vs H3 e3 ⟨ws, h1', p, ws2, h2', h3', h4'⟩ => q2 vs H3 e3 ⟨l, p, by rw [h1', h2', h4'], ex_l (e2.trans e3) hL, sq_of h3'⟩
    · rw [List.getElem?_map] at hx
      rw [List.getElem?_drop, List.getElem?_map] at hy
      cases h2 : ids[i]? with
      | none => rw [h2] at hx; cases hx
      | some u =>
        cases h3 : ids[1 + i]? with
        | none => rw [h3] at hy; cases hy
        | some u2 =>
          rw [h2] at hx
          rw [h3] at hy
          obtain rfl : x = .int u := (Option.some.inj hx).symm
          obtain rfl : y = .int u2 := (Option.some.inj hy).symm
          obtain ⟨h4, h5⟩ := List.getElem?_eq_some_iff.mp h2
          obtain ⟨h6, h7⟩ := List.getElem?_eq_some_iff.mp h3
          have h8 := List.pairwise_iff_getElem.mp hA i (1 + i) h4 h6 (by omega)
          rw [h5, h7] at h8
          exact ev_is (ev_op (ev_var rfl) (ev_var rfl) rv_I0) (by rw [decide_eq_true h8])
/-! ### a world -/
structure Wd where
  t : Int
  n : Int
  l : Int
  ts : List Tg
  deriving DecidableEq
def Wd.ok (W : Wd) : Prop := whole W.t ∧ whole W.n ∧ (0 ≤ W.l ∧ W.l < 999999937) ∧ TsOk W.ts ∧ Asc W.ts W.n
abbrev wfs (W : Wd) (aT aO aD : Addr) : List (Str × V) := [("tick", .int W.t), ("next_id", .int W.n), ("luck", .int W.l), ("things", .ref aT), ("order", .ref aO), ("table", .ref aD)]
/-- the pairs of the table -/
def tab : List Addr → List Tg → List (Key × V)
  | r :: rs, t :: ts => (.inl t.id, .ref r) :: tab rs ts
  | _, _ => []
structure WAt (K : PySem.W.Frag) (C : Addr) (H : Hp) (p : Addr) (W : Wd) (rs : List Addr) (aT aO aD : Addr) : Prop where
  ob : ∃ dx, H p = some (.ins C dx (wfs W aT aO aD))
  th : SqT K H aT (rs.map V.ref)
  ra : RsAt K H rs W.ts
  od : SqT K H aO ((Tg.ids W.ts).map V.int)
  tb : H aD = some (.dK (tab rs W.ts))
/-- a world stands at p -/
def WdAt (K : PySem.W.Frag) (C : Addr) (H : Hp) (p : Addr) (W : Wd) : Prop := ∃ rs aT aO aD, WAt K C H p W rs aT aO aD
theorem WAt.ex {C p aT aO aD : Addr} {H H' : Hp} {W : Wd} {rs : List Addr} (e : Ex H H') (h : WAt K C H p W rs aT aO aD) : WAt K C H' p W rs aT aO aD := by
  obtain ⟨⟨dx, h1⟩, h2, h3, h4, h5⟩ := h
  exact ⟨⟨dx, e _ _ h1⟩, ex_t e h2, h3.ex e, ex_t e h4, e _ _ h5⟩
theorem WdAt.ex {C p : Addr} {H H' : Hp} {W : Wd} (e : Ex H H') (h : WdAt K C H p W) : WdAt K C H' p W := by
  obtain ⟨rs, aT, aO, aD, h⟩ := h
  exact ⟨rs, aT, aO, aD, h.ex e⟩
end
end Kz
set_option Elab.async false
set_option linter.all false
set_option maxRecDepth 100000
set_option maxHeartbeats 4000000
set_option exponentiation.threshold 500
namespace Kz
open PySem PySem.Spec PyProof.Rows L2 Evl Vr
local macro_rules | `(tactic| walk_at "sc") => `(tactic| first | (with_reducible assumption) | (with_reducible exact sc_mul (by omega)) | (with_reducible exact sc_mulr (by omega)) | (with_reducible exact sc_div (by omega) (by decide)) | (show (0 : Int) < _; omega) | (show _ ≠ (0 : Int); omega) | (with_reducible rfl) | decide)
local macro_rules | `(tactic| walk_at "sq") => `(tactic| first | assumption | exact sq_of (by assumption) | exact st_of (by assumption))
local macro_rules | `(tactic| walk_at "pl") => `(tactic| first | assumption | exact pl_int | exact pl_bl | exact pl_str | exact pl_non | exact pl_lst (by assumption) | exact pl_tup (by assumption) | exact pl_dK (by assumption))
local macro_rules | `(tactic| walk_at "rv") => `(tactic| first
  | with_reducible exact rv_I0
  | with_reducible exact ru_neg
  | ((with_reducible apply rv_I); walk_at "sc")
  | ((with_reducible apply rv_ixL); walk_at "sq"; first | rfl | assumption)
  | ((with_reducible apply rv_ixT); walk_at "sq"; first | rfl | assumption)
  | ((with_reducible apply rv_eq); rfl) | ((with_reducible apply rv_ne); rfl))
local macro_rules | `(tactic| walk_at "rc") => `(tactic| first
  | with_reducible exact rc_I1 | with_reducible exact rc_B1 | with_reducible exact rc_I2 | ((with_reducible apply rc_repr); walk_at "sc") | ((with_reducible apply rc_lenL); walk_at "sq")
  | ((with_reducible apply rc_isiInt); walk_at "pl") | ((with_reducible apply rc_isiBool); walk_at "pl"))
local macro_rules | `(tactic| walk_at "ea") => `(tactic| first
  | with_reducible exact ea_nil | ((with_reducible apply ea_cons); walk_at "ev"; walk_at "ea"))
local macro_rules | `(tactic| walk_at "pow") => `(tactic| first
  | with_reducible exact ev_pow (a := 10) (b := 9) (c := 1000000000) (by decide +kernel) (by decide +kernel)
  | with_reducible exact ev_pow (a := 10) (b := 10) (c := 10000000000) (by decide +kernel) (by decide +kernel)
  | with_reducible exact ev_pow (a := 10) (b := 12) (c := 1000000000000) (by decide +kernel) (by decide +kernel)
  | with_reducible exact ev_pow (a := 10) (b := 17) (c := 100000000000000000) (by decide +kernel) (by decide +kernel)
  | with_reducible exact ev_pow (a := 10) (b := 20) (c := 100000000000000000000) (by decide +kernel) (by decide +kernel)
  | with_reducible exact ev_pow (a := 10) (b := 29) (c := 100000000000000000000000000000) (by decide +kernel) (by decide +kernel)
  | with_reducible exact ev_pow (a := 10) (b := 30) (c := 1000000000000000000000000000000) (by decide +kernel) (by decide +kernel)
  | with_reducible exact ev_pow (a := 10) (b := 40) (c := 10000000000000000000000000000000000000000) (by decide +kernel) (by decide +kernel)
  | with_reducible exact ev_pow (a := 10) (b := 57) (c := 1000000000000000000000000000000000000000000000000000000000) (by decide +kernel) (by decide +kernel)
  | with_reducible exact ev_pow (a := 10) (b := 58) (c := 10000000000000000000000000000000000000000000000000000000000) (by decide +kernel) (by decide +kernel)
  | with_reducible exact ev_pow (a := 10) (b := 59) (c := 100000000000000000000000000000000000000000000000000000000000) (by decide +kernel) (by decide +kernel)
  | with_reducible exact ev_pow (a := 10) (b := 60) (c := 1000000000000000000000000000000000000000000000000000000000000) (by decide +kernel) (by decide +kernel))
local macro_rules | `(tactic| walk_at "call") => `(tactic| (intro H9 e9; first | exact ⟨_, rfl, rfl⟩ | exact ⟨_, _, rfl, rfl⟩ | exact ⟨_, _, _, rfl, rfl⟩ | exact ⟨_, rfl, by walk_at "pl", rfl⟩ | (refine ⟨_, _, _, rfl, ?_, rfl⟩; first | exact Plain.ex e9 (by assumption) | walk_at "pl") | (refine ⟨_, rfl, ?_, rfl⟩; first | exact Plain.ex e9 (by assumption) | walk_at "pl")))
local macro_rules | `(tactic| walk_at "ev") => `(tactic| first
  | with_reducible exact ev_c
  | exact ev_var rfl
  | walk_at "pow"
  | ((with_reducible apply ev_op); walk_at "ev"; walk_at "ev"; walk_at "rv")
  | ((with_reducible apply ev_un); walk_at "ev"; walk_at "rv")
  | ((with_reducible apply ev_cb); walk_at "ea"; walk_at "rc")
  | ((with_reducible apply ev_callP); walk_at "ea"; walk_at "call")
  | ((with_reducible apply ev_chain); walk_at "ev"; walk_at "ev"; walk_at "rv"; walk_at "ev"; walk_at "rv")
  | ((with_reducible apply ev_andV); walk_at "ev"; intro _; walk_at "ev")
  | ((with_reducible apply ev_orV); walk_at "ev"; intro _; walk_at "ev")
  | ((with_reducible apply ev_ite); walk_at "et"; intro _; walk_at "ev"; intro _; walk_at "ev")
  | ((with_reducible apply ev_notV); walk_at "ev"))
local macro_rules | `(tactic| walk_at "et") => `(tactic| first
  | ((with_reducible apply et_test); walk_at "ev")
  | ((with_reducible apply et_B); walk_at "ev")
  | ((with_reducible apply et_and); walk_at "et"; intro _; walk_at "et")
  | ((with_reducible apply et_or); walk_at "et"; intro _; walk_at "et")
  | ((with_reducible apply et_not); walk_at "et"))
open En Wo
theorem len_putF (f : Str) (v : V) : ∀ fs : List (Str × V), (putF f v fs).length ≤ fs.length + 1
  | [] => Nat.le_refl _
  | (g, x) :: r => by
    have := len_putF f v r
    show (if g = f then (g, v) :: r else (g, x) :: putF f v r).length ≤ _
    split
    · simp
    · simp only [List.length_cons]; omega
def FsOk (fs : List (Str × V)) : Prop := fs = [] ∨ ∃ W a b c, fs = wfs W a b c
theorem FsOk.len {fs : List (Str × V)} (h : FsOk fs) : fs.length ≤ 6 := by
  rcases h with rfl | ⟨W, a, b, c, rfl⟩
  · exact Nat.zero_le _
  · exact Nat.le_refl _
theorem fs_fin {fs : List (Str × V)} (h : FsOk fs) (W : Wd) (a o d : Addr) : putF "table" (.ref d) (putF "order" (.ref o) (putF "things" (.ref a) (putF "luck" (.int W.l) (putF "next_id" (.int W.n) (putF "tick" (.int W.t) fs))))) = wfs W a o d := by
  rcases h with rfl | ⟨W0, a0, b0, c0, rfl⟩
  · rfl
  · rfl
theorem RsAt.ti {K : PySem.W.Frag} {C p dx : Addr} {fs : List (Str × V)} {H H' : Hp} {rs : List Addr} {ts : List Tg} (e : Exd p H H') (hp : H p = some (.ins C dx fs)) (h : RsAt K H rs ts) : RsAt K H' rs ts := ⟨h.1, fun i r t a b => by
  obtain ⟨rn, h1, h2⟩ := h.2 i r t a b
  exact ⟨rn, e.ti hp h1, e.ti hp h2⟩⟩
theorem tab_len : ∀ (rs : List Addr) (ts : List Tg), rs.length = ts.length → (tab rs ts).length = ts.length
  | [], [], _ => rfl
  | r :: rs, t :: ts, h => by
    show (tab rs ts).length + 1 = ts.length + 1
    rw [tab_len rs ts (by simpa using h)]
  | [], _ :: _, h => by cases h
  | _ :: _, [], h => by cases h
theorem tab_app : ∀ (rs : List Addr) (ts : List Tg) (r : Addr) (t : Tg), rs.length = ts.length → tab (rs ++ [r]) (ts ++ [t]) = tab rs ts ++ [(.inl t.id, .ref r)]
  | [], [], _, _, _ => rfl
  | r :: rs, t :: ts, r', t', h => by
    show _ :: tab (rs ++ [r']) (ts ++ [t']) = _ :: (tab rs ts ++ [_])
    rw [tab_app rs ts r' t' (by simpa using h)]
  | [], _ :: _, _, _, h => by cases h
  | _ :: _, [], _, _, h => by cases h
theorem tab_no : ∀ (rs : List Addr) (ts : List Tg) (i : Int), (∀ t ∈ ts, t.id ≠ i) → valV (tab rs ts) (.inl i : Key) = none
  | [], _, _, _ => rfl
  | _ :: _, [], _, _ => rfl
  | r :: rs, t :: ts, i, h => by
    show valV ((Sum.inl t.id, V.ref r) :: tab rs ts) (.inl i : Key) = none
    rw [valV_neg (fun z => h t (List.mem_cons_self ..) (Sum.inl.inj z))]
    exact tab_no rs ts i fun t' ht => h t' (List.mem_cons_of_mem _ ht)
theorem tab_at : ∀ (rs : List Addr) (ts : List Tg) (j : Nat) (r : Addr) (t : Tg), (Tg.ids ts).Nodup → rs[j]? = some r → ts[j]? = some t → valV (tab rs ts) (.inl t.id : Key) = some (.ref r)
  | [], _, _, _, _, _, h, _ => by cases h
  | _ :: _, [], _, _, _, _, _, h => by cases h
  | r0 :: rs, t0 :: ts, 0, r, t, _, h1, h2 => by
    cases h1
    cases h2
    exact valV_pos (p := (Sum.inl t0.id, V.ref r0)) rfl
  | r0 :: rs, t0 :: ts, j + 1, r, t, hn, h1, h2 => by
    have hn' : t0.id ∉ Tg.ids ts ∧ (Tg.ids ts).Nodup := List.nodup_cons.mp hn
    have ht : t ∈ ts := List.mem_of_getElem? (by simpa using h2 : ts[j]? = some t)
    show valV ((Sum.inl t0.id, V.ref r0) :: tab rs ts) (.inl t.id : Key) = _
    rw [valV_neg (fun z => hn'.1 (by rw [Sum.inl.inj z]; exact List.mem_map_of_mem ht))]
    exact tab_at rs ts j r t hn'.2 (by simpa using h1) (by simpa using h2)
theorem Asc.nodup {ts : List Tg} {n : Int} (h : Asc ts n) : (Tg.ids ts).Nodup := by
  have h1 := (List.pairwise_append.mp h).1
  exact h1.imp fun h => Int.ne_of_lt h
theorem take_succ {α : Type} {l : List α} {i : Nat} {x : α} (h : l[i]? = some x) : l.take (i + 1) = l.take i ++ [x] := by
  obtain ⟨h1, h2⟩ := List.getElem?_eq_some_iff.mp h
  rw [← List.take_append_getElem h1, h2]
section
variable {P : Program} {w : World} {K : PySem.W.Frag} {mg : Str → Option Value} {base : Heap}
def spFill (K : PySem.W.Frag) (C : Addr) : Sp := fun vs H Q _ => ∃ (p aT dx : Addr) (W : Wd) (rs : List Addr) (fs : List (Str × V)), vs = [.ref p, .int W.t, .int W.n, .int W.l, .ref aT] ∧ H p = some (.ins C dx fs) ∧ FsOk fs ∧ SqT K H aT (rs.map V.ref) ∧ RsAt K H rs W.ts ∧ W.ts.length ≤ 12 ∧ Asc W.ts W.n ∧
  ∀ H' aO aD, Exd p H H' → WAt K C H' p W rs aT aO aD → Q .non H'
theorem ok_fill (T : Txt K mg w) : FnOk P w K mg base CX0 1 T.a_World__fill T.fd_World__fill ["self", "tick", "next_id", "luck", "things"] (spFill K T.C_World) := by
  refine T.F_World__fill.ok sc_World__fill (fun vs H Q E h => ?_) (fun cdv A outer s H vs Q E hr h => ?_)
  · obtain ⟨_, _, _, _, _, _, rfl, _⟩ := h; rfl
  · obtain ⟨p, aT, dx, W, rs, fs, rfl, hp, hf, hT, hR, hl, hA, q⟩ := h
    refine ⟨_, (pss_cons (ps_fld (pv 0) (pv 1) rfl)
  (pss_cons (ps_fld (pv 0) (pv 2) rfl)
  (pss_cons (ps_fld (pv 0) (pv 3) rfl)
  (pss_cons (ps_fld (pv 0) (pv 4) rfl)
  (pss_cons (ps_fld (pv 0) (pe_callTy c_tupL (by rfl) T.z_tuple (by decide +kernel) (pa_cons (pe_lc (own := [("thing", 5)]) (g := gName 5) (by rfl) sc_World__fill.nd (pi_tup (pv 4)) (blkOk_by (own := [("thing", 5)]) (N := ["self", "tick", "next_id", "luck", "things", "thing"]) (sc := defScope s_World__fill) (by decide +kernel)) (fun _ _ _ _ _ => pg_name (i := 5) sc_World__fill.nd rfl (Or.inl rfl)) (fun _ _ _ _ _ => pts_nil) (fun _ _ _ _ _ => (pe_ix (ix_tupK (K := K) rfl) (pv 5) pe_int (fun _ _ => rfl)))) pa_nil)) rfl)
  (pss_one (ps_fld (pv 0) (pe_dc (own := [("thing", 5)]) (g := gName 5) (by rfl) sc_World__fill.nd (pi_tup (pv 4)) (blkOk_by (own := [("thing", 5)]) (N := ["self", "tick", "next_id", "luck", "things", "thing"]) (sc := defScope s_World__fill) (by decide +kernel)) (fun _ _ _ _ _ => pg_name (i := 5) sc_World__fill.nd rfl (Or.inl rfl)) (fun _ _ _ _ _ => pts_nil) (fun _ _ _ _ _ => (pe_ix (ix_tupK (K := K) rfl) (pv 5) pe_int (fun _ _ => rfl))) (fun _ _ _ _ _ => (pv 5))) rfl))))))), ?_⟩
    have l0 := hf.len
    have cl := T.cl_World
    refine q_fld (ev_var rfl) (ev_var rfl) hp cl T.n_World_tick (by omega) fun H1 e1 => ?_
    have x1 := (Exd.of (p := p) e1).trans (Exd.upd (p := p) (o := .ins T.C_World dx (putF "tick" (.int W.t) fs)))
    have l1 := len_putF "tick" (.int W.t) fs
    generalize hg1 : putF "tick" (.int W.t) fs = f1 at *
    refine q_fld (ev_var rfl) (ev_var rfl) upd_same cl T.n_World_next_id (by omega) fun H2 e2 => ?_
    have x2 := (x1.trans (Exd.of e2)).trans (Exd.upd (p := p) (o := .ins T.C_World dx (putF "next_id" (.int W.n) f1)))
    have l2 := len_putF "next_id" (.int W.n) f1
    generalize hg2 : putF "next_id" (.int W.n) f1 = f2 at *
    refine q_fld (ev_var rfl) (ev_var rfl) upd_same cl T.n_World_luck (by omega) fun H3 e3 => ?_
    have x3 := (x2.trans (Exd.of e3)).trans (Exd.upd (p := p) (o := .ins T.C_World dx (putF "luck" (.int W.l) f2)))
    have l3 := len_putF "luck" (.int W.l) f2
    generalize hg3 : putF "luck" (.int W.l) f2 = f3 at *
    refine q_fld (ev_var rfl) (ev_var rfl) upd_same cl T.n_World_things (by omega) fun H4 e4 => ?_
    have x4 := (x3.trans (Exd.of e4)).trans (Exd.upd (p := p) (o := .ins T.C_World dx (putF "things" (.ref aT) f3)))
    have l4 := len_putF "things" (.ref aT) f3
    generalize hg4 : putF "things" (.ref aT) f3 = f4 at *
    have hT4 := x4.ti hp hT
    have hR4 := hR.ti x4 hp
    refine q_fldU (xs := (Tg.ids W.ts).map V.int) (eu_tupL (by
      have e : (Tg.ids W.ts).map V.int = (W.ts.filter fun _ => true).map (fun t => V.int t.id) := by
        rw [List.filter_eq_self.mpr (fun _ _ => rfl)]
        unfold Tg.ids
        rw [List.map_map]
        rfl
      rw [e]
      exact el_lcTs (fun _ => true) (fun _ t => V.int t.id) (fun t => V.int t.id) (ev_var rfl) hT4 hR4 (by omega) (fun _ => rfl) (fun r t H1 e1 _ _ => et_yes) fun r t H1 e1 hA _ _ => ev_tg0 (ev_var rfl) hA)) (fun _ => ev_var rfl) upd_same cl T.n_World_order (by omega) fun aO H5 _ e5 hO => ?_
    have x5 := (x4.trans (Exd.of e5)).trans (Exd.upd (p := p) (o := .ins T.C_World dx (putF "order" (.ref aO) f4)))
    have l5 := len_putF "order" (.ref aO) f4
    have hpO : aO ≠ p := fun z => by
      have := e5 _ _ (upd_same (H := H4) (a := p) (o := .ins T.C_World dx f4))
      rw [← z, hO] at this
      cases this
    have hO5 : (upd H5 p (.ins T.C_World dx (putF "order" (.ref aO) f4))) aO = some (.tup ((Tg.ids W.ts).map V.int)) := by rw [upd_ne hpO]; exact hO
    generalize hg5 : putF "order" (.ref aO) f4 = f5 at *
    have hT5 := x5.ti hp hT
    have hR5 := hR.ti x5 hp
    have hlen : (rs.map V.ref).length = W.ts.length := by rw [List.length_map, hR.1]
    refine s_fldK (kvs := tab rs W.ts) ?_ (fun _ => ev_var rfl) upd_same cl T.n_World_table (by omega) fun aD H6 _ e6 hD => ?_
    · have e : tab rs W.ts = (fun i => tab (rs.take i) (W.ts.take i)) (rs.map V.ref).length := by
        show _ = tab (rs.take (rs.map V.ref).length) (W.ts.take (rs.map V.ref).length)
        rw [hlen, List.take_of_length_le (by rw [hR.1]; exact Nat.le_refl _), List.take_of_length_le (Nat.le_refl _)]
      rw [e]
      refine ek_dcT (fun i => tab (rs.take i) (W.ts.take i)) rfl (ev_var rfl) hT5 (fun i hi => ?_) (fun _ => rfl) fun i x H7 e7 hx => ?_
      · rw [tab_len _ _ (by rw [List.length_take, List.length_take, hR.1]), List.length_take]
        omega
      · obtain ⟨r, t, rfl, h1, h2, hA7⟩ := hR5.at hx
        refine ⟨.inl t.id, .ref r, ev_tg0 (ev_var rfl) (hA7.ex e7), fun H8 _ => ev_var rfl, ?_⟩
        have e1 := take_succ h1
        have e2 := take_succ h2
        have nd := hA.nodup
        rw [putK_new, e1, e2, tab_app _ _ _ _ (by rw [List.length_take, List.length_take, hR.1])]
        refine tab_no _ _ _ fun t' ht' z => ?_
        have nd' : (Tg.ids (W.ts.take (i + 1))).Nodup := by
          have : (Tg.ids (W.ts.take (i + 1))).Sublist (Tg.ids W.ts) := (List.take_sublist _ _).map _
          exact this.nodup nd
        rw [e2] at nd'
        unfold Tg.ids at nd'
        rw [List.map_append] at nd'
        exact (List.nodup_append.mp nd').2.2 _ (List.mem_map_of_mem ht') _ (List.mem_singleton.mpr rfl) z
    · have x6 := (x5.trans (Exd.of e6)).trans (Exd.upd (p := p) (o := .ins T.C_World dx (putF "table" (.ref aD) f5)))
      have hpD : aD ≠ p := fun z => by
        have := e6 _ _ (upd_same (H := H5) (a := p) (o := .ins T.C_World dx f5))
        rw [← z, hD] at this
        cases this
      refine q _ aO aD x6 ⟨⟨dx, ?_⟩, x6.ti hp hT, hR.ti x6 hp, st_of ?_, by rw [upd_ne hpD]; exact hD⟩
      · rw [upd_same, ← hg5, ← hg4, ← hg3, ← hg2, ← hg1, fs_fin hf]
      · rw [upd_ne hpO]
        exact e6 _ _ hO5
end
end Kz
set_option Elab.async false
set_option linter.all false
set_option maxRecDepth 100000
set_option maxHeartbeats 4000000
set_option exponentiation.threshold 500
namespace Kz
open PySem PySem.Spec PyProof.Rows L2 Evl Vr
local macro_rules | `(tactic| walk_at "sc") => `(tactic| first | (with_reducible assumption) | (with_reducible exact sc_mul (by omega)) | (with_reducible exact sc_mulr (by omega)) | (with_reducible exact sc_div (by omega) (by decide)) | (show (0 : Int) < _; omega) | (show _ ≠ (0 : Int); omega) | (with_reducible rfl) | decide)
local macro_rules | `(tactic| walk_at "sq") => `(tactic| first | assumption | exact sq_of (by assumption) | exact st_of (by assumption))
local macro_rules | `(tactic| walk_at "pl") => `(tactic| first | assumption | exact pl_int | exact pl_bl | exact pl_str | exact pl_non | exact pl_lst (by assumption) | exact pl_tup (by assumption) | exact pl_dK (by assumption))
local macro_rules | `(tactic| walk_at "rv") => `(tactic| first
  | with_reducible exact rv_I0
  | with_reducible exact ru_neg
  | ((with_reducible apply rv_I); walk_at "sc")
  | ((with_reducible apply rv_ixL); walk_at "sq"; first | rfl | assumption)
  | ((with_reducible apply rv_ixT); walk_at "sq"; first | rfl | assumption)
  | ((with_reducible apply rv_eq); rfl) | ((with_reducible apply rv_ne); rfl))
local macro_rules | `(tactic| walk_at "rc") => `(tactic| first
  | with_reducible exact rc_I1 | with_reducible exact rc_B1 | with_reducible exact rc_I2 | ((with_reducible apply rc_repr); walk_at "sc") | ((with_reducible apply rc_lenL); walk_at "sq")
  | ((with_reducible apply rc_isiInt); walk_at "pl") | ((with_reducible apply rc_isiBool); walk_at "pl"))
local macro_rules | `(tactic| walk_at "ea") => `(tactic| first
  | with_reducible exact ea_nil | ((with_reducible apply ea_cons); walk_at "ev"; walk_at "ea"))
local macro_rules | `(tactic| walk_at "pow") => `(tactic| first
  | with_reducible exact ev_pow (a := 10) (b := 9) (c := 1000000000) (by decide +kernel) (by decide +kernel)
  | with_reducible exact ev_pow (a := 10) (b := 10) (c := 10000000000) (by decide +kernel) (by decide +kernel)
  | with_reducible exact ev_pow (a := 10) (b := 12) (c := 1000000000000) (by decide +kernel) (by decide +kernel)
  | with_reducible exact ev_pow (a := 10) (b := 17) (c := 100000000000000000) (by decide +kernel) (by decide +kernel)
  | with_reducible exact ev_pow (a := 10) (b := 20) (c := 100000000000000000000) (by decide +kernel) (by decide +kernel)
  | with_reducible exact ev_pow (a := 10) (b := 29) (c := 100000000000000000000000000000) (by decide +kernel) (by decide +kernel)
  | with_reducible exact ev_pow (a := 10) (b := 30) (c := 1000000000000000000000000000000) (by decide +kernel) (by decide +kernel)
  | with_reducible exact ev_pow (a := 10) (b := 40) (c := 10000000000000000000000000000000000000000) (by decide +kernel) (by decide +kernel)
  | with_reducible exact ev_pow (a := 10) (b := 57) (c := 1000000000000000000000000000000000000000000000000000000000) (by decide +kernel) (by decide +kernel)
  | with_reducible exact ev_pow (a := 10) (b := 58) (c := 10000000000000000000000000000000000000000000000000000000000) (by decide +kernel) (by decide +kernel)
  | with_reducible exact ev_pow (a := 10) (b := 59) (c := 100000000000000000000000000000000000000000000000000000000000) (by decide +kernel) (by decide +kernel)
  | with_reducible exact ev_pow (a := 10) (b := 60) (c := 1000000000000000000000000000000000000000000000000000000000000) (by decide +kernel) (by decide +kernel))
local macro_rules | `(tactic| walk_at "call") => `(tactic| (intro H9 e9; first | exact ⟨_, rfl, rfl⟩ | exact ⟨_, _, rfl, rfl⟩ | exact ⟨_, _, _, rfl, rfl⟩ | exact ⟨_, rfl, by walk_at "pl", rfl⟩ | (refine ⟨_, _, _, rfl, ?_, rfl⟩; first | exact Plain.ex e9 (by assumption) | walk_at "pl") | (refine ⟨_, rfl, ?_, rfl⟩; first | exact Plain.ex e9 (by assumption) | walk_at "pl")))
local macro_rules | `(tactic| walk_at "ev") => `(tactic| first
  | with_reducible exact ev_c
  | exact ev_var rfl
  | walk_at "pow"
  | ((with_reducible apply ev_op); walk_at "ev"; walk_at "ev"; walk_at "rv")
  | ((with_reducible apply ev_un); walk_at "ev"; walk_at "rv")
  | ((with_reducible apply ev_cb); walk_at "ea"; walk_at "rc")
  | ((with_reducible apply ev_callP); walk_at "ea"; walk_at "call")
  | ((with_reducible apply ev_chain); walk_at "ev"; walk_at "ev"; walk_at "rv"; walk_at "ev"; walk_at "rv")
  | ((with_reducible apply ev_andV); walk_at "ev"; intro _; walk_at "ev")
  | ((with_reducible apply ev_orV); walk_at "ev"; intro _; walk_at "ev")
  | ((with_reducible apply ev_ite); walk_at "et"; intro _; walk_at "ev"; intro _; walk_at "ev")
  | ((with_reducible apply ev_notV); walk_at "ev"))
local macro_rules | `(tactic| walk_at "et") => `(tactic| first
  | ((with_reducible apply et_test); walk_at "ev")
  | ((with_reducible apply et_B); walk_at "ev")
  | ((with_reducible apply et_and); walk_at "et"; intro _; walk_at "et")
  | ((with_reducible apply et_or); walk_at "et"; intro _; walk_at "et")
  | ((with_reducible apply et_not); walk_at "et"))
open En Wo
def W0 : Wd := ⟨0, 0, 0, []⟩
/-- a new world -/
def EvW (K : PySem.W.Frag) (C : Addr) (te : TE) (σ : L2.St) (H : Hp) (W : Wd) : Prop := ∀ H1, Ex H H1 → ∀ Q : VK, (∀ p H2, H1 p = none → Ex H1 H2 → WdAt K C H2 p W → Q (.ref p) H2) → te σ H1 Q
/-- promises of defs that answer with a new world -/
def Wnew (K : PySem.W.Frag) (C : Addr) (ok : List V → Hp → Wd → Prop) : Sp := fun vs H Q _ => ∃ W, ok vs H W ∧ ∀ p H', H p = none → Ex H H' → WdAt K C H' p W → Q (.ref p) H'
def spInit (K : PySem.W.Frag) (C : Addr) : Sp := fun vs H Q _ => ∃ (p aT dx : Addr) (W : Wd) (rs : List Addr), vs = [.ref p, .int W.t, .int W.n, .int W.l, .ref aT] ∧ H p = some (.ins C dx []) ∧ W.ok ∧ SqT K H aT (rs.map V.ref) ∧ RsAt K H rs W.ts ∧
  ∀ H' aO aD, Exd p H H' → WAt K C H' p W rs aT aO aD → Q .non H'
section
variable {σ : L2.St} {H : Hp} {te : TE} {ts : TA} {D : Ends} {K : PySem.W.Frag} {C : Addr} {tz : TS} {W : Wd} {E : XK}
theorem ew_make (h : EvAP ts σ H (fun vs H' => ∃ aT, vs = [.int W.t, .int W.n, .int W.l, .ref aT] ∧ TsAt K H' aT W.ts)) (ok : W.ok) : EvW K C (tMake C (spInit K C) [] E ts) σ H W := fun H1 e Q q => h H1 e _ fun vs H2 e2 ⟨aT, hv, rs, hT, hR⟩ x dx hx hdx hne => by
  have hn : (upd H2 dx (.own x)) x = none := by rw [upd_ne (Ne.symm hne)]; exact hx
  have eN : Ex H2 (upd (upd H2 dx (.own x)) x (.ins C dx [])) := (Ex.new hdx).trans (Ex.new hn)
  rw [List.append_nil, hv]
  exact ⟨x, aT, dx, W, rs, rfl, upd_same, ok, ex_t eN hT, hR.ex eN, fun H' aO aD xd hW => ⟨rfl, q x H' (fresh_back e2 hx) (xd.out (e2.trans eN) (fresh_back e2 hx)) ⟨rs, aT, aO, aD, hW⟩⟩⟩
theorem ew_call {ok : List V → Hp → Wd → Prop} {P : List V → Hp → Prop} (h : EvAP ts σ H P) (ho : ∀ vs H1, Ex H H1 → P vs H1 → ok vs H1 W) : EvW K C (tCall (Wnew K C ok) [] E ts) σ H W := fun H1 e Q q => h H1 e _ fun vs H2 e2 hp => by
  show Wnew K C ok (vs ++ []) H2 Q E
  rw [List.append_nil]
  exact ⟨W, ho vs H2 (e.trans e2) hp, fun p H3 hp e3 h3 => q p H3 (fresh_back e2 hp) (e2.trans e3) h3⟩
theorem ap_of {vs : List V} (h : EvA ts σ H vs) : EvAP ts σ H (fun us _ => us = vs) := fun H1 e Q q => h H1 e Q fun H2 e2 => q vs H2 e2 rfl
theorem q_asgW {i : Nat} (h : EvW K C te σ H W) (k : ∀ p H1, H p = none → Ex H H1 → WdAt K C H1 p W → tz D (σ.set i (some (.ref p))) H1) : tSeq (tAsg te (gName i)) tz D σ H := h H (Ex.refl H) _ fun p H1 hp e hW => k p H1 hp e hW
theorem s_retW (h : EvW K C te σ H W) (k : ∀ p H1, H p = none → Ex H H1 → WdAt K C H1 p W → D.rt (.ref p) H1) : tRet te D σ H := h H (Ex.refl H) _ fun p H1 hp e hW => k p H1 hp e hW
end
theorem w0_ok : W0.ok := ⟨⟨by decide, by decide⟩, ⟨by decide, by decide⟩, ⟨by decide, by decide⟩, ⟨by decide, fun _ h => by cases h⟩, List.pairwise_singleton ..⟩
def inW (W : Wd) : V → Bool
  | .int i => decide (i ∈ Tg.ids W.ts)
  | _ => false
theorem tab_some : ∀ (rs : List Addr) (ts : List Tg) (i : Int), rs.length = ts.length → (valV (tab rs ts) (.inl i : Key)).isSome = decide (i ∈ Tg.ids ts)
  | [], [], _, _ => rfl
  | [], _ :: _, _, h => by cases h
  | _ :: _, [], _, h => by cases h
  | r :: rs, t :: ts, i, h => by
    show (valV ((Sum.inl t.id, V.ref r) :: tab rs ts) (.inl i : Key)).isSome = decide (i ∈ t.id :: Tg.ids ts)
    by_cases e : t.id = i
    · rw [valV_pos (by rw [← e])]
      simp [e]
    · rw [valV_neg (fun z => e (Sum.inl.inj z)), tab_some rs ts i (by simpa using h)]
      simp [Ne.symm e]
section
variable {P : Program} {w : World} {K : PySem.W.Frag} {mg : Str → Option Value} {base : Heap}
theorem ok_init (T : Txt K mg w) : FnOk P w K mg base CX0 7 T.a_World___init__ T.fd_World___init__ ["self", "tick", "next_id", "luck", "things"] (spInit K T.C_World) := by
  have G_is_whole := ok_is_whole (P := P) (w := w) (base := base) T
  have G_is_luck := ok_is_luck (P := P) (w := w) (base := base) T
  have G_are_things := ok_are_things (P := P) (w := w) (base := base) T
  have G_are_in_sequence := ok_are_in_sequence (P := P) (w := w) (base := base) T
  have G_World__fill := ok_fill (P := P) (w := w) (base := base) T
  refine T.F_World___init__.ok sc_World___init__ (fun vs H Q E h => ?_) (fun cdv A outer s H vs Q E hr h => ?_)
  · obtain ⟨_, _, _, _, _, rfl, _⟩ := h; rfl
  · obtain ⟨p, aT, dx, W, rs, rfl, hp, ⟨k1, k2, ⟨k3, k4⟩, k5, k6⟩, hT, hR, q⟩ := h
    refine ⟨_, (pss_cons (ps_if (pt_not (PW.pt (pw_and (pt_val (pe_call G_is_whole (hr.mono (by decide)) (by rfl) T.g_is_whole T.F_is_whole.kp T.b_is_whole .nil pass0 (pa_cons (pv 1) pa_nil))) (pw_and (pt_val (pe_call G_is_whole (hr.mono (by decide)) (by rfl) T.g_is_whole T.F_is_whole.kp T.b_is_whole .nil pass0 (pa_cons (pv 2) pa_nil))) (pw_and (pt_val (pe_call G_is_luck (hr.mono (by decide)) (by rfl) T.g_is_luck T.F_is_luck.kp T.b_is_luck .nil pass0 (pa_cons (pv 3) pa_nil))) (pw_and1 (pt_val (pe_call G_are_things (hr.mono (by decide)) (by rfl) T.g_are_things T.F_are_things.kp T.b_are_things .nil pass0 (pa_cons (pv 4) pa_nil))))))))) (pss_one ps_never) pss_nil)
  (pss_cons (ps_if (pt_not (pt_val (pe_call G_are_in_sequence (hr.mono (by decide)) (by rfl) T.g_are_in_sequence T.F_are_in_sequence.kp T.b_are_in_sequence .nil pass0 (pa_cons (pv 4) (pa_cons (pv 2) pa_nil))))) (pss_one ps_never) pss_nil)
  (pss_one (ps_expr (pe_meth (pv 0) T.cl_World T.m_World__fill G_World__fill (hr.mono (by decide)) T.b_World__fill .nil pass0 (pa_cons (pv 1) (pa_cons (pv 2) (pa_cons (pv 3) (pa_cons (pv 4) pa_nil))))))))), ?_⟩
    refine q_when (b := false) (et_is (et_not (et_and (a := true) (b := true) (et_B (ev_callP (vs := [.int W.t]) (by walk_at "ea") fun H1 e1 => ⟨_, rfl, k1, rfl⟩)) fun _ => et_is (et_and (a := true) (b := true) (et_B (ev_callP (vs := [.int W.n]) (by walk_at "ea") fun H1 e1 => ⟨_, rfl, k2, rfl⟩)) fun _ => et_is (et_and (a := true) (b := true) (et_B (ev_callP (vs := [.int W.l]) (by walk_at "ea") fun H1 e1 => ⟨_, rfl, k3, k4, rfl⟩)) fun _ => et_B (ev_callP (vs := [.ref aT]) (by walk_at "ea") fun H1 e1 => ⟨aT, W.ts, rfl, ⟨rs, ex_t e1 hT, hR.ex e1⟩, k5, rfl⟩)) rfl) rfl)) rfl) (fun h => by cases h) fun _ H1 e1 => ?_
    refine q_when (b := false) (et_is (et_not (et_B (b := true) (ev_callP (vs := [.ref aT, .int W.n]) (by walk_at "ea") fun H2 e2 => ⟨aT, W.ts, W.n, rfl, ⟨rs, ex_t (e1.trans e2) hT, hR.ex (e1.trans e2)⟩, k5.1, k6, rfl⟩))) rfl) (fun h => by cases h) fun _ H2 e2 => ?_
    have e2 := e1.trans e2
    exact s_dropM (ev_var rfl) (e2 _ _ hp) rfl (fun H3 e3 => by walk_at "ea") fun H3 e3 => ⟨p, aT, dx, W, rs, [], rfl, (e2.trans e3) _ _ hp, .inl rfl, ex_t (e2.trans e3) hT, hR.ex (e2.trans e3), k5.1, k6, fun H4 aO aD x4 h4 => q H4 aO aD ((Exd.of (e2.trans e3)).trans x4) h4⟩
def kWorldOf (K : PySem.W.Frag) (vs : List V) (H : Hp) (W : Wd) : Prop := ∃ aT, vs = [.int W.t, .int W.n, .int W.l, .ref aT] ∧ TsAt K H aT W.ts ∧ W.ts.length ≤ 12 ∧ Asc W.ts W.n
theorem ok_world_of (T : Txt K mg w) : FnOk P w K mg base CX0 9 T.a_world_of T.fd_world_of ["tick", "next_id", "luck", "things"] (Wnew K T.C_World (kWorldOf K)) := by
  have G_World___init__ := ok_init (P := P) (w := w) (base := base) T
  have G_World__fill := ok_fill (P := P) (w := w) (base := base) T
  refine T.F_world_of.ok sc_world_of (fun vs H Q E h => ?_) (fun cdv A outer s H vs Q E hr h => ?_)
  · obtain ⟨_, ⟨_, rfl, _⟩, _⟩ := h; rfl
  · obtain ⟨W, ⟨aT, rfl, ⟨rs, hT, hR⟩, hl, hA⟩, q⟩ := h
    refine ⟨_, (pss_cons (ps_set (i := 4) sc_world_of.nd rfl (.inl rfl) (pe_make T.mk_World G_World___init__ (hr.mono (by decide)) (by rfl) T.g_World T.b_World___init__ .nil pass0 (pa_cons pe_int (pa_cons pe_int (pa_cons pe_int (pa_cons (pe_tup pa_nil) pa_nil))))))
  (pss_cons (ps_expr (pe_meth (pv 4) T.cl_World T.m_World__fill G_World__fill (hr.mono (by decide)) T.b_World__fill .nil pass0 (pa_cons (pv 0) (pa_cons (pv 1) (pa_cons (pv 2) (pa_cons (pv 3) pa_nil))))))
  (pss_one (ps_ret (pv 4))))), ?_⟩
    refine q_asgW (W := W0) (ew_make ((ap_cons ev_c (ap_cons ev_c (ap_cons ev_c (ap_consU (eu_tup ea_nil (by decide)) ap_nil)))).mono fun vs H1 ⟨_, h1, _, h2, _, h3, t, _, h4, ht, h5⟩ => ⟨t, by rw [h1, h2, h3, h4, h5]; rfl, [], st_of ht, rfl, fun i r t' h _ => by cases h⟩) w0_ok) fun p H1 hp e1 hW => ?_
    obtain ⟨_, _, _, _, ⟨dx, hob⟩, _, _, _, _⟩ := hW
    refine q_dropM (ev_var rfl) hob rfl (fun H3 e3 => by walk_at "ea") fun H3 e3 => ⟨p, aT, dx, W, rs, _, rfl, e3 _ _ hob, .inr ⟨W0, _, _, _, rfl⟩, ex_t (e1.trans e3) hT, hR.ex (e1.trans e3), hl, hA, fun H4 aO aD x4 h4 => ?_⟩
    exact s_ret (ev_var rfl) fun H5 e5 => q p H5 hp ((x4.out (e1.trans e3) hp).trans e5) ⟨rs, aT, aO, aD, h4.ex e5⟩
/-! ### the looks at a world -/
def kIn (K : PySem.W.Frag) (C : Addr) (vs : List V) (H : Hp) (z : V) : Prop := ∃ (p : Addr) (x : V) (W : Wd), vs = [.ref p, x] ∧ WdAt K C H p W ∧ Plain K H x ∧ z = .bl (inW W x)
theorem ok_contains (T : Txt K mg w) : FnOk P w K mg base CX0 1 T.a_World___contains__ T.fd_World___contains__ ["self", "value"] (Pure (kIn K T.C_World)) := by
  refine T.F_World___contains__.ok sc_World___contains__ (fun vs H Q E h => ?_) (fun cdv A outer s H vs Q E hr h => ?_)
  · obtain ⟨_, ⟨_, _, _, rfl, _⟩, _⟩ := h; rfl
  · obtain ⟨_, ⟨p, x, W, rfl, ⟨rs, aT, aO, aD, ⟨dx, hob⟩, hT, hR, hO, hD⟩, hx, rfl⟩, q⟩ := h
    refine ⟨_, (pss_one (ps_ret (pe_and (pe_callB call_isi (by rfl) T.z_isinstance (by decide +kernel) (pa_cons (pv 1) (pa_cons (pe_bltn (v := .ty "int") (by rfl) T.z_int (by decide +kernel) rfl) pa_nil))) (pe_and (pe_not (pe_callB call_isi (by rfl) T.z_isinstance (by decide +kernel) (pa_cons (pv 1) (pa_cons (pe_bltn (v := .ty "bool") (by rfl) T.z_bool (by decide +kernel) rfl) pa_nil)))) (pe_one (pe_cmp (pc_din (hu_of hr) (pv 1) (pe_fld (pv 0) rfl)) rfl)))))), ?_⟩
    refine s_ret (v := .bl (inW W x)) ?_ q
    have i1 : ∀ {H1 σ}, Ex H H1 → σ[1]? = some (some x) → Ev (tCB (rIsi K) (tCons (tVar 1) (tCons (tC (.ty "int")) tNil))) σ H1 (.bl (isIB x)) := fun e h => ev_cb (ea_cons (ev_var h) (ea_cons ev_c ea_nil)) (rc_isiInt (hx.ex e))
    have i2 : ∀ {H1 σ}, Ex H H1 → σ[1]? = some (some x) → Ev (tCB (rIsi K) (tCons (tVar 1) (tCons (tC (.ty "bool")) tNil))) σ H1 (.bl (isB x)) := fun e h => ev_cb (ea_cons (ev_var h) (ea_cons ev_c ea_nil)) (rc_isiBool (hx.ex e))
    cases x with
    | int i =>
      exact ev_is (ev_andV (a := true) (b := decide (i ∈ Tg.ids W.ts)) (i1 (Ex.refl H) rfl) fun _ => ev_is (ev_andV (a := true) (b := decide (i ∈ Tg.ids W.ts)) (ev_is (ev_notV (i2 (Ex.refl H) rfl)) rfl) fun _ => ev_is (ev_din (k := .inl i) (ev_var rfl) (ev_fld (ev_var rfl) hob T.cl_World T.n_World_table rfl) hD) (by rw [tab_some _ _ _ hR.1])) (by simp)) (by simp [inW])
    | bl b => exact ev_is (ev_andV (a := true) (b := false) (i1 (Ex.refl H) rfl) fun _ => ev_is (ev_andV (a := false) (b := false) (ev_is (ev_notV (i2 (Ex.refl H) rfl)) rfl) (fun h => by cases h)) rfl) rfl
    | non => exact ev_is (ev_andV (a := false) (b := false) (i1 (Ex.refl H) rfl) (fun h => by cases h)) rfl
    | str _ => exact ev_is (ev_andV (a := false) (b := false) (i1 (Ex.refl H) rfl) (fun h => by cases h)) rfl
    | byt _ => exact ev_is (ev_andV (a := false) (b := false) (i1 (Ex.refl H) rfl) (fun h => by cases h)) rfl
    | flt _ => exact ev_is (ev_andV (a := false) (b := false) (i1 (Ex.refl H) rfl) (fun h => by cases h)) rfl
    | ref _ => exact ev_is (ev_andV (a := false) (b := false) (i1 (Ex.refl H) rfl) (fun h => by cases h)) rfl
    | ty _ => exact ev_is (ev_andV (a := false) (b := false) (i1 (Ex.refl H) rfl) (fun h => by cases h)) rfl
def kLen (K : PySem.W.Frag) (C : Addr) (vs : List V) (H : Hp) (z : V) : Prop := ∃ (p : Addr) (W : Wd), vs = [.ref p] ∧ WdAt K C H p W ∧ z = .int W.ts.length
theorem ok_len (T : Txt K mg w) : FnOk P w K mg base CX0 1 T.a_World___len__ T.fd_World___len__ ["self"] (Pure (kLen K T.C_World)) := by
  refine T.F_World___len__.ok sc_World___len__ (fun vs H Q E h => ?_) (fun cdv A outer s H vs Q E hr h => ?_)
  · obtain ⟨_, ⟨_, _, rfl, _⟩, _⟩ := h; rfl
  · obtain ⟨_, ⟨p, W, rfl, ⟨rs, aT, aO, aD, ⟨dx, hob⟩, hT, hR, hO, hD⟩, rfl⟩, q⟩ := h
    refine ⟨_, (pss_one (ps_ret (pe_callB c_len (by rfl) T.z_len PySem.boot_len (pa_cons (pe_fld (pv 0) rfl) pa_nil)))), ?_⟩
    refine s_ret (v := .int W.ts.length) (ev_is (ev_cb (vs := [.ref aT]) (ea_cons (ev_fld (ev_var rfl) hob T.cl_World T.n_World_things rfl) ea_nil) (rc_lenT hT)) (by rw [List.length_map, hR.1])) q
end
end Kz
set_option Elab.async false
set_option linter.all false
set_option maxRecDepth 100000
set_option maxHeartbeats 4000000
set_option exponentiation.threshold 500
namespace Kz
open PySem PySem.Spec PyProof.Rows L2 Evl Vr
open Tx NumText
/-! ### numbers as signs -/
def dig (c : Nat) : Bool := decide (48 ≤ c) && decide (c ≤ 57)
theorem dig_iff {c : Nat} : dig c = true ↔ 48 ≤ c ∧ c ≤ 57 := by unfold dig; simp
theorem all_dig {p : List Nat} : p.all dig = true ↔ AllDigits p := by
  rw [List.all_eq_true]
  exact ⟨fun h c hc => dig_iff.mp (h c hc), fun h c hc => dig_iff.mpr (h c hc)⟩
def isCountL (w : List Nat) : Bool := !w.isEmpty && w.all dig && decide (w.length ≤ 4000) && (decide (w = [48]) || decide (w.head? ≠ some 48))
def unsign : List Nat → List Nat
  | c :: r => if c = 45 then r else c :: r
  | [] => []
def intV : List Nat → Int
  | c :: r => if c = 45 then -((digitsVal r : Nat) : Int) else ((digitsVal (c :: r) : Nat) : Int)
  | [] => 0
def isSignedL (w : List Nat) : Bool := !decide (w = [45, 48]) && isCountL (unsign w)
def intL (i : Int) : List Nat := if 0 ≤ i then TL.numL i.toNat else 45 :: TL.numL (-i).toNat
def lawInt (w : List Nat) : Option Int := if unsign w = [] ∨ (unsign w).all dig = false then none else if intL (intV w) = w then some (intV w) else none
theorem val_snoc (p : List Nat) (d : Nat) : digitsVal (p ++ [d]) = digitsVal p * 10 + (d - 48) := by
  unfold digitsVal
  rw [List.foldl_append]
  rfl
theorem num_ten {v d : Nat} (hv : 0 < v) (hd : d < 10) : TL.numL (v * 10 + d) = TL.numL v ++ [48 + d] := by
  rw [TL.numL_step (by omega)]
  have h1 : (v * 10 + d) / 10 = v := by omega
  have h2 : (v * 10 + d) % 10 = d := by omega
  rw [h1, h2]
theorem canon_back : ∀ (n : Nat) (p : List Nat), p.length = n → AllDigits p → p ≠ [] → p.head? ≠ some 48 → TL.numL (digitsVal p) = p ∧ 0 < digitsVal p
  | 0, p, h, _, hn, _ => absurd (List.length_eq_zero_iff.mp h) hn
  | 1, p, h, hd, hn, hh => by
    obtain ⟨c, rfl⟩ := List.length_eq_one_iff.mp h
    have h1 := hd c (List.mem_singleton.mpr rfl)
    have h2 : c ≠ 48 := fun z => hh (by rw [z]; rfl)
    have e : digitsVal [c] = c - 48 := by unfold digitsVal; simp
    rw [e, TL.numL_lt (by omega)]
    exact ⟨by congr 1; omega, by omega⟩
  | n + 2, p, h, hd, hn, hh => by
    obtain ⟨q, d, rfl⟩ : ∃ q d, p = q ++ [d] := ⟨p.dropLast, p.getLast hn, (List.dropLast_concat_getLast hn).symm⟩
    have hq : q.length = n + 1 := by simpa using h
    have hqn : q ≠ [] := fun z => by rw [z] at hq; cases hq
    have hdq : AllDigits q := fun c hc => hd c (List.mem_append_left _ hc)
    have hdd := hd d (List.mem_append_right _ (List.mem_singleton.mpr rfl))
    have hh' : q.head? ≠ some 48 := by
      cases q with
      | nil => exact absurd rfl hqn
      | cons c r => exact hh
    obtain ⟨h1, h2⟩ := canon_back (n + 1) q hq hdq hqn hh'
    rw [val_snoc, num_ten h2 (by omega), h1]
    refine ⟨by congr 2; omega, by omega⟩
theorem num_head : ∀ (n : Nat), (TL.numL n).head? = some 48 → n = 0 := fun n => by
  induction n using Nat.strongRecOn with
  | _ n ih =>
    intro h
    by_cases hn : n < 10
    · rw [TL.numL_lt hn] at h
      have : 48 + n = 48 := Option.some.inj h
      omega
    · rw [TL.numL_step (by omega)] at h
      have h2 := ih (n / 10) (by omega) (by
        cases hx : TL.numL (n / 10) with
        | nil => exact absurd hx (TL.numL_ne _)
        | cons c r => rw [hx] at h; exact h)
      omega
theorem canon_iff {p : List Nat} (hd : AllDigits p) (hn : p ≠ []) : TL.numL (digitsVal p) = p ↔ (p = [48] ∨ p.head? ≠ some 48) := by
  constructor
  · intro h
    by_cases hh : p.head? = some 48
    · left
      rw [← h] at hh
      have h0 := num_head _ hh
      rw [h0, TL.numL_lt (by decide)] at h
      exact h.symm
    · exact .inr hh
  · rintro (rfl | hh)
    · have e : digitsVal [48] = 0 := by decide
      rw [e, TL.numL_lt (by decide)]
    · exact (canon_back _ p rfl hd hn hh).1
theorem count_iff {w : List Nat} (hl : w.length ≤ 4000) : isCountL w = true ↔ w ≠ [] ∧ AllDigits w ∧ TL.numL (digitsVal w) = w := by
  unfold isCountL
  rw [decide_eq_true hl]
  simp only [Bool.and_true, Bool.and_eq_true, Bool.or_eq_true, decide_eq_true_eq, Bool.not_eq_true', List.isEmpty_eq_false_iff, all_dig]
  constructor
  · rintro ⟨⟨h1, h2⟩, h3⟩
    exact ⟨h1, h2, (canon_iff h2 h1).mpr h3⟩
  · rintro ⟨h1, h2, h3⟩
    exact ⟨⟨h1, h2⟩, (canon_iff h2 h1).mp h3⟩
theorem unsign_minus (r : List Nat) : unsign (45 :: r) = r := by simp [unsign]
theorem unsign_of {w : List Nat} (h : w.head? ≠ some 45) : unsign w = w := by
  cases w with
  | nil => rfl
  | cons c r => exact if_neg fun z => h (by rw [z]; rfl)
theorem unsign_len (w : List Nat) : (unsign w).length ≤ w.length := by
  cases w with
  | nil => exact Nat.le_refl _
  | cons c r =>
    show (if c = 45 then r else c :: r).length ≤ _
    split
    · simp
    · exact Nat.le_refl _
theorem intV_minus (r : List Nat) : intV (45 :: r) = -((digitsVal r : Nat) : Int) := by simp [intV]
theorem intV_of {w : List Nat} (h : w.head? ≠ some 45) : intV w = ((digitsVal w : Nat) : Int) := by
  cases w with
  | nil => rfl
  | cons c r => exact if_neg fun z => h (by rw [z]; rfl)
theorem head_dig {w : List Nat} (h : AllDigits w) : w.head? ≠ some 45 := by
  cases w with
  | nil => simp
  | cons c r =>
    intro z
    have := h c (List.mem_cons_self ..)
    have : c = 45 := Option.some.inj z
    omega
theorem lawInt_eq {w : List Nat} (hl : w.length ≤ 4000) : lawInt w = if isSignedL w = true then some (intV w) else none := by
  have hu : (unsign w).length ≤ 4000 := Nat.le_trans (unsign_len w) hl
  have hc := count_iff hu
  unfold lawInt
  by_cases h0 : unsign w = [] ∨ (unsign w).all dig = false
  · rw [if_pos h0, if_neg]
    intro hs
    unfold isSignedL at hs
    have h1 := hc.mp (Bool.and_eq_true_iff.mp hs).2
    rcases h0 with h | h
    · exact h1.1 h
    · rw [all_dig.mpr h1.2.1] at h; cases h
  · rw [if_neg h0]
    have h1 : unsign w ≠ [] := fun z => h0 (.inl z)
    have h2 : AllDigits (unsign w) := all_dig.mp (by
      cases hx : (unsign w).all dig with
      | true => rfl
      | false => exact absurd (Or.inr hx) h0)
    have key : intL (intV w) = w ↔ isSignedL w = true := by
      unfold isSignedL
      rw [Bool.and_eq_true, hc, Bool.not_eq_true', decide_eq_false_iff_not]
      by_cases h45 : w.head? = some 45
      · obtain ⟨r, rfl⟩ : ∃ r, w = 45 :: r := by
          cases w with
          | nil => cases h45
          | cons c r => exact ⟨r, by rw [Option.some.inj h45]⟩
        rw [unsign_minus] at h1 h2 ⊢
        rw [intV_minus]
        unfold intL
        by_cases hv : digitsVal r = 0
        · rw [hv]
          constructor
          · intro z
            have z : TL.numL 0 = 45 :: r := by simpa using z
            rw [TL.numL_lt (by decide)] at z
            have : 48 = 45 := (List.cons.inj z).1
            omega
          · rintro ⟨z1, _, _, z2⟩
            rw [TL.numL_lt (by decide)] at z2
            exact absurd (by rw [← z2]) z1
        · rw [if_neg (by omega)]
          have e : (- -((digitsVal r : Nat) : Int)).toNat = digitsVal r := by omega
          rw [e]
          constructor
          · intro z
            have z := (List.cons.inj z).2
            refine ⟨fun y => hv ?_, h1, h2, z⟩
            have : r = [48] := (List.cons.inj y).2
            rw [this]
            decide
          · rintro ⟨_, _, _, z⟩
            rw [z]
      · rw [unsign_of h45] at h1 h2 ⊢
        rw [intV_of h45]
        unfold intL
        rw [if_pos (by omega), Int.toNat_natCast]
        constructor
        · intro z
          refine ⟨fun y => h45 (by rw [y]; rfl), h1, h2, z⟩
        · rintro ⟨_, _, _, z⟩
          exact z
    by_cases hs : isSignedL w = true
    · rw [if_pos (key.mpr hs), if_pos hs]
    · rw [if_neg fun z => hs (key.mp z), if_neg hs]
/-- counts are the numbers from 0 on -/
theorem count_signed {w : List Nat} (hl : w.length ≤ 4000) : isCountL w = true ↔ isSignedL w = true ∧ 0 ≤ intV w := by
  constructor
  · intro h
    have h1 := (count_iff hl).mp h
    have h45 := head_dig h1.2.1
    refine ⟨?_, by rw [intV_of h45]; omega⟩
    unfold isSignedL
    rw [unsign_of h45, h, decide_eq_false fun y => h45 (by rw [y]; rfl)]
    rfl
  · rintro ⟨hs, hv⟩
    unfold isSignedL at hs
    obtain ⟨h1, h2⟩ := Bool.and_eq_true_iff.mp hs
    by_cases h45 : w.head? = some 45
    · exfalso
      obtain ⟨r, rfl⟩ : ∃ r, w = 45 :: r := by
        cases w with
        | nil => cases h45
        | cons c r => exact ⟨r, by rw [Option.some.inj h45]⟩
      rw [unsign_minus] at h2
      rw [intV_minus] at hv
      have hl' : r.length ≤ 4000 := by simp only [List.length_cons] at hl; omega
      obtain ⟨_, _, h3⟩ := (count_iff hl').mp h2
      have h0 : digitsVal r = 0 := by omega
      rw [h0, TL.numL_lt (by decide)] at h3
      rw [← h3] at h1
      exact absurd h1 (by decide)
    · rw [unsign_of h45] at h2
      exact h2
/-! ### names -/
def isNameL (l : List Nat) : Bool := decide (1 ≤ l.length) && decide (l.length ≤ 8) && l.all fun c => decide (97 ≤ c) && decide (c ≤ 122)
theorem uni128 : ∀ c < 128, Unicode.isAlpha c = (decide (65 ≤ c) && decide (c ≤ 90) || decide (97 ≤ c) && decide (c ≤ 122)) ∧ Unicode.isLower c = (decide (97 ≤ c) && decide (c ≤ 122)) ∧ Unicode.isUpper c = (decide (65 ≤ c) && decide (c ≤ 90)) ∧ Unicode.isTitle c = false ∧ Unicode.isDigit c = dig c := by decide +kernel
theorem name_signs (l : List Nat) (h1 : 1 ≤ l.length) : (Txt.isascii (S l) && (Txt.isalpha (S l) && Txt.islower (S l))) = l.all fun c => decide (97 ≤ c) && decide (c ≤ 122) := by
  have ea : Txt.isascii (S l) = l.all (fun c => decide (c < 128)) := by unfold Txt.isascii; simp [S]
  have el : Txt.isalpha (S l) = (decide (l.length > 0) && l.all Unicode.isAlpha) := by unfold Txt.isalpha; simp [S, Str.length]
  have ew : Txt.islower (S l) = (l.any Unicode.isLower && !l.any fun c => Unicode.isUpper c || Unicode.isTitle c) := by unfold Txt.islower; simp [S]
  rw [ea, el, ew, Bool.eq_iff_iff]
  simp only [Bool.and_eq_true, List.all_eq_true, List.any_eq_true, decide_eq_true_eq, Bool.not_eq_true', List.any_eq_false, Bool.or_eq_true, not_or, Bool.not_eq_true]
  constructor
  · rintro ⟨h2, ⟨_, h3⟩, _, h4⟩ c hc
    obtain ⟨u1, u2, u3, u4, _⟩ := uni128 c (h2 c hc)
    have h3 := h3 c hc
    have h4 := (h4 c hc).1
    rw [u1] at h3
    rw [u3] at h4
    simp only [Bool.or_eq_true, Bool.and_eq_true, decide_eq_true_eq, Bool.and_eq_false_iff, decide_eq_false_iff_not] at h3 h4
    omega
  · intro h
    have hs : ∀ c ∈ l, c < 128 := fun c hc => by have := h c hc; omega
    refine ⟨hs, ⟨by omega, fun c hc => ?_⟩, ?_, fun c hc => ?_⟩
    · rw [(uni128 c (hs c hc)).1]
      have := h c hc
      simp only [Bool.or_eq_true, Bool.and_eq_true, decide_eq_true_eq]
      omega
    · cases l with
      | nil => simp at h1
      | cons c r =>
        have hc := List.mem_cons_self (a := c) (l := r)
        refine ⟨c, hc, ?_⟩
        rw [(uni128 c (hs c hc)).2.1]
        have := h c hc
        simp only [Bool.and_eq_true, decide_eq_true_eq]
        omega
    · obtain ⟨_, _, u3, u4, _⟩ := uni128 c (hs c hc)
      refine ⟨?_, u4⟩
      rw [u3]
      have := h c hc
      simp only [Bool.and_eq_false_iff, decide_eq_false_iff_not]
      omega
theorem count_signs (w : List Nat) : ((Txt.isascii (S w) && Txt.isdigit (S w)) && decide (w.length ≤ 4000)) = (!w.isEmpty && w.all dig && decide (w.length ≤ 4000)) := by
  have ea : Txt.isascii (S w) = w.all (fun c => decide (c < 128)) := by unfold Txt.isascii; simp [S]
  have el : Txt.isdigit (S w) = (decide (w.length > 0) && w.all Unicode.isDigit) := by unfold Txt.isdigit; simp [S, Str.length]
  congr 1
  rw [ea, el, Bool.eq_iff_iff]
  simp only [Bool.and_eq_true, List.all_eq_true, decide_eq_true_eq, Bool.not_eq_true', List.isEmpty_eq_false_iff]
  constructor
  · rintro ⟨h1, h2, h3⟩
    refine ⟨fun z => by rw [z] at h2; simp at h2, fun c hc => ?_⟩
    rw [← (uni128 c (h1 c hc)).2.2.2.2]
    exact h3 c hc
  · rintro ⟨h1, h2⟩
    have hs : ∀ c ∈ w, c < 128 := fun c hc => by have := dig_iff.mp (h2 c hc); omega
    refine ⟨hs, List.length_pos_iff.mpr h1, fun c hc => ?_⟩
    rw [(uni128 c (hs c hc)).2.2.2.2]
    exact h2 c hc
end Kz
set_option Elab.async false
set_option linter.all false
set_option maxRecDepth 100000
set_option maxHeartbeats 4000000
set_option exponentiation.threshold 500
namespace Kz
open PySem PySem.Spec PyProof.Rows L2 Evl Vr
open Tx NumText
def okNs (ns : List Int) : Bool := decide (1 ≤ ns.length) && decide (ns.length ≤ 8) && ns.all fun n => decide (-1000000000 ≤ n) && decide (n ≤ 1000000000)
theorem okNs_iff {ns : List Int} : okNs ns = true ↔ 1 ≤ ns.length ∧ ns.length ≤ 8 ∧ ∀ n ∈ ns, num n := by
  unfold okNs num
  simp [and_assoc]
/-! ### a thing -/
def thingP (t : List Nat) : Option Tg := match splitL 32 t with
  | w0 :: w1 :: rest => if isCountL w0 && isNameL w1 && rest.all isSignedL && okNs (rest.map intV) then some ⟨intV w0, S w1, rest.map intV⟩ else none
  | _ => none
def thingL (t : List Nat) (least : Int) : Option Tg := match splitL 32 t with
  | w0 :: w1 :: rest => match lawInt w0 with
    | none => none
    | some i => if i < least then none else if rest.all (fun w => (lawInt w).isSome) && okNs (rest.map fun w => (lawInt w).getD 0) && isNameL w1 then some ⟨i, S w1, rest.map fun w => (lawInt w).getD 0⟩ else none
  | _ => none
theorem all_law {ws : List (List Nat)} (h : ∀ w ∈ ws, w.length ≤ 4000) : (ws.all fun w => (lawInt w).isSome) = ws.all isSignedL := by
  induction ws with
  | nil => rfl
  | cons w r ih =>
    rw [List.all_cons, List.all_cons, ih fun x hx => h x (List.mem_cons_of_mem _ hx), lawInt_eq (h w (List.mem_cons_self ..))]
    cases hs : isSignedL w <;> simp
theorem map_law {ws : List (List Nat)} (h : ∀ w ∈ ws, w.length ≤ 4000) (hs : ws.all isSignedL = true) : (ws.map fun w => (lawInt w).getD 0) = ws.map intV := by
  refine List.map_congr_left fun w hw => ?_
  rw [lawInt_eq (h w hw), if_pos (List.all_eq_true.mp hs w hw)]
  rfl
theorem word_len {t w : List Nat} {c n : Nat} (h : t.length ≤ n) (hw : w ∈ splitL c t) : w.length ≤ n := Nat.le_trans (splitL_infix c t w hw).length_le h
theorem thingL_eq {t : List Nat} {least : Int} (hl : t.length ≤ 4000) (h0 : 0 ≤ least) : thingL t least = match thingP t with
    | some g => if least ≤ g.id then some g else none
    | none => none := by
  unfold thingL thingP
  have hw : ∀ w ∈ splitL 32 t, w.length ≤ 4000 := fun w h => word_len hl h
  match hs : splitL 32 t with
  | [] => rfl
  | [w0] => rfl
  | w0 :: w1 :: rest =>
    rw [hs] at hw
    have h00 := hw w0 (List.mem_cons_self ..)
    have hr : ∀ w ∈ rest, w.length ≤ 4000 := fun w h => hw w (List.mem_cons_of_mem _ (List.mem_cons_of_mem _ h))
    have hc := count_signed h00
    dsimp only
    rw [lawInt_eq h00, all_law hr]
    cases h1 : isSignedL w0 with
    | false =>
      have : isCountL w0 = false := by
        cases hx : isCountL w0 with
        | false => rfl
        | true => rw [(hc.mp hx).1] at h1; cases h1
      rw [this]
      simp
    | true =>
      simp only [if_true]
      cases h2 : rest.all isSignedL with
      | false => simp
      | true =>
        rw [map_law hr h2]
        by_cases h3 : intV w0 < least
        · rw [if_pos h3]
          split
          · rename_i g hg
            split at hg
            · cases hg
              rw [if_neg (by show ¬ least ≤ intV w0; omega)]
            · cases hg
          · rfl
        · rw [if_neg h3]
          have h4 : isCountL w0 = true := hc.mpr ⟨h1, by omega⟩
          rw [h4]
          cases h5 : isNameL w1 <;> cases h6 : okNs (rest.map intV) <;> simp <;> omega
/-! ### a row of things -/
def allP : List (List Nat) → Option (List Tg)
  | [] => some []
  | p :: ps => match thingP p, allP ps with
    | some g, some gs => some (g :: gs)
    | _, _ => none
def goL : List (List Nat) → Int → Option (List Tg × Int)
  | [], least => some ([], least)
  | p :: ps, least => match thingL p least with
    | none => none
    | some g => match goL ps (g.id + 1) with
      | none => none
      | some (gs, m) => some (g :: gs, m)
def chain : Int → List Tg → Int → Prop
  | l, [], m => m = l
  | l, t :: ts, m => l ≤ t.id ∧ chain (t.id + 1) ts m
theorem thingP_id {p : List Nat} {g : Tg} (hl : p.length ≤ 4000) (h : thingP p = some g) : 0 ≤ g.id := by
  unfold thingP at h
  have hw : ∀ w ∈ splitL 32 p, w.length ≤ 4000 := fun w h => word_len hl h
  split at h
  · rename_i w0 w1 rest hs
    split at h
    · rename_i hb
      cases h
      simp only [Bool.and_eq_true] at hb
      exact ((count_signed (hw w0 (by rw [hs]; exact List.mem_cons_self ..))).mp hb.1.1.1).2
    · cases h
  · cases h
theorem goL_all : ∀ (ps : List (List Nat)) (l : Int) (ts : List Tg) (m : Int), (∀ p ∈ ps, p.length ≤ 4000) → 0 ≤ l → (goL ps l = some (ts, m) ↔ allP ps = some ts ∧ chain l ts m)
  | [], l, ts, m, _, _ => by
    show some ([], l) = some (ts, m) ↔ some [] = some ts ∧ _
    constructor
    · intro h
      cases h
      exact ⟨rfl, rfl⟩
    · rintro ⟨h1, h2⟩
      cases h1
      have h2 : m = l := h2
      rw [h2]
  | p :: ps, l, ts, m, hp, hl => by
    have hp0 := hp p (List.mem_cons_self ..)
    have hps : ∀ q ∈ ps, q.length ≤ 4000 := fun q h => hp q (List.mem_cons_of_mem _ h)
    show (match thingL p l with
      | none => none
      | some g => match goL ps (g.id + 1) with
        | none => none
        | some (gs, m) => some (g :: gs, m)) = some (ts, m) ↔ (match thingP p, allP ps with
      | some g, some gs => some (g :: gs)
      | _, _ => none) = some ts ∧ _
    rw [thingL_eq hp0 hl]
    cases hg : thingP p with
    | none => simp
    | some g =>
      have hid := thingP_id hp0 hg
      dsimp only
      by_cases hlg : l ≤ g.id
      · rw [if_pos hlg]
        dsimp only
        cases hG : goL ps (g.id + 1) with
        | none =>
          dsimp only
          constructor
          · intro h; cases h
          · rintro ⟨h1, h2⟩
            cases hA : allP ps with
            | none => rw [hA] at h1; cases h1
            | some gs =>
              rw [hA] at h1
              cases h1
              have := (goL_all ps (g.id + 1) gs m hps (by omega)).mpr ⟨hA, h2.2⟩
              rw [hG] at this
              cases this
        | some r =>
          obtain ⟨gs, m'⟩ := r
          have h3 := (goL_all ps (g.id + 1) gs m' hps (by omega)).mp hG
          dsimp only
          rw [h3.1]
          dsimp only
          constructor
          · intro h
            cases h
            exact ⟨rfl, hlg, h3.2⟩
          · rintro ⟨h1, h2⟩
            cases h1
            have := (goL_all ps (g.id + 1) gs m hps (by omega)).mpr ⟨h3.1, h2.2⟩
            rw [hG] at this
            cases this
            rfl
      · rw [if_neg hlg]
        constructor
        · intro h; cases h
        · rintro ⟨h1, h2⟩
          cases hA : allP ps with
          | none => rw [hA] at h1; cases h1
          | some gs =>
            rw [hA] at h1
            cases h1
            exact absurd h2.1 hlg
theorem asc_cons {t : Tg} {ts : List Tg} {n : Int} : Asc (t :: ts) n ↔ (∀ x ∈ Tg.ids ts ++ [n], t.id < x) ∧ Asc ts n := by
  show ((t.id :: (Tg.ids ts ++ [n])).Pairwise (· < ·)) ↔ _
  rw [List.pairwise_cons]
  rfl
theorem chain_asc : ∀ (ts : List Tg) (l n : Int), (∃ m, chain l ts m ∧ m ≤ n) ↔ Asc ts n ∧ (∀ x ∈ Tg.ids ts ++ [n], l ≤ x)
  | [], l, n => by
    constructor
    · rintro ⟨m, h1, h2⟩
      have h1 : m = l := h1
      refine ⟨List.pairwise_singleton .., fun x hx => ?_⟩
      have hx : x ∈ [n] := hx
      rw [List.mem_singleton.mp hx]
      omega
    · rintro ⟨_, h⟩
      exact ⟨l, rfl, h n (by show n ∈ [n]; simp)⟩
  | t :: ts, l, n => by
    have ih := chain_asc ts (t.id + 1) n
    rw [asc_cons]
    constructor
    · rintro ⟨m, ⟨h1, h2⟩, h3⟩
      obtain ⟨h4, h5⟩ := ih.mp ⟨m, h2, h3⟩
      refine ⟨⟨fun x hx => by have := h5 x hx; omega, h4⟩, fun x hx => ?_⟩
      rcases List.mem_cons.mp (show x ∈ t.id :: (Tg.ids ts ++ [n]) from hx) with rfl | hx
      · exact h1
      · have := h5 x hx; omega
    · rintro ⟨⟨h1, h2⟩, h3⟩
      obtain ⟨m, h4, h5⟩ := ih.mpr ⟨h2, fun x hx => by have := h1 x hx; omega⟩
      exact ⟨m, ⟨h3 t.id (by show t.id ∈ t.id :: (Tg.ids ts ++ [n]); simp), h4⟩, h5⟩
theorem allP_len : ∀ {ps : List (List Nat)} {ts : List Tg}, allP ps = some ts → ts.length = ps.length
  | [], ts, h => by cases h; rfl
  | p :: ps, ts, h => by
    unfold allP at h
    split at h
    · rename_i g gs h1 h2
      cases h
      rw [List.length_cons, List.length_cons, allP_len h2]
    · cases h
theorem allP_id : ∀ {ps : List (List Nat)} {ts : List Tg}, (∀ p ∈ ps, p.length ≤ 4000) → allP ps = some ts → ∀ t ∈ ts, 0 ≤ t.id
  | [], ts, _, h => by cases h; intro t ht; cases ht
  | p :: ps, ts, hp, h => by
    unfold allP at h
    split at h
    · rename_i g gs h1 h2
      cases h
      intro t ht
      rcases List.mem_cons.mp ht with rfl | ht
      · exact thingP_id (hp p (List.mem_cons_self ..)) h1
      · exact allP_id (fun q hq => hp q (List.mem_cons_of_mem _ hq)) h2 t ht
    · cases h
/-! ### a world -/
instance (ts : List Tg) (n : Int) : Decidable (Asc ts n) := by unfold Asc; infer_instance
def worldP (z : List Nat) : Option Wd := match splitL 59 z with
  | [] => none
  | h :: ps => match splitL 32 h with
    | [a, b, c] => match allP ps with
      | none => none
      | some ts => if isCountL a && isCountL b && isCountL c && decide (intV c < 999999937) && decide (ps.length ≤ 12) && decide (Asc ts (intV b)) then some ⟨intV a, intV b, intV c, ts⟩ else none
    | _ => none
def worldL (z : List Nat) : Option Wd := match splitL 59 z with
  | [] => none
  | h :: ps => match (splitL 32 h).map lawInt with
    | [some a, some b, some c] => if a < 0 ∨ b < 0 ∨ c < 0 ∨ c > 999999936 ∨ 12 < ps.length then none else match goL ps 0 with
      | none => none
      | some (ts, m) => if m ≤ b then some ⟨a, b, c, ts⟩ else none
    | _ => none
theorem law_some {w : List Nat} (hl : w.length ≤ 4000) : (isSignedL w = true ∧ lawInt w = some (intV w)) ∨ (isSignedL w = false ∧ isCountL w = false ∧ lawInt w = none) := by
  have h := lawInt_eq hl
  cases hs : isSignedL w with
  | true =>
    rw [hs, if_pos rfl] at h
    exact .inl ⟨rfl, h⟩
  | false =>
    rw [hs] at h
    refine .inr ⟨rfl, ?_, by rw [h]; simp⟩
    cases hx : isCountL w with
    | false => rfl
    | true => rw [((count_signed hl).mp hx).1] at hs; cases hs
theorem worldL_eq {z : List Nat} (hz : z.length ≤ 4000) : worldL z = worldP z := by
  unfold worldL worldP
  have hparts : ∀ p ∈ splitL 59 z, p.length ≤ 4000 := fun p h => word_len hz h
  match hs : splitL 59 z with
  | [] => rfl
  | h :: ps =>
    rw [hs] at hparts
    have hh := hparts h (List.mem_cons_self ..)
    have hps : ∀ p ∈ ps, p.length ≤ 4000 := fun p hp => hparts p (List.mem_cons_of_mem _ hp)
    have hw : ∀ w ∈ splitL 32 h, w.length ≤ 4000 := fun w h => word_len hh h
    dsimp only
    match hs2 : splitL 32 h with
    | [] => rfl
    | [a] => simp
    | [a, b] => simp
    | a :: b :: c :: d :: r => simp
    | [a, b, c] =>
      rw [hs2] at hw
      have ha := hw a (by simp)
      have hb := hw b (by simp)
      have hc := hw c (by simp)
      have ca := count_signed ha
      have cb := count_signed hb
      have cc := count_signed hc
      rw [List.map_cons, List.map_cons, List.map_cons, List.map_nil]
      rcases law_some ha with ⟨sa, la⟩ | ⟨sa, ka, la⟩
      · rcases law_some hb with ⟨sb, lb⟩ | ⟨sb, kb, lb⟩
        · rcases law_some hc with ⟨sc, lc⟩ | ⟨sc, kc, lc⟩
          · rw [la, lb, lc]
            dsimp only
            by_cases hbad : intV a < 0 ∨ intV b < 0 ∨ intV c < 0 ∨ intV c > 999999936 ∨ 12 < ps.length
            · rw [if_pos hbad]
              cases hA : allP ps with
              | none => rfl
              | some ts =>
                dsimp only
                rw [if_neg]
                simp only [Bool.and_eq_true, decide_eq_true_eq]
                rintro ⟨⟨⟨⟨⟨h1, h2⟩, h3⟩, h4⟩, h5⟩, _⟩
                have := (ca.mp h1).2
                have := (cb.mp h2).2
                have := (cc.mp h3).2
                omega
            · rw [if_neg hbad]
              have h1 : isCountL a = true := ca.mpr ⟨sa, by omega⟩
              have h2 : isCountL b = true := cb.mpr ⟨sb, by omega⟩
              have h3 : isCountL c = true := cc.mpr ⟨sc, by omega⟩
              rw [h1, h2, h3, decide_eq_true (show intV c < 999999937 by omega), decide_eq_true (show ps.length ≤ 12 by omega)]
              cases hG : goL ps 0 with
              | none =>
                cases hA : allP ps with
                | none => rfl
                | some ts =>
                  dsimp only
                  rw [if_neg]
                  simp only [Bool.true_and, decide_eq_true_eq]
                  intro hasc
                  obtain ⟨m, hm, _⟩ := (chain_asc ts 0 (intV b)).mpr ⟨hasc, fun x hx => by
                    rcases List.mem_append.mp hx with hx | hx
                    · obtain ⟨t, ht, rfl⟩ := List.mem_map.mp hx
                      exact allP_id hps hA t ht
                    · rw [List.mem_singleton.mp hx]; omega⟩
                  have := (goL_all ps 0 ts m hps (by omega)).mpr ⟨hA, hm⟩
                  rw [hG] at this
                  cases this
              | some r =>
                obtain ⟨ts, m⟩ := r
                obtain ⟨hA, hm⟩ := (goL_all ps 0 ts m hps (by omega)).mp hG
                rw [hA]
                dsimp only
                simp only [Bool.true_and, decide_eq_true_eq]
                have key : m ≤ intV b ↔ Asc ts (intV b) := by
                  constructor
                  · intro h
                    exact ((chain_asc ts 0 (intV b)).mp ⟨m, hm, h⟩).1
                  · intro h
                    obtain ⟨m', hm', h'⟩ := (chain_asc ts 0 (intV b)).mpr ⟨h, fun x hx => by
                      rcases List.mem_append.mp hx with hx | hx
                      · obtain ⟨t, ht, rfl⟩ := List.mem_map.mp hx
                        exact allP_id hps hA t ht
                      · rw [List.mem_singleton.mp hx]; omega⟩
                    have h1 := (goL_all ps 0 ts m' hps (by omega)).mpr ⟨hA, hm'⟩
                    rw [hG] at h1
                    cases h1
                    exact h'
                by_cases hm2 : m ≤ intV b
                · rw [if_pos hm2, if_pos (key.mp hm2)]
                · rw [if_neg hm2, if_neg fun z => hm2 (key.mpr z)]
          · rw [la, lb, lc]
            dsimp only
            rw [kc]
            cases allP ps <;> simp
        · rw [la, lb]
          dsimp only
          rw [kb]
          cases allP ps <;> simp
      · rw [la]
        dsimp only
        rw [ka]
        cases allP ps <;> simp
/-! ### writing -/
def thingW (t : Tg) : List Nat := joinL 32 (intL t.id :: t.kd.cps.toList :: t.ns.map intL)
def worldW (W : Wd) : List Nat := joinL 59 (joinL 32 [intL W.t, intL W.n, intL W.l] :: W.ts.map thingW)
theorem intL_free {i : Int} {c : Nat} (h : c < 45 ∨ 57 < c) : c ∉ intL i := by
  unfold intL
  split
  · exact TL.numL_free (by omega)
  · intro z
    rcases List.mem_cons.mp z with e | z
    · omega
    · exact TL.numL_free (by omega) z
theorem intL_len {i : Int} (h : i.natAbs < 10 ^ 62) : (intL i).length ≤ 63 := by
  unfold intL
  split
  · have := TL.numL_len (n := i.toNat) (k := 62) (by decide) (by omega)
    omega
  · have := TL.numL_len (n := (-i).toNat) (k := 62) (by decide) (by omega)
    simp only [List.length_cons]
    omega
theorem intV_intL (i : Int) : intV (intL i) = i := by
  unfold intL
  split
  · rw [intV_of (head_dig (TL.numL_digits _)), TL.numL_val]; omega
  · rw [intV_minus, TL.numL_val]; omega
theorem law_intL (i : Int) : lawInt (intL i) = some i := by
  have h1 : ∃ n, unsign (intL i) = TL.numL n := by
    unfold intL
    split
    · exact ⟨_, unsign_of (head_dig (TL.numL_digits _))⟩
    · exact ⟨_, unsign_minus _⟩
  obtain ⟨n, hn⟩ := h1
  unfold lawInt
  rw [hn, if_neg, intV_intL, if_pos rfl]
  rintro (h | h)
  · exact TL.numL_ne _ h
  · rw [all_dig.mpr (TL.numL_digits n)] at h; cases h
theorem signed_intL {i : Int} (h : i.natAbs < 10 ^ 62) : isSignedL (intL i) = true := by
  have h1 := intL_len h
  rcases law_some (w := intL i) (by omega) with h | h
  · exact h.1
  · rw [law_intL] at h; cases h.2.2
theorem count_intL {i : Int} (h0 : 0 ≤ i) (h : i.natAbs < 10 ^ 62) : isCountL (intL i) = true := by
  have h1 := intL_len h
  exact (count_signed (by omega)).mpr ⟨signed_intL h, by rw [intV_intL]; exact h0⟩
def nameL (z : Str) : Prop := isNameL z.cps.toList = true
theorem nameL_free {z : Str} (h : nameL z) {c : Nat} (hc : c < 97) : c ∉ z.cps.toList := by
  unfold nameL isNameL at h
  simp only [Bool.and_eq_true, List.all_eq_true, decide_eq_true_eq] at h
  intro hm
  have := h.2 c hm
  omega
structure TgW (t : Tg) : Prop where
  i0 : 0 ≤ t.id
  i1 : t.id.natAbs < 10 ^ 62
  nm : nameL t.kd
  ns : 1 ≤ t.ns.length ∧ t.ns.length ≤ 8 ∧ ∀ n ∈ t.ns, num n
theorem num_abs {n : Int} (h : num n) : n.natAbs < 10 ^ 62 := by
  unfold num at h
  have : (10 : Nat) ^ 62 = 100000000000000000000000000000000000000000000000000000000000000 := by decide +kernel
  omega
theorem thingW_words {t : Tg} (h : TgW t) : splitL 32 (thingW t) = intL t.id :: t.kd.cps.toList :: t.ns.map intL := by
  refine split_joinL (by simp) fun p hp => ?_
  rcases List.mem_cons.mp hp with rfl | hp
  · exact intL_free (by omega)
  · rcases List.mem_cons.mp hp with rfl | hp
    · exact nameL_free h.nm (by omega)
    · obtain ⟨n, _, rfl⟩ := List.mem_map.mp hp
      exact intL_free (by omega)
theorem thing_back {t : Tg} (h : TgW t) : thingP (thingW t) = some t := by
  unfold thingP
  rw [thingW_words h]
  dsimp only
  have h1 : (t.ns.map intL).map intV = t.ns := by
    rw [List.map_map]
    conv => rhs; rw [← List.map_id t.ns]
    exact List.map_congr_left fun n _ => intV_intL n
  have h2 : (t.ns.map intL).all isSignedL = true := by
    rw [List.all_eq_true]
    intro w hw
    obtain ⟨n, hn, rfl⟩ := List.mem_map.mp hw
    exact signed_intL (num_abs (h.ns.2.2 n hn))
  rw [h1, h2, count_intL h.i0 h.i1, show isNameL t.kd.cps.toList = true from h.nm, okNs_iff.mpr h.ns, intV_intL, S_of]
  rfl
theorem joinL_free {c d : Nat} (hcd : c ≠ d) : ∀ {ps : List (List Nat)}, (∀ p ∈ ps, d ∉ p) → d ∉ joinL c ps
  | [], _ => by simp [joinL]
  | [p], h => h p (List.mem_cons_self ..)
  | p :: q :: r, h => by
    show d ∉ p ++ c :: joinL c (q :: r)
    rw [List.mem_append, List.mem_cons, not_or, not_or]
    exact ⟨h p (List.mem_cons_self ..), fun z => hcd z.symm, joinL_free hcd fun x hx => h x (List.mem_cons_of_mem _ hx)⟩
theorem allP_back : ∀ {ts : List Tg}, (∀ t ∈ ts, TgW t) → allP (ts.map thingW) = some ts
  | [], _ => rfl
  | t :: ts, h => by
    show (match thingP (thingW t), allP (ts.map thingW) with
      | some g, some gs => some (g :: gs)
      | _, _ => none) = _
    rw [thing_back (h t (List.mem_cons_self ..)), allP_back fun x hx => h x (List.mem_cons_of_mem _ hx)]
structure WdW (W : Wd) : Prop where
  t0 : 0 ≤ W.t
  t1 : W.t.natAbs < 10 ^ 62
  n0 : 0 ≤ W.n
  n1 : W.n.natAbs < 10 ^ 62
  l0 : 0 ≤ W.l
  l1 : W.l < 999999937
  len : W.ts.length ≤ 12
  tg : ∀ t ∈ W.ts, TgW t
  asc : Asc W.ts W.n
theorem worldW_parts {W : Wd} (h : WdW W) : splitL 59 (worldW W) = joinL 32 [intL W.t, intL W.n, intL W.l] :: W.ts.map thingW := by
  refine split_joinL (by simp) fun p hp => ?_
  rcases List.mem_cons.mp hp with rfl | hp
  · refine joinL_free (by omega) fun p hp => ?_
    simp only [List.mem_cons, List.not_mem_nil, or_false] at hp
    rcases hp with rfl | rfl | rfl <;> exact intL_free (by omega)
  · obtain ⟨t, ht, rfl⟩ := List.mem_map.mp hp
    refine joinL_free (by omega) fun p hp => ?_
    rcases List.mem_cons.mp hp with rfl | hp
    · exact intL_free (by omega)
    · rcases List.mem_cons.mp hp with rfl | hp
      · exact nameL_free (h.tg t ht).nm (by omega)
      · obtain ⟨n, _, rfl⟩ := List.mem_map.mp hp
        exact intL_free (by omega)
theorem world_back {W : Wd} (h : WdW W) : worldP (worldW W) = some W := by
  unfold worldP
  rw [worldW_parts h]
  dsimp only
  have hs : splitL 32 (joinL 32 [intL W.t, intL W.n, intL W.l]) = [intL W.t, intL W.n, intL W.l] := by
    refine split_joinL (by simp) fun p hp => ?_
    simp only [List.mem_cons, List.not_mem_nil, or_false] at hp
    rcases hp with rfl | rfl | rfl <;> exact intL_free (by omega)
  have hl : W.l.natAbs < 10 ^ 62 := by
    have : (10 : Nat) ^ 62 = 100000000000000000000000000000000000000000000000000000000000000 := by decide +kernel
    have := h.l0
    have := h.l1
    omega
  rw [hs]
  dsimp only
  rw [allP_back h.tg]
  dsimp only
  rw [count_intL h.t0 h.t1, count_intL h.n0 h.n1, count_intL h.l0 hl, intV_intL, intV_intL, intV_intL, List.length_map, decide_eq_true h.l1, decide_eq_true h.len, decide_eq_true h.asc]
  rfl
theorem worldW_inj {W W' : Wd} (h : WdW W) (h' : WdW W') (e : worldW W = worldW W') : W = W' := by
  have h1 := world_back h
  rw [e, world_back h'] at h1
  exact (Option.some.inj h1).symm
end Kz
set_option Elab.async false
set_option linter.all false
set_option maxRecDepth 100000
set_option maxHeartbeats 4000000
set_option exponentiation.threshold 500
namespace Kz
open PySem PySem.Spec PyProof.Rows L2 Evl Vr
local macro_rules | `(tactic| walk_at "sc") => `(tactic| first | (with_reducible assumption) | (with_reducible exact sc_mul (by omega)) | (with_reducible exact sc_mulr (by omega)) | (with_reducible exact sc_div (by omega) (by decide)) | (show (0 : Int) < _; omega) | (show _ ≠ (0 : Int); omega) | (with_reducible rfl) | decide)
local macro_rules | `(tactic| walk_at "sq") => `(tactic| first | assumption | exact sq_of (by assumption) | exact st_of (by assumption))
local macro_rules | `(tactic| walk_at "pl") => `(tactic| first | assumption | exact pl_int | exact pl_bl | exact pl_str | exact pl_non | exact pl_lst (by assumption) | exact pl_tup (by assumption) | exact pl_dK (by assumption))
local macro_rules | `(tactic| walk_at "rv") => `(tactic| first
  | with_reducible exact rv_I0
  | with_reducible exact ru_neg
  | ((with_reducible apply rv_I); walk_at "sc")
  | ((with_reducible apply rv_ixL); walk_at "sq"; first | rfl | assumption)
  | ((with_reducible apply rv_ixT); walk_at "sq"; first | rfl | assumption)
  | ((with_reducible apply rv_eq); rfl) | ((with_reducible apply rv_ne); rfl))
local macro_rules | `(tactic| walk_at "rc") => `(tactic| first
  | with_reducible exact rc_I1 | with_reducible exact rc_B1 | with_reducible exact rc_I2 | ((with_reducible apply rc_repr); walk_at "sc") | ((with_reducible apply rc_lenL); walk_at "sq")
  | ((with_reducible apply rc_isiInt); walk_at "pl") | ((with_reducible apply rc_isiBool); walk_at "pl"))
local macro_rules | `(tactic| walk_at "ea") => `(tactic| first
  | with_reducible exact ea_nil | ((with_reducible apply ea_cons); walk_at "ev"; walk_at "ea"))
local macro_rules | `(tactic| walk_at "pow") => `(tactic| first
  | with_reducible exact ev_pow (a := 10) (b := 9) (c := 1000000000) (by decide +kernel) (by decide +kernel)
  | with_reducible exact ev_pow (a := 10) (b := 10) (c := 10000000000) (by decide +kernel) (by decide +kernel)
  | with_reducible exact ev_pow (a := 10) (b := 12) (c := 1000000000000) (by decide +kernel) (by decide +kernel)
  | with_reducible exact ev_pow (a := 10) (b := 17) (c := 100000000000000000) (by decide +kernel) (by decide +kernel)
  | with_reducible exact ev_pow (a := 10) (b := 20) (c := 100000000000000000000) (by decide +kernel) (by decide +kernel)
  | with_reducible exact ev_pow (a := 10) (b := 29) (c := 100000000000000000000000000000) (by decide +kernel) (by decide +kernel)
  | with_reducible exact ev_pow (a := 10) (b := 30) (c := 1000000000000000000000000000000) (by decide +kernel) (by decide +kernel)
  | with_reducible exact ev_pow (a := 10) (b := 40) (c := 10000000000000000000000000000000000000000) (by decide +kernel) (by decide +kernel)
  | with_reducible exact ev_pow (a := 10) (b := 57) (c := 1000000000000000000000000000000000000000000000000000000000) (by decide +kernel) (by decide +kernel)
  | with_reducible exact ev_pow (a := 10) (b := 58) (c := 10000000000000000000000000000000000000000000000000000000000) (by decide +kernel) (by decide +kernel)
  | with_reducible exact ev_pow (a := 10) (b := 59) (c := 100000000000000000000000000000000000000000000000000000000000) (by decide +kernel) (by decide +kernel)
  | with_reducible exact ev_pow (a := 10) (b := 60) (c := 1000000000000000000000000000000000000000000000000000000000000) (by decide +kernel) (by decide +kernel))
local macro_rules | `(tactic| walk_at "call") => `(tactic| (intro H9 e9; first | exact ⟨_, rfl, rfl⟩ | exact ⟨_, _, rfl, rfl⟩ | exact ⟨_, _, _, rfl, rfl⟩ | exact ⟨_, rfl, by walk_at "pl", rfl⟩ | (refine ⟨_, _, _, rfl, ?_, rfl⟩; first | exact Plain.ex e9 (by assumption) | walk_at "pl") | (refine ⟨_, rfl, ?_, rfl⟩; first | exact Plain.ex e9 (by assumption) | walk_at "pl")))
local macro_rules | `(tactic| walk_at "ev") => `(tactic| first
  | with_reducible exact ev_c
  | exact ev_var rfl
  | walk_at "pow"
  | ((with_reducible apply ev_op); walk_at "ev"; walk_at "ev"; walk_at "rv")
  | ((with_reducible apply ev_un); walk_at "ev"; walk_at "rv")
  | ((with_reducible apply ev_cb); walk_at "ea"; walk_at "rc")
  | ((with_reducible apply ev_callP); walk_at "ea"; walk_at "call")
  | ((with_reducible apply ev_chain); walk_at "ev"; walk_at "ev"; walk_at "rv"; walk_at "ev"; walk_at "rv")
  | ((with_reducible apply ev_andV); walk_at "ev"; intro _; walk_at "ev")
  | ((with_reducible apply ev_orV); walk_at "ev"; intro _; walk_at "ev")
  | ((with_reducible apply ev_ite); walk_at "et"; intro _; walk_at "ev"; intro _; walk_at "ev")
  | ((with_reducible apply ev_notV); walk_at "ev"))
local macro_rules | `(tactic| walk_at "et") => `(tactic| first
  | ((with_reducible apply et_test); walk_at "ev")
  | ((with_reducible apply et_B); walk_at "ev")
  | ((with_reducible apply et_and); walk_at "et"; intro _; walk_at "et")
  | ((with_reducible apply et_or); walk_at "et"; intro _; walk_at "et")
  | ((with_reducible apply et_not); walk_at "et"))
open En Wo Tx NumText
theorem eq_vS (a b : List Nat) : decide (vS a = vS b) = decide (a = b) := by
  by_cases h : a = b
  · subst h; simp
  · rw [decide_eq_false h, decide_eq_false fun z => h (S_inj (V.str.inj z))]
theorem s_zero : V.str "0" = vS [48] := by decide +kernel
theorem s_minus : V.str "-" = vS [45] := by decide +kernel
theorem s_mz : V.str "-0" = vS [45, 48] := by decide +kernel
theorem s_empty : V.str "" = vS [] := by decide +kernel
theorem s_blank : V.str " " = vS [32] := by decide +kernel
theorem s_semi : V.str ";" = vS [59] := by decide +kernel
theorem cut_n (xs : List V) (k : Nat) : cutV xs (some (k : Int)) none = xs.drop k := by
  unfold cutV
  rw [HT.sIx_nat, HT.sIx_none]
  by_cases h : k ≤ xs.length
  · rw [Nat.min_eq_left h, List.take_of_length_le (by rw [List.length_drop]; exact Nat.le_refl _)]
  · rw [Nat.min_eq_right (by omega), List.drop_of_length_le (Nat.le_refl _), List.drop_of_length_le (by omega)]
    simp
theorem remove_minus (w : List Nat) : Txt.removeprefix (S w) (S [45]) = S (unsign w) := by
  unfold Txt.removeprefix
  cases w with
  | nil =>
    rw [show Builtin.Str.subAt (S []) (S [45]) 0 = false from by decide +kernel]
    rfl
  | cons c r =>
    rw [subAt1 (l := c :: r) (c := 45) (k := 0) rfl]
    by_cases h : c = 45
    · subst h
      rw [decide_eq_true rfl, if_pos rfl, unsign_minus]
      have e1 : (S [45]).length = 1 := S_len _
      have e2 : (S (45 :: r)).length = r.length + 1 := S_len _
      show (if ((S (45 :: r)).length - (S [45]).length == (S (45 :: r)).length) = true then S (45 :: r) else Builtin.Str.strSub (S (45 :: r)) (S [45]).length (S (45 :: r)).length) = S r
      rw [e1, e2, if_neg (by simp), sub_S]
      congr 1
      show r.take (r.length + 1 - 1) = r
      exact List.take_of_length_le (by omega)
    · rw [decide_eq_false h, if_neg (by simp), unsign_of (w := c :: r) (fun z => h (Option.some.inj z))]
      rfl
theorem int_signed {w : List Nat} (hl : w.length ≤ 640) (h : isSignedL w = true) : PySem.intText? (S w) = some (intV w) := by
  unfold isSignedL at h
  obtain ⟨_, h2⟩ := Bool.and_eq_true_iff.mp h
  obtain ⟨h3, h4, _⟩ := (count_iff (Nat.le_trans (unsign_len w) (by omega))).mp h2
  by_cases h45 : w.head? = some 45
  · obtain ⟨r, rfl⟩ : ∃ r, w = 45 :: r := by
      cases w with
      | nil => cases h45
      | cons c r => exact ⟨r, by rw [Option.some.inj h45]⟩
    rw [unsign_minus] at h3 h4
    rw [intV_minus]
    exact intText_neg (cs := r) rfl h4 h3 (by rw [S_len]; omega)
  · rw [unsign_of h45] at h3 h4
    rw [intV_of h45]
    exact intText_digits (x := S w) h4 h3 (by rw [S_len]; omega)
section
variable {H : Hp} {K : PySem.W.Frag} {l : List Nat}
theorem rc_lenV (hl : l.length ≤ 100000) : RC (fun xs H Q => ∃ z, xs = [V.str z] ∧ z.length ≤ sizeLine ∧ Q (.int z.length) H) [vS l] H (.int (l.length : Int)) := by
  have := rc_lenS (H := H) (z := S l) (by rw [S_len]; exact hl)
  rwa [S_len] at this
end
theorem num_is (n : Int) : isWithin (-1000000000) 1000000000 (.int n) = (decide (-1000000000 ≤ n) && decide (n ≤ 1000000000)) := by
  unfold isWithin isIntV
  rw [Bool.eq_iff_iff]
  simp only [Bool.and_eq_true, decide_eq_true_eq]
  omega
theorem luck_is (n : Int) : isWithin 0 999999936 (.int n) = (decide (0 ≤ n) && decide (n < 999999937)) := by
  unfold isWithin isIntV
  rw [Bool.eq_iff_iff]
  simp only [Bool.and_eq_true, decide_eq_true_eq]
  omega
section
variable {P : Program} {w : World} {K : PySem.W.Frag} {mg : Str → Option Value} {base : Heap}
theorem ok_is_nameB (T : Txt K mg w) : FnOk P w K mg base CX0 1 T.a_is_name T.fd_is_name ["value"] (Pure fun vs _ z => ∃ l : List Nat, vs = [vS l] ∧ l.length ≤ 100000 ∧ z = .bl (isNameL l)) := by
  refine T.F_is_name.ok sc_is_name (fun vs H Q E h => ?_) (fun cdv A outer s H vs Q E hr h => ?_)
  · obtain ⟨_, ⟨_, rfl, _⟩, _⟩ := h; rfl
  · obtain ⟨_, ⟨l, rfl, hl, rfl⟩, q⟩ := h
    refine ⟨_, (pss_cons (ps_if (PW.pt (pw_or (pt_not (pt_val (pe_callB call_isi (by rfl) T.z_isinstance (by decide +kernel) (pa_cons (pv 0) (pa_cons (pe_bltn (v := .ty "str") (by rfl) T.z_str (by decide +kernel) rfl) pa_nil))))) (pw_or1 (pt_not (pt_chain op_le op_le pe_int (pe_callB call_len_str (by rfl) T.z_len PySem.boot_len (pa_cons (pv 0) pa_nil)) pe_int))))) (pss_one (ps_ret pe_bl)) pss_nil)
  (pss_one (ps_ret (pe_and (pe_m0 PySem.F.slot_str_isascii PySem.F.type_str_isascii mt_isascii (pv 0)) (pe_and (pe_m0 PySem.F.slot_str_isalpha PySem.F.type_str_isalpha mt_isalpha (pv 0)) (pe_one (pe_m0 PySem.F.slot_str_islower PySem.F.type_str_islower mt_islower (pv 0)))))))), ?_⟩
    refine q_when (b := !(decide ((1 : Int) ≤ l.length) && decide ((l.length : Int) ≤ 8))) (et_is (et_or (a := false) (b := !(decide ((1 : Int) ≤ l.length) && decide ((l.length : Int) ≤ 8))) (et_is (et_not (et_B (ev_cb (vs := [vS l, .ty "str"]) (by walk_at "ea") isi_str))) rfl) fun _ => et_not (et_test (ev_chain ev_c (ev_cb (vs := [vS l]) (by walk_at "ea") (rc_lenV hl)) rv_I0 ev_c rv_I0))) (Bool.false_or _)) (fun h H1 e1 => ?_) fun h H1 e1 => ?_
    · refine s_ret (v := .bl (isNameL l)) (ev_is ev_c ?_) fun H2 e2 => q H2 (e1.trans e2)
      have h2 : isNameL l = false := by
        unfold isNameL
        cases h1 : decide (1 ≤ l.length) <;> cases h3 : decide (l.length ≤ 8) <;> simp at h1 h3 h ⊢
        omega
      rw [h2]
    · have h1 : 1 ≤ l.length ∧ l.length ≤ 8 := by
        simp only [Bool.not_eq_false', Bool.and_eq_true, decide_eq_true_eq] at h
        omega
      have e := name_signs l h1.1
      have h2 : isNameL l = l.all fun c => decide (97 ≤ c) && decide (c ≤ 122) := by
        unfold isNameL
        rw [decide_eq_true h1.1, decide_eq_true h1.2]
        rfl
      refine s_ret (v := .bl (isNameL l)) (ev_is (ev_andV (ev_strM (ev_var rfl)) fun _ => ev_andV (ev_strM (ev_var rfl)) fun _ => ev_strM (ev_var rfl)) (by rw [e, h2])) fun H2 e2 => q H2 (e1.trans e2)
theorem ok_is_count (T : Txt K mg w) : FnOk P w K mg base CX0 1 T.a_is_count T.fd_is_count ["word"] (Pure fun vs _ z => ∃ l : List Nat, vs = [vS l] ∧ l.length ≤ 100000 ∧ z = .bl (isCountL l)) := by
  refine T.F_is_count.ok sc_is_count (fun vs H Q E h => ?_) (fun cdv A outer s H vs Q E hr h => ?_)
  · obtain ⟨_, ⟨_, rfl, _⟩, _⟩ := h; rfl
  · obtain ⟨_, ⟨l, rfl, hl, rfl⟩, q⟩ := h
    refine ⟨_, (pss_cons (ps_if (PW.pt (pw_or (pt_not (pt_val (pe_m0 PySem.F.slot_str_isascii PySem.F.type_str_isascii mt_isascii (pv 0)))) (pw_or (pt_not (pt_val (pe_m0 PySem.F.slot_str_isdigit PySem.F.type_str_isdigit mt_isdigit (pv 0)))) (pw_or1 (pt_cmpR op_gt (pe_callB call_len_str (by rfl) T.z_len PySem.boot_len (pa_cons (pv 0) pa_nil)) (pe_glob (v := .int 4000) rfl T.g_MOST_DIGITS ⟨_, rfl⟩) (nomark _)))))) (pss_one (ps_ret pe_bl)) pss_nil)
  (pss_one (ps_ret (pe_or (pe_cmpR op_eq (pv 0) pe_str (nomark _)) (pe_one (pe_cmpR op_ne (pe_ix ix_str (pv 0) pe_int (fun _ _ => rfl)) pe_str (nomark _))))))), ?_⟩
    have e := count_signs l
    refine q_when (b := !Txt.isascii (S l) || (!Txt.isdigit (S l) || decide ((4000 : Int) < l.length))) (et_or (et_not (et_B (ev_strM (ev_var rfl)))) fun _ => et_or (et_not (et_B (ev_strM (ev_var rfl)))) fun _ => et_test (ev_op (ev_cb (vs := [vS l]) (by walk_at "ea") (rc_lenV hl)) ev_c rv_I0)) (fun h H1 e1 => ?_) fun h H1 e1 => ?_
    · refine s_ret (v := .bl (isCountL l)) (ev_is ev_c ?_) fun H2 e2 => q H2 (e1.trans e2)
      have h2 : isCountL l = false := by
        unfold isCountL
        rw [← e]
        cases h1 : Txt.isascii (S l) <;> cases h3 : Txt.isdigit (S l) <;> simp [h1, h3] at h ⊢
        intro z
        omega
      rw [h2]
    · have h1 : Txt.isascii (S l) = true ∧ Txt.isdigit (S l) = true ∧ l.length ≤ 4000 := by
        cases h1 : Txt.isascii (S l) <;> cases h3 : Txt.isdigit (S l) <;> simp [h1, h3] at h ⊢
        omega
      rw [h1.1, h1.2.1, decide_eq_true h1.2.2] at e
      have h2 : isCountL l = (decide (l = [48]) || decide (l.head? ≠ some 48)) := by
        unfold isCountL
        rw [decide_eq_true h1.2.2, ← e]
        rfl
      have hne : l ≠ [] := fun z => by rw [z] at e; simp at e
      obtain ⟨c, r, rfl⟩ := List.exists_cons_of_ne_nil hne
      refine s_ret (v := .bl (isCountL (c :: r))) (ev_is (ev_orV (a := decide (vS (c :: r) = vS [48])) (b := !decide (vS [c] = vS [48])) (ev_is (ev_op (ev_var rfl) ev_c (rv_eq rfl)) (by rw [s_zero])) fun _ => ev_is (ev_op (ev_op (ev_var rfl) ev_c (rv_ixS (w := S (c :: r)) (i := 0) (c := c) (by rw [S_len]; exact hl) (show atI (c :: r) ((0 : Nat) : Int) = some c from atI_nat rfl))) ev_c (rv_ne rfl)) (by rw [s_zero])) ?_) fun H2 e2 => q H2 (e1.trans e2)
      rw [h2, eq_vS, eq_vS]
      congr 2
      rw [Bool.eq_iff_iff]
      simp
theorem ok_is_signed (T : Txt K mg w) : FnOk P w K mg base CX0 2 T.a_is_signed T.fd_is_signed ["word"] (Pure fun vs _ z => ∃ l : List Nat, vs = [vS l] ∧ l.length ≤ 100000 ∧ z = .bl (isSignedL l)) := by
  have G_is_count := ok_is_count (P := P) (w := w) (base := base) T
  refine T.F_is_signed.ok sc_is_signed (fun vs H Q E h => ?_) (fun cdv A outer s H vs Q E hr h => ?_)
  · obtain ⟨_, ⟨_, rfl, _⟩, _⟩ := h; rfl
  · obtain ⟨_, ⟨l, rfl, hl, rfl⟩, q⟩ := h
    refine ⟨_, (pss_one (ps_ret (pe_and (pe_cmpR op_ne (pv 0) pe_str (nomark _)) (pe_one (pe_call G_is_count (hr.mono (by decide)) (by rfl) T.g_is_count T.F_is_count.kp T.b_is_count .nil pass0 (pa_cons (pe_m1 PySem.F.slot_str_removeprefix PySem.F.type_str_removeprefix mt_removeprefix (pv 0) pe_str) pa_nil)))))), ?_⟩
    have hu := unsign_len l
    refine s_ret (v := .bl (isSignedL l)) (ev_is (ev_andV (a := !decide (vS l = vS [45, 48])) (b := isCountL (unsign l)) (ev_is (ev_op (ev_var rfl) ev_c (rv_ne rfl)) (by rw [s_mz])) fun _ => ev_callP (vs := [vS (unsign l)]) (ea_cons (ev_m1 (a := S l) (b := S [45]) (ev_var rfl) (fun H1 _ => ev_is ev_c s_minus) fun H1 Q1 q1 => ⟨S l, S [45], rfl, rfl, by rw [S_len]; exact sz_of hl, by rw [remove_minus]; exact q1⟩) ea_nil) fun H1 _ => ⟨unsign l, rfl, by omega, rfl⟩) (by rw [eq_vS]; rfl)) q
def kNumbersB (K : PySem.W.Frag) (vs : List V) (H : Hp) (z : V) : Prop := ∃ (r : Addr) (ns : List Int), vs = [.ref r] ∧ NsAt K H r ns ∧ ns.length ≤ 40000 ∧ z = .bl (okNs ns)
theorem ok_is_numberB (T : Txt K mg w) : FnOk P w K mg base CX0 3 T.a_is_number T.fd_is_number ["value"] (Pure fun vs _ z => ∃ n : Int, vs = [.int n] ∧ z = .bl (decide (-1000000000 ≤ n) && decide (n ≤ 1000000000))) := by
  have G_is_within := ok_is_within (P := P) (w := w) (base := base) T
  refine T.F_is_number.ok sc_is_number (fun vs H Q E h => ?_) (fun cdv A outer s H vs Q E hr h => ?_)
  · obtain ⟨_, ⟨_, rfl, _⟩, _⟩ := h; rfl
  · obtain ⟨_, ⟨n, rfl, rfl⟩, q⟩ := h
    refine ⟨_, (pss_one (ps_ret (pe_call G_is_within (hr.mono (by decide)) (by rfl) T.g_is_within T.F_is_within.kp T.b_is_within .nil pass0 (pa_cons (pv 0) (pa_cons (pe_un un_neg (pe_glob (v := .int 1000000000) rfl T.g_MOST ⟨_, rfl⟩)) (pa_cons (pe_glob (v := .int 1000000000) rfl T.g_MOST ⟨_, rfl⟩) pa_nil)))))), ?_⟩
    exact s_ret (v := .bl (decide (-1000000000 ≤ n) && decide (n ≤ 1000000000))) (ev_callP (vs := [.int n, .int (-1000000000), .int 1000000000]) (by walk_at "ea") fun H1 e1 => ⟨.int n, _, _, rfl, pl_int, by rw [num_is]⟩) q
theorem ok_is_luckB (T : Txt K mg w) : FnOk P w K mg base CX0 3 T.a_is_luck T.fd_is_luck ["value"] (Pure fun vs _ z => ∃ n : Int, vs = [.int n] ∧ z = .bl (decide (0 ≤ n) && decide (n < 999999937))) := by
  have G_is_within := ok_is_within (P := P) (w := w) (base := base) T
  refine T.F_is_luck.ok sc_is_luck (fun vs H Q E h => ?_) (fun cdv A outer s H vs Q E hr h => ?_)
  · obtain ⟨_, ⟨_, rfl, _⟩, _⟩ := h; rfl
  · obtain ⟨_, ⟨n, rfl, rfl⟩, q⟩ := h
    refine ⟨_, (pss_one (ps_ret (pe_call G_is_within (hr.mono (by decide)) (by rfl) T.g_is_within T.F_is_within.kp T.b_is_within .nil pass0 (pa_cons (pv 0) (pa_cons pe_int (pa_cons (pe_op op_sub (pe_glob (v := .int 999999937) rfl T.g_MODULUS ⟨_, rfl⟩) pe_int) pa_nil)))))), ?_⟩
    exact s_ret (v := .bl (decide (0 ≤ n) && decide (n < 999999937))) (ev_callP (vs := [.int n, .int 0, .int (999999937 - 1)]) (by walk_at "ea") fun H1 e1 => ⟨.int n, _, _, rfl, pl_int, by rw [← luck_is]; rfl⟩) q
theorem ok_are_numbersB (T : Txt K mg w) : FnOk P w K mg base CX0 4 T.a_are_numbers T.fd_are_numbers ["value"] (Pure (kNumbersB K)) := by
  have G_is_number := ok_is_numberB (P := P) (w := w) (base := base) T
  refine T.F_are_numbers.ok sc_are_numbers (fun vs H Q E h => ?_) (fun cdv A outer s H vs Q E hr h => ?_)
  · obtain ⟨_, ⟨_, _, rfl, _⟩, _⟩ := h; rfl
  · obtain ⟨_, ⟨r, ns, rfl, hN, hz, rfl⟩, q⟩ := h
    refine ⟨_, (pss_cons (ps_if (PW.pt (pw_or (pt_not (pt_val (pe_callB call_isi (by rfl) T.z_isinstance (by decide +kernel) (pa_cons (pv 0) (pa_cons (pe_bltn (v := .ty "tuple") (by rfl) T.z_tuple (by decide +kernel) rfl) pa_nil))))) (pw_or1 (pt_not (pt_chain op_le op_le pe_int (pe_callB c_len (by rfl) T.z_len PySem.boot_len (pa_cons (pv 0) pa_nil)) (pe_glob (v := .int 8) rfl T.g_MAX_FIELDS ⟨_, rfl⟩)))))) (pss_one (ps_ret pe_bl)) pss_nil)
  (pss_one (ps_ret (pe_callB (cr_all rfl) (by rfl) T.z_all (by decide +kernel) (pa_cons (pe_lc (own := [("number", 1)]) (g := gName 1) (by rfl) sc_are_numbers.nd (pi_tup (pv 0)) (blkOk_by (own := [("number", 1)]) (N := ["value", "number"]) (sc := defScope s_are_numbers) (by decide +kernel)) (fun _ _ _ _ _ => pg_name (i := 1) sc_are_numbers.nd rfl (Or.inl rfl)) (fun _ _ _ _ _ => pts_nil) (fun _ _ _ _ _ => (pe_call G_is_number (hr.mono (by decide)) (by rfl) T.g_is_number T.F_is_number.kp T.b_is_number .nil pass0 (pa_cons (pv 1) pa_nil)))) pa_nil))))), ?_⟩
    have hl : (ns.map V.int).length = ns.length := List.length_map ..
    refine q_when (b := !(decide ((1 : Int) ≤ (ns.map V.int).length) && decide (((ns.map V.int).length : Int) ≤ 8))) (et_is (et_or (a := false) (b := !(decide ((1 : Int) ≤ (ns.map V.int).length) && decide (((ns.map V.int).length : Int) ≤ 8))) (et_is (et_not (et_B (ev_cb (vs := [.ref r, .ty "tuple"]) (by walk_at "ea") (rc_isiTup hN)))) rfl) fun _ => et_not (et_test (ev_chain ev_c (ev_cb (vs := [.ref r]) (by walk_at "ea") (rc_lenT hN)) rv_I0 ev_c rv_I0))) (Bool.false_or _)) (fun h H1 e1 => ?_) fun h H1 e1 => ?_
    · refine s_ret (v := .bl (okNs ns)) (ev_is ev_c ?_) fun H2 e2 => q H2 (e1.trans e2)
      rw [hl] at h
      have h2 : okNs ns = false := by
        unfold okNs
        cases h1 : decide (1 ≤ ns.length) <;> cases h3 : decide (ns.length ≤ 8) <;> simp at h1 h3 h ⊢
        omega
      rw [h2]
    · rw [hl] at h
      have h1 : 1 ≤ ns.length ∧ ns.length ≤ 8 := by
        simp only [Bool.not_eq_false', Bool.and_eq_true, decide_eq_true_eq] at h
        omega
      have h2 : okNs ns = ns.all fun n => decide (-1000000000 ≤ n) && decide (n ≤ 1000000000) := by
        unfold okNs
        rw [decide_eq_true h1.1, decide_eq_true h1.2]
        rfl
      refine s_ret (v := .bl (okNs ns)) (ev_is (ev_allN (bs := ns.map fun n => decide (-1000000000 ≤ n) && decide (n ≤ 1000000000)) ?_) (by rw [h2, List.all_map]; rfl)) fun H2 e2 => q H2 (e1.trans e2)
      have e : given (ns.map V.int).length (fun _ => true) (fun i => (fun n : Int => V.bl (decide (-1000000000 ≤ n) && decide (n ≤ 1000000000))) (ns.getD i 0)) = (ns.map fun n => decide (-1000000000 ≤ n) && decide (n ≤ 1000000000)).map V.bl := by
        rw [hl, given_yes_map ns 0 fun n : Int => V.bl (decide (-1000000000 ≤ n) && decide (n ≤ 1000000000)), List.map_map]
        rfl
      rw [← e]
      refine el_lcT (fun _ => true) _ (ev_var rfl) (ex_t e1 hN) (by rw [hl]; omega) (fun _ => rfl) (fun i x H2 e2 hx => et_yes) fun i x H2 e2 hx _ => ?_
      rw [List.getElem?_map] at hx
      cases h : ns[i]? with
      | none => rw [h] at hx; cases hx
      | some n =>
        rw [h] at hx
        obtain rfl : x = .int n := (Option.some.inj hx).symm
        have hd : ns.getD i 0 = n := by rw [List.getD_eq_getElem?_getD, h]; rfl
        rw [hd]
        exact ev_callP (vs := [.int n]) (by walk_at "ea") fun H3 e3 => ⟨n, rfl, rfl⟩
end
end Kz
set_option Elab.async false
set_option linter.all false
set_option maxRecDepth 100000
set_option maxHeartbeats 4000000
set_option exponentiation.threshold 500
namespace Kz
open PySem PySem.Spec PyProof.Rows L2 Evl Vr
local macro_rules | `(tactic| walk_at "sc") => `(tactic| first | (with_reducible assumption) | (with_reducible exact sc_mul (by omega)) | (with_reducible exact sc_mulr (by omega)) | (with_reducible exact sc_div (by omega) (by decide)) | (show (0 : Int) < _; omega) | (show _ ≠ (0 : Int); omega) | (with_reducible rfl) | decide)
local macro_rules | `(tactic| walk_at "sq") => `(tactic| first | assumption | exact sq_of (by assumption) | exact st_of (by assumption))
local macro_rules | `(tactic| walk_at "pl") => `(tactic| first | assumption | exact pl_int | exact pl_bl | exact pl_str | exact pl_non | exact pl_lst (by assumption) | exact pl_tup (by assumption) | exact pl_dK (by assumption))
local macro_rules | `(tactic| walk_at "rv") => `(tactic| first
  | with_reducible exact rv_I0
  | with_reducible exact ru_neg
  | ((with_reducible apply rv_I); walk_at "sc")
  | ((with_reducible apply rv_ixL); walk_at "sq"; first | rfl | assumption)
  | ((with_reducible apply rv_ixT); walk_at "sq"; first | rfl | assumption)
  | ((with_reducible apply rv_eq); rfl) | ((with_reducible apply rv_ne); rfl))
local macro_rules | `(tactic| walk_at "rc") => `(tactic| first
  | with_reducible exact rc_I1 | with_reducible exact rc_B1 | with_reducible exact rc_I2 | ((with_reducible apply rc_repr); walk_at "sc") | ((with_reducible apply rc_lenL); walk_at "sq")
  | ((with_reducible apply rc_isiInt); walk_at "pl") | ((with_reducible apply rc_isiBool); walk_at "pl"))
local macro_rules | `(tactic| walk_at "ea") => `(tactic| first
  | with_reducible exact ea_nil | ((with_reducible apply ea_cons); walk_at "ev"; walk_at "ea"))
local macro_rules | `(tactic| walk_at "pow") => `(tactic| first
  | with_reducible exact ev_pow (a := 10) (b := 9) (c := 1000000000) (by decide +kernel) (by decide +kernel)
  | with_reducible exact ev_pow (a := 10) (b := 10) (c := 10000000000) (by decide +kernel) (by decide +kernel)
  | with_reducible exact ev_pow (a := 10) (b := 12) (c := 1000000000000) (by decide +kernel) (by decide +kernel)
  | with_reducible exact ev_pow (a := 10) (b := 17) (c := 100000000000000000) (by decide +kernel) (by decide +kernel)
  | with_reducible exact ev_pow (a := 10) (b := 20) (c := 100000000000000000000) (by decide +kernel) (by decide +kernel)
  | with_reducible exact ev_pow (a := 10) (b := 29) (c := 100000000000000000000000000000) (by decide +kernel) (by decide +kernel)
  | with_reducible exact ev_pow (a := 10) (b := 30) (c := 1000000000000000000000000000000) (by decide +kernel) (by decide +kernel)
  | with_reducible exact ev_pow (a := 10) (b := 40) (c := 10000000000000000000000000000000000000000) (by decide +kernel) (by decide +kernel)
  | with_reducible exact ev_pow (a := 10) (b := 57) (c := 1000000000000000000000000000000000000000000000000000000000) (by decide +kernel) (by decide +kernel)
  | with_reducible exact ev_pow (a := 10) (b := 58) (c := 10000000000000000000000000000000000000000000000000000000000) (by decide +kernel) (by decide +kernel)
  | with_reducible exact ev_pow (a := 10) (b := 59) (c := 100000000000000000000000000000000000000000000000000000000000) (by decide +kernel) (by decide +kernel)
  | with_reducible exact ev_pow (a := 10) (b := 60) (c := 1000000000000000000000000000000000000000000000000000000000000) (by decide +kernel) (by decide +kernel))
local macro_rules | `(tactic| walk_at "call") => `(tactic| (intro H9 e9; first | exact ⟨_, rfl, rfl⟩ | exact ⟨_, _, rfl, rfl⟩ | exact ⟨_, _, _, rfl, rfl⟩ | exact ⟨_, rfl, by walk_at "pl", rfl⟩ | (refine ⟨_, _, _, rfl, ?_, rfl⟩; first | exact Plain.ex e9 (by assumption) | walk_at "pl") | (refine ⟨_, rfl, ?_, rfl⟩; first | exact Plain.ex e9 (by assumption) | walk_at "pl")))
local macro_rules | `(tactic| walk_at "ev") => `(tactic| first
  | with_reducible exact ev_c
  | exact ev_var rfl
  | walk_at "pow"
  | ((with_reducible apply ev_op); walk_at "ev"; walk_at "ev"; walk_at "rv")
  | ((with_reducible apply ev_un); walk_at "ev"; walk_at "rv")
  | ((with_reducible apply ev_cb); walk_at "ea"; walk_at "rc")
  | ((with_reducible apply ev_callP); walk_at "ea"; walk_at "call")
  | ((with_reducible apply ev_chain); walk_at "ev"; walk_at "ev"; walk_at "rv"; walk_at "ev"; walk_at "rv")
  | ((with_reducible apply ev_andV); walk_at "ev"; intro _; walk_at "ev")
  | ((with_reducible apply ev_orV); walk_at "ev"; intro _; walk_at "ev")
  | ((with_reducible apply ev_ite); walk_at "et"; intro _; walk_at "ev"; intro _; walk_at "ev")
  | ((with_reducible apply ev_notV); walk_at "ev"))
local macro_rules | `(tactic| walk_at "et") => `(tactic| first
  | ((with_reducible apply et_test); walk_at "ev")
  | ((with_reducible apply et_B); walk_at "ev")
  | ((with_reducible apply et_and); walk_at "et"; intro _; walk_at "et")
  | ((with_reducible apply et_or); walk_at "et"; intro _; walk_at "et")
  | ((with_reducible apply et_not); walk_at "et"))
open En Wo Tx NumText
theorem step_pair : ∀ ids : List Int, (∀ i, 1 + i < ids.length → ids.getD i 0 < ids.getD (1 + i) 0) ↔ ids.Pairwise (· < ·)
  | [] => ⟨fun _ => .nil, fun _ i h => absurd h (by simp)⟩
  | [a] => ⟨fun _ => List.pairwise_singleton .., fun _ i h => absurd h (by simp)⟩
  | a :: b :: r => by
    have ih := step_pair (b :: r)
    rw [List.pairwise_cons, ← ih]
    constructor
    · intro h
      have h1 : ∀ i, 1 + i < (b :: r).length → (b :: r).getD i 0 < (b :: r).getD (1 + i) 0 := fun i hi => by
        have h2 := h (1 + i) (by simp only [List.length_cons] at hi ⊢; omega)
        have e1 : (a :: b :: r).getD (1 + i) 0 = (b :: r).getD i 0 := by rw [Nat.add_comm]; rfl
        have e2 : (a :: b :: r).getD (1 + (1 + i)) 0 = (b :: r).getD (1 + i) 0 := by rw [Nat.add_comm 1 (1 + i)]; rfl
        rwa [e1, e2] at h2
      have h0 : a < b := h 0 (by simp only [List.length_cons]; omega)
      refine ⟨fun x hx => ?_, h1⟩
      have hp := ih.mp h1
      rw [List.pairwise_cons] at hp
      rcases List.mem_cons.mp hx with rfl | hx
      · exact h0
      · exact Int.lt_trans h0 (hp.1 x hx)
    · rintro ⟨h1, h2⟩ i hi
      cases i with
      | zero => exact h1 b (List.mem_cons_self ..)
      | succ i =>
        have h3 := h2 i (by simp only [List.length_cons] at hi ⊢; omega)
        have e2 : (a :: b :: r).getD (1 + (i + 1)) 0 = (b :: r).getD (1 + i) 0 := by rw [show 1 + (i + 1) = (1 + i) + 1 by omega]; rfl
        rw [e2]
        exact h3
theorem given_all (n : Nat) (v : Nat → V) : given n (fun _ => true) v = (List.range n).map v := by
  unfold given
  rw [List.filter_eq_self.mpr (fun _ _ => rfl)]
/-- a text whose words are short -/
def Short (t : List Nat) : Prop := t.length ≤ 20000 ∧ ∀ w ∈ splitL 32 t, w.length ≤ 500
section
variable {σ : L2.St} {H : Hp} {te tl : TE} {K : PySem.W.Frag} {p : Addr} {ws : List (List Nat)}
theorem ev_word {i : Nat} {w : List Nat} {j : Nat} (hσ : σ[j]? = some (some (.ref p))) (h : SqL K H p (ws.map vS)) (hi : ws[i]? = some w) : Ev (tOp (rIxL K) (tVar j) (tC (.int (i : Int)))) σ H (vS w) :=
  ev_op (ev_var hσ) ev_c (rv_ixL h (atI_nat (by rw [List.getElem?_map, hi]; rfl)))
theorem el_drop {j k : Nat} (hσ : σ[j]? = some (some (.ref p))) (h : SqL K H p (ws.map vS)) : EvL (L2.tSl (rSlL K) (tVar j) (tPart (tC (.int (k : Int)))) tNoPart) σ H ((ws.drop k).map vS) := by
  have := el_sl (te := tVar j) (lo := some (k : Int)) (hi := none) (ev_var hσ) (eo_some ev_c) eo_none h
  rw [cut_n, ← List.map_drop] at this
  exact this
/-- [g(word) for word in new list of words] -/
theorem el_lcW {xs : List (List Nat)} {te tl : TE} {j : Nat} {vs : List Nat} (g : List Nat → V) (h : EvL tl σ H (xs.map vS)) (hz : xs.length ≤ 40000) (hw : ∀ x, wipe ((wipe σ vs).set j (some x)) vs = wipe σ vs)
    (he : ∀ (w : List Nat) H1, Ex H H1 → w ∈ xs → Ev te ((wipe σ vs).set j (some (vS w))) H1 (g w)) : EvL (tLc (iList K tl) (gName j) tYes te vs) σ H (xs.map g) := by
  have e : given (xs.map vS).length (fun _ => true) (fun i => g (xs.getD i [])) = xs.map g := by
    rw [List.length_map, given_yes_map xs [] g]
  rw [← e]
  refine el_lcNL (fun _ => true) _ h (by rw [List.length_map]; exact hz) hw (fun i x H1 e1 hx => et_yes) fun i x H1 e1 hx _ => ?_
  rw [List.getElem?_map] at hx
  cases h : xs[i]? with
  | none => rw [h] at hx; cases hx
  | some w =>
    rw [h] at hx
    obtain rfl : x = vS w := (Option.some.inj hx).symm
    have hd : xs.getD i [] = w := by rw [List.getD_eq_getElem?_getD, h]; rfl
    rw [hd]
    exact he w H1 e1 (List.mem_of_getElem? h)
end
section
variable {P : Program} {w : World} {K : PySem.W.Frag} {mg : Str → Option Value} {base : Heap}
def kSeqB (K : PySem.W.Frag) (vs : List V) (H : Hp) (z : V) : Prop := ∃ (a : Addr) (ts : List Tg) (n : Int), vs = [.ref a, .int n] ∧ TsAt K H a ts ∧ ts.length ≤ 30000 ∧ z = .bl (decide (Asc ts n))
theorem ok_are_in_sequenceB (T : Txt K mg w) : FnOk P w K mg base CX0 1 T.a_are_in_sequence T.fd_are_in_sequence ["things", "next_id"] (Pure (kSeqB K)) := by
  refine T.F_are_in_sequence.ok sc_are_in_sequence (fun vs H Q E h => ?_) (fun cdv A outer s H vs Q E hr h => ?_)
  · obtain ⟨_, ⟨_, _, _, rfl, _⟩, _⟩ := h; rfl
  · obtain ⟨_, ⟨a, ts, n, rfl, ⟨rs, hT, hR⟩, hl, rfl⟩, q⟩ := h
    refine ⟨_, (pss_cons (ps_set (i := 2) sc_are_in_sequence.nd rfl (.inl rfl) (pe_op op_cat (pe_lc (own := [("thing", 3)]) (g := gName 3) (by rfl) sc_are_in_sequence.nd (pi_tup (pv 0)) (blkOk_by (own := [("thing", 3)]) (N := ["things", "next_id", "ids", "thing", "low", "high"]) (sc := defScope s_are_in_sequence) (by decide +kernel)) (fun _ _ _ _ _ => pg_name (i := 3) sc_are_in_sequence.nd rfl (Or.inl rfl)) (fun _ _ _ _ _ => pts_nil) (fun _ _ _ _ _ => (pe_ix (ix_tupK (K := K) rfl) (pv 3) pe_int (fun _ _ => rfl)))) (pe_lst (pa_cons (pv 1) pa_nil))))
  (pss_one (ps_ret (pe_callB (cr_all rfl) (by rfl) T.z_all (by decide +kernel) (pa_cons (pe_lc (own := [("low", 4), ("high", 5)]) (g := gTup _ 2 (gCons (gName 4) (gCons (gName 5) gNil))) (by rfl) sc_are_in_sequence.nd (pi_zip rfl T.z_zip (pa_cons (pv 2) (pa_cons (pe_slice sl_list (pv 2) (po_some pe_int) po_none) pa_nil))) (blkOk_by (own := [("low", 4), ("high", 5)]) (N := ["things", "next_id", "ids", "thing", "low", "high"]) (sc := defScope s_are_in_sequence) (by decide +kernel)) (fun _ _ _ _ _ => pg_tup rfl (pgs_cons (pg_name (i := 4) sc_are_in_sequence.nd rfl (Or.inl rfl)) (pgs_cons (pg_name (i := 5) sc_are_in_sequence.nd rfl (Or.inl rfl)) pgs_nil))) (fun _ _ _ _ _ => pts_nil) (fun _ _ _ _ _ => (pe_cmpR op_lt (pv 4) (pv 5) (nomark _)))) pa_nil))))), ?_⟩
    refine q_asgL (xs := (Tg.ids ts ++ [n]).map V.int) (by
      have e : (Tg.ids ts ++ [n]).map V.int = (ts.filter fun _ => true).map (fun t => V.int t.id) ++ [.int n] := by
        rw [List.filter_eq_self.mpr (fun _ _ => rfl), List.map_append]
        unfold Tg.ids
        rw [List.map_map]
        rfl
      rw [e]
      exact el_cat (el_lcTs (fun _ => true) (fun _ t => V.int t.id) (fun t => V.int t.id) (ev_var rfl) hT hR (by omega) (fun _ => rfl) (fun r t H1 e1 _ _ => et_yes) fun r t H1 e1 hA _ _ => ev_tg0 (ev_var rfl) hA) (el_lst (by walk_at "ea") (by show 1 ≤ 100000; decide)) (by
        rw [List.filter_eq_self.mpr (fun _ _ => rfl), List.length_map]
        show _ + 1 ≤ _
        omega)) fun l H1 hl1 e1 h1 => ?_
    have hL := sq_of (K := K) h1
    have len : (Tg.ids ts ++ [n]).length = ts.length + 1 := by rw [List.length_append, tg_len]; rfl
    have hasc : decide (Asc ts n) = decide ((Tg.ids ts ++ [n]).Pairwise (· < ·)) := rfl
    rw [hasc] at q
    generalize hI : Tg.ids ts ++ [n] = ids at *
    have hm : min (ids.map V.int).length ((ids.map V.int).drop 1).length = ids.length - 1 := by rw [List.length_drop, List.length_map]; omega
    refine s_ret (v := .bl (decide (ids.Pairwise (· < ·)))) (ev_is (ev_allN (bs := (List.range (ids.length - 1)).map fun i => decide (ids.getD i 0 < ids.getD (1 + i) 0)) ?_) ?_) fun H2 e2 => q H2 (e1.trans e2)
    · have e : given (min (ids.map V.int).length ((ids.map V.int).drop 1).length) (fun _ => true) (fun i => V.bl (decide (ids.getD i 0 < ids.getD (1 + i) 0))) = ((List.range (ids.length - 1)).map fun i => decide (ids.getD i 0 < ids.getD (1 + i) 0)).map V.bl := by
        rw [given_all, hm, List.map_map]
        rfl
      rw [← e]
      refine el_lcZip (fun _ => true) _ ?_ (by rw [List.length_map]; omega) (fun _ _ => rfl) (fun i x y H2 e2 hx hy => et_yes) fun i x y H2 e2 hx hy _ => ?_
      · have hsl := el_sl (K := K) (te := tVar 2) (σ := [some (.ref a), some (.int n), some (.ref l), none, none, none]) (ev_var (i := 2) rfl) (eo_some (ev_c (v := .int 1))) eo_none hL
        rw [cut1] at hsl
        exact fun H2 e2 Q2 q2 => (ap_cons (ev_var rfl) (ap_consL hsl ap_nil)) H2 e2 Q2 fun vs H3 e3 ⟨ws, h1', p, ws2, h2', h3', h4'⟩ => q2 vs H3 e3 ⟨l, p, by rw [h1', h2', h4'], ex_l (e2.trans e3) hL, sq_of h3'⟩
      · rw [List.getElem?_map] at hx
        rw [List.getElem?_drop, List.getElem?_map] at hy
        cases h2 : ids[i]? with
        | none => rw [h2] at hx; cases hx
        | some u =>
          cases h3 : ids[1 + i]? with
          | none => rw [h3] at hy; cases hy
          | some u2 =>
            rw [h2] at hx
            rw [h3] at hy
            obtain rfl : x = .int u := (Option.some.inj hx).symm
            obtain rfl : y = .int u2 := (Option.some.inj hy).symm
            have d1 : ids.getD i 0 = u := by rw [List.getD_eq_getElem?_getD, h2]; rfl
            have d2 : ids.getD (1 + i) 0 = u2 := by rw [List.getD_eq_getElem?_getD, h3]; rfl
            rw [d1, d2]
            exact ev_op (ev_var rfl) (ev_var rfl) rv_I0
    · refine congrArg V.bl ?_
      rw [Bool.eq_iff_iff, decide_eq_true_iff, ← step_pair]
      simp only [List.all_map, List.all_eq_true, List.mem_range, Function.comp_def, decide_eq_true_eq, id]
      exact ⟨fun h i hi => h i (by omega), fun h i hi => h i (by omega)⟩
/-- read_thing -/
def spRT (K : PySem.W.Frag) : Sp := fun vs H Q _ => ∃ t : List Nat, vs = [vS t] ∧ Short t ∧ (thingP t = none → ∀ H', Ex H H' → Q .non H') ∧ ∀ g, thingP t = some g → ∀ r H', H r = none → Ex H H' → TgAt K H' r g → Q (.ref r) H'
theorem ok_read_thing (T : Txt K mg w) : FnOk P w K mg base CX0 5 T.a_read_thing T.fd_read_thing ["text"] (spRT K) := by
  have G_is_count := ok_is_count (P := P) (w := w) (base := base) T
  have G_is_signed := ok_is_signed (P := P) (w := w) (base := base) T
  have G_is_name := ok_is_nameB (P := P) (w := w) (base := base) T
  have G_are_numbers := ok_are_numbersB (P := P) (w := w) (base := base) T
  refine T.F_read_thing.ok sc_read_thing (fun vs H Q E h => ?_) (fun cdv A outer s H vs Q E hr h => ?_)
  · obtain ⟨_, rfl, _⟩ := h; rfl
  · obtain ⟨t, rfl, ⟨hl, hw⟩, qn, qs⟩ := h
    refine ⟨_, (pss_cons (ps_set (i := 1) sc_read_thing.nd rfl (.inl rfl) (pe_split (pv 0) pe_str))
  (pss_cons (ps_if (PW.pt (pw_or (pt_cmpR op_lt (pe_callB c_len (by rfl) T.z_len PySem.boot_len (pa_cons (pv 1) pa_nil)) pe_int (nomark _)) (pw_or (pt_not (pt_val (pe_call G_is_count (hr.mono (by decide)) (by rfl) T.g_is_count T.F_is_count.kp T.b_is_count .nil pass0 (pa_cons (pe_ix ix_list (pv 1) pe_int (fun _ _ => rfl)) pa_nil)))) (pw_or1 (pt_not (pt_val (pe_call G_is_name (hr.mono (by decide)) (by rfl) T.g_is_name T.F_is_name.kp T.b_is_name .nil pass0 (pa_cons (pe_ix ix_list (pv 1) pe_int (fun _ _ => rfl)) pa_nil)))))))) (pss_one (ps_ret pe_non)) pss_nil)
  (pss_cons (ps_if (pt_not (pt_val (pe_callB (cr_all rfl) (by rfl) T.z_all (by decide +kernel) (pa_cons (pe_lc (own := [("word", 3)]) (g := gName 3) (by rfl) sc_read_thing.nd (pi_list (pe_slice sl_list (pv 1) (po_some pe_int) po_none)) (blkOk_by (own := [("word", 3)]) (N := ["text", "words", "numbers", "word"]) (sc := defScope s_read_thing) (by decide +kernel)) (fun _ _ _ _ _ => pg_name (i := 3) sc_read_thing.nd rfl (Or.inl rfl)) (fun _ _ _ _ _ => pts_nil) (fun _ _ _ _ _ => (pe_call G_is_signed (hr.mono (by decide)) (by rfl) T.g_is_signed T.F_is_signed.kp T.b_is_signed .nil pass0 (pa_cons (pv 3) pa_nil)))) pa_nil)))) (pss_one (ps_ret pe_non)) pss_nil)
  (pss_cons (ps_set (i := 2) sc_read_thing.nd rfl (.inl rfl) (pe_callTy c_tupL (by rfl) T.z_tuple (by decide +kernel) (pa_cons (pe_lc (own := [("word", 3)]) (g := gName 3) (by rfl) sc_read_thing.nd (pi_list (pe_slice sl_list (pv 1) (po_some pe_int) po_none)) (blkOk_by (own := [("word", 3)]) (N := ["text", "words", "numbers", "word"]) (sc := defScope s_read_thing) (by decide +kernel)) (fun _ _ _ _ _ => pg_name (i := 3) sc_read_thing.nd rfl (Or.inl rfl)) (fun _ _ _ _ _ => pts_nil) (fun _ _ _ _ _ => (pe_callTy Tx.c_intS (by rfl) T.z_int (by decide +kernel) (pa_cons (pv 3) pa_nil)))) pa_nil)))
  (pss_one (ps_ret (pe_ifExp (pt_val (pe_call G_are_numbers (hr.mono (by decide)) (by rfl) T.g_are_numbers T.F_are_numbers.kp T.b_are_numbers .nil pass0 (pa_cons (pv 2) pa_nil))) (pe_tup (pa_cons (pe_callTy Tx.c_intS (by rfl) T.z_int (by decide +kernel) (pa_cons (pe_ix ix_list (pv 1) pe_int (fun _ _ => rfl)) pa_nil)) (pa_cons (pe_ix ix_list (pv 1) pe_int (fun _ _ => rfl)) (pa_cons (pv 2) pa_nil)))) pe_non))))))), ?_⟩
    have hcnt := splitL_length 32 t
    refine q_asgL (xs := (splitL 32 t).map vS) (el_split (by decide) (ev_var rfl) (fun _ _ => ev_is ev_c s_blank) (by omega)) fun p H1 hp e1 h1 => ?_
    have hP := sq_of (K := K) h1
    obtain ⟨w0, r0, hs⟩ := splitL_ne 32 t
    unfold thingP at qn qs
    rw [hs] at qn qs hw h1 hP hcnt
    have hz0 : w0.length ≤ 100000 := by have := hw w0 (List.mem_cons_self ..); omega
    have lenE : ∀ {H2}, Ex H1 H2 → Ev (tCB (rLenS K) (tCons (tVar 1) tNil)) [some (vS t), some (.ref p), none, none] H2 (.int (((w0 :: r0).map vS).length : Int)) := fun e => ev_cb (vs := [.ref p]) (by walk_at "ea") (rc_lenL (ex_l e hP))
    cases r0 with
    | nil =>
      refine q_when (b := true) (et_is (et_or (a := true) (b := true) (et_is (et_test (ev_op (lenE (Ex.refl H1)) ev_c rv_I0)) (by simp)) (fun h => by cases h)) rfl) (fun _ H2 e2 => ?_) (fun h => by cases h)
      exact s_ret ev_c fun H3 e3 => qn rfl H3 ((e1.trans e2).trans e3)
    | cons w1 rest =>
      have hz1 : w1.length ≤ 100000 := by have := hw w1 (by simp); omega
      have hrest : ∀ w ∈ rest, w.length ≤ 640 := fun w h => by have := hw w (by simp [h]); omega
      simp only [List.length_cons] at hcnt
      dsimp only at qn qs
      refine q_when (b := !isCountL w0 || !isNameL w1) (et_is (et_or (a := false) (b := !isCountL w0 || !isNameL w1) (et_is (et_test (ev_op (lenE (Ex.refl H1)) ev_c rv_I0)) (decide_eq_false (by simp only [List.length_map, List.length_cons]; omega))) fun _ => et_or (et_not (et_B (ev_callP (vs := [vS w0]) (ea_cons (ev_word (i := 0) rfl hP rfl) ea_nil) fun H2 _ => ⟨w0, rfl, hz0, rfl⟩))) fun _ => et_not (et_B (ev_callP (vs := [vS w1]) (ea_cons (ev_word (i := 1) rfl hP rfl) ea_nil) fun H2 _ => ⟨w1, rfl, hz1, rfl⟩))) (Bool.false_or _)) (fun h H2 e2 => ?_) fun h H2 e2 => ?_
      · refine s_ret ev_c fun H3 e3 => qn ?_ H3 ((e1.trans e2).trans e3)
        rw [if_neg]
        cases h1 : isCountL w0 <;> cases h3 : isNameL w1 <;> simp [h1, h3] at h ⊢
      have hc0 : isCountL w0 = true ∧ isNameL w1 = true := by
        cases h1 : isCountL w0 <;> cases h3 : isNameL w1 <;> simp [h1, h3] at h ⊢
      rw [hc0.1, hc0.2] at qn qs
      have hP2 := ex_l e2 hP
      refine q_when (b := !rest.all isSignedL) (et_is (et_not (et_B (ev_allN (bs := rest.map isSignedL) (by
        have := el_lcW (K := K) (te := tCall (Pure fun vs _ z => ∃ l : List Nat, vs = [vS l] ∧ l.length ≤ 100000 ∧ z = .bl (isSignedL l)) [] E0 (tCons (tVar 3) tNil)) (j := 3) (vs := [3]) (fun w => V.bl (isSignedL w)) (el_drop (K := K) (j := 1) (k := 2) (σ := [some (vS t), some (.ref p), none, none]) rfl hP2) (by show rest.length ≤ 40000; omega) (fun _ => rfl) fun w H3 e3 hm => ev_callP (vs := [vS w]) (by walk_at "ea") fun H4 _ => ⟨w, rfl, by have := hrest w hm; omega, rfl⟩
        rw [List.map_map]
        exact this)))) (by rw [List.all_map]; rfl)) (fun h H3 e3 => ?_) fun h H3 e3 => ?_
      · refine s_ret ev_c fun H4 e4 => qn ?_ H4 (((e1.trans e2).trans e3).trans e4)
        rw [if_neg]
        cases h1 : rest.all isSignedL <;> simp [h1] at h ⊢
      have hsg : rest.all isSignedL = true := by
        cases h1 : rest.all isSignedL <;> simp [h1] at h ⊢
      rw [hsg] at qn qs
      have hP3 := ex_l e3 hP2
      refine q_asgU (xs := (rest.map intV).map V.int) (eu_tupL (by
        have := el_lcW (K := K) (te := tCB rIntS (tCons (tVar 3) tNil)) (j := 3) (vs := [3]) (fun w => V.int (intV w)) (el_drop (K := K) (j := 1) (k := 2) (σ := [some (vS t), some (.ref p), none, none]) rfl hP3) (by show rest.length ≤ 40000; omega) (fun _ => rfl) fun w H4 e4 hm => ev_cb (vs := [vS w]) (by walk_at "ea") (rc_intS (int_signed (hrest w hm) (List.all_eq_true.mp hsg w hm)) (hrest w hm))
        rw [List.map_map]
        exact this)) fun rn H4 hrn e4 h4 => ?_
      have hP4 := ex_l e4 hP3
      have hN : NsAt K H4 rn (rest.map intV) := st_of h4
      have tst : EvT (tB (tCall (Pure (kNumbersB K)) [] E0 (tCons (tVar 2) tNil))) [some (vS t), some (.ref p), some (.ref rn), none] H4 (okNs (rest.map intV)) := et_B (ev_callP (vs := [.ref rn]) (by walk_at "ea") fun H5 e5 => ⟨rn, rest.map intV, rfl, ex_t e5 hN, by rw [List.length_map]; omega, rfl⟩)
      have hw0 : w0.length ≤ 640 := by have := hw w0 (List.mem_cons_self ..); omega
      have hs0 := (count_signed (w := w0) (by omega)).mp hc0.1
      cases hok : okNs (rest.map intV) with
      | false =>
        rw [hok] at tst qn
        refine s_ret (v := .non) (ev_if (b := false) tst (fun h => by cases h) fun _ => ev_c) fun H5 e5 => qn ?_ H5 ((((e1.trans e2).trans e3).trans e4).trans e5)
        simp
      | true =>
        rw [hok] at tst qs
        refine s_retU (xs := [.int (intV w0), vS w1, .ref rn]) (eu_if (b := true) tst (fun _ => eu_tup (ea_cons (ev_cb (vs := [vS w0]) (ea_cons (ev_word (i := 0) rfl hP4 rfl) ea_nil) (rc_intS (int_signed hw0 hs0.1) hw0)) (ea_cons (ev_word (i := 1) rfl hP4 rfl) (ea_cons (ev_var rfl) ea_nil))) (by show 3 ≤ 100000; decide)) (fun h => by cases h)) fun r H5 hr5 e5 h5 => ?_
        exact qs ⟨intV w0, S w1, rest.map intV⟩ (by simp) r H5 (fresh_back (((e1.trans e2).trans e3).trans e4) hr5) ((((e1.trans e2).trans e3).trans e4).trans e5) ⟨rn, st_of h5, ex_t e5 hN⟩
end
end Kz
set_option Elab.async false
set_option linter.all false
set_option maxRecDepth 100000
set_option maxHeartbeats 4000000
set_option exponentiation.threshold 500
namespace Kz
open PySem PySem.Spec PyProof.Rows L2 Evl Vr
local macro_rules | `(tactic| walk_at "sc") => `(tactic| first | (with_reducible assumption) | (with_reducible exact sc_mul (by omega)) | (with_reducible exact sc_mulr (by omega)) | (with_reducible exact sc_div (by omega) (by decide)) | (show (0 : Int) < _; omega) | (show _ ≠ (0 : Int); omega) | (with_reducible rfl) | decide)
local macro_rules | `(tactic| walk_at "sq") => `(tactic| first | assumption | exact sq_of (by assumption) | exact st_of (by assumption))
local macro_rules | `(tactic| walk_at "pl") => `(tactic| first | assumption | exact pl_int | exact pl_bl | exact pl_str | exact pl_non | exact pl_lst (by assumption) | exact pl_tup (by assumption) | exact pl_dK (by assumption))
local macro_rules | `(tactic| walk_at "rv") => `(tactic| first
  | with_reducible exact rv_I0
  | with_reducible exact ru_neg
  | ((with_reducible apply rv_I); walk_at "sc")
  | ((with_reducible apply rv_ixL); walk_at "sq"; first | rfl | assumption)
  | ((with_reducible apply rv_ixT); walk_at "sq"; first | rfl | assumption)
  | ((with_reducible apply rv_eq); rfl) | ((with_reducible apply rv_ne); rfl))
local macro_rules | `(tactic| walk_at "rc") => `(tactic| first
  | with_reducible exact rc_I1 | with_reducible exact rc_B1 | with_reducible exact rc_I2 | ((with_reducible apply rc_repr); walk_at "sc") | ((with_reducible apply rc_lenL); walk_at "sq")
  | ((with_reducible apply rc_isiInt); walk_at "pl") | ((with_reducible apply rc_isiBool); walk_at "pl"))
local macro_rules | `(tactic| walk_at "ea") => `(tactic| first
  | with_reducible exact ea_nil | ((with_reducible apply ea_cons); walk_at "ev"; walk_at "ea"))
local macro_rules | `(tactic| walk_at "pow") => `(tactic| first
  | with_reducible exact ev_pow (a := 10) (b := 9) (c := 1000000000) (by decide +kernel) (by decide +kernel)
  | with_reducible exact ev_pow (a := 10) (b := 10) (c := 10000000000) (by decide +kernel) (by decide +kernel)
  | with_reducible exact ev_pow (a := 10) (b := 12) (c := 1000000000000) (by decide +kernel) (by decide +kernel)
  | with_reducible exact ev_pow (a := 10) (b := 17) (c := 100000000000000000) (by decide +kernel) (by decide +kernel)
  | with_reducible exact ev_pow (a := 10) (b := 20) (c := 100000000000000000000) (by decide +kernel) (by decide +kernel)
  | with_reducible exact ev_pow (a := 10) (b := 29) (c := 100000000000000000000000000000) (by decide +kernel) (by decide +kernel)
  | with_reducible exact ev_pow (a := 10) (b := 30) (c := 1000000000000000000000000000000) (by decide +kernel) (by decide +kernel)
  | with_reducible exact ev_pow (a := 10) (b := 40) (c := 10000000000000000000000000000000000000000) (by decide +kernel) (by decide +kernel)
  | with_reducible exact ev_pow (a := 10) (b := 57) (c := 1000000000000000000000000000000000000000000000000000000000) (by decide +kernel) (by decide +kernel)
  | with_reducible exact ev_pow (a := 10) (b := 58) (c := 10000000000000000000000000000000000000000000000000000000000) (by decide +kernel) (by decide +kernel)
  | with_reducible exact ev_pow (a := 10) (b := 59) (c := 100000000000000000000000000000000000000000000000000000000000) (by decide +kernel) (by decide +kernel)
  | with_reducible exact ev_pow (a := 10) (b := 60) (c := 1000000000000000000000000000000000000000000000000000000000000) (by decide +kernel) (by decide +kernel))
local macro_rules | `(tactic| walk_at "call") => `(tactic| (intro H9 e9; first | exact ⟨_, rfl, rfl⟩ | exact ⟨_, _, rfl, rfl⟩ | exact ⟨_, _, _, rfl, rfl⟩ | exact ⟨_, rfl, by walk_at "pl", rfl⟩ | (refine ⟨_, _, _, rfl, ?_, rfl⟩; first | exact Plain.ex e9 (by assumption) | walk_at "pl") | (refine ⟨_, rfl, ?_, rfl⟩; first | exact Plain.ex e9 (by assumption) | walk_at "pl")))
local macro_rules | `(tactic| walk_at "ev") => `(tactic| first
  | with_reducible exact ev_c
  | exact ev_var rfl
  | walk_at "pow"
  | ((with_reducible apply ev_op); walk_at "ev"; walk_at "ev"; walk_at "rv")
  | ((with_reducible apply ev_un); walk_at "ev"; walk_at "rv")
  | ((with_reducible apply ev_cb); walk_at "ea"; walk_at "rc")
  | ((with_reducible apply ev_callP); walk_at "ea"; walk_at "call")
  | ((with_reducible apply ev_chain); walk_at "ev"; walk_at "ev"; walk_at "rv"; walk_at "ev"; walk_at "rv")
  | ((with_reducible apply ev_andV); walk_at "ev"; intro _; walk_at "ev")
  | ((with_reducible apply ev_orV); walk_at "ev"; intro _; walk_at "ev")
  | ((with_reducible apply ev_ite); walk_at "et"; intro _; walk_at "ev"; intro _; walk_at "ev")
  | ((with_reducible apply ev_notV); walk_at "ev"))
local macro_rules | `(tactic| walk_at "et") => `(tactic| first
  | ((with_reducible apply et_test); walk_at "ev")
  | ((with_reducible apply et_B); walk_at "ev")
  | ((with_reducible apply et_and); walk_at "et"; intro _; walk_at "et")
  | ((with_reducible apply et_or); walk_at "et"; intro _; walk_at "et")
  | ((with_reducible apply et_not); walk_at "et"))
open En Wo Tx NumText
/-- signs of seven bits -/
def Low (l : List Nat) : Prop := ∀ c ∈ l, c < 128
theorem Low.infix {a b : List Nat} (h : Low b) (i : a <:+: b) : Low a := fun c hc => h c (i.subset hc)
theorem int_any {w : List Nat} (hl : w.length ≤ 640) (h3 : unsign w ≠ []) (h4 : AllDigits (unsign w)) : PySem.intText? (S w) = some (intV w) := by
  by_cases h45 : w.head? = some 45
  · obtain ⟨r, rfl⟩ : ∃ r, w = 45 :: r := by
      cases w with
      | nil => cases h45
      | cons c r => exact ⟨r, by rw [Option.some.inj h45]⟩
    rw [unsign_minus] at h3 h4
    rw [intV_minus]
    exact intText_neg (cs := r) rfl h4 h3 (by rw [S_len]; omega)
  · rw [unsign_of h45] at h3 h4
    rw [intV_of h45]
    exact intText_digits (x := S w) h4 h3 (by rw [S_len]; omega)
theorem val_lt : ∀ (w : List Nat) (a : Nat), AllDigits w → w.foldl (fun acc c => acc * 10 + (c - 48)) a < (a + 1) * 10 ^ w.length
  | [], a, _ => by simp
  | c :: w, a, h => by
    have h1 := val_lt w (a * 10 + (c - 48)) h.tail
    have h2 := h.head
    rw [List.foldl_cons, List.length_cons, Nat.pow_succ]
    refine Nat.lt_of_lt_of_le h1 ?_
    have h3 : a * 10 + (c - 48) + 1 ≤ (a + 1) * 10 := by omega
    calc (a * 10 + (c - 48) + 1) * 10 ^ w.length ≤ ((a + 1) * 10) * 10 ^ w.length := Nat.mul_le_mul_right _ h3
      _ = (a + 1) * (10 ^ w.length * 10) := by rw [Nat.mul_assoc, Nat.mul_comm 10]
theorem digits_lt {w : List Nat} (h : AllDigits w) (hl : w.length ≤ 500) : digitsVal w < 2 ^ 1900 := by
  have h1 := val_lt w 0 h
  have h2 : digitsVal w < 10 ^ w.length := by
    have : (0 + 1) * 10 ^ w.length = 10 ^ w.length := by rw [Nat.zero_add, Nat.one_mul]
    rw [this] at h1
    exact h1
  have h3 : (10 : Nat) ^ w.length ≤ 10 ^ 500 := Nat.pow_le_pow_right (by decide) hl
  have h4 : (10 : Nat) ^ 500 < 2 ^ 1900 := by decide +kernel
  omega
theorem intV_abs {w : List Nat} (h : AllDigits (unsign w)) (hl : w.length ≤ 500) : (intV w).natAbs.log2 < 1920 := by
  have hu := unsign_len w
  have h1 := digits_lt h (by omega)
  have h2 : (intV w).natAbs = digitsVal (unsign w) := by
    by_cases h45 : w.head? = some 45
    · obtain ⟨r, rfl⟩ : ∃ r, w = 45 :: r := by
        cases w with
        | nil => cases h45
        | cons c r => exact ⟨r, by rw [Option.some.inj h45]⟩
      rw [intV_minus, unsign_minus]
      omega
    · rw [intV_of h45, unsign_of h45]
      omega
  rw [h2]
  by_cases h0 : digitsVal (unsign w) = 0
  · rw [h0]; decide
  · exact (Nat.log2_lt h0).mpr (Nat.lt_trans h1 (Nat.pow_lt_pow_right (by decide) (by decide)))
theorem str_int (i : Int) : Str.ofString (toString i) = S (intL i) := by
  unfold intL
  cases i with
  | ofNat n =>
    rw [if_pos (show (0 : Int) ≤ Int.ofNat n from Int.natCast_nonneg n)]
    apply Str.ext'
    apply Array.toList_inj.mp
    exact TL.tl_num n
  | negSucc m =>
    rw [if_neg (by omega)]
    have e : (-(Int.negSucc m)).toNat = m + 1 := by omega
    rw [e]
    have e2 : toString (Int.negSucc m) = "-" ++ toString ((m + 1 : Nat) : Int) := rfl
    rw [e2, Str.ofString_eq_toList]
    have h := TL.tl_num (m + 1)
    rw [Str.ofString_eq_toList] at h
    apply Str.ext'
    apply Array.toList_inj.mp
    show ("-" ++ toString ((m + 1 : Nat) : Int)).toList.map Char.toNat = 45 :: TL.numL (m + 1)
    rw [← h, String.toList_append, List.map_append]
    rfl
theorem shaped_strs {ls : List (List Nat)} (h : ∀ l ∈ ls, Low l) : SeqAt.shaped (.list (ls.map fun l => PyData.str (S l))) = true := by
  have key : PyData.canLayAll0 (ls.map fun l => PyData.str (S l)) = true ∧ PyData.depthAll (ls.map fun l => PyData.str (S l)) = 0 := by
    induction ls with
    | nil => exact ⟨rfl, rfl⟩
    | cons l r ih =>
      have h1 := ih fun x hx => h x (List.mem_cons_of_mem _ hx)
      have h2 : PyData.strOk (S l) = true := by
        unfold PyData.strOk
        rw [← Array.all_toList, List.all_eq_true]
        intro c hc
        have := h l (List.mem_cons_self ..) c hc
        exact decide_eq_true (by omega)
      refine ⟨?_, ?_⟩
      · show (PyData.strOk (S l) && PyData.canLayAll0 (r.map fun l => PyData.str (S l))) = true
        rw [h2, h1.1]
        rfl
      · show max 0 (PyData.depthAll (r.map fun l => PyData.str (S l))) = 0
        rw [h1.2]
        rfl
  show (PyData.canLayAll0 (ls.map fun l => PyData.str (S l)) && decide (PyData.depthAll (ls.map fun l => PyData.str (S l)) + 1 ≤ 64)) = true
  rw [key.1, key.2]
  rfl
theorem ten_signs : Str.ofString "0123456789" = S [48, 49, 50, 51, 52, 53, 54, 55, 56, 57] := by decide +kernel
theorem abc_signs : Str.ofString "abcdefghijklmnopqrstuvwxyz" = S [97, 98, 99, 100, 101, 102, 103, 104, 105, 106, 107, 108, 109, 110, 111, 112, 113, 114, 115, 116, 117, 118, 119, 120, 121, 122] := by decide +kernel
theorem in_ten (c : Nat) : decide (c ∈ (Str.ofString "0123456789").cps.toList) = dig c := by
  rw [ten_signs, Bool.eq_iff_iff, dig_iff, decide_eq_true_iff]
  show c ∈ [48, 49, 50, 51, 52, 53, 54, 55, 56, 57] ↔ _
  simp only [List.mem_cons, List.not_mem_nil, or_false]
  omega
theorem in_abc (c : Nat) : decide (c ∈ (Str.ofString "abcdefghijklmnopqrstuvwxyz").cps.toList) = (decide (97 ≤ c) && decide (c ≤ 122)) := by
  rw [abc_signs, Bool.eq_iff_iff, decide_eq_true_iff]
  show c ∈ [97, 98, 99, 100, 101, 102, 103, 104, 105, 106, 107, 108, 109, 110, 111, 112, 113, 114, 115, 116, 117, 118, 119, 120, 121, 122] ↔ _
  simp only [List.mem_cons, List.not_mem_nil, or_false, Bool.and_eq_true, decide_eq_true_eq]
  omega
section
variable {σ : L2.St} {H : Hp} {te tl : TE} {K : PySem.W.Frag} {l : List Nat} {t : TT}
theorem dpa_strs {H : Hp} : ∀ ls : List (List Nat), DpAll K H (ls.map vS) (ls.map fun l => PyData.str (S l))
  | [] => .nil
  | l :: ls => .cons (.str _) (dpa_strs ls)
theorem rv_notIn {c : Nat} {z : Str} : RV (fun x y H Q => ∃ (c : Nat) (z : Str), x = .str ⟨#[c]⟩ ∧ y = .str z ∧ Q (.bl (!decide (c ∈ z.cps.toList))) H) (vS [c]) (.str z) H (.bl (!decide (c ∈ z.cps.toList))) := fun H1 _ Q q => ⟨c, z, rfl, rfl, q H1 (Ex.refl H1)⟩
/-- [sign for sign in text if sign not in z] != [] -/
theorem et_signs {j i : Nat} {vs : List Nat} {z : Str} {g : Nat → Bool} (hg : ∀ c, decide (c ∈ z.cps.toList) = g c) (hσ : σ[i]? = some (some (vS l))) (hlow : Low l) (hz : l.length ≤ 40000) (hw : ∀ x, wipe ((wipe σ vs).set j (some x)) vs = wipe σ vs) (hj : ∀ x : V, ((wipe σ vs).set j (some x))[j]? = some (some x)) :
    EvT (tTest (tOp (rNeD K) (tLc (iStr (tVar i)) (gName j) (tTest (tOp (fun x y H Q => ∃ (c : Nat) (z : Str), x = .str ⟨#[c]⟩ ∧ y = .str z ∧ Q (.bl (!decide (c ∈ z.cps.toList))) H) (tVar j) (tC (.str z)))) (tVar j) vs) (tLst tNil))) σ H (!l.all g) := by
  have hf : ∀ n, l.length = n → EvL (tLc (iStr (tVar i)) (gName j) (tTest (tOp (fun x y H Q => ∃ (c : Nat) (z : Str), x = .str ⟨#[c]⟩ ∧ y = .str z ∧ Q (.bl (!decide (c ∈ z.cps.toList))) H) (tVar j) (tC (.str z)))) (tVar j) vs) σ H (((l.filter fun c => !g c).map fun c => [c]).map vS) := fun n hn => by
    have e : given l.length (fun k => !g (l.getD k 0)) (fun k => vS [l.getD k 0]) = ((l.filter fun c => !g c).map fun c => [c]).map vS := by
      have := given_filter l 0 (fun c => !g c) (fun c => vS [c])
      rw [this, List.map_map]
      rfl
    rw [← e]
    refine el_lcS _ _ (ev_var hσ) hz hw (fun k c H1 e1 hc => ?_) fun k c H1 e1 hc _ => ?_
    · have hd : l.getD k 0 = c := by rw [List.getD_eq_getElem?_getD, hc]; rfl
      rw [hd, ← hg]
      exact et_test (ev_op (ev_var (hj _)) ev_c rv_notIn)
    · have hd : l.getD k 0 = c := by rw [List.getD_eq_getElem?_getD, hc]; rfl
      rw [hd]
      exact ev_var (hj _)
  refine et_is (et_test (ev_neD (d := .list (((l.filter fun c => !g c).map fun c => [c]).map fun l => PyData.str (S l))) (e := .list []) (fun H1 e1 Q q => hf _ rfl H1 e1 Q fun p H2 _ e2 h2 => q _ H2 e2 (.lst (sq_of h2) (dpa_strs _))) (evd_lst evda_nil (by decide)) (shaped_strs fun x hx => ?_) (by decide +kernel))) ?_
  · obtain ⟨c, hc, rfl⟩ := List.mem_map.mp hx
    intro d hd
    rw [List.mem_singleton.mp hd]
    exact hlow c (List.mem_filter.mp hc).1
  · refine congrArg Bool.not ?_
    cases hx : l.filter fun c => !g c with
    | nil =>
      have : l.all g = true := by
        rw [List.all_eq_true]
        intro c hc
        cases hgc : g c with
        | true => rfl
        | false => exact absurd (List.mem_filter (p := fun c => !g c) |>.mpr ⟨hc, by rw [hgc]; rfl⟩) (by rw [hx]; simp)
      rw [this]
      rfl
    | cons c r =>
      have hm : c ∈ l.filter fun c => !g c := by rw [hx]; exact List.mem_cons_self ..
      have h1 := List.mem_filter.mp hm
      have : l.all g = false := by
        rw [List.all_eq_false]
        exact ⟨c, h1.1, by simpa using h1.2⟩
      rw [this]
      rfl
end
def lawV (w : List Nat) : V := match lawInt w with
  | none => .non
  | some i => .int i
section
variable {P : Program} {w : World} {K : PySem.W.Frag} {mg : Str → Option Value} {base : Heap}
theorem ok_law_integer (T : Txt K mg w) : FnOk P w K mg base CX0 1 T.a_law_integer T.fd_law_integer ["part"] (Pure fun vs _ z => ∃ w : List Nat, vs = [vS w] ∧ w.length ≤ 500 ∧ Low w ∧ z = lawV w) := by
  refine T.F_law_integer.ok sc_law_integer (fun vs H Q E h => ?_) (fun cdv A outer s H vs Q E hr h => ?_)
  · obtain ⟨_, ⟨_, rfl, _⟩, _⟩ := h; rfl
  · obtain ⟨_, ⟨w, rfl, hl, hlow, rfl⟩, q⟩ := h
    refine ⟨_, (pss_cons (ps_set (i := 1) sc_law_integer.nd rfl (.inl rfl) (pe_ifExp (pt_cmpR op_eq (pe_slice sl_str (pv 0) po_none (po_some pe_int)) pe_str (nomark _)) (pe_slice sl_str (pv 0) (po_some pe_int) po_none) (pv 0)))
  (pss_cons (ps_if (PW.pt (pw_or (pt_cmpR op_eq (pv 1) pe_str (nomark _)) (pw_or1 (pt_cmpR (op_neD hr.units) (pe_lc (own := [("sign", 2)]) (g := gName 2) (by rfl) sc_law_integer.nd (pi_str (pv 1)) (blkOk_by (own := [("sign", 2)]) (N := ["part", "plain", "sign"]) (sc := defScope s_law_integer) (by decide +kernel)) (fun _ _ _ _ _ => pg_name (i := 2) sc_law_integer.nd rfl (Or.inl rfl)) (fun _ _ _ _ _ => (pts_one (pt_cmpR op_notIn_sign (pv 2) pe_str (by rfl)))) (fun _ _ _ _ _ => (pv 2))) (pe_lst pa_nil) (nomark _))))) (pss_one (ps_ret pe_non)) pss_nil)
  (pss_one (ps_ret (pe_ifExp (pt_cmpR op_eq (pe_callTy call_str_int (by rfl) T.z_str (by decide +kernel) (pa_cons (pe_callTy Tx.c_intS (by rfl) T.z_int (by decide +kernel) (pa_cons (pv 0) pa_nil)) pa_nil)) (pv 0) (nomark _)) (pe_callTy Tx.c_intS (by rfl) T.z_int (by decide +kernel) (pa_cons (pv 0) pa_nil)) pe_non))))), ?_⟩
    have hul := unsign_len w
    have hulow : Low (unsign w) := by
      by_cases h45 : w.head? = some 45
      · obtain ⟨r, rfl⟩ : ∃ r, w = 45 :: r := by
          cases w with
          | nil => cases h45
          | cons c r => exact ⟨r, by rw [Option.some.inj h45]⟩
        rw [unsign_minus]
        exact fun d hd => hlow d (List.mem_cons_of_mem _ hd)
      · rw [unsign_of h45]
        exact hlow
    refine q_asg (v := vS (unsign w)) ?_ fun H1 e1 => ?_
    · refine ev_if (b := decide (w.head? = some 45)) (et_is (et_test (ev_op (ev_slS (lo := none) (hi := some 1) (ev_var rfl) (fun _ _ => eo_none) (fun _ _ => eo_some ev_c) (by omega)) (ev_is ev_c s_minus) (rv_eq rfl))) ?_) (fun h => ev_is (ev_slS (lo := some 1) (hi := none) (ev_var rfl) (fun _ _ => eo_some ev_c) (fun _ _ => eo_none) (by omega)) ?_) fun h => ev_is (ev_var rfl) ?_
      · rw [eq_vS, HT.sIx_none]
        have : HT.sIx w.length w.length (some 1) = min 1 w.length := HT.sIx_nat _ _ 1
        rw [this, List.drop_zero, Nat.sub_zero, Bool.eq_iff_iff]
        simp only [decide_eq_true_eq]
        cases w with
        | nil => simp
        | cons c r =>
          have : min 1 (c :: r).length = 1 := by simp
          rw [this]
          simp
      · have h := of_decide_eq_true h
        obtain ⟨r, rfl⟩ : ∃ r, w = 45 :: r := by
          cases w with
          | nil => cases h
          | cons c r => exact ⟨r, by rw [Option.some.inj h]⟩
        have : HT.sIx (45 :: r).length 0 (some 1) = 1 := by
          have := HT.sIx_nat (45 :: r).length 0 1
          rw [show (some 1 : Option Int) = some ((1 : Nat) : Int) from rfl, this]
          simp
        rw [this, HT.sIx_none, unsign_minus]
        refine congrArg vS ?_
        show r.take (r.length + 1 - 1) = r
        exact List.take_of_length_le (by omega)
      · rw [unsign_of (of_decide_eq_false h)]
    refine q_when (b := decide (vS (unsign w) = vS []) || !(unsign w).all dig) (et_or (et_is (et_test (ev_op (ev_var rfl) ev_c (rv_eq rfl))) (by rw [s_empty])) fun _ => et_signs (fun c => in_ten c) rfl hulow (by omega) (fun _ => rfl) (fun _ => rfl)) (fun h H2 e2 => ?_) fun h H2 e2 => ?_
    · refine s_ret (v := lawV w) (ev_is ev_c ?_) fun H3 e3 => q H3 ((e1.trans e2).trans e3)
      rw [eq_vS] at h
      unfold lawV lawInt
      rw [if_pos]
      rw [Bool.or_eq_true, decide_eq_true_eq, Bool.not_eq_true'] at h
      exact h
    · rw [eq_vS, Bool.or_eq_false_iff, decide_eq_false_iff_not, Bool.not_eq_false'] at h
      have hd := all_dig.mp h.2
      have hI : ∀ {H3}, Ev (tCB rIntS (tCons (tVar 0) tNil)) [some (vS w), some (vS (unsign w)), none] H3 (.int (intV w)) := ev_cb (vs := [vS w]) (by walk_at "ea") (rc_intS (int_any (by omega) h.1 hd) (by omega))
      have e : lawV w = if intL (intV w) = w then .int (intV w) else .non := by
        unfold lawV lawInt
        rw [if_neg (fun z => z.elim h.1 fun y => by rw [h.2] at y; cases y)]
        by_cases h1 : intL (intV w) = w
        · rw [if_pos h1, if_pos h1]
        · rw [if_neg h1, if_neg h1]
      refine s_ret (v := lawV w) (ev_if (b := decide (intL (intV w) = w)) (et_is (et_test (ev_op (ev_cb (vs := [.int (intV w)]) (ea_cons hI ea_nil) (rc_strI (intV_abs hd hl))) (ev_var rfl) (rv_eq rfl))) (by rw [str_int, eq_vS])) (fun h1 => ev_is hI (by rw [e, if_pos (of_decide_eq_true h1)])) fun h1 => ev_is ev_c (by rw [e, if_neg (of_decide_eq_false h1)])) fun H3 e3 => q H3 ((e1.trans e2).trans e3)
end
end Kz
set_option Elab.async false
set_option linter.all false
set_option maxRecDepth 100000
set_option maxHeartbeats 4000000
set_option exponentiation.threshold 500
namespace Kz
open PySem PySem.Spec PyProof.Rows L2 Evl Vr
local macro_rules | `(tactic| walk_at "sc") => `(tactic| first | (with_reducible assumption) | (with_reducible exact sc_mul (by omega)) | (with_reducible exact sc_mulr (by omega)) | (with_reducible exact sc_div (by omega) (by decide)) | (show (0 : Int) < _; omega) | (show _ ≠ (0 : Int); omega) | (with_reducible rfl) | decide)
local macro_rules | `(tactic| walk_at "sq") => `(tactic| first | assumption | exact sq_of (by assumption) | exact st_of (by assumption))
local macro_rules | `(tactic| walk_at "pl") => `(tactic| first | assumption | exact pl_int | exact pl_bl | exact pl_str | exact pl_non | exact pl_lst (by assumption) | exact pl_tup (by assumption) | exact pl_dK (by assumption))
local macro_rules | `(tactic| walk_at "rv") => `(tactic| first
  | with_reducible exact rv_I0
  | with_reducible exact ru_neg
  | ((with_reducible apply rv_I); walk_at "sc")
  | ((with_reducible apply rv_ixL); walk_at "sq"; first | rfl | assumption)
  | ((with_reducible apply rv_ixT); walk_at "sq"; first | rfl | assumption)
  | ((with_reducible apply rv_eq); rfl) | ((with_reducible apply rv_ne); rfl))
local macro_rules | `(tactic| walk_at "rc") => `(tactic| first
  | with_reducible exact rc_I1 | with_reducible exact rc_B1 | with_reducible exact rc_I2 | ((with_reducible apply rc_repr); walk_at "sc") | ((with_reducible apply rc_lenL); walk_at "sq")
  | ((with_reducible apply rc_isiInt); walk_at "pl") | ((with_reducible apply rc_isiBool); walk_at "pl"))
local macro_rules | `(tactic| walk_at "ea") => `(tactic| first
  | with_reducible exact ea_nil | ((with_reducible apply ea_cons); walk_at "ev"; walk_at "ea"))
local macro_rules | `(tactic| walk_at "pow") => `(tactic| first
  | with_reducible exact ev_pow (a := 10) (b := 9) (c := 1000000000) (by decide +kernel) (by decide +kernel)
  | with_reducible exact ev_pow (a := 10) (b := 10) (c := 10000000000) (by decide +kernel) (by decide +kernel)
  | with_reducible exact ev_pow (a := 10) (b := 12) (c := 1000000000000) (by decide +kernel) (by decide +kernel)
  | with_reducible exact ev_pow (a := 10) (b := 17) (c := 100000000000000000) (by decide +kernel) (by decide +kernel)
  | with_reducible exact ev_pow (a := 10) (b := 20) (c := 100000000000000000000) (by decide +kernel) (by decide +kernel)
  | with_reducible exact ev_pow (a := 10) (b := 29) (c := 100000000000000000000000000000) (by decide +kernel) (by decide +kernel)
  | with_reducible exact ev_pow (a := 10) (b := 30) (c := 1000000000000000000000000000000) (by decide +kernel) (by decide +kernel)
  | with_reducible exact ev_pow (a := 10) (b := 40) (c := 10000000000000000000000000000000000000000) (by decide +kernel) (by decide +kernel)
  | with_reducible exact ev_pow (a := 10) (b := 57) (c := 1000000000000000000000000000000000000000000000000000000000) (by decide +kernel) (by decide +kernel)
  | with_reducible exact ev_pow (a := 10) (b := 58) (c := 10000000000000000000000000000000000000000000000000000000000) (by decide +kernel) (by decide +kernel)
  | with_reducible exact ev_pow (a := 10) (b := 59) (c := 100000000000000000000000000000000000000000000000000000000000) (by decide +kernel) (by decide +kernel)
  | with_reducible exact ev_pow (a := 10) (b := 60) (c := 1000000000000000000000000000000000000000000000000000000000000) (by decide +kernel) (by decide +kernel))
local macro_rules | `(tactic| walk_at "call") => `(tactic| (intro H9 e9; first | exact ⟨_, rfl, rfl⟩ | exact ⟨_, _, rfl, rfl⟩ | exact ⟨_, _, _, rfl, rfl⟩ | exact ⟨_, rfl, by walk_at "pl", rfl⟩ | (refine ⟨_, _, _, rfl, ?_, rfl⟩; first | exact Plain.ex e9 (by assumption) | walk_at "pl") | (refine ⟨_, rfl, ?_, rfl⟩; first | exact Plain.ex e9 (by assumption) | walk_at "pl")))
local macro_rules | `(tactic| walk_at "ev") => `(tactic| first
  | with_reducible exact ev_c
  | exact ev_var rfl
  | walk_at "pow"
  | ((with_reducible apply ev_op); walk_at "ev"; walk_at "ev"; walk_at "rv")
  | ((with_reducible apply ev_un); walk_at "ev"; walk_at "rv")
  | ((with_reducible apply ev_cb); walk_at "ea"; walk_at "rc")
  | ((with_reducible apply ev_callP); walk_at "ea"; walk_at "call")
  | ((with_reducible apply ev_chain); walk_at "ev"; walk_at "ev"; walk_at "rv"; walk_at "ev"; walk_at "rv")
  | ((with_reducible apply ev_andV); walk_at "ev"; intro _; walk_at "ev")
  | ((with_reducible apply ev_orV); walk_at "ev"; intro _; walk_at "ev")
  | ((with_reducible apply ev_ite); walk_at "et"; intro _; walk_at "ev"; intro _; walk_at "ev")
  | ((with_reducible apply ev_notV); walk_at "ev"))
local macro_rules | `(tactic| walk_at "et") => `(tactic| first
  | ((with_reducible apply et_test); walk_at "ev")
  | ((with_reducible apply et_B); walk_at "ev")
  | ((with_reducible apply et_and); walk_at "et"; intro _; walk_at "et")
  | ((with_reducible apply et_or); walk_at "et"; intro _; walk_at "et")
  | ((with_reducible apply et_not); walk_at "et"))
open En Wo Tx NumText
section
variable {σ : L2.St} {H : Hp} {ta tb te tl : TE} {K : PySem.W.Frag} {l : List Nat} {t : TT} {tz : TS} {D : Ends} {x : V}
theorem et_isNn (h : Ev te σ H x) : EvT (tB (tIsN te)) σ H (decide (x = .non)) := fun H1 e _ q => h H1 e _ fun H2 e2 => ⟨_, rfl, q H2 e2⟩
theorem q_parVL {i j : Nat} {v1 : V} {xs : List V} (h1 : Ev ta σ H v1) (h2 : ∀ H1, Ex H H1 → EvL tb σ H1 xs) (k : ∀ l H1, H l = none → Ex H H1 → H1 l = some (.lst xs) → tz D ((σ.set i (some v1)).set j (some (.ref l))) H1) : tSeq (tPar i j (tCons ta (tCons tb tNil))) tz D σ H :=
  h1 H (Ex.refl H) _ fun H1 e1 => h2 H1 e1 H1 (Ex.refl H1) _ fun l H2 hl e2 hx => ⟨v1, .ref l, rfl, k l H2 (fresh_back e1 hl) (e1.trans e2) hx⟩
theorem el_if {b : Bool} {xs : List V} (h : EvT t σ H b) (h1 : b = true → EvL ta σ H xs) (h2 : b = false → EvL tb σ H xs) : EvL (tIf t ta tb) σ H xs := fun H1 e Q q => h H1 e _ fun H2 e2 => by
  match b with
  | true =>
    rw [if_pos rfl]
    exact h1 rfl H2 (e.trans e2) Q fun p H3 hp e3 h3 => q p H3 (fresh_back e2 hp) (e2.trans e3) h3
  | false =>
    rw [if_neg Bool.false_ne_true]
    exact h2 rfl H2 (e.trans e2) Q fun p H3 hp e3 h3 => q p H3 (fresh_back e2 hp) (e2.trans e3) h3
theorem et_yesF {a b : Bool} {u : TT} (h : EvT t σ H a) (ha : a = true) : EvT (tOr t u) σ H true := by
  subst ha
  exact et_is (et_or (b := true) h fun z => by cases z) rfl
theorem et_noF {a b : Bool} {u : TT} (h : EvT t σ H a) (ha : a = false) (h2 : EvT u σ H b) : EvT (tOr t u) σ H b := by
  subst ha
  exact et_is (et_or h fun _ => h2) (Bool.false_or _)
end
theorem max_ex : ∀ l : List Int, l ≠ [] → ∃ m ∈ l, ∀ y ∈ l, y ≤ m
  | [], h => absurd rfl h
  | [a], _ => ⟨a, by simp, fun y hy => by rw [List.mem_singleton.mp hy]; exact Int.le_refl _⟩
  | a :: b :: r, _ => by
    obtain ⟨m, h1, h2⟩ := max_ex (b :: r) (by simp)
    by_cases h : m ≤ a
    · exact ⟨a, by simp, fun y hy => by
        rcases List.mem_cons.mp hy with rfl | hy
        · exact Int.le_refl _
        · exact Int.le_trans (h2 y hy) h⟩
    · exact ⟨m, List.mem_cons_of_mem _ h1, fun y hy => by
        rcases List.mem_cons.mp hy with rfl | hy
        · omega
        · exact h2 y hy⟩
theorem none_in (ws : List (List Nat)) : inV .non (ws.map lawV) = !ws.all fun w => (lawInt w).isSome := by
  induction ws with
  | nil => rfl
  | cons w r ih =>
    show (eqV (lawV w) .non || inV .non (r.map lawV)) = _
    rw [ih, List.all_cons]
    unfold lawV
    cases lawInt w <;> simp [eqV]
theorem flat_law (ws : List (List Nat)) : (ws.map lawV).all flatV = true := by
  rw [List.all_map, List.all_eq_true]
  intro w _
  show flatV (lawV w) = true
  unfold lawV
  cases lawInt w <;> rfl
theorem law_ints {ws : List (List Nat)} (h : ws.all (fun w => (lawInt w).isSome) = true) : ws.map lawV = (ws.map fun w => (lawInt w).getD 0).map V.int := by
  rw [List.map_map]
  refine List.map_congr_left fun w hw => ?_
  have := List.all_eq_true.mp h w hw
  show lawV w = V.int ((lawInt w).getD 0)
  unfold lawV
  cases hx : lawInt w with
  | none => rw [hx] at this; cases this
  | some i => rfl
section
variable {P : Program} {w : World} {K : PySem.W.Frag} {mg : Str → Option Value} {base : Heap}
def spLT (K : PySem.W.Frag) : Sp := fun vs H Q _ => ∃ (t : List Nat) (least : Int), vs = [vS t, .int least] ∧ Short t ∧ Low t ∧ (thingL t least = none → ∀ H', Ex H H' → Q .non H') ∧ ∀ g, thingL t least = some g → ∀ r H', H r = none → Ex H H' → TgAt K H' r g → Q (.ref r) H'
theorem ok_law_read_thing (T : Txt K mg w) : FnOk P w K mg base CX0 2 T.a_law_read_thing T.fd_law_read_thing ["part", "least"] (spLT K) := by
  have G_law_integer := ok_law_integer (P := P) (w := w) (base := base) T
  refine T.F_law_read_thing.ok sc_law_read_thing (fun vs H Q E h => ?_) (fun cdv A outer s H vs Q E hr h => ?_)
  · obtain ⟨_, _, rfl, _⟩ := h; rfl
  · obtain ⟨t, least, rfl, ⟨hl, hw⟩, hlow, qn, qs⟩ := h
    refine ⟨_, (pss_cons (ps_set (i := 2) sc_law_read_thing.nd rfl (.inl rfl) (pe_split (pv 0) pe_str))
  (pss_cons (ps_par (i := 3) (j := 4) (by rfl) sc_law_read_thing.nd rfl rfl (by decide) rfl rfl (pa_cons (pe_call G_law_integer (hr.mono (by decide)) (by rfl) T.g_law_integer T.F_law_integer.kp T.b_law_integer .nil pass0 (pa_cons (pe_ix ix_list (pv 2) pe_int (fun _ _ => rfl)) pa_nil)) (pa_cons (pe_lc (own := [("word", 6)]) (g := gName 6) (by rfl) sc_law_read_thing.nd (pi_list (pe_slice sl_list (pv 2) (po_some pe_int) po_none)) (blkOk_by (own := [("word", 6)]) (N := ["part", "least", "words", "thing", "numbers", "kind", "word", "sign", "one"]) (sc := defScope s_law_read_thing) (by decide +kernel)) (fun _ _ _ _ _ => pg_name (i := 6) sc_law_read_thing.nd rfl (Or.inl rfl)) (fun _ _ _ _ _ => pts_nil) (fun _ _ _ _ _ => (pe_call G_law_integer (hr.mono (by decide)) (by rfl) T.g_law_integer T.F_law_integer.kp T.b_law_integer .nil pass0 (pa_cons (pv 6) pa_nil)))) pa_nil)) (by rfl))
  (pss_cons (ps_if (PW.pt (pw_or (pt_cmp (pc_isN (pv 3)) rfl) (pw_or (pt_cmpR op_lt (pv 3) (pv 1) (nomark _)) (pw_or (pt_not (pt_chain op_le op_le pe_int (pe_callB c_len (by rfl) T.z_len PySem.boot_len (pa_cons (pv 4) pa_nil)) pe_int)) (pw_or (pt_cmpR op_in_seq pe_non (pv 4) (by rfl)) (pw_or1 (pt_cmpR op_gt (pe_callB (cr_max rfl) (by rfl) T.z_max (by decide +kernel) (pa_cons (pe_lc (own := [("one", 8)]) (g := gName 8) (by rfl) sc_law_read_thing.nd (pi_list (pv 4)) (blkOk_by (own := [("one", 8)]) (N := ["part", "least", "words", "thing", "numbers", "kind", "word", "sign", "one"]) (sc := defScope s_law_read_thing) (by decide +kernel)) (fun _ _ _ _ _ => pg_name (i := 8) sc_law_read_thing.nd rfl (Or.inl rfl)) (fun _ _ _ _ _ => pts_nil) (fun _ _ _ _ _ => (pe_callB c_abs (by rfl) T.z_abs (by decide +kernel) (pa_cons (pv 8) pa_nil)))) pa_nil)) (pe_op op_pow pe_int pe_int) (nomark _)))))))) (pss_one (ps_ret pe_non)) pss_nil)
  (pss_cons (ps_set (i := 5) sc_law_read_thing.nd rfl (.inl rfl) (pe_ix ix_list (pv 2) pe_int (fun _ _ => rfl)))
  (pss_cons (ps_if (PW.pt (pw_or (pt_not (pt_chain op_le op_le pe_int (pe_callB call_len_str (by rfl) T.z_len PySem.boot_len (pa_cons (pv 5) pa_nil)) pe_int)) (pw_or1 (pt_cmpR (op_neD hr.units) (pe_lc (own := [("sign", 7)]) (g := gName 7) (by rfl) sc_law_read_thing.nd (pi_str (pv 5)) (blkOk_by (own := [("sign", 7)]) (N := ["part", "least", "words", "thing", "numbers", "kind", "word", "sign", "one"]) (sc := defScope s_law_read_thing) (by decide +kernel)) (fun _ _ _ _ _ => pg_name (i := 7) sc_law_read_thing.nd rfl (Or.inl rfl)) (fun _ _ _ _ _ => (pts_one (pt_cmpR op_notIn_sign (pv 7) pe_str (by rfl)))) (fun _ _ _ _ _ => (pv 7))) (pe_lst pa_nil) (nomark _))))) (pss_one (ps_ret pe_non)) pss_nil)
  (pss_one (ps_ret (pe_tup (pa_cons (pv 3) (pa_cons (pv 5) (pa_cons (pe_callTy c_tupL (by rfl) T.z_tuple (by decide +kernel) (pa_cons (pv 4) pa_nil)) pa_nil))))))))))), ?_⟩
    have hcnt := splitL_length 32 t
    have hwl : ∀ w ∈ splitL 32 t, Low w := fun w h => hlow.infix (splitL_infix 32 t w h)
    refine q_asgL (xs := (splitL 32 t).map vS) (el_split (by decide) (ev_var rfl) (fun _ _ => ev_is ev_c s_blank) (by omega)) fun p H1 hp e1 h1 => ?_
    have hP := sq_of (K := K) h1
    have lawE : ∀ {σ : L2.St} {H2 : Hp} {te : TE} {w : List Nat}, Ev te σ H2 (vS w) → w ∈ splitL 32 t → Ev (tCall (Pure fun vs _ z => ∃ w : List Nat, vs = [vS w] ∧ w.length ≤ 500 ∧ Low w ∧ z = lawV w) [] E0 (tCons te tNil)) σ H2 (lawV w) := fun {σ H2 te w} h hm => ev_callP (vs := [vS w]) (ea_cons h ea_nil) fun H3 _ => ⟨w, rfl, hw w hm, hwl w hm, rfl⟩
    obtain ⟨w0, r0, hs⟩ := splitL_ne 32 t
    unfold thingL at qn qs
    rw [hs] at qn qs hw h1 hP hcnt hwl lawE
    have dr : (w0 :: r0).drop 2 = r0.drop 1 := rfl
    have hn40 : (r0.drop 1).length ≤ 40000 := by
      simp only [List.length_cons] at hcnt
      rw [List.length_drop]
      omega
    refine q_parVL (v1 := lawV w0) (xs := (r0.drop 1).map lawV) (lawE (ev_word (i := 0) rfl hP rfl) (List.mem_cons_self ..)) (fun H2 e2 => ?_) fun pn H2 hpn e2 h2 => ?_
    · exact el_lcW (K := K) (j := 6) (vs := [6]) lawV (el_drop (K := K) (j := 2) (k := 2) rfl (ex_l e2 hP)) hn40 (fun _ => rfl) fun w H3 e3 hm => lawE (ev_var rfl) (List.mem_cons_of_mem _ (List.mem_of_mem_drop hm))
    have hN := sq_of (K := K) h2
    have hP2 := ex_l e2 hP
    have t3 : ∀ {σ : L2.St} {H3}, Ex H2 H3 → σ[4]? = some (some (.ref pn)) → EvT (tNot (tTest (tChain (rI0 fun i j => V.bl (decide (i ≤ j))) (rI0 fun i j => V.bl (decide (i ≤ j))) (tC (.int 1)) (tCB (rLenS K) (tCons (tVar 4) tNil)) (tC (.int 8))))) σ H3 (!(decide ((1 : Int) ≤ ((r0.drop 1).map lawV).length) && decide ((((r0.drop 1).map lawV).length : Int) ≤ 8))) := fun e h4 => et_not (et_test (ev_chain ev_c (ev_cb (vs := [.ref pn]) (ea_cons (ev_var h4) ea_nil) (rc_lenL (ex_l e hN))) rv_I0 ev_c rv_I0))
    cases h0 : lawInt w0 with
    | none =>
      have e0 : lawV w0 = .non := by unfold lawV; rw [h0]
      refine q_when (b := true) (et_yesF (b := true) (et_isNn (ev_var rfl)) (by rw [e0]; rfl)) (fun _ H3 e3 => ?_) (fun h => by cases h)
      refine s_ret ev_c fun H4 e4 => qn ?_ H4 (((e1.trans e2).trans e3).trans e4)
      cases r0 <;> simp [h0]
    | some i =>
      have e0 : lawV w0 = .int i := by unfold lawV; rw [h0]
      have n1 : decide (V.int i = V.non) = false := by simp
      rw [e0]
      by_cases hlt : i < least
      · refine q_when (b := true) (et_noF (et_isNn (x := .int i) (ev_var rfl)) n1 (et_yesF (b := true) (et_test (ev_op (ev_var rfl) (ev_var rfl) rv_I0)) (decide_eq_true hlt))) (fun _ H3 e3 => ?_) (fun h => by cases h)
        refine s_ret ev_c fun H4 e4 => qn ?_ H4 (((e1.trans e2).trans e3).trans e4)
        cases r0 <;> simp [h0, hlt]
      have hlt' : decide (i < least) = false := decide_eq_false hlt
      by_cases hln : 1 ≤ (r0.drop 1).length ∧ (r0.drop 1).length ≤ 8
      · have hln' : (!(decide ((1 : Int) ≤ ((r0.drop 1).map lawV).length) && decide ((((r0.drop 1).map lawV).length : Int) ≤ 8))) = false := by
          rw [List.length_map, decide_eq_true (by omega), decide_eq_true (by omega)]
          rfl
        cases r0 with
        | nil => exact absurd hln.1 (by simp)
        | cons w1 rest =>
          have d1 : (w1 :: rest).drop 1 = rest := rfl
          rw [d1] at hln hln' hN hn40 t3
          dsimp only at qn qs
          rw [h0] at qn qs
          dsimp only at qn qs
          rw [if_neg hlt] at qn qs
          have t4 : ∀ {σ : L2.St} {H3}, Ex H2 H3 → σ[4]? = some (some (.ref pn)) → EvT (tTest (tOp (rIn K false) (tC .non) (tVar 4))) σ H3 (inV .non (rest.map lawV)) := fun e h4 => et_test (ev_op ev_c (ev_var h4) (rv_isL (ex_l e hN) rfl (flat_law rest)))
          cases hall : rest.all fun w => (lawInt w).isSome with
          | false =>
            refine q_when (b := true) (et_noF (et_isNn (x := .int i) (ev_var rfl)) n1 (et_noF (et_test (ev_op (ev_var rfl) (ev_var rfl) rv_I0)) hlt' (et_noF (t3 (Ex.refl H2) rfl) hln' (et_yesF (b := true) (t4 (Ex.refl H2) rfl) (by rw [none_in, hall]; rfl))))) (fun _ H3 e3 => ?_) (fun h => by cases h)
            refine s_ret ev_c fun H4 e4 => qn ?_ H4 (((e1.trans e2).trans e3).trans e4)
            rw [hall]
            simp
          | true =>
            rw [hall] at qn qs
            rw [law_ints hall] at hN
            generalize hv : (rest.map fun w => (lawInt w).getD 0) = vals at *
            have hvl : vals.length = rest.length := by rw [← hv, List.length_map]
            obtain ⟨M, hM1, hM2⟩ := max_ex (vals.map fun n => if n < 0 then -n else n) (by intro z; have := congrArg List.length z; simp at this; rw [this] at hvl; simp at hvl; omega)
            have t5 : EvT (tTest (tOp (rI0 fun i j => V.bl (decide (i > j))) (tCB (rMax K) (tCons (tLc (iList K (tVar 4)) (gName 8) tYes (tCB (rI1 fun i => V.int (if i < 0 then -i else i)) (tCons (tVar 8) tNil)) [8]) tNil)) (tOp (rI CPow fun i j => .int (i ^ j.toNat)) (tC (.int 10)) (tC (.int 9))))) [some (vS t), some (.int least), some (.ref p), some (.int i), some (.ref pn), none, none, none, none] H2 (decide (M > 1000000000)) := by
              refine et_test (ev_op (x := .int M) (y := .int 1000000000) (ev_maxN (ns := vals.map fun n => if n < 0 then -n else n) ?_ hM1 hM2) (by walk_at "pow") rv_I0)
              have e : given (vals.map V.int).length (fun _ => true) (fun k => (fun n : Int => V.int (if n < 0 then -n else n)) (vals.getD k 0)) = (vals.map fun n => if n < 0 then -n else n).map V.int := by
                rw [List.length_map, given_yes_map vals 0 fun n : Int => V.int (if n < 0 then -n else n), List.map_map]
                rfl
              rw [← e]
              refine el_lcL (fun _ => true) _ (ev_var rfl) hN (by rw [List.length_map]; omega) (fun _ => rfl) (fun k x H3 e3 hx => et_yes) fun k x H3 e3 hx _ => ?_
              rw [List.getElem?_map] at hx
              cases h : vals[k]? with
              | none => rw [h] at hx; cases hx
              | some n =>
                rw [h] at hx
                obtain rfl : x = .int n := (Option.some.inj hx).symm
                have hd : vals.getD k 0 = n := by rw [List.getD_eq_getElem?_getD, h]; rfl
                rw [hd]
                exact ev_cb (vs := [.int n]) (by walk_at "ea") rc_I1
            have hok : okNs vals = !decide (M > 1000000000) := by
              unfold okNs
              rw [decide_eq_true (by omega), decide_eq_true (by omega), Bool.eq_iff_iff]
              simp only [Bool.true_and, List.all_eq_true, Bool.and_eq_true, decide_eq_true_eq, Bool.not_eq_true', decide_eq_false_iff_not]
              constructor
              · intro h
                obtain ⟨n, hn, hM⟩ := List.mem_map.mp hM1
                have := h n hn
                rw [← hM]
                split <;> omega
              · intro h n hn
                have := hM2 _ (List.mem_map_of_mem (f := fun n : Int => if n < 0 then -n else n) hn)
                split at this <;> omega
            rw [hok] at qn qs
            cases hbig : decide (M > 1000000000) with
            | true =>
              rw [hbig] at qn
              refine q_when (b := true) (et_noF (et_isNn (x := .int i) (ev_var rfl)) n1 (et_noF (et_test (ev_op (ev_var rfl) (ev_var rfl) rv_I0)) hlt' (et_noF (t3 (Ex.refl H2) rfl) hln' (et_noF (t4 (Ex.refl H2) rfl) (by rw [none_in, hall]; rfl) (et_is t5 hbig))))) (fun _ H3 e3 => ?_) (fun h => by cases h)
              exact s_ret ev_c fun H4 e4 => qn (by simp) H4 (((e1.trans e2).trans e3).trans e4)
            | false =>
              rw [hbig] at qn qs
              refine q_when (b := false) (et_noF (et_isNn (x := .int i) (ev_var rfl)) n1 (et_noF (et_test (ev_op (ev_var rfl) (ev_var rfl) rv_I0)) hlt' (et_noF (t3 (Ex.refl H2) rfl) hln' (et_noF (t4 (Ex.refl H2) rfl) (by rw [none_in, hall]; rfl) (et_is t5 hbig))))) (fun h => by cases h) fun _ H3 e3 => ?_
              have hP3 := ex_l e3 hP2
              have hz1 : w1.length ≤ 500 := hw w1 (by simp)
              have hl1 : Low w1 := hwl w1 (by simp)
              refine q_asg (v := vS w1) (ev_word (i := 1) rfl hP3 rfl) fun H4 e4 => ?_
              have hname : (!(decide ((1 : Int) ≤ w1.length) && decide ((w1.length : Int) ≤ 8)) || !w1.all fun c => decide (97 ≤ c) && decide (c ≤ 122)) = !isNameL w1 := by
                have a1 : decide ((1 : Int) ≤ w1.length) = decide (1 ≤ w1.length) := by rw [Bool.eq_iff_iff]; simp only [decide_eq_true_eq]; omega
                have a2 : decide ((w1.length : Int) ≤ 8) = decide (w1.length ≤ 8) := by rw [Bool.eq_iff_iff]; simp only [decide_eq_true_eq]; omega
                unfold isNameL
                rw [a1, a2, ← Bool.not_and]
              refine q_when (b := !isNameL w1) (et_is (et_or (et_not (et_test (ev_chain ev_c (ev_cb (vs := [vS w1]) (by walk_at "ea") (rc_lenV (by omega))) rv_I0 ev_c rv_I0))) fun _ => et_signs (fun c => in_abc c) rfl hl1 (by omega) (fun _ => rfl) (fun _ => rfl)) hname) (fun h H5 e5 => ?_) fun h H5 e5 => ?_
              · have h' : isNameL w1 = false := by simpa using h
                rw [h'] at qn
                exact s_ret ev_c fun H6 e6 => qn (by simp) H6 (((((e1.trans e2).trans e3).trans e4).trans e5).trans e6)
              · have h' : isNameL w1 = true := by simpa using h
                rw [h'] at qs
                have hN5 := ex_l ((e3.trans e4).trans e5) hN
                have eA := (((e1.trans e2).trans e3).trans e4).trans e5
                have hret : EvAP (tCons (tVar 3) (tCons (tVar 5) (tCons (tCB (rTupL K) (tCons (tVar 4) tNil)) tNil))) [some (vS t), some (.int least), some (.ref p), some (.int i), some (.ref pn), some (vS w1), none, none, none] H5 (fun vs H' => ∃ b, vs = [.int i, vS w1, .ref b] ∧ H' b = some (.tup (vals.map V.int))) := (ap_cons (ev_var rfl) (ap_cons (ev_var rfl) (ap_consU (eu_tupV (p := pn) (ev_var rfl) hN5) ap_nil))).mono fun vs H' ⟨_, a1, _, a2, b, _, a3, a4, a5⟩ => ⟨b, by rw [a1, a2, a3, a5], a4⟩
                refine s_retTP hret (fun vs H' ⟨b, hv, _⟩ => by rw [hv]; show 3 ≤ 100000; decide) fun r vs H6 e6 ⟨b, hv, hb⟩ hr6 => ?_
                subst hv
                exact qs ⟨i, S w1, vals⟩ (by simp) r _ (fresh_back (eA.trans e6) hr6) ((eA.trans e6).trans (Ex.new hr6)) ⟨b, st_of upd_same, st_of (Ex.new hr6 _ _ hb)⟩
      · have hln' : (!(decide ((1 : Int) ≤ ((r0.drop 1).map lawV).length) && decide ((((r0.drop 1).map lawV).length : Int) ≤ 8))) = true := by
          rw [List.length_map, Bool.not_eq_true', Bool.and_eq_false_iff, decide_eq_false_iff_not, decide_eq_false_iff_not]
          omega
        refine q_when (b := true) (et_noF (et_isNn (x := .int i) (ev_var rfl)) n1 (et_noF (et_test (ev_op (ev_var rfl) (ev_var rfl) rv_I0)) hlt' (et_yesF (b := true) (t3 (Ex.refl H2) rfl) hln'))) (fun _ H3 e3 => ?_) (fun h => by cases h)
        refine s_ret ev_c fun H4 e4 => qn ?_ H4 (((e1.trans e2).trans e3).trans e4)
        cases r0 with
        | nil => rfl
        | cons w1 rest =>
          have d1 : (w1 :: rest).drop 1 = rest := rfl
          rw [d1] at hln
          dsimp only
          rw [h0]
          dsimp only
          rw [if_neg hlt]
          have : okNs (rest.map fun w => (lawInt w).getD 0) = false := by
            unfold okNs
            rw [List.length_map]
            by_cases h1 : 1 ≤ rest.length
            · have h8 : ¬ rest.length ≤ 8 := fun z => hln ⟨h1, z⟩
              rw [decide_eq_false h8]
              simp
            · rw [decide_eq_false h1]
              rfl
          rw [this]
          simp
end
end Kz
set_option Elab.async false
set_option linter.all false
set_option maxRecDepth 100000
set_option maxHeartbeats 4000000
set_option exponentiation.threshold 500
namespace Kz
open PySem PySem.Spec PyProof.Rows L2 Evl Vr
local macro_rules | `(tactic| walk_at "sc") => `(tactic| first | (with_reducible assumption) | (with_reducible exact sc_mul (by omega)) | (with_reducible exact sc_mulr (by omega)) | (with_reducible exact sc_div (by omega) (by decide)) | (show (0 : Int) < _; omega) | (show _ ≠ (0 : Int); omega) | (with_reducible rfl) | decide)
local macro_rules | `(tactic| walk_at "sq") => `(tactic| first | assumption | exact sq_of (by assumption) | exact st_of (by assumption))
local macro_rules | `(tactic| walk_at "pl") => `(tactic| first | assumption | exact pl_int | exact pl_bl | exact pl_str | exact pl_non | exact pl_lst (by assumption) | exact pl_tup (by assumption) | exact pl_dK (by assumption))
local macro_rules | `(tactic| walk_at "rv") => `(tactic| first
  | with_reducible exact rv_I0
  | with_reducible exact ru_neg
  | ((with_reducible apply rv_I); walk_at "sc")
  | ((with_reducible apply rv_ixL); walk_at "sq"; first | rfl | assumption)
  | ((with_reducible apply rv_ixT); walk_at "sq"; first | rfl | assumption)
  | ((with_reducible apply rv_eq); rfl) | ((with_reducible apply rv_ne); rfl))
local macro_rules | `(tactic| walk_at "rc") => `(tactic| first
  | with_reducible exact rc_I1 | with_reducible exact rc_B1 | with_reducible exact rc_I2 | ((with_reducible apply rc_repr); walk_at "sc") | ((with_reducible apply rc_lenL); walk_at "sq")
  | ((with_reducible apply rc_isiInt); walk_at "pl") | ((with_reducible apply rc_isiBool); walk_at "pl"))
local macro_rules | `(tactic| walk_at "ea") => `(tactic| first
  | with_reducible exact ea_nil | ((with_reducible apply ea_cons); walk_at "ev"; walk_at "ea"))
local macro_rules | `(tactic| walk_at "pow") => `(tactic| first
  | with_reducible exact ev_pow (a := 10) (b := 9) (c := 1000000000) (by decide +kernel) (by decide +kernel)
  | with_reducible exact ev_pow (a := 10) (b := 10) (c := 10000000000) (by decide +kernel) (by decide +kernel)
  | with_reducible exact ev_pow (a := 10) (b := 12) (c := 1000000000000) (by decide +kernel) (by decide +kernel)
  | with_reducible exact ev_pow (a := 10) (b := 17) (c := 100000000000000000) (by decide +kernel) (by decide +kernel)
  | with_reducible exact ev_pow (a := 10) (b := 20) (c := 100000000000000000000) (by decide +kernel) (by decide +kernel)
  | with_reducible exact ev_pow (a := 10) (b := 29) (c := 100000000000000000000000000000) (by decide +kernel) (by decide +kernel)
  | with_reducible exact ev_pow (a := 10) (b := 30) (c := 1000000000000000000000000000000) (by decide +kernel) (by decide +kernel)
  | with_reducible exact ev_pow (a := 10) (b := 40) (c := 10000000000000000000000000000000000000000) (by decide +kernel) (by decide +kernel)
  | with_reducible exact ev_pow (a := 10) (b := 57) (c := 1000000000000000000000000000000000000000000000000000000000) (by decide +kernel) (by decide +kernel)
  | with_reducible exact ev_pow (a := 10) (b := 58) (c := 10000000000000000000000000000000000000000000000000000000000) (by decide +kernel) (by decide +kernel)
  | with_reducible exact ev_pow (a := 10) (b := 59) (c := 100000000000000000000000000000000000000000000000000000000000) (by decide +kernel) (by decide +kernel)
  | with_reducible exact ev_pow (a := 10) (b := 60) (c := 1000000000000000000000000000000000000000000000000000000000000) (by decide +kernel) (by decide +kernel))
local macro_rules | `(tactic| walk_at "call") => `(tactic| (intro H9 e9; first | exact ⟨_, rfl, rfl⟩ | exact ⟨_, _, rfl, rfl⟩ | exact ⟨_, _, _, rfl, rfl⟩ | exact ⟨_, rfl, by walk_at "pl", rfl⟩ | (refine ⟨_, _, _, rfl, ?_, rfl⟩; first | exact Plain.ex e9 (by assumption) | walk_at "pl") | (refine ⟨_, rfl, ?_, rfl⟩; first | exact Plain.ex e9 (by assumption) | walk_at "pl")))
local macro_rules | `(tactic| walk_at "ev") => `(tactic| first
  | with_reducible exact ev_c
  | exact ev_var rfl
  | walk_at "pow"
  | ((with_reducible apply ev_op); walk_at "ev"; walk_at "ev"; walk_at "rv")
  | ((with_reducible apply ev_un); walk_at "ev"; walk_at "rv")
  | ((with_reducible apply ev_cb); walk_at "ea"; walk_at "rc")
  | ((with_reducible apply ev_callP); walk_at "ea"; walk_at "call")
  | ((with_reducible apply ev_chain); walk_at "ev"; walk_at "ev"; walk_at "rv"; walk_at "ev"; walk_at "rv")
  | ((with_reducible apply ev_andV); walk_at "ev"; intro _; walk_at "ev")
  | ((with_reducible apply ev_orV); walk_at "ev"; intro _; walk_at "ev")
  | ((with_reducible apply ev_ite); walk_at "et"; intro _; walk_at "ev"; intro _; walk_at "ev")
  | ((with_reducible apply ev_notV); walk_at "ev"))
local macro_rules | `(tactic| walk_at "et") => `(tactic| first
  | ((with_reducible apply et_test); walk_at "ev")
  | ((with_reducible apply et_B); walk_at "ev")
  | ((with_reducible apply et_and); walk_at "et"; intro _; walk_at "et")
  | ((with_reducible apply et_or); walk_at "et"; intro _; walk_at "et")
  | ((with_reducible apply et_not); walk_at "et"))
open En Wo Tx NumText
def Tg.dat (t : Tg) : PyData := .tuple [.int t.id, .str t.kd, .tuple (t.ns.map PyData.int)]
def tsDat (ts : List Tg) : PyData := .tuple (ts.map Tg.dat)
def Wd.dat (W : Wd) : PyData := .tuple [.int W.t, .int W.n, .int W.l, tsDat W.ts]
theorem eqvAll_map {α : Type} [DecidableEq α] (f : α → PyData) (hf : ∀ a b, PyData.eqv (f a) (f b) = decide (a = b)) : ∀ xs ys : List α, PyData.eqvAll (xs.map f) (ys.map f) = decide (xs = ys)
  | [], [] => rfl
  | [], _ :: _ => rfl
  | _ :: _, [] => rfl
  | x :: xs, y :: ys => by
    show (PyData.eqv (f x) (f y) && PyData.eqvAll (xs.map f) (ys.map f)) = _
    rw [hf, eqvAll_map f hf xs ys]
    by_cases h1 : x = y <;> by_cases h2 : xs = ys <;> simp [h1, h2]
theorem eqv_int (a b : Int) : PyData.eqv (.int a) (.int b) = decide (a = b) := by
  show (a == b) = _
  by_cases h : a = b <;> simp [h]
theorem eqv_str (a b : Str) : PyData.eqv (.str a) (.str b) = decide (a = b) := by
  show (a == b) = _
  by_cases h : a = b <;> simp [h]
theorem eqv_nsD (ns ms : List Int) : PyData.eqv (.tuple (ns.map PyData.int)) (.tuple (ms.map PyData.int)) = decide (ns = ms) := eqvAll_map PyData.int eqv_int ns ms
theorem eqv_nsL (ns ms : List Int) : PyData.eqv (.list (ns.map PyData.int)) (.list (ms.map PyData.int)) = decide (ns = ms) := eqvAll_map PyData.int eqv_int ns ms
theorem eqv_tg (a b : Tg) : PyData.eqv a.dat b.dat = decide (a = b) := by
  show (PyData.eqv (.int a.id) (.int b.id) && (PyData.eqv (.str a.kd) (.str b.kd) && (PyData.eqv (.tuple (a.ns.map PyData.int)) (.tuple (b.ns.map PyData.int)) && true))) = _
  rw [eqv_int, eqv_str, eqv_nsD]
  cases a
  cases b
  simp only [Tg.mk.injEq, Bool.and_true]
  by_cases h1 : ‹_› = ‹_› <;> simp_all
theorem eqv_ts (a b : List Tg) : PyData.eqv (tsDat a) (tsDat b) = decide (a = b) := eqvAll_map Tg.dat eqv_tg a b
theorem eqv_wd (a b : Wd) : PyData.eqv a.dat b.dat = decide (a = b) := by
  show (PyData.eqv (.int a.t) (.int b.t) && (PyData.eqv (.int a.n) (.int b.n) && (PyData.eqv (.int a.l) (.int b.l) && (PyData.eqv (tsDat a.ts) (tsDat b.ts) && true)))) = _
  rw [eqv_int, eqv_int, eqv_int, eqv_ts]
  cases a
  cases b
  simp [Wd.mk.injEq]
/-- the names of the kinds are texts -/
def KdsOk (ts : List Tg) : Prop := ∀ t ∈ ts, PyData.strOk t.kd = true
theorem lay_tg {t : Tg} (hk : PyData.strOk t.kd = true) : PyData.canLay0 t.dat = true ∧ PyData.depth t.dat ≤ 2 := by
  have h := lay_ints t.ns
  refine ⟨?_, ?_⟩
  · show (true && (PyData.strOk t.kd && (PyData.canLayAll0 (t.ns.map PyData.int) && true))) = true
    rw [h.1, hk]
    rfl
  · show max 0 (max 0 (max (PyData.depthAll (t.ns.map PyData.int) + 1) 0)) + 1 ≤ 2
    rw [h.2]
    decide
theorem lay_tgs : ∀ {ts : List Tg}, KdsOk ts → PyData.canLayAll0 (ts.map Tg.dat) = true ∧ PyData.depthAll (ts.map Tg.dat) ≤ 2
  | [], _ => ⟨rfl, Nat.zero_le _⟩
  | t :: ts, hk => by
    have h1 := lay_tg (hk t (List.mem_cons_self ..))
    have h2 := lay_tgs (ts := ts) fun t' h => hk t' (List.mem_cons_of_mem _ h)
    refine ⟨?_, ?_⟩
    · show (PyData.canLay0 t.dat && PyData.canLayAll0 (ts.map Tg.dat)) = true
      rw [h1.1, h2.1]
      rfl
    · show max (PyData.depth t.dat) (PyData.depthAll (ts.map Tg.dat)) ≤ 2
      have := h1.2
      have := h2.2
      omega
theorem lay_ts {ts : List Tg} (hk : KdsOk ts) : PyData.canLay0 (tsDat ts) = true ∧ PyData.depth (tsDat ts) ≤ 3 := by
  have h := lay_tgs hk
  refine ⟨h.1, ?_⟩
  show PyData.depthAll (ts.map Tg.dat) + 1 ≤ 3
  have := h.2
  omega
theorem lay_wd {W : Wd} (hk : KdsOk W.ts) : PyData.canLay0 W.dat = true ∧ PyData.depth W.dat ≤ 4 := by
  have h := lay_ts hk
  refine ⟨?_, ?_⟩
  · show (true && (true && (true && (PyData.canLay0 (tsDat W.ts) && true)))) = true
    rw [h.1]
    rfl
  · show max 0 (max 0 (max 0 (max (PyData.depth (tsDat W.ts)) 0))) + 1 ≤ 4
    have := h.2
    omega
theorem shaped_of_le {d : PyData} {n : Nat} (h : PyData.canLay0 d = true ∧ PyData.depth d ≤ n) (hn : n ≤ 64) : SeqAt.shaped d = true := by
  unfold SeqAt.shaped
  rw [h.1, decide_eq_true (by omega)]
  rfl
theorem shaped_wd {W : Wd} (hk : KdsOk W.ts) : SeqAt.shaped W.dat = true := shaped_of_le (lay_wd hk) (by decide)
theorem shaped_ts {ts : List Tg} (hk : KdsOk ts) : SeqAt.shaped (tsDat ts) = true := shaped_of_le (lay_ts hk) (by decide)
theorem kitF {K : PySem.W.Frag} {C : Addr} {n : String} (c : (PySem.W.clsIn K C).isSome = true) (y : PySem.W.typeIn K (.ref C) = some (.type "type")) (h : PySem.W.subIn K (.type n) (.ref C) = some false) : PySem.W.kitOne K (.type n) (.ref C) = some false := by
  unfold PySem.W.kitOne PySem.W.kitCls
  rw [if_neg (by simp)]
  show (if ((PySem.W.clsIn K C).isSome && PySem.W.typeIn K (.ref C) == some (.type "type")) = true then PySem.W.subIn K (.type n) (.ref C) else none) = some false
  rw [c, y, h]
  simp
section
variable {σ : L2.St} {H H' : Hp} {te ta tb : TE} {ts : TA} {K : PySem.W.Frag} {C p a : Addr} {W : Wd}
theorem TgAt.dp {r : Addr} {t : Tg} (h : TgAt K H r t) : Dp K H (.ref r) t.dat := by
  obtain ⟨rn, h1, h2⟩ := h
  exact .tup h1 (.cons (.int _) (.cons (.str _) (.cons (.tup h2 (dpa_ints _)) .nil)))
theorem RsAt.dpa : ∀ {rs : List Addr} {ts : List Tg}, RsAt K H rs ts → DpAll K H (rs.map V.ref) (ts.map Tg.dat)
  | [], [], _ => .nil
  | [], _ :: _, h => by cases h.1
  | _ :: _, [], h => by cases h.1
  | r :: rs, t :: ts, h => .cons (TgAt.dp (h.2 0 r t rfl rfl)) (RsAt.dpa ⟨by have := h.1; simpa using this, fun i r' t' h1 h2 => h.2 (i + 1) r' t' h1 h2⟩)
theorem TsAt.dp {ts : List Tg} (h : TsAt K H a ts) : Dp K H (.ref a) (tsDat ts) := by
  obtain ⟨rs, h1, h2⟩ := h
  exact .tup h1 h2.dpa
/-- a plain world -/
def PlAt (K : PySem.W.Frag) (H : Hp) (a : Addr) (W : Wd) : Prop := ∃ aT, SqT K H a [.int W.t, .int W.n, .int W.l, .ref aT] ∧ TsAt K H aT W.ts
theorem PlAt.ex (e : Ex H H') (h : PlAt K H a W) : PlAt K H' a W := by
  obtain ⟨aT, h1, h2⟩ := h
  exact ⟨aT, ex_t e h1, h2.ex e⟩
theorem PlAt.dp (h : PlAt K H a W) : Dp K H (.ref a) W.dat := by
  obtain ⟨aT, h1, h2⟩ := h
  exact .tup h1 (.cons (.int _) (.cons (.int _) (.cons (.int _) (.cons h2.dp .nil))))
/-- a new plain world -/
def EvP (K : PySem.W.Frag) (te : TE) (σ : L2.St) (H : Hp) (W : Wd) : Prop := ∀ H1, Ex H H1 → ∀ Q : VK, (∀ p H2, H1 p = none → Ex H1 H2 → PlAt K H2 p W → Q (.ref p) H2) → te σ H1 Q
def Plnew (K : PySem.W.Frag) (ok : List V → Hp → Wd → Prop) : Sp := fun vs H Q _ => ∃ W, ok vs H W ∧ ∀ p H', H p = none → Ex H H' → PlAt K H' p W → Q (.ref p) H'
theorem ep_call {ok : List V → Hp → Wd → Prop} {E : XK} {vs : List V} (h : EvA ts σ H vs) (ho : ∀ H1, Ex H H1 → ok vs H1 W) : EvP K (tCall (Plnew K ok) [] E ts) σ H W := fun H1 e Q q => h H1 e _ fun H2 e2 => by
  show Plnew K ok (vs ++ []) H2 Q E
  rw [List.append_nil]
  exact ⟨W, ho H2 (e.trans e2), fun p H3 hp e3 h3 => q p H3 (fresh_back e2 hp) (e2.trans e3) h3⟩
theorem evd_P (h : EvP K te σ H W) : EvD K te σ H W.dat := fun H1 e Q q => h H1 e _ fun p H2 _ e2 hW => q _ H2 e2 hW.dp
theorem evd_PV (h : Ev te σ H (.ref a)) (hW : PlAt K H a W) : EvD K te σ H W.dat := evd_of h fun H1 e => (hW.ex e).dp
end
section
variable {P : Program} {w : World} {K : PySem.W.Frag} {mg : Str → Option Value} {base : Heap}
/-- what isinstance says of a world -/
theorem rc_isiW (T : Txt K mg w) {H : Hp} {p dx : Addr} {fs : List (Str × V)} (h : H p = some (.ins T.C_World dx fs)) : RC (rIsi K) [.ref p, .ref T.C_World] H (.bl true) := fun H1 e Q q =>
  ⟨.ref p, .ref T.C_World, .ref T.C_World, .ref T.C_World, true, rfl, .own _, .base (.ins (e _ _ h) T.cl_World T.ha_World T.hn_World T.ht_World T.hm_World), by unfold PySem.W.kitOne; simp, q H1 (Ex.refl H1)⟩
theorem ok_need_world (T : Txt K mg w) : FnOk P w K mg base CX0 1 T.a_need_world T.fd_need_world ["value"] (Pure fun vs H z => ∃ (p : Addr) (W : Wd), vs = [.ref p] ∧ WdAt K T.C_World H p W ∧ z = .non) := by
  refine T.F_need_world.ok sc_need_world (fun vs H Q E h => ?_) (fun cdv A outer s H vs Q E hr h => ?_)
  · obtain ⟨_, ⟨_, _, rfl, _⟩, _⟩ := h; rfl
  · obtain ⟨_, ⟨p, W, rfl, ⟨rs, aT, aO, aD, ⟨dx, hob⟩, _⟩, rfl⟩, q⟩ := h
    refine ⟨_, (pss_one (ps_if (pt_not (pt_val (pe_callB call_isi (by rfl) T.z_isinstance (by decide +kernel) (pa_cons (pv 0) (pa_cons (pe_glob (v := .ref _) rfl T.g_World rfl) pa_nil))))) (pss_one ps_never) pss_nil)), ?_⟩
    exact s_when (b := false) (et_is (et_not (et_B (ev_cb (vs := [.ref p, .ref T.C_World]) (by walk_at "ea") (rc_isiW T hob)))) rfl) (fun h => by cases h) (fun _ H1 e1 => q H1 e1)
def kProps (K : PySem.W.Frag) (C : Addr) (vs : List V) (H : Hp) (W : Wd) : Prop := ∃ p, vs = [.ref p] ∧ WdAt K C H p W
theorem ok_properties_of (T : Txt K mg w) : FnOk P w K mg base CX0 1 T.a_properties_of T.fd_properties_of ["world"] (Plnew K (kProps K T.C_World)) := by
  refine T.F_properties_of.ok sc_properties_of (fun vs H Q E h => ?_) (fun cdv A outer s H vs Q E hr h => ?_)
  · obtain ⟨_, ⟨_, rfl, _⟩, _⟩ := h; rfl
  · obtain ⟨W, ⟨p, rfl, ⟨rs, aT, aO, aD, ⟨dx, hob⟩, hT, hR, hO, hD⟩⟩, q⟩ := h
    refine ⟨_, (pss_one (ps_ret (pe_tup (pa_cons (pe_fld (pv 0) rfl) (pa_cons (pe_fld (pv 0) rfl) (pa_cons (pe_fld (pv 0) rfl) (pa_cons (pe_fld (pv 0) rfl) pa_nil))))))), ?_⟩
    exact s_retU (xs := [.int W.t, .int W.n, .int W.l, .ref aT]) (eu_tup (ea_cons (ev_fld (ev_var rfl) hob T.cl_World T.n_World_tick rfl) (ea_cons (ev_fld (ev_var rfl) hob T.cl_World T.n_World_next_id rfl) (ea_cons (ev_fld (ev_var rfl) hob T.cl_World T.n_World_luck rfl) (ea_cons (ev_fld (ev_var rfl) hob T.cl_World T.n_World_things rfl) ea_nil)))) (by show 4 ≤ 100000; decide)) fun r H1 hr e1 h1 => q r H1 hr e1 ⟨aT, st_of h1, rs, ex_t e1 hT, hR.ex e1⟩
theorem ok__law_wd_plain (T : Txt K mg w) : FnOk P w K mg base CX0 1 T.a_law_wd_plain T.fd_law_wd_plain ["world"] (Plnew K (kProps K T.C_World)) := by
  refine T.F_law_wd_plain.ok sc_law_wd_plain (fun vs H Q E h => ?_) (fun cdv A outer s H vs Q E hr h => ?_)
  · obtain ⟨_, ⟨_, rfl, _⟩, _⟩ := h; rfl
  · obtain ⟨W, ⟨p, rfl, ⟨rs, aT, aO, aD, ⟨dx, hob⟩, hT, hR, hO, hD⟩⟩, q⟩ := h
    refine ⟨_, (pss_one (ps_ret (pe_tup (pa_cons (pe_fld (pv 0) rfl) (pa_cons (pe_fld (pv 0) rfl) (pa_cons (pe_fld (pv 0) rfl) (pa_cons (pe_fld (pv 0) rfl) pa_nil))))))), ?_⟩
    exact s_retU (xs := [.int W.t, .int W.n, .int W.l, .ref aT]) (eu_tup (ea_cons (ev_fld (ev_var rfl) hob T.cl_World T.n_World_tick rfl) (ea_cons (ev_fld (ev_var rfl) hob T.cl_World T.n_World_next_id rfl) (ea_cons (ev_fld (ev_var rfl) hob T.cl_World T.n_World_luck rfl) (ea_cons (ev_fld (ev_var rfl) hob T.cl_World T.n_World_things rfl) ea_nil)))) (by show 4 ≤ 100000; decide)) fun r H1 hr e1 h1 => q r H1 hr e1 ⟨aT, st_of h1, rs, ex_t e1 hT, hR.ex e1⟩
/-- what isinstance(x, World) says of other values -/
theorem rc_isiN (T : Txt K mg w) {H : Hp} {x : V} (h : x = .non ∨ (∃ z, x = .str z) ∨ ∃ a xs, x = .ref a ∧ SqT K H a xs) : RC (rIsi K) [x, .ref T.C_World] H (.bl false) := fun H1 e Q q => by
  rcases h with rfl | ⟨z, rfl⟩ | ⟨a, xs, rfl, hT⟩
  · exact ⟨.non, .ref T.C_World, .type "NoneType", .ref T.C_World, false, rfl, .own _, .base .non, kitF T.hc_World T.hy_World T.hs_World_NoneType, q H1 (Ex.refl H1)⟩
  · exact ⟨.str z, .ref T.C_World, .type "str", .ref T.C_World, false, rfl, .own _, .base (.str z), kitF T.hc_World T.hy_World T.hs_World_str, q H1 (Ex.refl H1)⟩
  · rcases ex_t e hT with (h | ⟨o, h⟩) | h
    · exact ⟨.ref a, .ref T.C_World, .type "tuple", .ref T.C_World, false, rfl, .own _, .base (.tup h), kitF T.hc_World T.hy_World T.hs_World_tuple, q H1 (Ex.refl H1)⟩
    · exact ⟨.ref a, .ref T.C_World, .type "tuple", .ref T.C_World, false, rfl, .own _, .fTuple h, kitF T.hc_World T.hy_World T.hs_World_tuple, q H1 (Ex.refl H1)⟩
    · obtain ⟨o, its, n, h1, h2, _⟩ := h
      exact ⟨.ref a, .ref T.C_World, .type "tuple", .ref T.C_World, false, rfl, .own _, .kTuple h1 h2, kitF T.hc_World T.hy_World T.hs_World_tuple, q H1 (Ex.refl H1)⟩
def kEqW (K : PySem.W.Frag) (C : Addr) (vs : List V) (H : Hp) (z : V) : Prop := ∃ (p : Addr) (W : Wd) (x : V), vs = [.ref p, x] ∧ WdAt K C H p W ∧ ((∃ p' W', x = .ref p' ∧ WdAt K C H p' W' ∧ KdsOk W.ts ∧ KdsOk W'.ts ∧ z = .bl (decide (W = W'))) ∨ ((x = .non ∨ (∃ z, x = .str z) ∨ ∃ a xs, x = .ref a ∧ SqT K H a xs) ∧ z = .bl false))
theorem ok_eq (T : Txt K mg w) : FnOk P w K mg base CX0 2 T.a_World___eq__ T.fd_World___eq__ ["self", "other"] (Pure (kEqW K T.C_World)) := by
  have G_properties_of := ok_properties_of (P := P) (w := w) (base := base) T
  refine T.F_World___eq__.ok sc_World___eq__ (fun vs H Q E h => ?_) (fun cdv A outer s H vs Q E hr h => ?_)
  · obtain ⟨_, ⟨_, _, _, rfl, _⟩, _⟩ := h; rfl
  · obtain ⟨_, ⟨p, W, x, rfl, hW, hx⟩, q⟩ := h
    refine ⟨_, (pss_one (ps_ret (pe_and (pe_callB call_isi (by rfl) T.z_isinstance (by decide +kernel) (pa_cons (pv 1) (pa_cons (pe_glob (v := .ref _) rfl T.g_World rfl) pa_nil))) (pe_one (pe_cmpR (op_eqD hr.units) (pe_call G_properties_of (hr.mono (by decide)) (by rfl) T.g_properties_of T.F_properties_of.kp T.b_properties_of .nil pass0 (pa_cons (pv 0) pa_nil)) (pe_call G_properties_of (hr.mono (by decide)) (by rfl) T.g_properties_of T.F_properties_of.kp T.b_properties_of .nil pass0 (pa_cons (pv 1) pa_nil)) (nomark _)))))), ?_⟩
    rcases hx with ⟨p', W', rfl, hW', hk, hk', rfl⟩ | ⟨hx, rfl⟩
    · obtain ⟨rs, aT, aO, aD, ⟨dx, hob⟩, _⟩ := id hW'
      exact s_ret (v := .bl (decide (W = W'))) (ev_is (ev_andV (a := true) (b := decide (W = W')) (ev_cb (vs := [.ref p', .ref T.C_World]) (by walk_at "ea") (rc_isiW T hob)) fun _ => ev_is (ev_eqD (evd_P (ep_call (ok := kProps K T.C_World) (W := W) (vs := [.ref p]) (by walk_at "ea") fun H1 e1 => ⟨p, rfl, hW.ex e1⟩)) (evd_P (ep_call (ok := kProps K T.C_World) (W := W') (vs := [.ref p']) (by walk_at "ea") fun H1 e1 => ⟨p', rfl, hW'.ex e1⟩)) (shaped_wd hk) (shaped_wd hk')) (by rw [eqv_wd])) (by simp)) q
    · exact s_ret (v := .bl false) (ev_is (ev_andV (a := false) (b := false) (ev_cb (vs := [x, .ref T.C_World]) (by walk_at "ea") (rc_isiN T hx)) fun h => by cases h) rfl) q
end
end Kz
set_option Elab.async false
set_option linter.all false
set_option maxRecDepth 100000
set_option maxHeartbeats 4000000
set_option exponentiation.threshold 500
namespace Kz
open PySem PySem.Spec PyProof.Rows L2 Evl Vr
local macro_rules | `(tactic| walk_at "sc") => `(tactic| first | (with_reducible assumption) | (with_reducible exact sc_mul (by omega)) | (with_reducible exact sc_mulr (by omega)) | (with_reducible exact sc_div (by omega) (by decide)) | (show (0 : Int) < _; omega) | (show _ ≠ (0 : Int); omega) | (with_reducible rfl) | decide)
local macro_rules | `(tactic| walk_at "sq") => `(tactic| first | assumption | exact sq_of (by assumption) | exact st_of (by assumption))
local macro_rules | `(tactic| walk_at "pl") => `(tactic| first | assumption | exact pl_int | exact pl_bl | exact pl_str | exact pl_non | exact pl_lst (by assumption) | exact pl_tup (by assumption) | exact pl_dK (by assumption))
local macro_rules | `(tactic| walk_at "rv") => `(tactic| first
  | with_reducible exact rv_I0
  | with_reducible exact ru_neg
  | ((with_reducible apply rv_I); walk_at "sc")
  | ((with_reducible apply rv_ixL); walk_at "sq"; first | rfl | assumption)
  | ((with_reducible apply rv_ixT); walk_at "sq"; first | rfl | assumption)
  | ((with_reducible apply rv_eq); rfl) | ((with_reducible apply rv_ne); rfl))
local macro_rules | `(tactic| walk_at "rc") => `(tactic| first
  | with_reducible exact rc_I1 | with_reducible exact rc_B1 | with_reducible exact rc_I2 | ((with_reducible apply rc_repr); walk_at "sc") | ((with_reducible apply rc_lenL); walk_at "sq")
  | ((with_reducible apply rc_isiInt); walk_at "pl") | ((with_reducible apply rc_isiBool); walk_at "pl"))
local macro_rules | `(tactic| walk_at "ea") => `(tactic| first
  | with_reducible exact ea_nil | ((with_reducible apply ea_cons); walk_at "ev"; walk_at "ea"))
local macro_rules | `(tactic| walk_at "pow") => `(tactic| first
  | with_reducible exact ev_pow (a := 10) (b := 9) (c := 1000000000) (by decide +kernel) (by decide +kernel)
  | with_reducible exact ev_pow (a := 10) (b := 10) (c := 10000000000) (by decide +kernel) (by decide +kernel)
  | with_reducible exact ev_pow (a := 10) (b := 12) (c := 1000000000000) (by decide +kernel) (by decide +kernel)
  | with_reducible exact ev_pow (a := 10) (b := 17) (c := 100000000000000000) (by decide +kernel) (by decide +kernel)
  | with_reducible exact ev_pow (a := 10) (b := 20) (c := 100000000000000000000) (by decide +kernel) (by decide +kernel)
  | with_reducible exact ev_pow (a := 10) (b := 29) (c := 100000000000000000000000000000) (by decide +kernel) (by decide +kernel)
  | with_reducible exact ev_pow (a := 10) (b := 30) (c := 1000000000000000000000000000000) (by decide +kernel) (by decide +kernel)
  | with_reducible exact ev_pow (a := 10) (b := 40) (c := 10000000000000000000000000000000000000000) (by decide +kernel) (by decide +kernel)
  | with_reducible exact ev_pow (a := 10) (b := 57) (c := 1000000000000000000000000000000000000000000000000000000000) (by decide +kernel) (by decide +kernel)
  | with_reducible exact ev_pow (a := 10) (b := 58) (c := 10000000000000000000000000000000000000000000000000000000000) (by decide +kernel) (by decide +kernel)
  | with_reducible exact ev_pow (a := 10) (b := 59) (c := 100000000000000000000000000000000000000000000000000000000000) (by decide +kernel) (by decide +kernel)
  | with_reducible exact ev_pow (a := 10) (b := 60) (c := 1000000000000000000000000000000000000000000000000000000000000) (by decide +kernel) (by decide +kernel))
local macro_rules | `(tactic| walk_at "call") => `(tactic| (intro H9 e9; first | exact ⟨_, rfl, rfl⟩ | exact ⟨_, _, rfl, rfl⟩ | exact ⟨_, _, _, rfl, rfl⟩ | exact ⟨_, rfl, by walk_at "pl", rfl⟩ | (refine ⟨_, _, _, rfl, ?_, rfl⟩; first | exact Plain.ex e9 (by assumption) | walk_at "pl") | (refine ⟨_, rfl, ?_, rfl⟩; first | exact Plain.ex e9 (by assumption) | walk_at "pl")))
local macro_rules | `(tactic| walk_at "ev") => `(tactic| first
  | with_reducible exact ev_c
  | exact ev_var rfl
  | walk_at "pow"
  | ((with_reducible apply ev_op); walk_at "ev"; walk_at "ev"; walk_at "rv")
  | ((with_reducible apply ev_un); walk_at "ev"; walk_at "rv")
  | ((with_reducible apply ev_cb); walk_at "ea"; walk_at "rc")
  | ((with_reducible apply ev_callP); walk_at "ea"; walk_at "call")
  | ((with_reducible apply ev_chain); walk_at "ev"; walk_at "ev"; walk_at "rv"; walk_at "ev"; walk_at "rv")
  | ((with_reducible apply ev_andV); walk_at "ev"; intro _; walk_at "ev")
  | ((with_reducible apply ev_orV); walk_at "ev"; intro _; walk_at "ev")
  | ((with_reducible apply ev_ite); walk_at "et"; intro _; walk_at "ev"; intro _; walk_at "ev")
  | ((with_reducible apply ev_notV); walk_at "ev"))
local macro_rules | `(tactic| walk_at "et") => `(tactic| first
  | ((with_reducible apply et_test); walk_at "ev")
  | ((with_reducible apply et_B); walk_at "ev")
  | ((with_reducible apply et_and); walk_at "et"; intro _; walk_at "et")
  | ((with_reducible apply et_or); walk_at "et"; intro _; walk_at "et")
  | ((with_reducible apply et_not); walk_at "et"))
open En Wo Tx NumText
theorem hu_of65 {A : Around} {k : Nat} (hr : Room k A) : A.units + 65 < cLine := by have := hr.un; omega
section
variable {σ : L2.St} {H : Hp} {te tl : TE} {K : PySem.W.Frag} {g : TG}
/-- [v for x in new list], v told of the heap behind -/
theorem lcN_new {xs : List V} {vs : List Nat} {Q : VK} (Pr : Nat → V → Hp → Prop) (hP : ∀ i r H H' Dl acc, H Dl = some (.lst acc) → Exd Dl H H' → Pr i r H → Pr i r H') (h : EvL tl σ H xs) (hz : xs.length ≤ 40000)
    (hs : ∀ (i : Nat) (x : V) (H1 : Hp) (R : VK), Ex H H1 → xs[i]? = some x → (∀ r H2, Ex H1 H2 → Pr i r H2 → R r H2) → g x (wipe σ vs) H1 fun σ2 H2 => wipe σ2 vs = wipe σ vs ∧ te σ2 H2 R)
    (k : ∀ l (ws : List V) H', H l = none → Ex H H' → H' l = some (.lst ws) → ws.length = xs.length → (∀ (i : Nat) r, ws[i]? = some r → Pr i r H') → Q (.ref l) H') : tLc (iList K tl) g tYes te vs σ H Q := h H (Ex.refl H) _ fun a H1 ha e1 hx => ⟨a, rfl, ⟨xs, sq_of hx⟩, fun Dl hD => by
  refine lc_list (xs := xs) (fun i H' => Ex H1 H' ∧ ∃ ws : List V, H' Dl = some (.lst ws) ∧ ws.length = i ∧ ∀ (j : Nat) r, ws[j]? = some r → Pr j r H') ⟨Ex.new hD, [], upd_same, rfl, fun j r h => by cases h⟩ (fun i H' _ p => sq_of (p.1 a _ hx)) (fun i x H' hi p => ?_) (fun H' ⟨p1, ws, p2, p3, p4⟩ => k Dl ws H' (fresh_back e1 hD) (e1.trans p1) p2 p3 p4)
  obtain ⟨p1, ws, p2, p3, p4⟩ := p
  have hil : i < xs.length := (List.getElem?_eq_some_iff.mp hi).1
  refine hs i x H' _ (e1.trans p1) hi fun r H4 e4 hr => ?_
  have hD4 := e4 _ _ p2
  have xd : Exd Dl H4 (upd H4 Dl (.lst (ws ++ [r]))) := Exd.upd
  refine ⟨ws, hD4, sz_lt (by omega), Ex.mut (p1.trans e4) hD, ws ++ [r], upd_same, by rw [List.length_append, p3]; rfl, fun j r' hj => ?_⟩
  refine hP j r' H4 _ Dl _ hD4 xd ?_
  by_cases hjl : j < i
  · rw [List.getElem?_append_left (by omega)] at hj
    exact hP j r' H' H4 Dl _ p2 (Exd.of e4) (p4 j r' hj)
  · have hj2 : j = i := by
      have := (List.getElem?_eq_some_iff.mp hj).1
      rw [List.length_append, p3, List.length_singleton] at this
      omega
    subst hj2
    rw [List.getElem?_append_right (by omega), p3, Nat.sub_self] at hj
    cases hj
    exact hr⟩
end
section
variable {σ : L2.St} {H : Hp} {t : TT} {te tl : TE} {K : PySem.W.Frag}
/-- [e for x in things if t], a list of things told by their references -/
theorem el_lcTsL {a : Addr} {rs : List Addr} {ts : List Tg} {j : Nat} {vs : List Nat} (f : Tg → Bool) (g : Tg → V) (h : Ev tl σ H (.ref a)) (hT : SqL K H a (rs.map V.ref)) (hR : RsAt K H rs ts) (hz : ts.length ≤ 40000) (hw : ∀ x, wipe ((wipe σ vs).set j (some x)) vs = wipe σ vs)
    (ht : ∀ (r : Addr) (t' : Tg) H1, Ex H H1 → TgAt K H1 r t' → t' ∈ ts → EvT t ((wipe σ vs).set j (some (.ref r))) H1 (f t')) (he : ∀ (r : Addr) (t' : Tg) H1, Ex H H1 → TgAt K H1 r t' → t' ∈ ts → f t' = true → Ev te ((wipe σ vs).set j (some (.ref r))) H1 (g t')) :
    EvL (tLc (iList K tl) (gName j) t te vs) σ H ((ts.filter f).map g) := by
  have e : given (rs.map V.ref).length (fun i => f (ts.getD i ⟨0, "", []⟩)) (fun i => g (ts.getD i ⟨0, "", []⟩)) = (ts.filter f).map g := by
    rw [List.length_map, hR.1, given_filter ts ⟨0, "", []⟩ f g]
  rw [← e]
  refine el_lcL _ _ h hT (by rw [List.length_map, hR.1]; omega) hw (fun i x H1 e1 hx => ?_) fun i x H1 e1 hx hf => ?_
  · obtain ⟨r, t', rfl, _, h2, hA⟩ := hR.at hx
    have hd : ts.getD i ⟨0, "", []⟩ = t' := by rw [List.getD_eq_getElem?_getD, h2]; rfl
    rw [hd]
    exact ht r t' H1 e1 (hA.ex e1) (List.mem_of_getElem? h2)
  · obtain ⟨r, t', rfl, _, h2, hA⟩ := hR.at hx
    have hd : ts.getD i ⟨0, "", []⟩ = t' := by rw [List.getD_eq_getElem?_getD, h2]; rfl
    rw [hd] at hf ⊢
    exact he r t' H1 e1 (hA.ex e1) (List.mem_of_getElem? h2) hf
/-- [v for x in list] -/
theorem el_lcWL {xs : List (List Nat)} {te tl : TE} {a : Addr} {j : Nat} {vs : List Nat} (g : List Nat → V) (h : Ev tl σ H (.ref a)) (hx : SqL K H a (xs.map vS)) (hz : xs.length ≤ 40000) (hw : ∀ x, wipe ((wipe σ vs).set j (some x)) vs = wipe σ vs)
    (he : ∀ (w : List Nat) H1, Ex H H1 → w ∈ xs → Ev te ((wipe σ vs).set j (some (vS w))) H1 (g w)) : EvL (tLc (iList K tl) (gName j) tYes te vs) σ H (xs.map g) := by
  have e : given (xs.map vS).length (fun _ => true) (fun i => g (xs.getD i [])) = xs.map g := by
    rw [List.length_map, given_yes_map xs [] g]
  rw [← e]
  refine el_lcL (fun _ => true) _ h hx (by rw [List.length_map]; exact hz) hw (fun i x H1 e1 hx => et_yes) fun i x H1 e1 hx _ => ?_
  rw [List.getElem?_map] at hx
  cases h : xs[i]? with
  | none => rw [h] at hx; cases hx
  | some w =>
    rw [h] at hx
    obtain rfl : x = vS w := (Option.some.inj hx).symm
    have hd : xs.getD i [] = w := by rw [List.getD_eq_getElem?_getD, h]; rfl
    rw [hd]
    exact he w H1 e1 (List.mem_of_getElem? h)
theorem q_asg3L {tz : TS} {D : Ends} {i j l : Nat} {v1 v2 v3 : V} (h : EvL te σ H [v1, v2, v3]) (k : ∀ H1, Ex H H1 → tz D (((σ.set i (some v1)).set j (some v2)).set l (some v3)) H1) : tSeq (tAsg te (gUnl K 3 (gCons (gName i) (gCons (gName j) (gCons (gName l) gNil))))) tz D σ H :=
  h H (Ex.refl H) _ fun p H1 hp e1 h1 => ⟨p, _, rfl, sq_of h1, rfl, _, _, rfl, _, _, rfl, _, _, rfl, rfl, k H1 e1⟩
end
/-- a text that the laws of integers serve -/
structure TextOk (z : List Nat) : Prop where
  len : z.length ≤ 4000
  low : Low z
  wd : ∀ p ∈ splitL 59 z, ∀ w ∈ splitL 32 p, w.length ≤ 500
/-- what read_thing answers to a part -/
def PrT (K : PySem.W.Frag) (part : List Nat) (v : V) (H : Hp) : Prop := (thingP part = none ∧ v = .non) ∨ ∃ r g, v = .ref r ∧ thingP part = some g ∧ TgAt K H r g
theorem strOk_low {l : List Nat} (h : ∀ c ∈ l, c < 128) : PyData.strOk (S l) = true := by
  unfold PyData.strOk
  rw [← Array.all_toList, List.all_eq_true]
  intro c hc
  have := h c hc
  exact decide_eq_true (by omega)
theorem thingP_kd {t : List Nat} {g : Tg} (h : thingP t = some g) : PyData.strOk g.kd = true := by
  unfold thingP at h
  split at h
  · rename_i w0 w1 rest hs
    split at h
    · rename_i hb
      cases h
      simp only [Bool.and_eq_true] at hb
      refine strOk_low fun c hc => ?_
      have h1 := hb.1.1.2
      unfold isNameL at h1
      simp only [Bool.and_eq_true, List.all_eq_true, decide_eq_true_eq] at h1
      have := h1.2 c hc
      omega
    · cases h
  · cases h
theorem allP_cons (p : List Nat) (ps : List (List Nat)) : allP (p :: ps) = match thingP p, allP ps with
    | some g, some gs => some (g :: gs)
    | _, _ => none := rfl
theorem dp_none {K : PySem.W.Frag} {H : Hp} : ∀ {ps : List (List Nat)} {ws : List V}, ws.length = ps.length → (∀ (i : Nat) (r : V), ws[i]? = some r → PrT K (ps.getD i []) r H) → ∃ ds, DpAll K H ws ds ∧ (PyData.canLayAll0 ds = true ∧ PyData.depthAll ds ≤ 2) ∧ (ds.any fun z => PyData.eqv z .none) = (allP ps).isNone
  | [], [], _, _ => ⟨[], .nil, ⟨rfl, by decide⟩, rfl⟩
  | [], _ :: _, h, _ => by cases h
  | _ :: _, [], h, _ => by cases h
  | p :: ps, w :: ws, h, hp => by
    obtain ⟨ds, h1, h2, h3⟩ := dp_none (ps := ps) (ws := ws) (by simpa using h) fun i r hi => hp (i + 1) r hi
    rw [allP_cons]
    rcases hp 0 w rfl with ⟨h4, rfl⟩ | ⟨r, g, rfl, h4, h5⟩
    · have h4 : thingP p = none := h4
      refine ⟨.none :: ds, .cons .non h1, ⟨?_, ?_⟩, ?_⟩
      · show (true && PyData.canLayAll0 ds) = true
        rw [h2.1]; rfl
      · show max 0 (PyData.depthAll ds) ≤ 2
        have := h2.2
        omega
      · rw [h4]
        rfl
    · have h4 : thingP p = some g := h4
      have h6 := lay_tg (thingP_kd h4)
      refine ⟨g.dat :: ds, .cons h5.dp h1, ⟨?_, ?_⟩, ?_⟩
      · show (PyData.canLay0 g.dat && PyData.canLayAll0 ds) = true
        rw [h6.1, h2.1]; rfl
      · show max (PyData.depth g.dat) (PyData.depthAll ds) ≤ 2
        have := h2.2
        have := h6.2
        omega
      · rw [h4]
        show (PyData.eqv g.dat .none || ds.any fun z => PyData.eqv z .none) = _
        rw [h3]
        have : PyData.eqv g.dat .none = false := rfl
        rw [this]
        cases allP ps <;> rfl
theorem refs_all {K : PySem.W.Frag} {H : Hp} : ∀ {ps : List (List Nat)} {ws : List V} {ts : List Tg}, allP ps = some ts → ws.length = ps.length → (∀ (i : Nat) (r : V), ws[i]? = some r → PrT K (ps.getD i []) r H) → ∃ rs : List Addr, ws = rs.map V.ref ∧ RsAt K H rs ts
  | [], [], ts, h, _, _ => by
    cases h
    exact ⟨[], rfl, rfl, fun i r t h => by cases h⟩
  | [], _ :: _, _, _, h, _ => by cases h
  | _ :: _, [], _, _, h, _ => by cases h
  | p :: ps, w :: ws, ts, ha, h, hp => by
    rw [allP_cons] at ha
    rcases hp 0 w rfl with ⟨h4, rfl⟩ | ⟨r, g, rfl, h4, h5⟩
    · have h4 : thingP p = none := h4
      rw [h4] at ha
      cases ha
    · have h4 : thingP p = some g := h4
      rw [h4] at ha
      cases hA : allP ps with
      | none => rw [hA] at ha; cases ha
      | some gs =>
        rw [hA] at ha
        cases ha
        obtain ⟨rs, rfl, h6⟩ := refs_all hA (by simpa using h) fun i r hi => hp (i + 1) r hi
        exact ⟨r :: rs, rfl, by rw [List.length_cons, List.length_cons, h6.1], fun i r' t' h1 h2 => by
          cases i with
          | zero => cases h1; cases h2; exact h5
          | succ i => exact h6.2 i r' t' h1 h2⟩
theorem TgAt.tl {K : PySem.W.Frag} {H H' : Hp} {q r : Addr} {t : Tg} {ys : List V} (e : Exd q H H') (hq : H q = some (.lst ys)) (h : TgAt K H r t) : TgAt K H' r t := by
  obtain ⟨rn, h1, h2⟩ := h
  exact ⟨rn, e.tlst hq h1, e.tlst hq h2⟩
theorem RsAt.tl {K : PySem.W.Frag} {H H' : Hp} {q : Addr} {rs : List Addr} {ts : List Tg} {ys : List V} (e : Exd q H H') (hq : H q = some (.lst ys)) (h : RsAt K H rs ts) : RsAt K H' rs ts := ⟨h.1, fun i r t a b => (h.2 i r t a b).tl e hq⟩
theorem RsAt.snoc {K : PySem.W.Frag} {H : Hp} {r : Addr} {t : Tg} {rs : List Addr} {ts : List Tg} (h : RsAt K H rs ts) (h1 : TgAt K H r t) : RsAt K H (rs ++ [r]) (ts ++ [t]) := ⟨by rw [List.length_append, List.length_append, h.1]; rfl, fun i a b ha hb => by
  by_cases hi : i < ts.length
  · rw [List.getElem?_append_left (by rw [h.1]; exact hi)] at ha
    rw [List.getElem?_append_left hi] at hb
    exact h.2 i a b ha hb
  · have hi2 : i = ts.length := by
      have := (List.getElem?_eq_some_iff.mp hb).1
      rw [List.length_append, List.length_singleton] at this
      omega
    subst hi2
    rw [List.getElem?_append_right (by rw [h.1]; exact Nat.le_refl _), h.1, Nat.sub_self] at ha
    rw [List.getElem?_append_right (Nat.le_refl _), Nat.sub_self] at hb
    cases ha
    cases hb
    exact h1⟩
theorem PrT.ex {K : PySem.W.Frag} {H H' : Hp} {p : List Nat} {v : V} (e : Ex H H') (h : PrT K p v H) : PrT K p v H' := by
  rcases h with h | ⟨r, g, h1, h2, h3⟩
  · exact .inl h
  · exact .inr ⟨r, g, h1, h2, h3.ex e⟩
theorem PrT.tl {K : PySem.W.Frag} {H H' : Hp} {q : Addr} {ys : List V} {p : List Nat} {v : V} (e : Exd q H H') (hq : H q = some (.lst ys)) (h : PrT K p v H) : PrT K p v H' := by
  rcases h with h | ⟨r, g, h1, h2, h3⟩
  · exact .inl h
  · exact .inr ⟨r, g, h1, h2, h3.tl e hq⟩
theorem worldP_bad {z h0 : List Nat} {ps : List (List Nat)} (hs : splitL 59 z = h0 :: ps) (hb : ((!decide (V.int (((splitL 32 h0).map vS).length : Int) = V.int 3)) || (!((splitL 32 h0).map isCountL).all id || (allP ps).isNone)) = true) : worldP z = none := by
  unfold worldP
  rw [hs]
  dsimp only
  match h2 : splitL 32 h0 with
  | [] => rfl
  | [a] => rfl
  | [a, b] => rfl
  | a :: b :: c :: d :: r => rfl
  | [a, b, c] =>
    rw [h2] at hb
    dsimp only
    cases hA : allP ps with
    | none => rfl
    | some ts =>
      rw [hA] at hb
      dsimp only
      rw [if_neg]
      intro hc
      simp only [Bool.and_eq_true] at hc
      simp [hc.1.1.1.1.1, hc.1.1.1.1.2, hc.1.1.1.2] at hb
theorem count_nn {w : List Nat} (h : isCountL w = true) : 0 ≤ intV w := by
  have hl : w.length ≤ 4000 := by
    unfold isCountL at h
    simp only [Bool.and_eq_true, decide_eq_true_eq] at h
    omega
  exact ((count_signed hl).mp h).2
theorem worldP_good {z h0 : List Nat} {ps : List (List Nat)} (hs : splitL 59 z = h0 :: ps) (hb : ((!decide (V.int (((splitL 32 h0).map vS).length : Int) = V.int 3)) || (!((splitL 32 h0).map isCountL).all id || (allP ps).isNone)) = false) :
    ∃ a b c ts, splitL 32 h0 = [a, b, c] ∧ (isCountL a = true ∧ isCountL b = true ∧ isCountL c = true) ∧ allP ps = some ts ∧ worldP z = if ((decide (0 ≤ intV c) && decide (intV c < 999999937)) && (decide (ps.length ≤ 12) && decide (Asc ts (intV b)))) = true then some ⟨intV a, intV b, intV c, ts⟩ else none := by
  rw [Bool.or_eq_false_iff, Bool.or_eq_false_iff] at hb
  obtain ⟨h1, h2, h3⟩ := hb
  cases hA : allP ps with
  | none => rw [hA] at h3; cases h3
  | some ts =>
    match h4 : splitL 32 h0 with
    | [] => rw [h4] at h1; simp at h1
    | [a] => rw [h4] at h1; simp at h1
    | [a, b] => rw [h4] at h1; simp at h1
    | a :: b :: c :: d :: r =>
      rw [h4] at h1
      simp only [List.map_cons, List.length_cons, List.length_map, Bool.not_eq_false', decide_eq_true_eq, V.int.injEq] at h1
      omega
    | [a, b, c] =>
      rw [h4] at h2
      simp only [List.map_cons, List.map_nil, List.all_cons, List.all_nil, Bool.and_true, id, Bool.not_eq_false', Bool.and_eq_true] at h2
      refine ⟨a, b, c, ts, rfl, ⟨h2.1, h2.2.1, h2.2.2⟩, rfl, ?_⟩
      unfold worldP
      rw [hs]
      dsimp only
      rw [h4, hA]
      dsimp only
      have h0 : 0 ≤ intV c := by
        have := h2.2.2
        exact (count_nn this)
      rw [h2.1, h2.2.1, h2.2.2, decide_eq_true h0]
      simp only [Bool.true_and, Bool.and_assoc]
section
variable {P : Program} {w : World} {K : PySem.W.Frag} {mg : Str → Option Value} {base : Heap}
section
variable {σ : L2.St} {H H' : Hp} {te tl : TE} {tz : TS} {D : Ends} {g : TG}
theorem q_asgLcN {xs : List V} {vs : List Nat} {i : Nat} (Pr : Nat → V → Hp → Prop) (hP : ∀ i r H H' Dl acc, H Dl = some (.lst acc) → Exd Dl H H' → Pr i r H → Pr i r H') (h : EvL tl σ H xs) (hz : xs.length ≤ 40000)
    (hs : ∀ (i : Nat) (x : V) (H1 : Hp) (R : VK), Ex H H1 → xs[i]? = some x → (∀ r H2, Ex H1 H2 → Pr i r H2 → R r H2) → g x (wipe σ vs) H1 fun σ2 H2 => wipe σ2 vs = wipe σ vs ∧ te σ2 H2 R)
    (k : ∀ l (ws : List V) H', H l = none → Ex H H' → H' l = some (.lst ws) → ws.length = xs.length → (∀ (i : Nat) r, ws[i]? = some r → Pr i r H') → tz D (σ.set i (some (.ref l))) H') : tSeq (tAsg (tLc (iList K tl) g tYes te vs) (gName i)) tz D σ H :=
  lcN_new (Q := fun v H2 => tz D (σ.set i (some v)) H2) Pr hP h hz hs k
end
def kSeqL (K : PySem.W.Frag) (vs : List V) (H : Hp) (z : V) : Prop := ∃ (a : Addr) (rs : List Addr) (ts : List Tg) (n : Int), vs = [.ref a, .int n] ∧ SqL K H a (rs.map V.ref) ∧ RsAt K H rs ts ∧ ts.length ≤ 30000 ∧ z = .bl (decide (Asc ts n))
theorem ok_are_in_sequenceL (T : Txt K mg w) : FnOk P w K mg base CX0 1 T.a_are_in_sequence T.fd_are_in_sequence ["things", "next_id"] (Pure (kSeqL K)) := by
  refine T.F_are_in_sequence.ok sc_are_in_sequence (fun vs H Q E h => ?_) (fun cdv A outer s H vs Q E hr h => ?_)
  · obtain ⟨_, ⟨_, _, _, _, rfl, _⟩, _⟩ := h; rfl
  · obtain ⟨_, ⟨a, rs, ts, n, rfl, hT, hR, hl, rfl⟩, q⟩ := h
    refine ⟨_, (pss_cons (ps_set (i := 2) sc_are_in_sequence.nd rfl (.inl rfl) (pe_op op_cat (pe_lc (own := [("thing", 3)]) (g := gName 3) (by rfl) sc_are_in_sequence.nd (pi_list (pv 0)) (blkOk_by (own := [("thing", 3)]) (N := ["things", "next_id", "ids", "thing", "low", "high"]) (sc := defScope s_are_in_sequence) (by decide +kernel)) (fun _ _ _ _ _ => pg_name (i := 3) sc_are_in_sequence.nd rfl (Or.inl rfl)) (fun _ _ _ _ _ => pts_nil) (fun _ _ _ _ _ => (pe_ix (ix_tupK (K := K) rfl) (pv 3) pe_int (fun _ _ => rfl)))) (pe_lst (pa_cons (pv 1) pa_nil))))
  (pss_one (ps_ret (pe_callB (cr_all rfl) (by rfl) T.z_all (by decide +kernel) (pa_cons (pe_lc (own := [("low", 4), ("high", 5)]) (g := gTup _ 2 (gCons (gName 4) (gCons (gName 5) gNil))) (by rfl) sc_are_in_sequence.nd (pi_zip rfl T.z_zip (pa_cons (pv 2) (pa_cons (pe_slice sl_list (pv 2) (po_some pe_int) po_none) pa_nil))) (blkOk_by (own := [("low", 4), ("high", 5)]) (N := ["things", "next_id", "ids", "thing", "low", "high"]) (sc := defScope s_are_in_sequence) (by decide +kernel)) (fun _ _ _ _ _ => pg_tup rfl (pgs_cons (pg_name (i := 4) sc_are_in_sequence.nd rfl (Or.inl rfl)) (pgs_cons (pg_name (i := 5) sc_are_in_sequence.nd rfl (Or.inl rfl)) pgs_nil))) (fun _ _ _ _ _ => pts_nil) (fun _ _ _ _ _ => (pe_cmpR op_lt (pv 4) (pv 5) (nomark _)))) pa_nil))))), ?_⟩
    refine q_asgL (xs := (Tg.ids ts ++ [n]).map V.int) (by
      have e : (Tg.ids ts ++ [n]).map V.int = (ts.filter fun _ => true).map (fun t => V.int t.id) ++ [.int n] := by
        rw [List.filter_eq_self.mpr (fun _ _ => rfl), List.map_append]
        unfold Tg.ids
        rw [List.map_map]
        rfl
      rw [e]
      exact el_cat (el_lcTsL (fun _ => true) (fun t => V.int t.id) (ev_var rfl) hT hR (by omega) (fun _ => rfl) (fun r t H1 e1 _ _ => et_yes) fun r t H1 e1 hA _ _ => ev_tg0 (ev_var rfl) hA) (el_lst (by walk_at "ea") (by show 1 ≤ 100000; decide)) (by
        rw [List.filter_eq_self.mpr (fun _ _ => rfl), List.length_map]
        show _ + 1 ≤ _
        omega)) fun l H1 hl1 e1 h1 => ?_
    have hL := sq_of (K := K) h1
    have len : (Tg.ids ts ++ [n]).length = ts.length + 1 := by rw [List.length_append, tg_len]; rfl
    have hasc : decide (Asc ts n) = decide ((Tg.ids ts ++ [n]).Pairwise (· < ·)) := rfl
    rw [hasc] at q
    generalize hI : Tg.ids ts ++ [n] = ids at *
    have hm : min (ids.map V.int).length ((ids.map V.int).drop 1).length = ids.length - 1 := by rw [List.length_drop, List.length_map]; omega
    refine s_ret (v := .bl (decide (ids.Pairwise (· < ·)))) (ev_is (ev_allN (bs := (List.range (ids.length - 1)).map fun i => decide (ids.getD i 0 < ids.getD (1 + i) 0)) ?_) ?_) fun H2 e2 => q H2 (e1.trans e2)
    · have e : given (min (ids.map V.int).length ((ids.map V.int).drop 1).length) (fun _ => true) (fun i => V.bl (decide (ids.getD i 0 < ids.getD (1 + i) 0))) = ((List.range (ids.length - 1)).map fun i => decide (ids.getD i 0 < ids.getD (1 + i) 0)).map V.bl := by
        rw [given_all, hm, List.map_map]
        rfl
      rw [← e]
      refine el_lcZip (fun _ => true) _ ?_ (by rw [List.length_map]; omega) (fun _ _ => rfl) (fun i x y H2 e2 hx hy => et_yes) fun i x y H2 e2 hx hy _ => ?_
      · have hsl := el_sl (K := K) (te := tVar 2) (σ := [some (.ref a), some (.int n), some (.ref l), none, none, none]) (ev_var (i := 2) rfl) (eo_some (ev_c (v := .int 1))) eo_none hL
        rw [cut1] at hsl
        exact fun H2 e2 Q2 q2 => (ap_cons (ev_var rfl) (ap_consL hsl ap_nil)) H2 e2 Q2 fun vs H3 e3 ⟨ws, h1', p, ws2, h2', h3', h4'⟩ => q2 vs H3 e3 ⟨l, p, by rw [h1', h2', h4'], ex_l (e2.trans e3) hL, sq_of h3'⟩
      · rw [List.getElem?_map] at hx
        rw [List.getElem?_drop, List.getElem?_map] at hy
        cases h2 : ids[i]? with
        | none => rw [h2] at hx; cases hx
        | some u =>
          cases h3 : ids[1 + i]? with
          | none => rw [h3] at hy; cases hy
          | some u2 =>
            rw [h2] at hx
            rw [h3] at hy
            obtain rfl : x = .int u := (Option.some.inj hx).symm
            obtain rfl : y = .int u2 := (Option.some.inj hy).symm
            have d1 : ids.getD i 0 = u := by rw [List.getD_eq_getElem?_getD, h2]; rfl
            have d2 : ids.getD (1 + i) 0 = u2 := by rw [List.getD_eq_getElem?_getD, h3]; rfl
            rw [d1, d2]
            exact ev_op (ev_var rfl) (ev_var rfl) rv_I0
    · refine congrArg V.bl ?_
      rw [Bool.eq_iff_iff, decide_eq_true_iff, ← step_pair]
      simp only [List.all_map, List.all_eq_true, List.mem_range, Function.comp_def, decide_eq_true_eq, id]
      exact ⟨fun h i hi => h i (by omega), fun h i hi => h i (by omega)⟩
def spRW (K : PySem.W.Frag) (C CI : Addr) : Sp := fun vs H Q E => ∃ (x : V) (z : List Nat), vs = [x] ∧ (x = vS z ∨ (z = [] ∧ RC (rIsi K) [x, .ty "str"] H (.bl false))) ∧ TextOk z ∧ (worldP z = none → ∀ H', Ex H H' → E (.ref CI) none H') ∧
  ∀ W, worldP z = some W → ∀ p H', H p = none → Ex H H' → WdAt K C H' p W → Q (.ref p) H'
theorem ok_read_world (T : Txt K mg w) : FnOk P w K mg base (L2.CX P w) 10 T.a_read_world T.fd_read_world ["text"] (spRW K T.C_World T.C_IW) := by
  have G_is_count := ok_is_count (P := P) (w := w) (base := base) T
  have G_is_luck := ok_is_luckB (P := P) (w := w) (base := base) T
  have G_read_thing := ok_read_thing (P := P) (w := w) (base := base) T
  have G_are_in_sequence := ok_are_in_sequenceL (P := P) (w := w) (base := base) T
  have G_world_of := ok_world_of (P := P) (w := w) (base := base) T
  refine T.F_read_world.okX sc_read_world (fun vs H Q E h => ?_) (fun cdv A outer s H vs Q E hr h => ?_)
  · obtain ⟨_, _, rfl, _⟩ := h; rfl
  · obtain ⟨x, z, rfl, hx, ht, qn, qs⟩ := h
    refine ⟨_, (pss_cons (ps_set (i := 1) sc_read_world.nd rfl (.inl rfl) (pe_ifExp (pt_val (pe_callB call_isi (by rfl) T.z_isinstance (by decide +kernel) (pa_cons (pv 0) (pa_cons (pe_bltn (v := .ty "str") (by rfl) T.z_str (by decide +kernel) rfl) pa_nil)))) (pe_split (pv 0) pe_str) (pe_lst (pa_cons pe_str pa_nil))))
  (pss_cons (ps_set (i := 2) sc_read_world.nd rfl (.inl rfl) (pe_split (pe_ix ix_list (pv 1) pe_int (fun _ _ => rfl)) pe_str))
  (pss_cons (ps_setLc (i := 3) (own := [("part", 7)]) (g := gName 7) (by rfl) sc_read_world.nd rfl rfl (sw_true rfl rfl rfl (by decide +kernel)) (pi_list (pe_slice sl_list (pv 1) (po_some pe_int) po_none)) (blkOk_by (own := [("part", 7)]) (N := ["text", "parts", "head", "things", "tick", "next_id", "luck", "part", "word"]) (sc := defScope s_read_world) (by decide +kernel)) (fun _ _ _ _ _ => pg_name (i := 7) sc_read_world.nd rfl (Or.inl rfl)) (fun _ _ _ _ _ => pts_nil) (fun _ _ _ _ _ => (pe_call G_read_thing (hr.mono (by decide)) (by rfl) T.g_read_thing T.F_read_thing.kp T.b_read_thing .nil pass0 (pa_cons (pv 7) pa_nil))))
  (pss_cons (ps_if (PW.pt (pw_or (pt_cmpR op_ne (pe_callB c_len (by rfl) T.z_len PySem.boot_len (pa_cons (pv 2) pa_nil)) pe_int (nomark _)) (pw_or (pt_not (pt_val (pe_callB (cr_all rfl) (by rfl) T.z_all (by decide +kernel) (pa_cons (pe_lc (own := [("word", 8)]) (g := gName 8) (by rfl) sc_read_world.nd (pi_list (pv 2)) (blkOk_by (own := [("word", 8)]) (N := ["text", "parts", "head", "things", "tick", "next_id", "luck", "part", "word"]) (sc := defScope s_read_world) (by decide +kernel)) (fun _ _ _ _ _ => pg_name (i := 8) sc_read_world.nd rfl (Or.inl rfl)) (fun _ _ _ _ _ => pts_nil) (fun _ _ _ _ _ => (pe_call G_is_count (hr.mono (by decide)) (by rfl) T.g_is_count T.F_is_count.kp T.b_is_count .nil pass0 (pa_cons (pv 8) pa_nil)))) pa_nil)))) (pw_or1 (pt_cmpR (op_inD (hu_of65 hr)) pe_non (pv 3) (by rfl)))))) (pss_one (ps_raise (W := fun cls d _ H => E cls d H) rfl (takes_of rfl rfl rfl rfl) (pmk_own PySem.F.excBase_ValueError T.x_IW T.g_InvalidWorld T.k_IW (raises_own T.e_IW T.y_IW) (by rfl)))) pss_nil)
  (pss_cons (ps_asg (pe_lc (own := [("word", 8)]) (g := gName 8) (by rfl) sc_read_world.nd (pi_list (pv 2)) (blkOk_by (own := [("word", 8)]) (N := ["text", "parts", "head", "things", "tick", "next_id", "luck", "part", "word"]) (sc := defScope s_read_world) (by decide +kernel)) (fun _ _ _ _ _ => pg_name (i := 8) sc_read_world.nd rfl (Or.inl rfl)) (fun _ _ _ _ _ => pts_nil) (fun _ _ _ _ _ => (pe_callTy Tx.c_intS (by rfl) T.z_int (by decide +kernel) (pa_cons (pv 8) pa_nil)))) (pg_unl rfl (pgs_cons (pg_name (i := 4) sc_read_world.nd rfl (.inl rfl)) (pgs_cons (pg_name (i := 5) sc_read_world.nd rfl (.inl rfl)) (pgs_cons (pg_name (i := 6) sc_read_world.nd rfl (.inl rfl)) pgs_nil)))))
  (pss_cons (ps_if (PW.pt (pw_or (pt_not (pt_val (pe_call G_is_luck (hr.mono (by decide)) (by rfl) T.g_is_luck T.F_is_luck.kp T.b_is_luck .nil pass0 (pa_cons (pv 6) pa_nil)))) (pw_or (pt_cmpR op_gt (pe_callB c_len (by rfl) T.z_len PySem.boot_len (pa_cons (pv 3) pa_nil)) (pe_glob (v := .int 12) rfl T.g_MAX_THINGS ⟨_, rfl⟩) (nomark _)) (pw_or1 (pt_not (pt_val (pe_call G_are_in_sequence (hr.mono (by decide)) (by rfl) T.g_are_in_sequence T.F_are_in_sequence.kp T.b_are_in_sequence .nil pass0 (pa_cons (pv 3) (pa_cons (pv 5) pa_nil))))))))) (pss_one (ps_raise (W := fun cls d _ H => E cls d H) rfl (takes_of rfl rfl rfl rfl) (pmk_own PySem.F.excBase_ValueError T.x_IW T.g_InvalidWorld T.k_IW (raises_own T.e_IW T.y_IW) (by rfl)))) pss_nil)
  (pss_one (ps_ret (pe_call G_world_of (hr.mono (by decide)) (by rfl) T.g_world_of T.F_world_of.kp T.b_world_of .nil pass0 (pa_cons (pv 4) (pa_cons (pv 5) (pa_cons (pv 6) (pa_cons (pe_callTy c_tupL (by rfl) T.z_tuple (by decide +kernel) (pa_cons (pv 3) pa_nil)) pa_nil))))))))))))), ?_⟩
    have hzl := ht.len
    have hcnt := splitL_length 59 z
    obtain ⟨h0, ps, hs⟩ := splitL_ne 59 z
    have hpart : ∀ q ∈ splitL 59 z, q.length ≤ 4000 := fun q h => word_len hzl h
    refine q_asgL (xs := (h0 :: ps).map vS) (by
      rw [← hs]
      rcases hx with rfl | ⟨rfl, hni⟩
      · exact el_if (b := true) (et_B (ev_cb (vs := [vS z, .ty "str"]) (by walk_at "ea") isi_str)) (fun _ => el_split (by decide) (ev_var rfl) (fun _ _ => ev_is ev_c s_semi) (by omega)) (fun h => by cases h)
      · exact el_if (b := false) (et_B (ev_cb (vs := [x, .ty "str"]) (by walk_at "ea") hni)) (fun h => by cases h) (fun _ => el_lst (ea_cons (ev_is ev_c s_empty) ea_nil) (by show 1 ≤ 100000; decide))) fun p H1 hp e1 h1 => ?_
    have hP := sq_of (K := K) h1
    have hwd := ht.wd
    rw [hs] at hcnt hpart hwd
    simp only [List.length_cons] at hcnt
    have hh0 := hpart h0 (List.mem_cons_self ..)
    have hc0 := splitL_length 32 h0
    refine q_asgL (xs := (splitL 32 h0).map vS) (el_split (by decide) (ev_word (i := 0) rfl hP rfl) (fun _ _ => ev_is ev_c s_blank) (by omega)) fun ph H2 hph e2 h2 => ?_
    have hPH := sq_of (K := K) h2
    refine q_asgLcN (xs := ps.map vS) (fun i v H => PrT K (ps.getD i []) v H) (fun i r H H' Dl acc hD xd h => h.tl xd hD) (el_drop (k := 1) rfl (ex_l e2 hP)) (by rw [List.length_map]; omega) (fun i x' H3 R e3 hxi k => ⟨rfl, ?_⟩) fun l ws H3 hl e3 h3 hlen hPr => ?_
    · rw [List.getElem?_map] at hxi
      cases hq : ps[i]? with
      | none => rw [hq] at hxi; cases hxi
      | some q =>
        rw [hq] at hxi
        obtain rfl : x' = vS q := (Option.some.inj hxi).symm
        have hd : ps.getD i [] = q := by rw [List.getD_eq_getElem?_getD, hq]; rfl
        have hm : q ∈ h0 :: ps := List.mem_cons_of_mem _ (List.mem_of_getElem? hq)
        refine (ea_cons (ev_var rfl) ea_nil) H3 (Ex.refl H3) _ fun H4 e4 => ⟨q, rfl, ⟨by have := hpart q hm; omega, hwd q hm⟩, fun hn H' e => k .non H' (e4.trans e) (.inl ⟨by rw [hd]; exact hn, rfl⟩), fun g hg r H' hr e hA => k (.ref r) H' (e4.trans e) (.inr ⟨r, g, rfl, by rw [hd]; exact hg, hA⟩)⟩
    have hlen : ws.length = ps.length := by rw [hlen, List.length_map]
    have hL := sq_of (K := K) h3
    have e12 := (e1.trans e2).trans e3
    have t3 : ∀ {σ H4}, σ[3]? = some (some (V.ref l)) → Ex H3 H4 → EvT (tTest (tOp (rInD K) (tC .non) (tVar 3))) σ H4 (allP ps).isNone := fun hσ e4 => et_test (ev_op ev_c (ev_var hσ) fun H5 e5 Q q => by
      obtain ⟨ds, d1, d2, d3⟩ := dp_none (H := H5) hlen fun i r hi => (hPr i r hi).ex (e4.trans e5)
      refine ⟨.none, ds, .non, .lst (ex_l (e4.trans e5) hL) d1, by decide, shaped_of_le (n := 3) ⟨d2.1, by show PyData.depthAll ds + 1 ≤ 3; have := d2.2; omega⟩ (by decide), ?_⟩
      rw [d3]
      exact q H5 (Ex.refl H5))
    refine q_when (b := (!decide (V.int (((splitL 32 h0).map vS).length : Int) = V.int 3)) || (!((splitL 32 h0).map isCountL).all id || (allP ps).isNone)) (et_or (et_test (ev_op (ev_cb (vs := [.ref ph]) (by walk_at "ea") (rc_lenL (ex_l e3 hPH))) ev_c (rv_ne rfl))) fun _ => et_or (et_not (et_B (ev_allN (bs := (splitL 32 h0).map isCountL) (by
      have e : ((splitL 32 h0).map isCountL).map V.bl = (splitL 32 h0).map fun w => V.bl (isCountL w) := List.map_map ..
      rw [e]
      exact el_lcWL _ (ev_var rfl) (ex_l e3 hPH) (by omega) (fun _ => rfl) fun w H4 e4 hw => ev_callP (vs := [vS w]) (by walk_at "ea") fun H5 _ => ⟨w, rfl, by have := hwd h0 (List.mem_cons_self ..) w hw; omega, rfl⟩)))) fun _ => t3 rfl (Ex.refl H3)) (fun hb H4 e4 => qn (worldP_bad hs hb) H4 (e12.trans e4)) fun hb H4 e4 => ?_
    obtain ⟨a, b, c, ts, hh, ⟨ha, hbb, hc⟩, hA, hW⟩ := worldP_good hs hb
    have hw3 : ∀ w ∈ [a, b, c], w.length ≤ 500 := by rw [← hh]; exact hwd h0 (List.mem_cons_self ..)
    have hws : ∀ w ∈ [a, b, c], isSignedL w = true := fun w hw => by
      have hl := hw3 w hw
      refine ((count_signed (by omega)).mp ?_).1
      simp only [List.mem_cons, List.not_mem_nil, or_false] at hw
      rcases hw with rfl | rfl | rfl <;> assumption
    rw [hh] at hPH
    have e34 := e3.trans e4
    refine q_asg3L (v1 := .int (intV a)) (v2 := .int (intV b)) (v3 := .int (intV c)) (el_lcWL (xs := [a, b, c]) (fun w => .int (intV w)) (ev_var rfl) (ex_l e34 hPH) (by show 3 ≤ 40000; decide) (fun _ => rfl) fun w H5 e5 hw => ev_cb (vs := [vS w]) (by walk_at "ea") (rc_intS (int_signed (by have := hw3 w hw; omega) (hws w hw)) (by have := hw3 w hw; omega))) fun H5 e5 => ?_
    obtain ⟨rs, rfl, hR⟩ := refs_all hA hlen hPr
    have e45 := e4.trans e5
    have e15 := (e12.trans e4).trans e5
    have hL5 := ex_l e45 hL
    have htl := allP_len hA
    have hasL : (((rs.map V.ref).length : Nat) : Int) = (ps.length : Int) := by rw [hlen]
    refine q_when (b := !(decide (0 ≤ intV c) && decide (intV c < 999999937)) || (decide ((12 : Int) < (ps.length : Int)) || !decide (Asc ts (intV b)))) (et_or (et_not (et_B (ev_callP (vs := [.int (intV c)]) (by walk_at "ea") fun H6 _ => ⟨_, rfl, rfl⟩))) fun _ => et_or (et_test (ev_op (ev_cb (vs := [.ref l]) (by walk_at "ea") (by rw [← hasL]; exact rc_lenL hL5)) ev_c rv_I0)) fun _ => et_not (et_B (ev_callP (vs := [.ref l, .int (intV b)]) (by walk_at "ea") fun H6 e6 => ⟨l, rs, ts, intV b, rfl, ex_l e6 hL5, (hR.ex e45).ex e6, by omega, rfl⟩))) (fun hbad H6 e6 => qn ?_ H6 (e15.trans e6)) fun hgood H6 e6 => ?_
    · rw [hW, if_neg]
      intro hg
      simp only [Bool.and_eq_true, decide_eq_true_eq] at hg
      obtain ⟨⟨g1, g2⟩, g3, g4⟩ := hg
      rw [decide_eq_true g1, decide_eq_true g2, decide_eq_true g4, decide_eq_false (show ¬ (12 : Int) < (ps.length : Int) by omega)] at hbad
      cases hbad
    · rw [Bool.or_eq_false_iff, Bool.or_eq_false_iff, Bool.not_eq_false', Bool.not_eq_false', decide_eq_false_iff_not] at hgood
      obtain ⟨g1, g2, g3⟩ := hgood
      have h12 : ps.length ≤ 12 := by omega
      have hW2 : worldP z = some ⟨intV a, intV b, intV c, ts⟩ := by
        rw [hW, g1, g3, decide_eq_true h12]
        rfl
      have e56 := e45.trans e6
      refine s_retW (C := T.C_World) (W := ⟨intV a, intV b, intV c, ts⟩) (ew_call (ok := kWorldOf K) (P := fun vs H' => ∃ q, vs = [.int (intV a), .int (intV b), .int (intV c), .ref q] ∧ H' q = some (.tup (rs.map V.ref))) ((ap_cons (ev_var rfl) (ap_cons (ev_var rfl) (ap_cons (ev_var rfl) (ap_consU (eu_tupV (ev_var rfl) (ex_l e6 hL5)) ap_nil)))).mono fun vs H' ⟨_, a1, _, a2, _, a3, q, _, a4, a5, a6⟩ => ⟨q, by rw [a1, a2, a3, a4, a6], a5⟩) fun vs H7 e7 ⟨q, hv, hq⟩ => ⟨q, hv, ⟨rs, st_of hq, (hR.ex e56).ex e7⟩, by show ts.length ≤ 12; omega, of_decide_eq_true g3⟩) fun pw H7 hpw e7 hw7 => qs _ hW2 pw H7 (fresh_back (e15.trans e6) hpw) ((e15.trans e6).trans e7) hw7
end
end Kz
set_option Elab.async false
set_option linter.all false
set_option maxRecDepth 100000
set_option maxHeartbeats 4000000
set_option exponentiation.threshold 500
namespace Kz
open PySem PySem.Spec PyProof.Rows L2 Evl Vr
local macro_rules | `(tactic| walk_at "sc") => `(tactic| first | (with_reducible assumption) | (with_reducible exact sc_mul (by omega)) | (with_reducible exact sc_mulr (by omega)) | (with_reducible exact sc_div (by omega) (by decide)) | (show (0 : Int) < _; omega) | (show _ ≠ (0 : Int); omega) | (with_reducible rfl) | decide)
local macro_rules | `(tactic| walk_at "sq") => `(tactic| first | assumption | exact sq_of (by assumption) | exact st_of (by assumption))
local macro_rules | `(tactic| walk_at "pl") => `(tactic| first | assumption | exact pl_int | exact pl_bl | exact pl_str | exact pl_non | exact pl_lst (by assumption) | exact pl_tup (by assumption) | exact pl_dK (by assumption))
local macro_rules | `(tactic| walk_at "rv") => `(tactic| first
  | with_reducible exact rv_I0
  | with_reducible exact ru_neg
  | ((with_reducible apply rv_I); walk_at "sc")
  | ((with_reducible apply rv_ixL); walk_at "sq"; first | rfl | assumption)
  | ((with_reducible apply rv_ixT); walk_at "sq"; first | rfl | assumption)
  | ((with_reducible apply rv_eq); rfl) | ((with_reducible apply rv_ne); rfl))
local macro_rules | `(tactic| walk_at "rc") => `(tactic| first
  | with_reducible exact rc_I1 | with_reducible exact rc_B1 | with_reducible exact rc_I2 | ((with_reducible apply rc_repr); walk_at "sc") | ((with_reducible apply rc_lenL); walk_at "sq")
  | ((with_reducible apply rc_isiInt); walk_at "pl") | ((with_reducible apply rc_isiBool); walk_at "pl"))
local macro_rules | `(tactic| walk_at "ea") => `(tactic| first
  | with_reducible exact ea_nil | ((with_reducible apply ea_cons); walk_at "ev"; walk_at "ea"))
local macro_rules | `(tactic| walk_at "pow") => `(tactic| first
  | with_reducible exact ev_pow (a := 10) (b := 9) (c := 1000000000) (by decide +kernel) (by decide +kernel)
  | with_reducible exact ev_pow (a := 10) (b := 10) (c := 10000000000) (by decide +kernel) (by decide +kernel)
  | with_reducible exact ev_pow (a := 10) (b := 12) (c := 1000000000000) (by decide +kernel) (by decide +kernel)
  | with_reducible exact ev_pow (a := 10) (b := 17) (c := 100000000000000000) (by decide +kernel) (by decide +kernel)
  | with_reducible exact ev_pow (a := 10) (b := 20) (c := 100000000000000000000) (by decide +kernel) (by decide +kernel)
  | with_reducible exact ev_pow (a := 10) (b := 29) (c := 100000000000000000000000000000) (by decide +kernel) (by decide +kernel)
  | with_reducible exact ev_pow (a := 10) (b := 30) (c := 1000000000000000000000000000000) (by decide +kernel) (by decide +kernel)
  | with_reducible exact ev_pow (a := 10) (b := 40) (c := 10000000000000000000000000000000000000000) (by decide +kernel) (by decide +kernel)
  | with_reducible exact ev_pow (a := 10) (b := 57) (c := 1000000000000000000000000000000000000000000000000000000000) (by decide +kernel) (by decide +kernel)
  | with_reducible exact ev_pow (a := 10) (b := 58) (c := 10000000000000000000000000000000000000000000000000000000000) (by decide +kernel) (by decide +kernel)
  | with_reducible exact ev_pow (a := 10) (b := 59) (c := 100000000000000000000000000000000000000000000000000000000000) (by decide +kernel) (by decide +kernel)
  | with_reducible exact ev_pow (a := 10) (b := 60) (c := 1000000000000000000000000000000000000000000000000000000000000) (by decide +kernel) (by decide +kernel))
local macro_rules | `(tactic| walk_at "call") => `(tactic| (intro H9 e9; first | exact ⟨_, rfl, rfl⟩ | exact ⟨_, _, rfl, rfl⟩ | exact ⟨_, _, _, rfl, rfl⟩ | exact ⟨_, rfl, by walk_at "pl", rfl⟩ | (refine ⟨_, _, _, rfl, ?_, rfl⟩; first | exact Plain.ex e9 (by assumption) | walk_at "pl") | (refine ⟨_, rfl, ?_, rfl⟩; first | exact Plain.ex e9 (by assumption) | walk_at "pl")))
local macro_rules | `(tactic| walk_at "ev") => `(tactic| first
  | with_reducible exact ev_c
  | exact ev_var rfl
  | walk_at "pow"
  | ((with_reducible apply ev_op); walk_at "ev"; walk_at "ev"; walk_at "rv")
  | ((with_reducible apply ev_un); walk_at "ev"; walk_at "rv")
  | ((with_reducible apply ev_cb); walk_at "ea"; walk_at "rc")
  | ((with_reducible apply ev_callP); walk_at "ea"; walk_at "call")
  | ((with_reducible apply ev_chain); walk_at "ev"; walk_at "ev"; walk_at "rv"; walk_at "ev"; walk_at "rv")
  | ((with_reducible apply ev_andV); walk_at "ev"; intro _; walk_at "ev")
  | ((with_reducible apply ev_orV); walk_at "ev"; intro _; walk_at "ev")
  | ((with_reducible apply ev_ite); walk_at "et"; intro _; walk_at "ev"; intro _; walk_at "ev")
  | ((with_reducible apply ev_notV); walk_at "ev"))
local macro_rules | `(tactic| walk_at "et") => `(tactic| first
  | ((with_reducible apply et_test); walk_at "ev")
  | ((with_reducible apply et_B); walk_at "ev")
  | ((with_reducible apply et_and); walk_at "et"; intro _; walk_at "et")
  | ((with_reducible apply et_or); walk_at "et"; intro _; walk_at "et")
  | ((with_reducible apply et_not); walk_at "et"))
open En Wo Tx NumText
theorem log62 {i : Int} (h : i.natAbs < 10 ^ 62) : i.natAbs.log2 < 1920 := by
  by_cases h0 : i.natAbs = 0
  · rw [h0]; decide
  · exact (Nat.log2_lt h0).mpr (Nat.lt_trans h (by decide +kernel))
theorem intL_len10 {i : Int} (h : num i) : (intL i).length ≤ 11 := by
  unfold num at h
  unfold intL
  split
  · have := TL.numL_len (n := i.toNat) (k := 10) (by decide) (by omega)
    omega
  · have := TL.numL_len (n := (-i).toNat) (k := 10) (by decide) (by omega)
    simp only [List.length_cons]
    omega
theorem lenAll_cons (p : List Nat) (ps : List (List Nat)) : lenAll (p :: ps) = p.length + 1 + lenAll ps := by
  unfold lenAll
  rw [List.map_cons, List.sum_cons, List.length_cons]
  omega
theorem lenAll_le {m : Nat} : ∀ {ps : List (List Nat)}, (∀ p ∈ ps, p.length ≤ m) → lenAll ps ≤ ps.length * (m + 1)
  | [], _ => Nat.zero_le _
  | p :: ps, h => by
    have h1 := h p (List.mem_cons_self ..)
    have h2 := lenAll_le (ps := ps) fun q hq => h q (List.mem_cons_of_mem _ hq)
    rw [lenAll_cons, List.length_cons, Nat.succ_mul]
    omega
theorem nameL_len {z : Str} (h : nameL z) : z.cps.toList.length ≤ 8 := by
  unfold nameL isNameL at h
  simp only [Bool.and_eq_true, decide_eq_true_eq] at h
  exact h.1.2
theorem lenAll_app (a b : List (List Nat)) : lenAll (a ++ b) = lenAll a + lenAll b := by
  unfold lenAll
  rw [List.map_append, List.sum_append, List.length_append]
  omega
def wordsW (t : Tg) : List (List Nat) := intL t.id :: t.kd.cps.toList :: t.ns.map intL
theorem words_len {t : Tg} (h : TgW t) : lenAll (wordsW t) ≤ 169 := by
  unfold wordsW
  rw [lenAll_cons, lenAll_cons]
  have h1 := intL_len h.i1
  have h2 := nameL_len h.nm
  have h3 := lenAll_le (m := 11) (ps := t.ns.map intL) fun p hp => by
    obtain ⟨n, hn, rfl⟩ := List.mem_map.mp hp
    exact intL_len10 (h.ns.2.2 n hn)
  rw [List.length_map] at h3
  have h4 := h.ns.2.1
  omega
theorem thing_len {t : Tg} (h : TgW t) : (thingW t).length ≤ 169 := Nat.le_trans (joinL_le 32 _) (words_len h)
def headW (W : Wd) : List Nat := joinL 32 [intL W.t, intL W.n, intL W.l]
theorem luck62 {W : Wd} (h : WdW W) : W.l.natAbs < 10 ^ 62 := by
  have : (10 : Nat) ^ 62 = 100000000000000000000000000000000000000000000000000000000000000 := by decide +kernel
  have := h.l0
  have := h.l1
  omega
theorem head_len {W : Wd} (h : WdW W) : (headW W).length ≤ 192 := by
  refine Nat.le_trans (joinL_le 32 _) ?_
  rw [lenAll_cons, lenAll_cons, lenAll_cons]
  have h1 := intL_len h.t1
  have h2 := intL_len h.n1
  have h3 := intL_len (luck62 h)
  show _ + 1 + (_ + 1 + (_ + 1 + 0)) ≤ 192
  omega
def partsW (W : Wd) (i : Nat) : List (List Nat) := headW W :: (W.ts.take i).map thingW
theorem parts_all (W : Wd) : partsW W W.ts.length = headW W :: W.ts.map thingW := by unfold partsW; rw [List.take_length]
theorem worldW_is (W : Wd) : worldW W = joinL 59 (partsW W W.ts.length) := by rw [parts_all]; rfl
theorem parts_len {W : Wd} (h : WdW W) (i : Nat) : lenAll (partsW W i) ≤ 2233 := by
  unfold partsW
  rw [lenAll_cons]
  have h1 := head_len h
  have h2 := lenAll_le (m := 169) (ps := (W.ts.take i).map thingW) fun p hp => by
    obtain ⟨t, ht, rfl⟩ := List.mem_map.mp hp
    exact thing_len (h.tg t (List.mem_of_mem_take ht))
  rw [List.length_map, List.length_take] at h2
  have := h.len
  have h3 : min i W.ts.length * (169 + 1) ≤ 12 * (169 + 1) := Nat.mul_le_mul_right _ (by omega)
  omega
theorem worldW_len {W : Wd} (h : WdW W) : (worldW W).length ≤ 2233 := by rw [worldW_is]; exact Nat.le_trans (joinL_le ..) (parts_len h _)
theorem parts_snoc {W : Wd} {i : Nat} {t : Tg} (h : W.ts[i]? = some t) : partsW W (i + 1) = partsW W i ++ [thingW t] := by
  unfold partsW
  rw [take_succ h, List.map_append]
  rfl
theorem joinL_snoc {c : Nat} {x : List Nat} : ∀ {xs : List (List Nat)}, xs ≠ [] → joinL c (xs ++ [x]) = (joinL c xs ++ [c]) ++ x
  | [], h => absurd rfl h
  | [a], _ => by simp [joinL]
  | a :: b :: r, _ => by
    have ih := joinL_snoc (c := c) (x := x) (xs := b :: r) (by simp)
    rw [List.cons_append, joinL_cons (ps := b :: r ++ [x]) (fun z => by cases z), ih, joinL_cons (ps := b :: r) (fun z => by cases z)]
    simp only [List.append_assoc, List.cons_append]
section
variable {σ : L2.St} {H : Hp} {te ta tb tl : TE} {ts : List TE} {acc out y : Str} {K : PySem.W.Frag} {a b l : List Nat}
def EvJs (ts : List TE) (acc : Str) (σ : L2.St) (H : Hp) (out : Str) : Prop := ∀ H1, Ex H H1 → ∀ Q : Str → Hp → Prop, (∀ H2, Ex H1 H2 → Q out H2) → tJs ts acc σ H1 Q
theorem ejs_nil : EvJs [] acc σ H acc := fun H1 _ Q q => q H1 (Ex.refl H1)
theorem ejs_cons (h : Ev te σ H (.str y)) (hz : (acc ++ y).length ≤ sizeLine) (hr : EvJs ts (acc ++ y) σ H out) : EvJs (te :: ts) acc σ H out := fun H1 e Q q => h H1 e _ fun H2 e2 => ⟨y, rfl, hz, hr H2 (e.trans e2) Q fun H3 e3 => q H3 (e2.trans e3)⟩
theorem ejs_S (h : Ev te σ H (vS a)) (hz : l.length + a.length ≤ 100000) (hr : EvJs ts (S (l ++ a)) σ H out) : EvJs (te :: ts) (S l) σ H out := ejs_cons h (by rw [S_app, S_len, List.length_append]; exact Nat.le_trans hz (by decide)) (by rw [S_app]; exact hr)
theorem ev_js (h : EvJs ts Str.empty σ H out) : Ev (fun σ H Q => tJs ts Str.empty σ H fun o H1 => Q (.str o) H1) σ H (.str out) := fun H1 e Q q => h H1 e _ q
theorem ev_fmtI {i : Int} (h : Ev te σ H (.int i)) (hz : i.natAbs < 10 ^ 62) : Ev (tFmt te) σ H (vS (intL i)) := fun H1 e Q q => h H1 e _ fun H2 e2 => .inr ⟨i, rfl, log62 hz, by
  show Q (.str (Str.ofString (toString i))) H2
  rw [str_int]
  exact q H2 e2⟩
theorem ev_strI {i : Int} (h : Ev te σ H (.int i)) (hi : i.natAbs < 10 ^ 62) : Ev (tCB rStrI (tCons te tNil)) σ H (vS (intL i)) := ev_is (ev_cb (vs := [.int i]) (ea_cons h ea_nil) (rc_strI (log62 hi))) (by rw [str_int])
/-- [str(number) for number in numbers] -/
theorem el_strs {p : Addr} {ns : List Int} {j : Nat} {vs : List Nat} (h : Ev tl σ H (.ref p)) (hT : SqT K H p (ns.map V.int)) (hn : ns.length ≤ 40000) (hs : ∀ n ∈ ns, n.natAbs < 10 ^ 62) (hw : ∀ x, wipe ((wipe σ vs).set j (some x)) vs = wipe σ vs) (hj : ∀ x : V, ((wipe σ vs).set j (some x))[j]? = some (some x)) :
    EvL (tLc (iTup K tl) (gName j) tYes (tCB rStrI (tCons (tVar j) tNil)) vs) σ H ((ns.map intL).map vS) := by
  have e : given (ns.map V.int).length (fun _ => true) (fun i => vS (intL (ns.getD i 0))) = (ns.map intL).map vS := by
    rw [List.length_map, given_yes_map ns 0 (fun n => vS (intL n)), List.map_map]
    rfl
  rw [← e]
  refine el_lcT (fun _ => true) _ h hT (by rw [List.length_map]; exact hn) hw (fun i x H1 e1 hx => et_yes) fun i x H1 e1 hx _ => ?_
  rw [List.getElem?_map] at hx
  cases h : ns[i]? with
  | none => rw [h] at hx; cases hx
  | some n =>
    rw [h] at hx
    obtain rfl : x = .int n := (Option.some.inj hx).symm
    have hd : ns.getD i 0 = n := by rw [List.getD_eq_getElem?_getD, h]; rfl
    rw [hd]
    exact ev_strI (ev_var (hj _)) (hs n (List.mem_of_getElem? h))
def rPlus : R2 := fun x y H Q => ∃ i j, x = .str i ∧ y = .str j ∧ i.length + j.length ≤ sizeLine ∧ Q (.str (i ++ j)) H
theorem ev_plus (h1 : Ev ta σ H (vS a)) (h2 : Ev tb σ H (vS b)) (hz : a.length + b.length ≤ 100000) : Ev (tOp rPlus ta tb) σ H (vS (a ++ b)) := ev_op h1 h2 fun H1 e Q q => ⟨_, _, rfl, rfl, by rw [S_len, S_len]; exact Nat.le_trans hz (by decide), by rw [S_app]; exact q H1 (Ex.refl H1)⟩
end
theorem kd_vS (z : Str) : V.str z = vS z.cps.toList := by
  show V.str z = V.str (S _)
  rw [S_of]
section
variable {P : Program} {w : World} {K : PySem.W.Frag} {mg : Str → Option Value} {base : Heap}
def kTextW (K : PySem.W.Frag) (C : Addr) (vs : List V) (H : Hp) (z : V) : Prop := ∃ (p : Addr) (W : Wd), vs = [.ref p] ∧ WdAt K C H p W ∧ WdW W ∧ z = vS (worldW W)
theorem ok_world_text (T : Txt K mg w) : FnOk P w K mg base CX0 2 T.a_world_text T.fd_world_text ["world"] (Pure (kTextW K T.C_World)) := by
  have G_need_world := ok_need_world (P := P) (w := w) (base := base) T
  refine T.F_world_text.ok sc_world_text (fun vs H Q E h => ?_) (fun cdv A outer s H vs Q E hr h => ?_)
  · obtain ⟨_, ⟨_, _, rfl, _⟩, _⟩ := h; rfl
  · obtain ⟨_, ⟨p, W, rfl, hW, hg, rfl⟩, q⟩ := h
    refine ⟨_, (pss_cons (ps_expr (pe_call G_need_world (hr.mono (by decide)) (by rfl) T.g_need_world T.F_need_world.kp T.b_need_world .nil pass0 (pa_cons (pv 0) pa_nil)))
  (pss_cons (ps_set (i := 1) sc_world_text.nd rfl (.inl rfl) (pe_lst (pa_cons (pe_joined (.cons (pe_fmt (pe_fld (pv 0) rfl)) (.cons pe_str (.cons (pe_fmt (pe_fld (pv 0) rfl)) (.cons pe_str (.cons (pe_fmt (pe_fld (pv 0) rfl)) .nil)))))) pa_nil)))
  (pss_cons (ps_for PassesOwn.never rfl (pi_tup (pe_fld (pv 0) rfl)) (pg_tup rfl (pgs_cons (pg_name (i := 2) sc_world_text.nd rfl (.inl rfl)) (pgs_cons (pg_name (i := 3) sc_world_text.nd rfl (.inl rfl)) (pgs_cons (pg_name (i := 4) sc_world_text.nd rfl (.inl rfl)) pgs_nil)))) (pss_one (ps_expr (pe_bm PySem.F.plainAttrs_list PySem.F.slot_list_append PySem.F.type_list_append mt_append (pv 1) (pa_cons (pe_join pe_str (pe_lst (pa_cons (pe_callTy call_str_int (by rfl) T.z_str (by decide +kernel) (pa_cons (pv 2) pa_nil)) (pa_cons (pv 3) (StX.pa_star (pe_lc (own := [("number", 5)]) (g := gName 5) (by rfl) sc_world_text.nd (pi_tup (pv 4)) (blkOk_by (own := [("number", 5)]) (N := ["world", "parts", "thing", "kind", "numbers", "number"]) (sc := defScope s_world_text) (by decide +kernel)) (fun _ _ _ _ _ => pg_name (i := 5) sc_world_text.nd rfl (Or.inl rfl)) (fun _ _ _ _ _ => pts_nil) (fun _ _ _ _ _ => (pe_callTy call_str_int (by rfl) T.z_str (by decide +kernel) (pa_cons (pv 5) pa_nil)))) pa_nil))))) pa_nil)))))
  (pss_one (ps_ret (pe_join pe_str (pv 1))))))), ?_⟩
    refine q_drop (v := .non) (ev_callP (vs := [.ref p]) (by walk_at "ea") fun H1 e1 => ⟨p, W, rfl, hW.ex e1, rfl⟩) fun H1 e1 => ?_
    obtain ⟨rs, aT, aO, aD, ⟨dx, hob⟩, hT, hR, hO, hD⟩ := hW.ex e1
    have l1 := intL_len hg.t1
    have l2 := intL_len hg.n1
    have l3 := intL_len (luck62 hg)
    refine q_asgL (xs := (partsW W 0).map vS) (el_lst (ea_cons (ev_is (ev_js (show EvJs _ (S []) _ _ _ from ejs_S (a := intL W.t) (ev_fmtI (ev_fld (ev_var rfl) hob T.cl_World T.n_World_tick rfl) hg.t1) (by simp; omega) (ejs_S (a := [32]) (ev_is ev_c s_blank) (by simp; omega) (ejs_S (a := intL W.n) (ev_fmtI (ev_fld (ev_var rfl) hob T.cl_World T.n_World_next_id rfl) hg.n1) (by simp; omega) (ejs_S (a := [32]) (ev_is ev_c s_blank) (by simp; omega) (ejs_S (a := intL W.l) (ev_fmtI (ev_fld (ev_var rfl) hob T.cl_World T.n_World_luck rfl) (luck62 hg)) (by simp; omega) ejs_nil)))))) (by
      refine congrArg vS ?_
      show _ = headW W
      unfold headW
      simp [joinL])) ea_nil) (by show 1 ≤ 100000; decide)) fun l H2 hl e2 h2 => ?_
    have e12 := e1.trans e2
    let Pv : Nat → L2.St → Hp → Prop := fun i σ' H' => ∃ a b c : Option V, σ' = [some (.ref p), some (.ref l), a, b, c, none] ∧ Ex H1 H' ∧ H' l = some (.lst ((partsW W i).map vS))
    refine q_forT (ev_fld (ev_var rfl) (e2 _ _ hob) T.cl_World T.n_World_things rfl) (ex_t e2 hT) Pv (fun H3 e3 => ⟨none, none, none, rfl, e2.trans e3, e3 _ _ h2⟩) (fun i σ' H' _ ⟨_, _, _, _, e3, _⟩ => ex_t e3 hT) (fun i x σ' H' hx ⟨a, b, c, hσ, e3, hL⟩ => ?_) fun σ' H' ⟨a, b, c, hσ, e3, hL⟩ => ?_
    · subst hσ
      obtain ⟨r, t, rfl, h4, h5, hA⟩ := hR.at hx
      obtain ⟨rn, hA1, hA2⟩ := hA.ex e3
      have htg := hg.tg t (List.mem_of_getElem? h5)
      have hwl := words_len htg
      have hpl := parts_len hg i
      refine ⟨r, _, rfl, hA1, rfl, _, _, rfl, _, _, rfl, _, _, rfl, rfl, ?_⟩
      refine s_app hL (ev_var rfl) (v := vS (thingW t)) (ev_joinN (c := 32) (ps := wordsW t) (ev_is ev_c s_blank) (fun H4 e4 => el_lst (vs := (wordsW t).map vS) (ea_cons (ev_strI (ev_var rfl) htg.i1) (ea_cons (ev_is (ev_var rfl) (kd_vS _)) ?_)) ?_) (by omega)) (by
        have : (partsW W i).length ≤ lenAll (partsW W i) := by unfold lenAll; omega
        rw [List.length_map]
        omega) fun H4 e4 => ?_
      · have hst := ea_starL (K := K) (ys := []) (el_strs (K := K) (σ := [some (.ref p), some (.ref l), some (.int t.id), some (.str t.kd), some (.ref rn), none]) (H := H4) (j := 5) (vs := [5]) (tl := tVar 4) (ns := t.ns) (ev_var rfl) (ex_t e4 hA2) (by have := htg.ns.2.1; omega) (fun n hn => num_abs (htg.ns.2.2 n hn)) (fun _ => rfl) (fun _ => rfl)) (fun H5 _ => ea_nil)
        rw [List.append_nil] at hst
        exact hst
      · have : (wordsW t).length ≤ lenAll (wordsW t) := by unfold lenAll; omega
        rw [List.length_map]
        omega
      · refine ⟨_, _, _, rfl, Ex.mut (e3.trans e4) hl, ?_⟩
        rw [upd_same, parts_snoc h5, List.map_append]
        rfl
    · subst hσ
      have hlen : (rs.map V.ref).length = W.ts.length := by rw [List.length_map, hR.1]
      rw [hlen] at hL
      refine s_ret (v := vS (worldW W)) (ev_is (ev_joinV (c := 59) (ev_is ev_c s_semi) (fun _ _ => ev_var rfl) (sq_of hL) (by have := parts_len hg W.ts.length; omega)) (by rw [worldW_is])) fun H4 e4 => q H4 ((e1.trans e3).trans e4)
def kWritten (K : PySem.W.Frag) (vs : List V) (H : Hp) (z : V) : Prop := ∃ (p : Addr) (W : Wd), vs = [.ref p] ∧ PlAt K H p W ∧ WdW W ∧ z = vS (worldW W)
theorem ok_law_written (T : Txt K mg w) : FnOk P w K mg base CX0 2 T.a_law_written T.fd_law_written ["plain"] (Pure (kWritten K)) := by
  refine T.F_law_written.ok sc_law_written (fun vs H Q E h => ?_) (fun cdv A outer s H vs Q E hr h => ?_)
  · obtain ⟨_, ⟨_, _, rfl, _⟩, _⟩ := h; rfl
  · obtain ⟨_, ⟨p, W, rfl, ⟨aT, hW, rs, hT, hR⟩, hg, rfl⟩, q⟩ := h
    refine ⟨_, (pss_cons (ps_set (i := 1) sc_law_written.nd rfl (.inl rfl) (pe_op op_add_str (pe_op op_add_str (pe_op op_add_str (pe_op op_add_str (pe_callTy call_str_int (by rfl) T.z_str (by decide +kernel) (pa_cons (pe_ix ix_tup (pv 0) pe_int (fun _ _ => rfl)) pa_nil)) pe_str) (pe_callTy call_str_int (by rfl) T.z_str (by decide +kernel) (pa_cons (pe_ix ix_tup (pv 0) pe_int (fun _ _ => rfl)) pa_nil))) pe_str) (pe_callTy call_str_int (by rfl) T.z_str (by decide +kernel) (pa_cons (pe_ix ix_tup (pv 0) pe_int (fun _ _ => rfl)) pa_nil))))
  (pss_cons (ps_for PassesOwn.never rfl (pi_tup (pe_ix ix_tup (pv 0) pe_int (fun _ _ => rfl))) (pg_tup rfl (pgs_cons (pg_name (i := 2) sc_law_written.nd rfl (.inl rfl)) (pgs_cons (pg_name (i := 3) sc_law_written.nd rfl (.inl rfl)) (pgs_cons (pg_name (i := 4) sc_law_written.nd rfl (.inl rfl)) pgs_nil)))) (pss_one (ps_set (i := 1) sc_law_written.nd rfl (.inl rfl) (pe_op op_add_str (pe_op op_add_str (pv 1) pe_str) (pe_join pe_str (pe_op op_cat (pe_lst (pa_cons (pe_callTy call_str_int (by rfl) T.z_str (by decide +kernel) (pa_cons (pv 2) pa_nil)) (pa_cons (pv 3) pa_nil))) (pe_lc (own := [("number", 5)]) (g := gName 5) (by rfl) sc_law_written.nd (pi_tup (pv 4)) (blkOk_by (own := [("number", 5)]) (N := ["plain", "found", "thing", "kind", "numbers", "number"]) (sc := defScope s_law_written) (by decide +kernel)) (fun _ _ _ _ _ => pg_name (i := 5) sc_law_written.nd rfl (Or.inl rfl)) (fun _ _ _ _ _ => pts_nil) (fun _ _ _ _ _ => (pe_callTy call_str_int (by rfl) T.z_str (by decide +kernel) (pa_cons (pv 5) pa_nil))))))))))
  (pss_one (ps_ret (pv 1))))), ?_⟩
    have l1 := intL_len hg.t1
    have l2 := intL_len hg.n1
    have l3 := intL_len (luck62 hg)
    refine q_asg (v := vS (joinL 59 (partsW W 0))) (ev_is (ev_plus (ev_plus (ev_plus (ev_plus (ev_strI (ev_op (ev_var rfl) ev_c (rv_ixT hW rfl)) hg.t1) (ev_is ev_c s_blank) (by simp; omega)) (ev_strI (ev_op (ev_var rfl) ev_c (rv_ixT hW rfl)) hg.n1) (by simp; omega)) (ev_is ev_c s_blank) (by simp; omega)) (ev_strI (ev_op (ev_var rfl) ev_c (rv_ixT hW rfl)) (luck62 hg)) (by simp; omega)) (by
      refine congrArg vS ?_
      show _ = headW W
      unfold headW
      simp [joinL])) fun H1 e1 => ?_
    let Pv : Nat → L2.St → Hp → Prop := fun i σ' H' => ∃ a b c : Option V, σ' = [some (.ref p), some (vS (joinL 59 (partsW W i))), a, b, c, none] ∧ Ex H1 H'
    refine q_forT (ev_op (ev_var rfl) ev_c (rv_ixT (ex_t e1 hW) rfl)) (ex_t e1 hT) Pv (fun H3 e3 => ⟨none, none, none, rfl, e3⟩) (fun i σ' H' _ ⟨_, _, _, _, e3⟩ => ex_t (e1.trans e3) hT) (fun i x σ' H' hx ⟨a, b, c, hσ, e3⟩ => ?_) fun σ' H' ⟨a, b, c, hσ, e3⟩ => ?_
    · subst hσ
      obtain ⟨r, t, rfl, h4, h5, hA⟩ := hR.at hx
      obtain ⟨rn, hA1, hA2⟩ := hA.ex (e1.trans e3)
      have htg := hg.tg t (List.mem_of_getElem? h5)
      have hwl := words_len htg
      have htl := thing_len htg
      have hpl := Nat.le_trans (joinL_le 59 _) (parts_len hg i)
      refine ⟨r, _, rfl, hA1, rfl, _, _, rfl, _, _, rfl, _, _, rfl, rfl, ?_⟩
      refine s_asg (v := vS (joinL 59 (partsW W (i + 1)))) (ev_is (ev_plus (ev_plus (ev_var rfl) (ev_is ev_c s_semi) (by show _ + 1 ≤ _; omega)) (b := thingW t) (ev_joinN (c := 32) (ps := wordsW t) (ev_is ev_c s_blank) (fun H4 e4 => ?_) (by omega)) (by rw [List.length_append]; show _ + 1 + _ ≤ _; omega)) (by rw [parts_snoc h5, joinL_snoc (fun z => by cases z)])) fun H4 e4 => ⟨_, _, _, rfl, e3.trans e4⟩
      have h6 := el_cat (el_lst (vs := [vS (intL t.id), vS t.kd.cps.toList]) (ea_cons (ev_strI (te := tVar 2) (σ := [some (.ref p), some (vS (joinL 59 (partsW W i))), some (.int t.id), some (.str t.kd), some (.ref rn), none]) (H := H4) (ev_var rfl) htg.i1) (ea_cons (ev_is (te := tVar 3) (ev_var rfl) (kd_vS _)) ea_nil)) (by show 2 ≤ 100000; decide)) (el_strs (K := K) (σ := [some (.ref p), some (vS (joinL 59 (partsW W i))), some (.int t.id), some (.str t.kd), some (.ref rn), none]) (H := H4) (j := 5) (vs := [5]) (tl := tVar 4) (ns := t.ns) (ev_var rfl) (ex_t e4 hA2) (by have := htg.ns.2.1; omega) (fun n hn => num_abs (htg.ns.2.2 n hn)) (fun _ => rfl) (fun _ => rfl)) (by
        have := htg.ns.2.1
        rw [List.length_map, List.length_map]
        show 2 + _ ≤ _
        omega)
      exact h6
    · subst hσ
      have hlen : (rs.map V.ref).length = W.ts.length := by rw [List.length_map, hR.1]
      rw [hlen]
      exact s_ret (v := vS (worldW W)) (ev_is (ev_var rfl) (by rw [worldW_is])) fun H4 e4 => q H4 ((e1.trans e3).trans e4)
end
end Kz
set_option Elab.async false
set_option linter.all false
set_option maxRecDepth 100000
set_option maxHeartbeats 4000000
set_option exponentiation.threshold 500
namespace Kz
open PySem PySem.Spec PyProof.Rows L2 Evl Vr
local macro_rules | `(tactic| walk_at "sc") => `(tactic| first | (with_reducible assumption) | (with_reducible exact sc_mul (by omega)) | (with_reducible exact sc_mulr (by omega)) | (with_reducible exact sc_div (by omega) (by decide)) | (show (0 : Int) < _; omega) | (show _ ≠ (0 : Int); omega) | (with_reducible rfl) | decide)
local macro_rules | `(tactic| walk_at "sq") => `(tactic| first | assumption | exact sq_of (by assumption) | exact st_of (by assumption))
local macro_rules | `(tactic| walk_at "pl") => `(tactic| first | assumption | exact pl_int | exact pl_bl | exact pl_str | exact pl_non | exact pl_lst (by assumption) | exact pl_tup (by assumption) | exact pl_dK (by assumption))
local macro_rules | `(tactic| walk_at "rv") => `(tactic| first
  | with_reducible exact rv_I0
  | with_reducible exact ru_neg
  | ((with_reducible apply rv_I); walk_at "sc")
  | ((with_reducible apply rv_ixL); walk_at "sq"; first | rfl | assumption)
  | ((with_reducible apply rv_ixT); walk_at "sq"; first | rfl | assumption)
  | ((with_reducible apply rv_eq); rfl) | ((with_reducible apply rv_ne); rfl))
local macro_rules | `(tactic| walk_at "rc") => `(tactic| first
  | with_reducible exact rc_I1 | with_reducible exact rc_B1 | with_reducible exact rc_I2 | ((with_reducible apply rc_repr); walk_at "sc") | ((with_reducible apply rc_lenL); walk_at "sq")
  | ((with_reducible apply rc_isiInt); walk_at "pl") | ((with_reducible apply rc_isiBool); walk_at "pl"))
local macro_rules | `(tactic| walk_at "ea") => `(tactic| first
  | with_reducible exact ea_nil | ((with_reducible apply ea_cons); walk_at "ev"; walk_at "ea"))
local macro_rules | `(tactic| walk_at "pow") => `(tactic| first
  | with_reducible exact ev_pow (a := 10) (b := 9) (c := 1000000000) (by decide +kernel) (by decide +kernel)
  | with_reducible exact ev_pow (a := 10) (b := 10) (c := 10000000000) (by decide +kernel) (by decide +kernel)
  | with_reducible exact ev_pow (a := 10) (b := 12) (c := 1000000000000) (by decide +kernel) (by decide +kernel)
  | with_reducible exact ev_pow (a := 10) (b := 17) (c := 100000000000000000) (by decide +kernel) (by decide +kernel)
  | with_reducible exact ev_pow (a := 10) (b := 20) (c := 100000000000000000000) (by decide +kernel) (by decide +kernel)
  | with_reducible exact ev_pow (a := 10) (b := 29) (c := 100000000000000000000000000000) (by decide +kernel) (by decide +kernel)
  | with_reducible exact ev_pow (a := 10) (b := 30) (c := 1000000000000000000000000000000) (by decide +kernel) (by decide +kernel)
  | with_reducible exact ev_pow (a := 10) (b := 40) (c := 10000000000000000000000000000000000000000) (by decide +kernel) (by decide +kernel)
  | with_reducible exact ev_pow (a := 10) (b := 57) (c := 1000000000000000000000000000000000000000000000000000000000) (by decide +kernel) (by decide +kernel)
  | with_reducible exact ev_pow (a := 10) (b := 58) (c := 10000000000000000000000000000000000000000000000000000000000) (by decide +kernel) (by decide +kernel)
  | with_reducible exact ev_pow (a := 10) (b := 59) (c := 100000000000000000000000000000000000000000000000000000000000) (by decide +kernel) (by decide +kernel)
  | with_reducible exact ev_pow (a := 10) (b := 60) (c := 1000000000000000000000000000000000000000000000000000000000000) (by decide +kernel) (by decide +kernel))
local macro_rules | `(tactic| walk_at "call") => `(tactic| (intro H9 e9; first | exact ⟨_, rfl, rfl⟩ | exact ⟨_, _, rfl, rfl⟩ | exact ⟨_, _, _, rfl, rfl⟩ | exact ⟨_, rfl, by walk_at "pl", rfl⟩ | (refine ⟨_, _, _, rfl, ?_, rfl⟩; first | exact Plain.ex e9 (by assumption) | walk_at "pl") | (refine ⟨_, rfl, ?_, rfl⟩; first | exact Plain.ex e9 (by assumption) | walk_at "pl")))
local macro_rules | `(tactic| walk_at "ev") => `(tactic| first
  | with_reducible exact ev_c
  | exact ev_var rfl
  | walk_at "pow"
  | ((with_reducible apply ev_op); walk_at "ev"; walk_at "ev"; walk_at "rv")
  | ((with_reducible apply ev_un); walk_at "ev"; walk_at "rv")
  | ((with_reducible apply ev_cb); walk_at "ea"; walk_at "rc")
  | ((with_reducible apply ev_callP); walk_at "ea"; walk_at "call")
  | ((with_reducible apply ev_chain); walk_at "ev"; walk_at "ev"; walk_at "rv"; walk_at "ev"; walk_at "rv")
  | ((with_reducible apply ev_andV); walk_at "ev"; intro _; walk_at "ev")
  | ((with_reducible apply ev_orV); walk_at "ev"; intro _; walk_at "ev")
  | ((with_reducible apply ev_ite); walk_at "et"; intro _; walk_at "ev"; intro _; walk_at "ev")
  | ((with_reducible apply ev_notV); walk_at "ev"))
local macro_rules | `(tactic| walk_at "et") => `(tactic| first
  | ((with_reducible apply et_test); walk_at "ev")
  | ((with_reducible apply et_B); walk_at "ev")
  | ((with_reducible apply et_and); walk_at "et"; intro _; walk_at "et")
  | ((with_reducible apply et_or); walk_at "et"; intro _; walk_at "et")
  | ((with_reducible apply et_not); walk_at "et"))
open En Wo Tx NumText
section
variable {σ : L2.St} {H : Hp} {te ta tb tc : TE} {t : TT} {K : PySem.W.Frag} {tz : TS} {D : Ends} {p : Addr}
theorem ev_minV {ns : List Int} {m : Int} (ha : Ev ta σ H (.ref p)) (hp : SqL K H p (ns.map V.int)) (hm : m ∈ ns) (hl : ∀ y ∈ ns, m ≤ y) : Ev (tCB (rMin K) (tCons ta tNil)) σ H (.int m) := fun H1 e Q q =>
  ha H1 e _ fun H2 e2 => ⟨p, ns, rfl, ex_l (e.trans e2) hp, List.length_pos_of_mem hm, fun m' h1 h3 => by
    have e4 : m' = m := Int.le_antisymm (h3 m hm) (hl m' h1)
    rw [e4]
    exact q H2 e2⟩
theorem q_asgCall {sp : Sp} {E : XK} {ts : TA} {vs : List V} {i : Nat} (h : EvA ts σ H vs) (k : ∀ H1, Ex H H1 → sp vs H1 (fun v H2 => tz D (σ.set i (some v)) H2) E) : tSeq (tAsg (tCall sp [] E ts) (gName i)) tz D σ H := h H (Ex.refl H) _ fun H1 e1 => by
  show sp (vs ++ []) H1 _ E
  rw [List.append_nil]
  exact k H1 e1
theorem q_par3LLV {i j l : Nat} {v3 : V} {xs ys : List V} (h1 : EvL ta σ H xs) (h2 : ∀ H1, Ex H H1 → EvL tb σ H1 ys) (h3 : ∀ H1, Ex H H1 → Ev tc σ H1 v3) (k : ∀ a b H1, H a = none → H b = none → a ≠ b → Ex H H1 → H1 a = some (.lst xs) → H1 b = some (.lst ys) → tz D (((σ.set i (some (.ref a))).set j (some (.ref b))).set l (some v3)) H1) : tSeq (tPar3 i j l (tCons ta (tCons tb (tCons tc tNil)))) tz D σ H :=
  h1 H (Ex.refl H) _ fun a H1 ha e1 hx => h2 H1 e1 H1 (Ex.refl H1) _ fun b H2 hb e2 hy => h3 H2 (e1.trans e2) H2 (Ex.refl H2) _ fun H3 e3 => ⟨.ref a, .ref b, v3, rfl, k a b H3 ha (fresh_back e1 hb) (fun z => by rw [← z, hx] at hb; cases hb) ((e1.trans e2).trans e3) (e3 _ _ (e2 _ _ hx)) (e3 _ _ hy)⟩
theorem s_retIf {b : Bool} (h : EvT t σ H b) (h1 : b = true → ∀ H1, Ex H H1 → tRet ta D σ H1) (h2 : b = false → ∀ H1, Ex H H1 → tRet tb D σ H1) : tRet (tIf t ta tb) D σ H := h H (Ex.refl H) _ fun H1 e1 => by
  match b with
  | true =>
    rw [if_pos rfl]
    exact h1 rfl H1 e1
  | false =>
    rw [if_neg Bool.false_ne_true]
    exact h2 rfl H1 e1
end
theorem goL_app : ∀ (xs ys : List (List Nat)) (l : Int), goL (xs ++ ys) l = match goL xs l with
    | none => none
    | some (ts, m) => match goL ys m with
      | none => none
      | some (us, k) => some (ts ++ us, k)
  | [], ys, l => by
    show goL ys l = match goL ys l with
      | none => none
      | some (us, k) => some ([] ++ us, k)
    cases goL ys l <;> rfl
  | x :: xs, ys, l => by
    show (match thingL x l with
      | none => none
      | some g => match goL (xs ++ ys) (g.id + 1) with
        | none => none
        | some (gs, m) => some (g :: gs, m)) = match (match thingL x l with
      | none => none
      | some g => match goL xs (g.id + 1) with
        | none => none
        | some (gs, m) => some (g :: gs, m)) with
      | none => none
      | some (ts, m) => match goL ys m with
        | none => none
        | some (us, k) => some (ts ++ us, k)
    cases thingL x l with
    | none => rfl
    | some g =>
      dsimp only
      rw [goL_app xs ys (g.id + 1)]
      cases goL xs (g.id + 1) with
      | none => rfl
      | some r =>
        obtain ⟨ts, m⟩ := r
        dsimp only
        cases goL ys m <;> rfl
theorem goL_one (x : List Nat) (l : Int) : goL [x] l = match thingL x l with
    | none => none
    | some g => some ([g], g.id + 1) := by
  show (match thingL x l with
    | none => none
    | some g => match goL [] (g.id + 1) with
      | none => none
      | some (gs, m) => some (g :: gs, m)) = _
  cases thingL x l <;> rfl
theorem goL_step {ps : List (List Nat)} {i : Nat} {x : List Nat} {ts : List Tg} {m : Int} (hx : ps[i]? = some x) (h : goL (ps.take i) 0 = some (ts, m)) :
    (thingL x m = none → goL ps 0 = none) ∧ ∀ g, thingL x m = some g → goL (ps.take (i + 1)) 0 = some (ts ++ [g], g.id + 1) := by
  have h1 : goL (ps.take (i + 1)) 0 = match thingL x m with
      | none => none
      | some g => some (ts ++ [g], g.id + 1) := by
    rw [take_succ hx, goL_app, h]
    dsimp only
    rw [goL_one]
    cases thingL x m <;> rfl
  refine ⟨fun hn => ?_, fun g hg => by rw [h1, hg]⟩
  rw [hn] at h1
  conv => lhs; rw [← List.take_append_drop (i + 1) ps]
  rw [goL_app, h1]
theorem worldL_len {z h0 : List Nat} {ps : List (List Nat)} (hs : splitL 59 z = h0 :: ps) (h : (splitL 32 h0).length ≠ 3) : worldL z = none := by
  unfold worldL
  rw [hs]
  dsimp only
  match h2 : splitL 32 h0 with
  | [] => rfl
  | [a] => simp
  | [a, b] => simp
  | a :: b :: c :: d :: r => simp
  | [a, b, c] => rw [h2] at h; exact absurd rfl h
theorem worldL_none {z h0 a b c : List Nat} {ps : List (List Nat)} (hs : splitL 59 z = h0 :: ps) (h2 : splitL 32 h0 = [a, b, c]) (h : ([a, b, c].all fun w => (lawInt w).isSome) = false) : worldL z = none := by
  unfold worldL
  rw [hs]
  dsimp only
  rw [h2]
  simp only [List.map_cons, List.map_nil]
  cases h3 : lawInt a <;> cases h4 : lawInt b <;> cases h5 : lawInt c <;> simp [h3, h4, h5] at h ⊢
theorem worldL_some {z h0 a b c : List Nat} {ps : List (List Nat)} {i j k : Int} (hs : splitL 59 z = h0 :: ps) (h2 : splitL 32 h0 = [a, b, c]) (ha : lawInt a = some i) (hb : lawInt b = some j) (hc : lawInt c = some k) :
    worldL z = if i < 0 ∨ j < 0 ∨ k < 0 ∨ k > 999999936 ∨ 12 < ps.length then none else match goL ps 0 with
      | none => none
      | some (ts, m) => if m ≤ j then some ⟨i, j, k, ts⟩ else none := by
  unfold worldL
  rw [hs]
  dsimp only
  rw [h2]
  simp only [List.map_cons, List.map_nil, ha, hb, hc]
  all_goals rfl
section
variable {P : Program} {w : World} {K : PySem.W.Frag} {mg : Str → Option Value} {base : Heap}
def spLR (K : PySem.W.Frag) : Sp := fun vs H Q _ => ∃ z : List Nat, vs = [vS z] ∧ TextOk z ∧ (worldP z = none → ∀ H', Ex H H' → Q .non H') ∧ ∀ W, worldP z = some W → ∀ p H', H p = none → Ex H H' → PlAt K H' p W → Q (.ref p) H'
theorem ok_law_read (T : Txt K mg w) : FnOk P w K mg base CX0 3 T.a_law_read T.fd_law_read ["text"] (spLR K) := by
  have G_law_integer := ok_law_integer (P := P) (w := w) (base := base) T
  have G_law_read_thing := ok_law_read_thing (P := P) (w := w) (base := base) T
  refine T.F_law_read.ok sc_law_read (fun vs H Q E h => ?_) (fun cdv A outer s H vs Q E hr h => ?_)
  · obtain ⟨_, rfl, _⟩ := h; rfl
  · obtain ⟨z, rfl, ht, qn, qs⟩ := h
    refine ⟨_, (pss_cons (ps_par3 (i := 1) (j := 2) (l := 3) (by rfl) sc_law_read.nd rfl rfl rfl (by decide) (by decide) (by decide) rfl rfl rfl (pa_cons (pe_split (pv 0) pe_str) (pa_cons (pe_lst pa_nil) (pa_cons pe_int pa_nil))) (by rfl))
  (pss_cons (ps_setLc (i := 4) (own := [("word", 7)]) (g := gName 7) (by rfl) sc_law_read.nd rfl rfl (sw_true rfl rfl rfl (by decide +kernel)) (pi_list (pe_split (pe_ix ix_list (pv 1) pe_int (fun _ _ => rfl)) pe_str)) (blkOk_by (own := [("word", 7)]) (N := ["text", "parts", "things", "least", "head", "part", "thing", "word"]) (sc := defScope s_law_read) (by decide +kernel)) (fun _ _ _ _ _ => pg_name (i := 7) sc_law_read.nd rfl (Or.inl rfl)) (fun _ _ _ _ _ => pts_nil) (fun _ _ _ _ _ => (pe_call G_law_integer (hr.mono (by decide)) (by rfl) T.g_law_integer T.F_law_integer.kp T.b_law_integer .nil pass0 (pa_cons (pv 7) pa_nil))))
  (pss_cons (ps_if (PW.pt (pw_or (pt_cmpR op_ne (pe_callB c_len (by rfl) T.z_len PySem.boot_len (pa_cons (pv 4) pa_nil)) pe_int (nomark _)) (pw_or (pt_cmpR op_in_seq pe_non (pv 4) (by rfl)) (pw_or (pt_cmpR op_lt (pe_callB (cr_min rfl) (by rfl) T.z_min (by decide +kernel) (pa_cons (pv 4) pa_nil)) pe_int (nomark _)) (pw_or (pt_cmpR op_gt (pe_ix ix_list (pv 4) pe_int (fun _ _ => rfl)) pe_int (nomark _)) (pw_or1 (pt_cmpR op_gt (pe_callB c_len (by rfl) T.z_len PySem.boot_len (pa_cons (pv 1) pa_nil)) pe_int (nomark _)))))))) (pss_one (ps_ret pe_non)) pss_nil)
  (pss_cons (ps_for PassesOwn.never rfl (pi_list (pe_slice sl_list (pv 1) (po_some pe_int) po_none)) (pg_name (i := 5) sc_law_read.nd rfl (.inl rfl)) (pss_cons (ps_set (i := 6) sc_law_read.nd rfl (.inl rfl) (pe_call G_law_read_thing (hr.mono (by decide)) (by rfl) T.g_law_read_thing T.F_law_read_thing.kp T.b_law_read_thing .nil pass0 (pa_cons (pv 5) (pa_cons (pv 3) pa_nil))))
  (pss_cons (ps_if (pt_cmp (pc_isN (pv 6)) rfl) (pss_one (ps_ret pe_non)) pss_nil)
  (pss_cons (ps_expr (pe_bm PySem.F.plainAttrs_list PySem.F.slot_list_append PySem.F.type_list_append mt_append (pv 2) (pa_cons (pv 6) pa_nil)))
  (pss_one (ps_set (i := 3) sc_law_read.nd rfl (.inl rfl) (pe_op op_add (pe_ix ix_tup (pv 6) pe_int (fun _ _ => rfl)) pe_int)))))))
  (pss_one (ps_ret (pe_ifExp (pt_cmpR op_le (pv 3) (pe_ix ix_list (pv 4) pe_int (fun _ _ => rfl)) (nomark _)) (pe_tup (pa_cons (pe_ix ix_list (pv 4) pe_int (fun _ _ => rfl)) (pa_cons (pe_ix ix_list (pv 4) pe_int (fun _ _ => rfl)) (pa_cons (pe_ix ix_list (pv 4) pe_int (fun _ _ => rfl)) (pa_cons (pe_callTy c_tupL (by rfl) T.z_tuple (by decide +kernel) (pa_cons (pv 2) pa_nil)) pa_nil))))) pe_non))))))), ?_⟩
    have hzl := ht.len
    have hcnt := splitL_length 59 z
    have hpart : ∀ q ∈ splitL 59 z, q.length ≤ 4000 := fun q h => word_len hzl h
    have hlow : ∀ q ∈ splitL 59 z, Low q := fun q h => ht.low.infix (splitL_infix 59 z q h)
    have hwd := ht.wd
    obtain ⟨h0, ps, hs⟩ := splitL_ne 59 z
    rw [hs] at hcnt hpart hwd hlow
    rw [← worldL_eq hzl] at qn qs
    simp only [List.length_cons] at hcnt
    refine q_par3LLV (xs := (h0 :: ps).map vS) (ys := []) (v3 := .int 0) (by rw [← hs]; exact el_split (by decide) (ev_var rfl) (fun _ _ => ev_is ev_c s_semi) (by omega)) (fun _ _ => el_lst ea_nil (by decide)) (fun _ _ => ev_c) fun p l H1 hp hl hpl e1 h1 hL1 => ?_
    have hP := sq_of (K := K) h1
    have hh0 := hpart h0 (List.mem_cons_self ..)
    have hc0 := splitL_length 32 h0
    have lawE : ∀ {σ : L2.St} {H2 : Hp} {te : TE} {w : List Nat}, Ev te σ H2 (vS w) → w ∈ splitL 32 h0 → Ev (tCall (Pure fun vs _ z => ∃ w : List Nat, vs = [vS w] ∧ w.length ≤ 500 ∧ Low w ∧ z = lawV w) [] E0 (tCons te tNil)) σ H2 (lawV w) := fun {σ H2 te w} h hm => ev_callP (vs := [vS w]) (ea_cons h ea_nil) fun H3 _ => ⟨w, rfl, hwd h0 (List.mem_cons_self ..) w hm, (hlow h0 (List.mem_cons_self ..)).infix (splitL_infix 32 h0 w hm), rfl⟩
    refine q_asgL (xs := (splitL 32 h0).map lawV) (el_lcW lawV (el_split (by decide) (ev_word (i := 0) rfl hP rfl) (fun _ _ => ev_is ev_c s_blank) (by omega)) (by omega) (fun _ => rfl) fun w H2 e2 hm => lawE (ev_var rfl) hm) fun ph H2 hph e2 h2 => ?_
    have hPH := sq_of (K := K) h2
    have e12 := e1.trans e2
    have hphl : ph ≠ l := fun z => by rw [z, hL1] at hph; cases hph
    have t1 : EvT (tTest (tOp rNe (tCB (rLenS K) (tCons (tVar 4) tNil)) (tC (V.int 3)))) [some (vS z), some (.ref p), some (.ref l), some (.int 0), some (.ref ph), none, none, none] H2 (!decide (V.int (((splitL 32 h0).map lawV).length : Int) = V.int 3)) := et_test (ev_op (ev_cb (vs := [.ref ph]) (by walk_at "ea") (rc_lenL hPH)) ev_c (rv_ne rfl))
    by_cases hlen : (splitL 32 h0).length = 3
    · obtain ⟨a, b, c, hh⟩ : ∃ a b c, splitL 32 h0 = [a, b, c] := by
        match h3 : splitL 32 h0, hlen with
        | [a, b, c], _ => exact ⟨a, b, c, rfl⟩
      rw [hh] at hPH t1
      have t1f : (!decide (V.int (([a, b, c].map lawV).length : Int) = V.int 3)) = false := by simp
      have t2 : EvT (tTest (tOp (rIn K false) (tC .non) (tVar 4))) [some (vS z), some (.ref p), some (.ref l), some (.int 0), some (.ref ph), none, none, none] H2 (inV .non ([a, b, c].map lawV)) := et_test (ev_op ev_c (ev_var rfl) (rv_isL hPH rfl (flat_law [a, b, c])))
      cases hall : [a, b, c].all fun w => (lawInt w).isSome with
      | false =>
        refine q_when (b := true) (et_noF t1 t1f (et_yesF (b := true) t2 (by rw [none_in, hall]; rfl))) (fun _ H3 e3 => ?_) (fun h => by cases h)
        exact s_ret ev_c fun H4 e4 => qn (worldL_none hs hh hall) H4 ((e12.trans e3).trans e4)
      | true =>
        obtain ⟨i, j, k, ha, hb, hc⟩ : ∃ i j k, lawInt a = some i ∧ lawInt b = some j ∧ lawInt c = some k := by
          cases h3 : lawInt a <;> cases h4 : lawInt b <;> cases h5 : lawInt c <;> simp [h3, h4, h5] at hall ⊢
        have hWL := worldL_some hs hh ha hb hc
        have hI : SqL K H2 ph ([i, j, k].map V.int) := by
          have : [a, b, c].map lawV = [i, j, k].map V.int := by simp [lawV, ha, hb, hc]
          rw [← this]
          exact hPH
        refine q_when (b := decide (min i (min j k) < 0) || (decide (999999936 < k) || decide ((13 : Int) < (((h0 :: ps).map vS).length : Int)))) (et_noF t1 t1f (et_noF t2 (by rw [none_in, hall]; rfl) (et_or (et_test (ev_op (ev_minV (ev_var rfl) hI (m := min i (min j k)) (by simp only [List.mem_cons, List.not_mem_nil, or_false]; omega) (fun y hy => by simp only [List.mem_cons, List.not_mem_nil, or_false] at hy; omega)) ev_c rv_I0)) fun _ => et_or (et_test (ev_op (ev_op (ev_var rfl) ev_c (rv_ixL hI rfl)) ev_c rv_I0)) fun _ => et_test (ev_op (ev_cb (vs := [.ref p]) (by walk_at "ea") (rc_lenL (ex_l e2 hP))) ev_c rv_I0)))) (fun hbad H3 e3 => ?_) fun hgood H3 e3 => ?_
        · refine s_ret ev_c fun H4 e4 => qn ?_ H4 ((e12.trans e3).trans e4)
          rw [hWL, if_pos]
          simp only [Bool.or_eq_true, decide_eq_true_eq, List.length_map, List.length_cons] at hbad
          omega
        · simp only [Bool.or_eq_false_iff, decide_eq_false_iff_not, List.length_map, List.length_cons] at hgood
          rw [if_neg (by omega)] at hWL
          rw [hWL] at qn qs
          have e13 := e12.trans e3
          have hp3 : H3 p = some (.lst ((h0 :: ps).map vS)) := e3 _ _ (e2 _ _ h1)
          have hl3 : H3 l = some (.lst []) := e3 _ _ (e2 _ _ hL1)
          have hph3 := e3 _ _ h2
          have hI3 : H3 ph = some (.lst ([i, j, k].map V.int)) := by
            have : [a, b, c].map lawV = [i, j, k].map V.int := by simp [lawV, ha, hb, hc]
            rw [← this, ← hh]
            exact hph3
          let Pv : Addr → Nat → L2.St → Hp → Prop := fun pl n σ' H' => ∃ (rs : List Addr) (ts : List Tg) (m : Int) (x y : Option V), σ' = [some (vS z), some (.ref p), some (.ref l), some (.int m), some (.ref ph), x, y, none] ∧ goL (ps.take n) 0 = some (ts, m) ∧ Ex H H' ∧ Exd l H3 H' ∧ pl ≠ l ∧ H' pl = some (.lst (ps.map vS)) ∧ H' l = some (.lst (rs.map V.ref)) ∧ RsAt K H' rs ts
          refine q_forNLn (K := K) (xs := ps.map vS) (el_drop (k := 1) rfl (sq_of hp3)) Pv (fun pl H4 hpl4 e4 h4 => ⟨[], [], 0, none, none, rfl, rfl, e13.trans e4, Exd.of e4, (fun z => by rw [z, hl3] at hpl4; cases hpl4), h4, e4 _ _ hl3, rfl, fun i r t h => by cases h⟩) (fun pl n σ' H' _ ⟨_, _, _, _, _, _, _, _, _, _, h, _⟩ => sq_of h) (fun pl n x σ' H' hx ⟨rs, ts, m, x1, y1, hσ, hgo, eH, e3H, hne, hpl', hl', hR⟩ => ?_) fun pl σ' H' ⟨rs, ts, m, x1, y1, hσ, hgo, eH, e3H, hne, hpl', hl', hR⟩ => ?_
          · subst hσ
            rw [List.getElem?_map] at hx
            cases hq : ps[n]? with
            | none => rw [hq] at hx; cases hx
            | some pt =>
              rw [hq] at hx
              obtain rfl : x = vS pt := (Option.some.inj hx).symm
              have hm : pt ∈ h0 :: ps := List.mem_cons_of_mem _ (List.mem_of_getElem? hq)
              have hstep := goL_step hq hgo
              have hn12 := (List.getElem?_eq_some_iff.mp hq).1
              refine q_asgCall (vs := [vS pt, .int m]) (by walk_at "ea") fun H6 e6 => ⟨pt, m, rfl, ⟨by have := hpart pt hm; omega, hwd pt hm⟩, hlow pt hm, fun hn H7 e7 => ?_, fun g hg r H7 hr e7 hA => ?_⟩
              · refine q_when (b := true) (et_is (et_isNn (ev_var rfl)) rfl) (fun _ H8 e8 => ?_) (fun h => by cases h)
                refine s_ret ev_c fun H9 e9 => qn ?_ H9 ((((eH.trans e6).trans e7).trans e8).trans e9)
                rw [hstep.1 hn]
              · refine q_when (b := false) (et_is (et_isNn (x := .ref r) (ev_var rfl)) (by simp)) (fun h => by cases h) fun _ H8 e8 => ?_
                have e78 := (e6.trans e7).trans e8
                have hrl : rs.length ≤ ps.length := by
                  have h5 := hR.1
                  have h6 : ts.length = (ps.take n).length := by
                    have h7 := (goL_all (ps.take n) 0 ts m (fun q hq => hpart q (List.mem_cons_of_mem _ (List.mem_of_mem_take hq))) (by omega)).mp hgo
                    exact allP_len h7.1
                  rw [h5, h6, List.length_take]
                  omega
                refine q_app (v := .ref r) (e78 _ _ hl') (ev_var rfl) (ev_var rfl) (by rw [List.length_map]; omega) fun H9 e9 => ?_
                have hl9 := e9 _ _ (e78 _ _ hl')
                have xd : Exd l H9 (upd H9 l (.lst (rs.map V.ref ++ [.ref r]))) := Exd.upd
                have hA10 := (hA.ex (e8.trans e9)).tl xd hl9
                have hR10 := (hR.ex (e78.trans e9)).tl xd hl9
                refine s_asg (v := .int (g.id + 1)) (ev_op (ev_tg0 (ev_var rfl) hA10) ev_c rv_I0) fun H11 e11 => ⟨rs ++ [r], ts ++ [g], g.id + 1, _, _, rfl, hstep.2 g hg, (Ex.mut (eH.trans (e78.trans e9)) hl).trans e11, ((e3H.trans (Exd.of (e78.trans e9))).trans xd).trans (Exd.of e11), hne, e11 _ _ (xd _ _ hne ((e78.trans e9) _ _ hpl')), ?_, ?_⟩
                · rw [List.map_append]
                  exact e11 _ _ upd_same
                · exact (hR10.snoc hA10).ex e11
          · subst hσ
            have hl0 : (ps.map vS).length = ps.length := List.length_map ..
            rw [hl0, List.take_length] at hgo
            rw [hgo] at qn qs
            dsimp only at qn qs
            have hI4 : SqL K H' ph ([i, j, k].map V.int) := sq_of (e3H _ _ hphl hI3)
            refine s_retIf (b := decide (m ≤ j)) (et_test (ev_op (ev_var rfl) (ev_op (ev_var rfl) ev_c (rv_ixL hI4 rfl)) rv_I0)) (fun hb H5 e5 => ?_) fun hb H5 e5 => ?_
            · rw [if_pos (of_decide_eq_true hb)] at qs
              have hI5 := ex_l e5 hI4
              refine s_retTP (P := fun vs H' => ∃ q, vs = [.int i, .int j, .int k, .ref q] ∧ H' q = some (.tup (rs.map V.ref))) ((ap_cons (ev_op (ev_var rfl) ev_c (rv_ixL hI5 rfl)) (ap_cons (ev_op (ev_var rfl) ev_c (rv_ixL hI5 rfl)) (ap_cons (ev_op (ev_var rfl) ev_c (rv_ixL hI5 rfl)) (ap_consU (eu_tupV (ev_var rfl) (sq_of (e5 _ _ hl'))) ap_nil)))).mono fun vs H' ⟨_, a1, _, a2, _, a3, q, _, a4, a5, a6⟩ => ⟨q, by rw [a1, a2, a3, a4, a6], a5⟩) (fun vs H1 ⟨_, hv, _⟩ => by rw [hv]; show 4 ≤ 100000; decide) fun r vs H6 e6 ⟨q, hv, hq⟩ hr => ?_
              subst hv
              have e7 : Ex H6 (upd H6 r (.tup [.int i, .int j, .int k, .ref q])) := Ex.new hr
              have eH6 := (eH.trans e5).trans e6
              exact qs _ rfl r _ (fresh_back eH6 hr) (eH6.trans e7) ⟨q, st_of upd_same, rs, st_of (e7 _ _ hq), hR.ex ((e5.trans e6).trans e7)⟩
            · rw [if_neg (of_decide_eq_false hb)] at qn
              exact s_ret ev_c fun H6 e6 => qn rfl H6 ((eH.trans e5).trans e6)
    · refine q_when (b := true) (et_yesF (b := true) t1 ?_) (fun _ H3 e3 => ?_) (fun h => by cases h)
      · rw [Bool.not_eq_true', decide_eq_false_iff_not, List.length_map]
        intro z
        have := V.int.inj z
        omega
      · exact s_ret ev_c fun H4 e4 => qn (worldL_len hs hlen) H4 ((e12.trans e3).trans e4)
end
end Kz
set_option Elab.async false
set_option linter.all false
set_option maxRecDepth 100000
set_option maxHeartbeats 4000000
set_option exponentiation.threshold 500
namespace Kz
open PySem PySem.Spec PyProof.Rows L2 Evl Vr
local macro_rules | `(tactic| walk_at "sc") => `(tactic| first | (with_reducible assumption) | (with_reducible exact sc_mul (by omega)) | (with_reducible exact sc_mulr (by omega)) | (with_reducible exact sc_div (by omega) (by decide)) | (show (0 : Int) < _; omega) | (show _ ≠ (0 : Int); omega) | (with_reducible rfl) | decide)
local macro_rules | `(tactic| walk_at "sq") => `(tactic| first | assumption | exact sq_of (by assumption) | exact st_of (by assumption))
local macro_rules | `(tactic| walk_at "pl") => `(tactic| first | assumption | exact pl_int | exact pl_bl | exact pl_str | exact pl_non | exact pl_lst (by assumption) | exact pl_tup (by assumption) | exact pl_dK (by assumption))
local macro_rules | `(tactic| walk_at "rv") => `(tactic| first
  | with_reducible exact rv_I0
  | with_reducible exact ru_neg
  | ((with_reducible apply rv_I); walk_at "sc")
  | ((with_reducible apply rv_ixL); walk_at "sq"; first | rfl | assumption)
  | ((with_reducible apply rv_ixT); walk_at "sq"; first | rfl | assumption)
  | ((with_reducible apply rv_eq); rfl) | ((with_reducible apply rv_ne); rfl))
local macro_rules | `(tactic| walk_at "rc") => `(tactic| first
  | with_reducible exact rc_I1 | with_reducible exact rc_B1 | with_reducible exact rc_I2 | ((with_reducible apply rc_repr); walk_at "sc") | ((with_reducible apply rc_lenL); walk_at "sq")
  | ((with_reducible apply rc_isiInt); walk_at "pl") | ((with_reducible apply rc_isiBool); walk_at "pl"))
local macro_rules | `(tactic| walk_at "ea") => `(tactic| first
  | with_reducible exact ea_nil | ((with_reducible apply ea_cons); walk_at "ev"; walk_at "ea"))
local macro_rules | `(tactic| walk_at "pow") => `(tactic| first
  | with_reducible exact ev_pow (a := 10) (b := 9) (c := 1000000000) (by decide +kernel) (by decide +kernel)
  | with_reducible exact ev_pow (a := 10) (b := 10) (c := 10000000000) (by decide +kernel) (by decide +kernel)
  | with_reducible exact ev_pow (a := 10) (b := 12) (c := 1000000000000) (by decide +kernel) (by decide +kernel)
  | with_reducible exact ev_pow (a := 10) (b := 17) (c := 100000000000000000) (by decide +kernel) (by decide +kernel)
  | with_reducible exact ev_pow (a := 10) (b := 20) (c := 100000000000000000000) (by decide +kernel) (by decide +kernel)
  | with_reducible exact ev_pow (a := 10) (b := 29) (c := 100000000000000000000000000000) (by decide +kernel) (by decide +kernel)
  | with_reducible exact ev_pow (a := 10) (b := 30) (c := 1000000000000000000000000000000) (by decide +kernel) (by decide +kernel)
  | with_reducible exact ev_pow (a := 10) (b := 40) (c := 10000000000000000000000000000000000000000) (by decide +kernel) (by decide +kernel)
  | with_reducible exact ev_pow (a := 10) (b := 57) (c := 1000000000000000000000000000000000000000000000000000000000) (by decide +kernel) (by decide +kernel)
  | with_reducible exact ev_pow (a := 10) (b := 58) (c := 10000000000000000000000000000000000000000000000000000000000) (by decide +kernel) (by decide +kernel)
  | with_reducible exact ev_pow (a := 10) (b := 59) (c := 100000000000000000000000000000000000000000000000000000000000) (by decide +kernel) (by decide +kernel)
  | with_reducible exact ev_pow (a := 10) (b := 60) (c := 1000000000000000000000000000000000000000000000000000000000000) (by decide +kernel) (by decide +kernel))
local macro_rules | `(tactic| walk_at "call") => `(tactic| (intro H9 e9; first | exact ⟨_, rfl, rfl⟩ | exact ⟨_, _, rfl, rfl⟩ | exact ⟨_, _, _, rfl, rfl⟩ | exact ⟨_, rfl, by walk_at "pl", rfl⟩ | (refine ⟨_, _, _, rfl, ?_, rfl⟩; first | exact Plain.ex e9 (by assumption) | walk_at "pl") | (refine ⟨_, rfl, ?_, rfl⟩; first | exact Plain.ex e9 (by assumption) | walk_at "pl")))
local macro_rules | `(tactic| walk_at "ev") => `(tactic| first
  | with_reducible exact ev_c
  | exact ev_var rfl
  | walk_at "pow"
  | ((with_reducible apply ev_op); walk_at "ev"; walk_at "ev"; walk_at "rv")
  | ((with_reducible apply ev_un); walk_at "ev"; walk_at "rv")
  | ((with_reducible apply ev_cb); walk_at "ea"; walk_at "rc")
  | ((with_reducible apply ev_callP); walk_at "ea"; walk_at "call")
  | ((with_reducible apply ev_chain); walk_at "ev"; walk_at "ev"; walk_at "rv"; walk_at "ev"; walk_at "rv")
  | ((with_reducible apply ev_andV); walk_at "ev"; intro _; walk_at "ev")
  | ((with_reducible apply ev_orV); walk_at "ev"; intro _; walk_at "ev")
  | ((with_reducible apply ev_ite); walk_at "et"; intro _; walk_at "ev"; intro _; walk_at "ev")
  | ((with_reducible apply ev_notV); walk_at "ev"))
local macro_rules | `(tactic| walk_at "et") => `(tactic| first
  | ((with_reducible apply et_test); walk_at "ev")
  | ((with_reducible apply et_B); walk_at "ev")
  | ((with_reducible apply et_and); walk_at "et"; intro _; walk_at "et")
  | ((with_reducible apply et_or); walk_at "et"; intro _; walk_at "et")
  | ((with_reducible apply et_not); walk_at "et"))
open En Wo Tx NumText
def NumV (v : V) : Prop := ∃ n : Int, v = .int n ∧ num n
def kOne (R' : V → Prop) (vs : List V) (_ : Hp) (p : Addr) (R : V → Prop) : Prop := vs = [.ref p] ∧ R = R'
def kOneT (R' : List V → Prop) (vs : List V) (_ : Hp) (p : Addr) (R : List V → Prop) : Prop := vs = [.ref p] ∧ R = R'
def kNear (vs : List V) (_ : Hp) (p : Addr) (R : V → Prop) : Prop := ∃ m : Int, vs = [.ref p, .int m] ∧ 0 ≤ m ∧ m ≤ 1000000000 ∧ R = fun v => ∃ n : Int, v = .int n ∧ -m ≤ n ∧ n ≤ m
theorem dv_roll {p : Addr} {σ : L2.St} {H : Hp} {ta : TE} {m : Int} {i : Nat} (hs : σ[i]? = some (some (.ref p))) (ha : ∀ H1, Ev ta σ H1 (.int m)) (h0 : 0 < m) (h1 : m.natAbs < 2 ^ 400) : Dv p (tCall (Draws kRoll) [] E0 (tCons (tVar i) (tCons ta tNil))) σ H (fun v => ∃ r : Int, v = .int r ∧ 0 ≤ r ∧ r < m) :=
  dv_call (vs := [.ref p, .int m]) (fun H1 _ _ => ea_cons (ev_var hs) (ea_cons (ha H1) ea_nil)) (fun H1 _ _ => ⟨m, rfl, h0, h1, rfl⟩)
section
variable {σ : L2.St} {H : Hp} {te tn : TE} {ts : TA} {tz : TS} {D : Ends} {K : PySem.W.Frag} {p : Addr}
theorem dl_lcD {j : Nat} {vs : List Nat} {R : V → Prop} {RN : Nat → Prop} {Q : VK} (hw : ∀ x, wipe ((wipe σ vs).set j (some x)) vs = wipe σ vs) (hN : ∀ n, RN n → n ≤ 1000) (hn : Dv p tn σ H (fun v => ∃ n : Nat, v = .int n ∧ RN n)) (he : ∀ i : Nat, Dv p te ((wipe σ vs).set j (some (.int (0 + (i : Int))))) H R) (hd : Dice p H)
    (k : ∀ n l xs H2, RN n → (xs.length = n ∧ ∀ v ∈ xs, R v) → l ≠ p → Exd p H H2 → Dice p H2 → H2 l = some (.lst xs) → Q (.ref l) H2) : tLc (iRng1 (tCons tn tNil)) (gName j) tYes te vs σ H Q :=
  hn H (Exd.refl p H) hd _ fun v H1 hv e1 d1 => by
    obtain ⟨n, rfl, rn⟩ := hv
    exact dl_lcR (σ := σ) (H := H1) (n := n) (R := R) (Q := Q) hw (hN n rn) (fun i _ H2 e2 => he i H2 (e1.trans e2)) d1 fun l xs H2 hx hl e2 d2 h2 => k n l xs H2 rn hx hl (e1.trans e2) d2 h2
theorem s_retLcD {j : Nat} {vs : List Nat} {R : V → Prop} {RN : Nat → Prop} (hw : ∀ x, wipe ((wipe σ vs).set j (some x)) vs = wipe σ vs) (hN : ∀ n, RN n → n ≤ 1000) (hn : Dv p tn σ H (fun v => ∃ n : Nat, v = .int n ∧ RN n)) (he : ∀ i : Nat, Dv p te ((wipe σ vs).set j (some (.int (0 + (i : Int))))) H R) (hd : Dice p H)
    (k : ∀ n b xs H2, RN n → (xs.length = n ∧ ∀ v ∈ xs, R v) → b ≠ p → Exd p H H2 → Dice p H2 → H2 b = some (.tup xs) → D.rt (.ref b) H2) : tRet (tCB (rTupL K) (tCons (tLc (iRng1 (tCons tn tNil)) (gName j) tYes te vs) tNil)) D σ H :=
  dl_lcD (Q := fun x H2 => rTupL K [x] H2 D.rt) hw hN hn he hd fun n l xs H2 rn hx hl e2 d2 h2 => ⟨l, xs, rfl, sq_of h2, fun b hb => k n b xs _ rn hx (d2.ne hb) (e2.trans (Exd.of (Ex.new hb))) (d2.ex (Ex.new hb)) upd_same⟩
/-- a list laid of drawn values, one of which is picked -/
theorem dv_pickA {ok : List V → Hp → Addr → (V → Prop) → Prop} {E : XK} {R : V → Prop} {RA : List V → Prop} {i : Nat} (hs : σ[i]? = some (some (.ref p))) (h : DvA p ts σ H RA) (hz : ∀ xs, RA xs → xs.length ≤ 100000) (ho : ∀ l xs H1, RA xs → Exd p H H1 → Dice p H1 → l ≠ p → H1 l = some (.lst xs) → ∃ R' : V → Prop, ok [.ref p, .ref l] H1 p R' ∧ ∀ v, R' v → R v) :
    Dv p (tCall (Draws ok) [] E (tCons (tVar i) (tCons (tLst ts) tNil))) σ H R := fun H1 e d Q q =>
  ⟨.ref p, hs, h H1 e d _ fun xs H2 hx e2 d2 => ⟨sz_of (hz xs hx), fun l hl => by
    have d3 := d2.ex (Ex.new (o := .lst xs) hl)
    have e3 : Exd p H2 (upd H2 l (.lst xs)) := Exd.of (Ex.new hl)
    obtain ⟨R', h1, h2⟩ := ho l xs _ hx ((e.trans e2).trans e3) d3 (d2.ne hl) upd_same
    exact ⟨p, R', h1, d3, fun v H4 hv e4 d4 => q v H4 (h2 v hv) ((e2.trans e3).trans e4) d4⟩⟩⟩
end
def NumsR (xs : List V) : Prop := ∃ ns : List Int, xs = ns.map V.int ∧ 1 ≤ ns.length ∧ ns.length ≤ 8 ∧ ∀ n ∈ ns, num n
theorem nums_of : ∀ {xs : List V}, (∀ v ∈ xs, NumV v) → ∃ ns : List Int, xs = ns.map V.int ∧ ∀ n ∈ ns, num n
  | [], _ => ⟨[], rfl, fun _ h => by cases h⟩
  | x :: xs, h => by
    obtain ⟨n, rfl, hn⟩ := h x (by simp)
    obtain ⟨ns, rfl, hs⟩ := nums_of fun v hv => h v (List.mem_cons_of_mem _ hv)
    refine ⟨n :: ns, rfl, fun m hm => ?_⟩
    rcases List.mem_cons.mp hm with rfl | z
    · exact hn
    · exact hs m z
def kinds : List Str := ["hero", "a", "zzzzzzzz", "ab"]
def KindV (v : V) : Prop := ∃ z : Str, v = .str z ∧ z ∈ kinds
section
variable {σ : L2.St} {H : Hp} {te tn : TE} {ts tr ta : TA} {tz tu : TS} {D : Ends} {K : PySem.W.Frag} {p : Addr}
/-- drawn values, of which something is known in the heap behind them -/
def DvAP (p : Addr) (ta : TA) (σ : L2.St) (H : Hp) (P : List V → Hp → Prop) : Prop := ∀ H1, Exd p H H1 → Dice p H1 → ∀ Q : List V → Hp → Prop, (∀ vs H2, P vs H2 → Exd p H1 H2 → Dice p H2 → Q vs H2) → ta σ H1 Q
theorem DvAP.mono {P P' : List V → Hp → Prop} (h : DvAP p ta σ H P) (k : ∀ vs H1, P vs H1 → P' vs H1) : DvAP p ta σ H P' := fun H1 e d Q q => h H1 e d Q fun vs H2 hp e2 d2 => q vs H2 (k vs H2 hp) e2 d2
theorem dv_call2 {ok : List V → Hp → Addr → (V → Prop) → Prop} {E : XK} {R R1 : V → Prop} {i : Nat} (hs : σ[i]? = some (some (.ref p))) (h : Dv p te σ H R1) (ho : ∀ v H1, R1 v → ∃ R' : V → Prop, ok [.ref p, v] H1 p R' ∧ ∀ u, R' u → R u) : Dv p (tCall (Draws ok) [] E (tCons (tVar i) (tCons te tNil))) σ H R := fun H1 e d Q q =>
  ⟨.ref p, hs, h H1 e d _ fun v H2 r e2 d2 => by
    obtain ⟨R', h1, h2⟩ := ho v H2 r
    exact ⟨p, R', h1, d2, fun u H3 hu e3 d3 => q u H3 (h2 u hu) (e2.trans e3) d3⟩⟩
theorem dap_nil : DvAP p tNil σ H (fun vs _ => vs = []) := fun H1 e d Q q => q [] H1 rfl (Exd.refl p H1) d
theorem dap_cons {R : V → Prop} {P : List V → Hp → Prop} (h : Dv p te σ H R) (hr : DvAP p tr σ H P) : DvAP p (tCons te tr) σ H (fun vs H' => ∃ v ws, vs = v :: ws ∧ R v ∧ P ws H') := fun H1 e d Q q =>
  h H1 e d _ fun v H2 r e2 d2 => hr H2 (e.trans e2) d2 _ fun ws H3 rs e3 d3 => q (v :: ws) H3 ⟨v, ws, rfl, r, rs⟩ (e2.trans e3) d3
theorem dap_consN {R : List V → Prop} {P : List V → Hp → Prop} (h : DvN p te σ H R) (hr : DvAP p tr σ H P) : DvAP p (tCons te tr) σ H (fun vs H' => ∃ b xs ws, vs = .ref b :: ws ∧ R xs ∧ b ≠ p ∧ H' b = some (.tup xs) ∧ P ws H') := fun H1 e d Q q =>
  h H1 e d _ fun b xs H2 r hb e2 d2 h2 => hr H2 (e.trans e2) d2 _ fun ws H3 rs e3 d3 => q (.ref b :: ws) H3 ⟨b, xs, ws, rfl, r, hb, e3 _ _ hb h2, rs⟩ (e2.trans e3) d3
theorem q_appD {l : Addr} {xs : List V} {P : List V → Hp → Prop} {j : Nat} (hl : H l = some (.lst xs)) (hlp : l ≠ p) (hs : σ[j]? = some (some (.ref l))) (h : DvAP p ts σ H P) (hz : xs.length < 100000) (hn : ∀ vs H1, P vs H1 → vs.length ≤ 100000) (hd : Dice p H)
    (k : ∀ t vs H2, P vs H2 → Exd p H H2 → Dice p H2 → H2 t = none → tz D σ (upd (upd H2 t (.tup vs)) l (.lst (xs ++ [.ref t])))) : tSeq (tDrop (tBM K "list" rAppend (tVar j) (tCons (tTup ts) tNil))) tz D σ H :=
  ⟨.ref l, hs, .inl ⟨rfl, xs, sq_of hl⟩, h H (Exd.refl p H) hd _ fun vs H2 hp e2 d2 => ⟨sz_of (hn vs H2 hp), fun t ht => ⟨l, xs, .ref t, rfl, rfl, Ex.new ht _ _ (e2 _ _ hlp hl), sz_lt (by omega), k t vs H2 hp e2 d2 ht⟩⟩⟩
theorem q_parLc {i j : Nat} {ta tb : TE} {v2 : V} {xs : List V} (h1 : EvL ta σ H xs) (h2 : ∀ {H1}, Ev tb σ H1 v2) (k : ∀ l H1, H l = none → Ex H H1 → H1 l = some (.lst xs) → tz D ((σ.set i (some (.ref l))).set j (some v2)) H1) : tSeq (tPar i j (tCons ta (tCons tb tNil))) tz D σ H :=
  h1 H (Ex.refl H) _ fun l H1 hl e1 hx => h2 H1 (Ex.refl H1) _ fun H2 e2 => ⟨.ref l, v2, rfl, k l H2 hl (e1.trans e2) (e2 _ _ hx)⟩
theorem q_forD {j : Nat} {RN : Nat → Prop} (hn : Dv p tn σ H (fun v => ∃ n : Nat, v = .int n ∧ RN n)) (hN : ∀ n, RN n → n ≤ 1000) (hd : Dice p H) (Pv : Nat → L2.St → Hp → Prop) (h0 : ∀ H1, Exd p H H1 → Dice p H1 → Pv 0 σ H1)
    (hs : ∀ (i : Nat) σ' H' (n : Nat), RN n → i < n → Pv i σ' H' → tu { D with nx := Pv (i + 1), ct := Pv (i + 1), bk := tz D } (σ'.set j (some (.int (i : Int)))) H') (hq : ∀ n σ' H', RN n → Pv n σ' H' → tz D σ' H') : tSeq (tFor (iRng1 (tCons tn tNil)) (gName j) tu) tz D σ H :=
  hn H (Exd.refl p H) hd _ fun v H1 hv e1 d1 => by
    obtain ⟨n, rfl, rn⟩ := hv
    have := hN n rn
    exact q_forR1 (σ := σ) (H := H1) (n := (n : Int)) (ta := tCons (tC (.int n)) tNil) (ea_cons ev_c ea_nil) (by omega) Pv (fun H2 e2 => h0 H2 (e1.trans (Exd.of e2)) (d1.ex e2)) (fun i σ' H' hi p => hs i σ' H' n rn (by omega) p) fun σ' H' p => hq n σ' H' rn p
theorem dap_consU {P : List V → Hp → Prop} {xs : List V} (h : ∀ H1, Exd p H H1 → Dice p H1 → EvU te σ H1 xs) (hr : DvAP p tr σ H P) : DvAP p (tCons te tr) σ H (fun vs H' => ∃ b ws, vs = .ref b :: ws ∧ b ≠ p ∧ H' b = some (.tup xs) ∧ P ws H') := fun H1 e d Q q =>
  h H1 e d H1 (Ex.refl H1) _ fun b H2 hb e2 h2 => hr H2 (e.trans (Exd.of e2)) (d.ex e2) _ fun ws H3 rs e3 d3 => q (.ref b :: ws) H3 ⟨b, ws, rfl, d.ne hb, e3 _ _ (d.ne hb) h2, rs⟩ ((Exd.of e2).trans e3) d3
theorem s_retTD {P : List V → Hp → Prop} (h : DvAP p ts σ H P) (hn : ∀ vs H1, P vs H1 → vs.length ≤ 100000) (hd : Dice p H) (k : ∀ a vs H2, P vs H2 → Exd p H H2 → Dice p H2 → H2 a = none → D.rt (.ref a) (upd H2 a (.tup vs))) : tRet (tTup ts) D σ H :=
  h H (Exd.refl p H) hd _ fun vs H2 hp e2 d2 => ⟨sz_of (hn vs H2 hp), fun a ha => k a vs H2 hp e2 d2 ha⟩
end
theorem asc_le {ts : List Tg} {n m : Int} (h : Asc ts n) (hm : n ≤ m) : Asc ts m := by
  unfold Asc at *
  rw [List.pairwise_append] at h ⊢
  exact ⟨h.1, List.pairwise_singleton .., fun a ha b hb => by
    rw [List.mem_singleton.mp hb]
    have := h.2.2 a ha n (by simp)
    omega⟩
theorem asc_add {ts : List Tg} {n : Int} (h : Asc ts n) (kd : Str) (ns : List Int) : Asc (ts ++ [⟨n, kd, ns⟩]) (n + 1) := by
  unfold Asc Tg.ids at *
  rw [List.map_append]
  rw [List.pairwise_append] at h ⊢
  obtain ⟨h1, h2, h3⟩ := h
  refine ⟨List.pairwise_append.mpr ⟨h1, List.pairwise_singleton .., fun a ha b hb => h3 a ha b hb⟩, List.pairwise_singleton .., fun a ha b hb => ?_⟩
  rw [List.mem_singleton.mp hb]
  rcases List.mem_append.mp ha with z | z
  · have := h3 a z n (List.mem_singleton.mpr rfl)
    omega
  · have e : a = n := by simpa using z
    omega
section
variable {σ : L2.St} {H : Hp} {te tn : TE} {tz : TS} {D : Ends} {K : PySem.W.Frag} {p : Addr}
theorem q_asgLcD {i j : Nat} {vs : List Nat} {R : V → Prop} {RN : Nat → Prop} (hw : ∀ x, wipe ((wipe σ vs).set j (some x)) vs = wipe σ vs) (hN : ∀ n, RN n → n ≤ 1000) (hn : Dv p tn σ H (fun v => ∃ n : Nat, v = .int n ∧ RN n)) (he : ∀ i : Nat, Dv p te ((wipe σ vs).set j (some (.int (0 + (i : Int))))) H R) (hd : Dice p H)
    (k : ∀ n l xs H2, RN n → (xs.length = n ∧ ∀ v ∈ xs, R v) → l ≠ p → Exd p H H2 → Dice p H2 → H2 l = some (.lst xs) → tz D (σ.set i (some (.ref l))) H2) : tSeq (tAsg (tLc (iRng1 (tCons tn tNil)) (gName j) tYes te vs) (gName i)) tz D σ H :=
  dl_lcD (Q := fun v H2 => tz D (σ.set i (some v)) H2) hw hN hn he hd k
end
/-- a thing of these worlds -/
def Tg.gd (t : Tg) : Prop := 0 ≤ t.id ∧ t.kd ∈ kinds ∧ 1 ≤ t.ns.length ∧ t.ns.length ≤ 8 ∧ ∀ n ∈ t.ns, num n
/-- a world that is drawn -/
structure Wd.gd (W : Wd) : Prop where
  ok : W.ok
  w : WdW W
  kds : KdsOk W.ts
theorem kind_ok {z : Str} (h : z ∈ kinds) : nameOk z ∧ PyData.strOk z = true ∧ nameL z := by
  simp only [kinds, List.mem_cons, List.not_mem_nil, or_false] at h
  rcases h with rfl | rfl | rfl | rfl <;> exact ⟨⟨by decide +kernel, by decide +kernel, by decide +kernel, by decide +kernel, by decide +kernel⟩, by decide +kernel, by unfold nameL; decide +kernel⟩
theorem gd_of {W : Wd} (t0 : 0 ≤ W.t) (t1 : W.t ≤ 100000000000000000000000000000000000000000000000000000000001) (n0 : 0 ≤ W.n) (n1 : W.n ≤ 12000000000000000000000000000003) (l0 : 0 ≤ W.l) (l1 : W.l < 999999937) (len : W.ts.length ≤ 12) (tg : ∀ t ∈ W.ts, t.gd) (asc : Asc W.ts W.n) : W.gd := by
  have idlt : ∀ t ∈ W.ts, t.id < W.n := fun t ht => by
    have h := asc
    unfold Asc at h
    exact (List.pairwise_append.mp h).2.2 t.id (List.mem_map_of_mem ht) W.n (by simp)
  have e62 : (10 : Nat) ^ 62 = 100000000000000000000000000000000000000000000000000000000000000 := by decide +kernel
  refine ⟨⟨⟨t0, by omega⟩, ⟨n0, by omega⟩, ⟨l0, l1⟩, ⟨len, fun t ht => ?_⟩, asc⟩, ⟨t0, by omega, n0, by omega, l0, l1, len, fun t ht => ?_, asc⟩, fun t ht => (kind_ok (tg t ht).2.1).2.1⟩
  · obtain ⟨h1, h2, h3, h4, h5⟩ := tg t ht
    have := idlt t ht
    exact ⟨⟨h1, by omega⟩, (kind_ok h2).1, h3, h4, h5⟩
  · obtain ⟨h1, h2, h3, h4, h5⟩ := tg t ht
    have := idlt t ht
    exact ⟨h1, by omega, (kind_ok h2).2.2, h3, h4, h5⟩
def TickV (v : V) : Prop := ∃ t : Int, v = .int t ∧ 0 ≤ t ∧ t ≤ 100000000000000000000000000000000000000000000000000000000001
def LuckV (v : V) : Prop := ∃ t : Int, v = .int t ∧ 0 ≤ t ∧ t < 999999937
/-- a plain world that is drawn -/
def DrawsW (K : PySem.W.Frag) : Sp := fun vs H Q _ => ∃ p, vs = [.ref p] ∧ Dice p H ∧ ∀ a W H', W.gd → PlAt K H' a W → a ≠ p → Exd p H H' → Dice p H' → Q (.ref a) H'
section
variable {P : Program} {w : World} {K : PySem.W.Frag} {mg : Str → Option Value} {base : Heap}
theorem ok_near (T : Txt K mg w) : FnOk P w K mg base CX0 3 T.a_law_near T.fd_law_near ["dice", "most"] (Draws kNear) := by
  have G_law_roll := ok_roll (P := P) (w := w) (base := base) T
  refine T.F_law_near.ok sc_law_near (fun vs H Q E h => ?_) (fun cdv A outer s H vs Q E hr h => ?_)
  · obtain ⟨p, _, ⟨_, rfl, _⟩, _⟩ := h; rfl
  · obtain ⟨p, _, ⟨m, rfl, m0, m1, rfl⟩, hd, q⟩ := h
    refine ⟨_, (pss_one (ps_ret (pe_op op_sub (pe_call G_law_roll (hr.mono (by decide)) (by rfl) T.g_law_roll T.F_law_roll.kp T.b_law_roll .nil pass0 (pa_cons (pv 0) (pa_cons (pe_op op_add (pe_op op_mul pe_int (pv 1)) pe_int) pa_nil))) (pv 1)))), ?_⟩
    have m2 : CMul (2 : Int) m := .inl (by decide)
    refine s_retDv (p := p) (R := fun v => ∃ n : Int, v = .int n ∧ -m ≤ n ∧ n ≤ m) (dv_op (R1 := fun v => ∃ r : Int, v = .int r ∧ 0 ≤ r ∧ r < 2 * m + 1) (R2' := fun v => v = .int m) (dv_roll (m := 2 * m + 1) rfl (fun H1 => by walk_at "ev") (by omega) (by omega)) (dv_var rfl rfl) ?_) hd fun v H3 hv e3 d3 => q v H3 hv e3 d3
    rintro x y H4 ⟨r, rfl, h0, h1⟩ rfl
    exact ⟨_, rv_I0, _, rfl, by omega, by omega⟩
theorem ok_world_drawn (T : Txt K mg w) : FnOk P w K mg base CX0 6 T.a_law_world_drawn T.fd_law_world_drawn ["dice"] (DrawsW K) := by
  have G_law_roll := ok_roll (P := P) (w := w) (base := base) T
  have G_law_pick := ok_pick (P := P) (w := w) (base := base) T
  have G_law_near := ok_near (P := P) (w := w) (base := base) T
  refine T.F_law_world_drawn.ok sc_law_world_drawn (fun vs H Q E h => ?_) (fun cdv A outer s H vs Q E hr h => ?_)
  · obtain ⟨p, rfl, _⟩ := h; rfl
  · obtain ⟨p, rfl, hd, q⟩ := h
    refine ⟨_, (pss_cons (ps_par (i := 1) (j := 2) (by rfl) sc_law_world_drawn.nd rfl rfl (by decide) rfl rfl (pa_cons (pe_lst pa_nil) (pa_cons pe_int pa_nil)) (by rfl))
  (pss_cons (ps_for PassesOwn.never rfl (pi_range1 rfl T.z_range (pa_cons (pe_call G_law_pick (hr.mono (by decide)) (by rfl) T.g_law_pick T.F_law_pick.kp T.b_law_pick .nil pass0 (pa_cons (pv 0) (pa_cons (pe_lst (pa_cons pe_int (pa_cons pe_int (pa_cons pe_int (pa_cons pe_int (pa_cons pe_int pa_nil)))))) pa_nil))) pa_nil)) (pg_name (i := 3) sc_law_world_drawn.nd rfl (.inl rfl)) (pss_cons (ps_set (i := 4) sc_law_world_drawn.nd rfl (.inl rfl) (pe_op op_add (pv 2) (pe_call G_law_roll (hr.mono (by decide)) (by rfl) T.g_law_roll T.F_law_roll.kp T.b_law_roll .nil pass0 (pa_cons (pv 0) (pa_cons (pe_call G_law_pick (hr.mono (by decide)) (by rfl) T.g_law_pick T.F_law_pick.kp T.b_law_pick .nil pass0 (pa_cons (pv 0) (pa_cons (pe_lst (pa_cons pe_int (pa_cons pe_int (pa_cons pe_int (pa_cons (pe_op op_pow pe_int pe_int) pa_nil))))) pa_nil))) pa_nil)))))
  (pss_cons (ps_setLc (i := 5) (own := [("spot", 7)]) (g := gName 7) (by rfl) sc_law_world_drawn.nd rfl rfl (sw_true rfl rfl rfl (by decide +kernel)) (pi_range1 rfl T.z_range (pa_cons (pe_op op_add pe_int (pe_call G_law_roll (hr.mono (by decide)) (by rfl) T.g_law_roll T.F_law_roll.kp T.b_law_roll .nil pass0 (pa_cons (pv 0) (pa_cons pe_int pa_nil)))) pa_nil)) (blkOk_by (own := [("spot", 7)]) (N := ["dice", "things", "ahead", "turn", "here", "numbers", "tick", "spot"]) (sc := defScope s_law_world_drawn) (by decide +kernel)) (fun _ _ _ _ _ => pg_name (i := 7) sc_law_world_drawn.nd rfl (Or.inl rfl)) (fun _ _ _ _ _ => pts_nil) (fun _ _ _ _ _ => (pe_call G_law_pick (hr.mono (by decide)) (by rfl) T.g_law_pick T.F_law_pick.kp T.b_law_pick .nil pass0 (pa_cons (pv 0) (pa_cons (pe_lst (pa_cons pe_int (pa_cons pe_int (pa_cons (pe_un un_neg pe_int) (pa_cons (pe_op op_pow pe_int pe_int) (pa_cons (pe_un un_neg (pe_op op_pow pe_int pe_int)) (pa_cons (pe_call G_law_near (hr.mono (by decide)) (by rfl) T.g_law_near T.F_law_near.kp T.b_law_near .nil pass0 (pa_cons (pv 0) (pa_cons pe_int pa_nil))) pa_nil))))))) pa_nil)))))
  (pss_cons (ps_expr (pe_bm PySem.F.plainAttrs_list PySem.F.slot_list_append PySem.F.type_list_append mt_append (pv 1) (pa_cons (pe_tup (pa_cons (pv 4) (pa_cons (pe_call G_law_pick (hr.mono (by decide)) (by rfl) T.g_law_pick T.F_law_pick.kp T.b_law_pick .nil pass0 (pa_cons (pv 0) (pa_cons (pe_lst (pa_cons pe_str (pa_cons pe_str (pa_cons pe_str (pa_cons pe_str pa_nil))))) pa_nil))) (pa_cons (pe_callTy c_tupL (by rfl) T.z_tuple (by decide +kernel) (pa_cons (pv 5) pa_nil)) pa_nil)))) pa_nil)))
  (pss_one (ps_set (i := 2) sc_law_world_drawn.nd rfl (.inl rfl) (pe_op op_add (pv 4) pe_int)))))))
  (pss_cons (ps_set (i := 6) sc_law_world_drawn.nd rfl (.inl rfl) (pe_call G_law_pick (hr.mono (by decide)) (by rfl) T.g_law_pick T.F_law_pick.kp T.b_law_pick .nil pass0 (pa_cons (pv 0) (pa_cons (pe_lst (pa_cons pe_int (pa_cons pe_int (pa_cons (pe_call G_law_roll (hr.mono (by decide)) (by rfl) T.g_law_roll T.F_law_roll.kp T.b_law_roll .nil pass0 (pa_cons (pv 0) (pa_cons pe_int pa_nil))) (pa_cons (pe_op op_add (pe_op op_pow pe_int pe_int) pe_int) pa_nil))))) pa_nil))))
  (pss_one (ps_ret (pe_tup (pa_cons (pv 6) (pa_cons (pe_op op_add (pv 2) (pe_call G_law_roll (hr.mono (by decide)) (by rfl) T.g_law_roll T.F_law_roll.kp T.b_law_roll .nil pass0 (pa_cons (pv 0) (pa_cons pe_int pa_nil)))) (pa_cons (pe_call G_law_pick (hr.mono (by decide)) (by rfl) T.g_law_pick T.F_law_pick.kp T.b_law_pick .nil pass0 (pa_cons (pv 0) (pa_cons (pe_lst (pa_cons pe_int (pa_cons pe_int (pa_cons pe_int (pa_cons (pe_call G_law_roll (hr.mono (by decide)) (by rfl) T.g_law_roll T.F_law_roll.kp T.b_law_roll .nil pass0 (pa_cons (pv 0) (pa_cons pe_int pa_nil))) pa_nil))))) pa_nil))) (pa_cons (pe_callTy c_tupL (by rfl) T.z_tuple (by decide +kernel) (pa_cons (pv 1) pa_nil)) pa_nil)))))))))), ?_⟩
    refine q_parLc (xs := []) (v2 := .int 0) (el_lst ea_nil (by decide)) ev_c fun l H1 hl e1 h1 => ?_
    have d1 := hd.ex e1
    have hlp : l ≠ p := hd.ne hl
    have x01 : Exd p H H1 := Exd.of e1
    have hout : ∀ (H2 : Hp) (o : HO), Exd p H H2 → Exd p H (upd H2 l o) := fun H2 o e a u ha hu => by rw [upd_ne (fun z => by rw [z, hl] at hu; cases hu)]; exact e a u ha hu
    have dup : ∀ (H2 : Hp) (o : HO), Dice p H2 → Dice p (upd H2 l o) := fun H2 o d => by
      obtain ⟨x, y, z, h⟩ := d
      exact ⟨x, y, z, by rw [upd_ne (Ne.symm hlp)]; exact h⟩
    have pk : ∀ {xs : List V} {ts : TA} {σ : L2.St} {H : Hp}, σ[0]? = some (some (.ref p)) → (∀ H1, EvA ts σ H1 xs) → 0 < xs.length → xs.length < 100000 → Dv p (tCall (Draws (kPick K)) [] E0 (tCons (tVar 0) (tCons (tLst ts) tNil))) σ H (fun v => v ∈ xs) := fun h0 h1 h2 h3 =>
      dv_pickL (xs := _) (R := fun v => v ∈ _) h0 (fun H1 _ _ => el_lst (h1 H1) (by omega)) (fun l H1 _ _ hl h => ⟨l, _, rfl, hl, sq_of h, h2, by omega, rfl⟩)
    have pkA : ∀ {Pr : V → Prop} {n : Nat} {ts : TA} {σ : L2.St} {H : Hp}, σ[0]? = some (some (.ref p)) → DvA p ts σ H (fun vs => vs.length = n ∧ ∀ v ∈ vs, Pr v) → 0 < n → n ≤ 100 → Dv p (tCall (Draws (kPick K)) [] E0 (tCons (tVar 0) (tCons (tLst ts) tNil))) σ H Pr := fun {Pr n ts σ H} h0 h1 h2 h3 =>
      dv_pickA (RA := fun vs => vs.length = n ∧ ∀ v ∈ vs, Pr v) h0 h1 (fun xs hx => by rw [hx.1]; omega) fun l xs H1 hx _ _ hl h => ⟨_, ⟨l, xs, rfl, hl, sq_of h, by rw [hx.1]; exact h2, by rw [hx.1]; omega, rfl⟩, fun v hv => hx.2 v hv⟩
    let Pv : Nat → L2.St → Hp → Prop := fun i σ H' => ∃ (ahead : Int) (rs : List Addr) (ts : List Tg) (a b c : Option V), σ = [some (.ref p), some (.ref l), some (.int ahead), a, b, c, none, none] ∧ Exd p H H' ∧ Dice p H' ∧ H' l = some (.lst (rs.map V.ref)) ∧ RsAt K H' rs ts ∧ ts.length = i ∧ (∀ t ∈ ts, t.gd) ∧ Asc ts ahead ∧ 0 ≤ ahead ∧ ahead ≤ 1000000000000000000000000000000 * i
    refine q_forD (RN := fun n => n ≤ 12) ((pk (xs := [.int 0, .int 1, .int 2, .int 4, .int 12]) rfl (fun H1 => by walk_at "ea") (by decide) (by decide)).mono fun v hv => ?_) (fun n hn => by omega) d1 Pv (fun H2 x2 d2 => ?_) (fun i σ' H' n hn hi ⟨ahead, rs, ts, a, b, c, hσ, x2, d2, hL, hR, hlen, hg, hA, a0, a1⟩ => ?_) fun n σ' H' hn ⟨ahead, rs, ts, a, b, c, hσ, x2, d2, hL, hR, hlen, hg, hA, a0, a1⟩ => ?_
    · simp only [List.mem_cons, List.not_mem_nil, or_false] at hv
      rcases hv with rfl | rfl | rfl | rfl | rfl
      · exact ⟨0, rfl, by decide⟩
      · exact ⟨1, rfl, by decide⟩
      · exact ⟨2, rfl, by decide⟩
      · exact ⟨4, rfl, by decide⟩
      · exact ⟨12, rfl, by decide⟩
    · exact ⟨0, [], [], none, none, none, rfl, x01.trans x2, d2, x2 _ _ hlp h1, ⟨rfl, fun i r t h _ => by cases h⟩, rfl, (fun _ h => by cases h), List.pairwise_singleton .., by decide, by decide⟩
    · subst hσ
      refine q_asgDv (p := p) (R := fun v => ∃ here : Int, v = .int here ∧ ahead ≤ here ∧ here < ahead + 1000000000000000000000000000000) ?_ d2 fun v H3 hv e3 d3 => ?_
      · refine dv_op (R1 := fun v => v = .int ahead) (R2' := fun v => ∃ r : Int, v = .int r ∧ 0 ≤ r ∧ r < 1000000000000000000000000000000) (dv_var rfl rfl) (dv_call2 (R1 := fun v => ∃ m : Int, v = .int m ∧ 0 < m ∧ m ≤ 1000000000000000000000000000000) rfl ((pk (xs := [.int 1, .int 1, .int 3, .int 1000000000000000000000000000000]) rfl (fun H1 => by walk_at "ea") (by decide) (by decide)).mono fun v hv => ?_) fun v H1 ⟨m, hm, m0, m1⟩ => ⟨_, ⟨m, by rw [hm], m0, by omega, rfl⟩, fun u ⟨r, hu, r0, r1⟩ => ⟨r, hu, r0, by omega⟩⟩) ?_
        · simp only [List.mem_cons, List.not_mem_nil, or_false] at hv
          rcases hv with rfl | rfl | rfl | rfl <;> exact ⟨_, rfl, by decide, by decide⟩
        · rintro x y H4 rfl ⟨r, rfl, h0, h1⟩
          exact ⟨_, rv_I0, _, rfl, by omega, by omega⟩
      obtain ⟨here, rfl, h3, h4⟩ := hv
      refine q_asgLcD (p := p) (R := NumV) (RN := fun n => 1 ≤ n ∧ n ≤ 8) (fun _ => rfl) (fun n hn => by omega) (dv_op (R1 := fun v => v = .int 1) (R2' := fun v => ∃ r : Int, v = .int r ∧ 0 ≤ r ∧ r < 8) (dv_c rfl) (dv_roll (m := 8) rfl (fun H1 => ev_c) (by decide) (by decide)) ?_) (fun k => ?_) d3 fun k ln xs H5 hk hx hlnp e5 d5 h5 => ?_
      · rintro x y H1 rfl ⟨r, rfl, h0, h1⟩
        exact ⟨_, rv_I0, (1 + r).toNat, by rw [Int.toNat_of_nonneg (by omega)], by omega, by omega⟩
      · have cN : ∀ {te : TE} {σ : L2.St} {n : Int}, (∀ H1, Ev te σ H1 (.int n)) → num n → Dv p te σ H3 NumV := fun h hn => dv_ev (fun H1 _ _ => h H1) ⟨_, rfl, hn⟩
        refine pkA (n := 6) rfl (da_cons (cN (fun _ => ev_c) (by unfold num; decide)) (da_cons (cN (fun _ => ev_c) (by unfold num; decide)) (da_cons (cN (n := -1) (fun _ => by walk_at "ev") (by unfold num; decide)) (da_cons (cN (n := 1000000000) (fun _ => by walk_at "ev") (by unfold num; decide)) (da_cons (cN (n := -1000000000) (fun _ => by walk_at "ev") (by unfold num; decide)) (da_cons ?_ da_nil)))))) (by decide) (by decide)
        exact (dv_call (vs := [.ref p, .int 99]) (fun H1 _ _ => ea_cons (ev_var rfl) (ea_cons ev_c ea_nil)) (fun H1 _ _ => ⟨99, rfl, by decide, by decide, rfl⟩)).mono fun v ⟨n, hv, h2, h3⟩ => ⟨n, hv, by unfold num; omega⟩
      obtain ⟨ns, rfl, hns⟩ := nums_of hx.2
      have hln : ns.length = k := by have := hx.1; rw [List.length_map] at this; exact this
      have e35 := e3.trans e5
      refine q_appD (p := p) (j := 1) (xs := rs.map V.ref) (P := fun vs H' => ∃ (z : Str) (b : Addr), vs = [.int here, .str z, .ref b] ∧ z ∈ kinds ∧ H' b = some (.tup (ns.map V.int))) (e35 _ _ hlp hL) hlp rfl ?_ (by rw [List.length_map, hR.1]; omega) (fun vs H1 ⟨z, b, hv, _⟩ => by rw [hv]; show 3 ≤ 100000; decide) d5 fun t vs H4 ⟨z, b, hv, hz, hb⟩ e4 d4 ht => ?_
      · exact (dap_cons (R := fun v => v = .int here) (dv_var rfl rfl) (dap_cons (R := KindV) ((pk (xs := [.str "hero", .str "a", .str "zzzzzzzz", .str "ab"]) rfl (fun H1 => by walk_at "ea") (by decide) (by decide)).mono fun v hv => by
            simp only [List.mem_cons, List.not_mem_nil, or_false] at hv
            rcases hv with rfl | rfl | rfl | rfl <;> exact ⟨_, rfl, by simp [kinds]⟩) (dap_consU (xs := ns.map V.int) (fun H1 x1 _ => eu_tupV (p := ln) (ev_var rfl) (sq_of (x1 _ _ hlnp h5))) dap_nil))).mono fun vs H1 ⟨_, _, h1, h2, _, _, h3, ⟨z, h4, hz⟩, b, _, h5, hb, h6, h7⟩ => ⟨z, b, by rw [h1, h2, h3, h4, h5, h7], hz, h6⟩
      subst hv
      obtain ⟨hp1, hp2, hp3, hpD⟩ := id d2
      have hl4 := e4 _ _ hlp (e35 _ _ hlp hL)
      have hbl : b ≠ l := fun z => by rw [z, hl4] at hb; cases hb
      have htl : t ≠ l := fun z => by rw [z, hl4] at ht; cases ht
      have e5 : Ex H4 (upd H4 t (.tup [.int here, .str z, .ref b])) := Ex.new ht
      have x6 : Exd l (upd H4 t (.tup [.int here, .str z, .ref b])) (upd (upd H4 t (.tup [.int here, .str z, .ref b])) l (.lst (rs.map V.ref ++ [.ref t]))) := Exd.upd
      have hl5 := e5 _ _ hl4
      have hT : TgAt K (upd H4 t (.tup [.int here, .str z, .ref b])) t ⟨here, z, ns⟩ := ⟨b, st_of upd_same, st_of (e5 _ _ hb)⟩
      have hR5 := (((hR.tl (e35.trans e4) hpD).ex e5).snoc hT).tl x6 hl5
      refine s_asg (v := .int (here + 1)) (by walk_at "ev") fun H6 e6 => ⟨here + 1, rs ++ [t], ts ++ [⟨here, z, ns⟩], _, _, _, rfl, ((hout _ _ ((x2.trans (e35.trans e4)).trans (Exd.of e5))).trans (Exd.of e6)), (dup _ _ (d4.ex e5)).ex e6, by rw [List.map_append]; exact e6 _ _ upd_same, hR5.ex e6, by rw [List.length_append, hlen]; rfl, fun t' ht' => ?_, asc_add (asc_le hA h3) z ns, by omega, by omega⟩
      rcases List.mem_append.mp ht' with y | y
      · exact hg t' y
      · rw [List.mem_singleton.mp y]
        exact ⟨by show 0 ≤ here; omega, hz, by show 1 ≤ ns.length; omega, by show ns.length ≤ 8; omega, hns⟩
    · subst hσ
      have cT : ∀ {te : TE} {σ : L2.St} {H : Hp} {n : Int}, (∀ H1, Ev te σ H1 (.int n)) → 0 ≤ n → n ≤ 100000000000000000000000000000000000000000000000000000000001 → Dv p te σ H TickV := fun h h0 h1 => dv_ev (fun H1 _ _ => h H1) ⟨_, rfl, h0, h1⟩
      have cL : ∀ {te : TE} {σ : L2.St} {H : Hp} {n : Int}, (∀ H1, Ev te σ H1 (.int n)) → 0 ≤ n → n < 999999937 → Dv p te σ H LuckV := fun h h0 h1 => dv_ev (fun H1 _ _ => h H1) ⟨_, rfl, h0, h1⟩
      refine q_asgDv (p := p) (R := TickV) (pkA (n := 4) rfl (da_cons (cT (fun _ => ev_c) (by decide) (by decide)) (da_cons (cT (fun _ => ev_c) (by decide) (by decide)) (da_cons ((dv_roll (m := 1000) rfl (fun H1 => ev_c) (by decide) (by decide)).mono fun v ⟨r, hv, r0, r1⟩ => ⟨r, hv, r0, by omega⟩) (da_cons (cT (n := 100000000000000000000000000000000000000000000000000000000000 + 1) (fun _ => by walk_at "ev") (by decide) (by decide)) da_nil)))) (by decide) (by decide)) d2 fun v H3 hv e3 d3 => ?_
      obtain ⟨tick, rfl, t0, t1⟩ := hv
      have hL3 := e3 _ _ hlp hL
      obtain ⟨hp1, hp2, hp3, hpD⟩ := id d2
      refine s_retTD (p := p) (P := fun vs H' => ∃ (n lk : Int) (b : Addr), vs = [.int tick, .int n, .int lk, .ref b] ∧ (ahead ≤ n ∧ n < ahead + 3) ∧ (0 ≤ lk ∧ lk < 999999937) ∧ b ≠ p ∧ H' b = some (.tup (rs.map V.ref))) ?_ (fun vs H1 ⟨n, lk, b, hv, _⟩ => by rw [hv]; show 4 ≤ 100000; decide) d3 fun a vs H4 ⟨n, lk, b, hv, hn2, hlk, hbp, hb⟩ e4 d4 ha => ?_
      · refine (dap_cons (R := fun v => v = .int tick) (dv_var rfl rfl) (dap_cons (R := fun v => ∃ n : Int, v = .int n ∧ ahead ≤ n ∧ n < ahead + 3) (dv_op (R1 := fun v => v = .int ahead) (R2' := fun v => ∃ r : Int, v = .int r ∧ 0 ≤ r ∧ r < 3) (dv_var rfl rfl) (dv_roll (m := 3) rfl (fun H1 => ev_c) (by decide) (by decide)) ?_) (dap_cons (R := LuckV) (pkA (n := 4) rfl (da_cons (cL (fun _ => ev_c) (by decide) (by decide)) (da_cons (cL (fun _ => ev_c) (by decide) (by decide)) (da_cons (cL (fun _ => ev_c) (by decide) (by decide)) (da_cons ((dv_roll (m := 999999937) rfl (fun H1 => ev_c) (by decide) (by decide)).mono fun v hv => hv) da_nil)))) (by decide) (by decide)) (dap_consU (xs := rs.map V.ref) (fun H1 x1 _ => eu_tupV (p := l) (ev_var rfl) (sq_of (x1 _ _ hlp hL3))) dap_nil)))).mono fun vs H1 ⟨_, _, h1, h2, _, _, h3, ⟨n, h4, n0, n1⟩, _, _, h5, ⟨lk, h6, l0, l1⟩, b, _, h7, hb, h8, h9⟩ => ⟨n, lk, b, by rw [h1, h2, h3, h4, h5, h6, h7, h9], ⟨n0, n1⟩, ⟨l0, l1⟩, hb, h8⟩
        rintro x y H4 rfl ⟨r, rfl, h0, h1⟩
        exact ⟨_, rv_I0, _, rfl, by omega, by omega⟩
      subst hv
      have e5 : Ex H4 (upd H4 a (.tup [.int tick, .int n, .int lk, .ref b])) := Ex.new ha
      exact q a ⟨tick, n, lk, ts⟩ _ (gd_of t0 t1 (by show 0 ≤ n; omega) (by show n ≤ _; omega) hlk.1 hlk.2 (by show ts.length ≤ 12; omega) hg (asc_le hA hn2.1)) ⟨b, st_of upd_same, rs, st_of (e5 _ _ hb), (hR.tl (e3.trans e4) hpD).ex e5⟩ (d4.ne ha) ((x2.trans (e3.trans e4)).trans (Exd.of e5)) (d4.ex e5)
end
end Kz
set_option Elab.async false
set_option linter.all false
set_option maxRecDepth 100000
set_option maxHeartbeats 4000000
set_option exponentiation.threshold 500
namespace Kz
open PySem PySem.Spec PyProof.Rows L2 Evl Vr
open Tx NumText
/-! ### infixes -/
theorem pre_app {α : Type} {r a b : List α} (h : r <+: a ++ b) : r <+: a ∨ ∃ r2, r = a ++ r2 ∧ r2 <+: b := by
  have e := List.prefix_iff_eq_take.mp h
  rw [List.take_append] at e
  by_cases hl : r.length ≤ a.length
  · left
    have : r.length - a.length = 0 := by omega
    rw [this, List.take_zero, List.append_nil] at e
    rw [e]
    exact List.take_prefix _ _
  · right
    rw [List.take_of_length_le (by omega)] at e
    exact ⟨_, e, List.take_prefix _ _⟩
theorem inf_app {α : Type} {r b : List α} : ∀ {a : List α}, r <:+: a ++ b → r <:+: a ∨ r <:+: b ∨ ∃ r1 r2, r = r1 ++ r2 ∧ r1 <:+ a ∧ r2 <+: b
  | [], h => .inr (.inl h)
  | x :: a, h => by
    rcases List.infix_cons_iff.mp h with h | h
    · rcases pre_app (a := x :: a) h with h | ⟨r2, h1, h2⟩
      · exact .inl h.isInfix
      · exact .inr (.inr ⟨x :: a, r2, h1, List.suffix_refl _, h2⟩)
    · rcases inf_app (a := a) h with h | h | ⟨r1, r2, h1, h2, h3⟩
      · exact .inl (h.trans (List.suffix_cons ..).isInfix)
      · exact .inr (.inl h)
      · exact .inr (.inr ⟨r1, r2, h1, h2.trans (List.suffix_cons ..), h3⟩)
/-- every row of signs without blank and semicolon is short -/
def Runs (n : Nat) (z : List Nat) : Prop := ∀ r, r <:+: z → 32 ∉ r → 59 ∉ r → r.length ≤ n
theorem runs_len {n : Nat} {z : List Nat} (h : z.length ≤ n) : Runs n z := fun r hr _ _ => Nat.le_trans hr.length_le h
theorem Runs.mono {n m : Nat} {z : List Nat} (h : Runs n z) (hm : n ≤ m) : Runs m z := fun r h1 h2 h3 => Nat.le_trans (h r h1 h2 h3) hm
theorem Runs.inf {n : Nat} {y z : List Nat} (h : Runs n z) (hy : y <:+: z) : Runs n y := fun r h1 h2 h3 => h r (h1.trans hy) h2 h3
theorem Runs.app {n m : Nat} {a b : List Nat} (ha : Runs n a) (hb : Runs m b) : Runs (n + m) (a ++ b) := fun r hr h1 h2 => by
  rcases inf_app hr with h | h | ⟨r1, r2, rfl, h3, h4⟩
  · have := ha r h h1 h2
    omega
  · have := hb r h h1 h2
    omega
  · simp only [List.mem_append, not_or] at h1 h2
    have e1 := ha r1 h3.isInfix h1.1 h2.1
    have e2 := hb r2 h4.isInfix h1.2 h2.2
    rw [List.length_append]
    omega
theorem Runs.sep {n c : Nat} {a b : List Nat} (hc : c = 32 ∨ c = 59) (ha : Runs n a) (hb : Runs n b) : Runs n (a ++ c :: b) := fun r hr h1 h2 => by
  have hcr : ∀ q : List Nat, c ∈ q → q <:+: r → False := fun q hq hqr => by
    rcases hc with rfl | rfl
    · exact h1 (hqr.subset hq)
    · exact h2 (hqr.subset hq)
  have tail : r <:+: c :: b → r.length ≤ n := fun h => by
    rcases List.infix_cons_iff.mp h with h | h
    · cases r with
      | nil => exact Nat.zero_le _
      | cons x r =>
        have := (List.cons_prefix_cons.mp h).1
        exact absurd (hcr (x :: r) (by rw [this]; exact List.mem_cons_self ..) (List.infix_refl _)) id
    · exact hb r h h1 h2
  rcases inf_app hr with h | h | ⟨r1, r2, rfl, h3, h4⟩
  · exact ha r h h1 h2
  · exact tail h
  · cases r2 with
    | nil =>
      rw [List.append_nil] at h1 h2 ⊢
      exact ha r1 h3.isInfix h1 h2
    | cons x r2 =>
      have := (List.cons_prefix_cons.mp h4).1
      exact absurd (hcr (x :: r2) (by rw [this]; exact List.mem_cons_self ..) (List.suffix_append ..).isInfix) id
theorem Runs.join {n c : Nat} (hc : c = 32 ∨ c = 59) : ∀ {ps : List (List Nat)}, (∀ p ∈ ps, Runs n p) → Runs n (joinL c ps)
  | [], _ => runs_len (Nat.zero_le _)
  | [p], h => h p (List.mem_cons_self ..)
  | p :: q :: r, h => (h p (List.mem_cons_self ..)).sep hc (Runs.join hc fun x hx => h x (List.mem_cons_of_mem _ hx))
theorem text_ok {n : Nat} {z : List Nat} (hl : z.length ≤ 4000) (low : Low z) (hr : Runs n z) (hn : n ≤ 500) : TextOk z := ⟨hl, low, fun p hp w hw => by
  have h1 := splitL_infix 32 p w hw
  refine Nat.le_trans (hr w (h1.trans (splitL_infix 59 z p hp)) (splitL_no 32 p w hw) fun z59 => ?_) hn
  exact splitL_no 59 z p hp (h1.subset z59)⟩
theorem low_app {a b : List Nat} (ha : Low a) (hb : Low b) : Low (a ++ b) := fun c hc => (List.mem_append.mp hc).elim (ha c) (hb c)
theorem low_one {c : Nat} (h : c < 128) : Low [c] := fun d hd => by rw [List.mem_singleton.mp hd]; exact h
theorem low_join {c : Nat} (hc : c < 128) : ∀ {ps : List (List Nat)}, (∀ p ∈ ps, Low p) → Low (joinL c ps)
  | [], _ => fun _ h => by cases h
  | [p], h => h p (List.mem_cons_self ..)
  | p :: q :: r, h => low_app (h p (List.mem_cons_self ..)) (low_app (a := [c]) (low_one hc) (low_join hc fun x hx => h x (List.mem_cons_of_mem _ hx)))
/-- a text near which others are drawn -/
structure NearOk (z : List Nat) : Prop where
  pos : 0 < z.length
  len : z.length ≤ 2233
  low : Low z
  runs : Runs 63 z
  part : ∀ q ∈ splitL 59 z, q.length ≤ 192
theorem low_int (i : Int) : Low (intL i) := fun c hc => by
  by_cases h : c < 128
  · exact h
  · exact absurd hc (intL_free (by omega))
theorem low_name {z : Str} (h : nameL z) : Low z.cps.toList := fun c hc => by
  unfold nameL isNameL at h
  simp only [Bool.and_eq_true, List.all_eq_true, decide_eq_true_eq] at h
  have := h.2 c hc
  omega
theorem intL_pos (i : Int) : 0 < (intL i).length := by
  unfold intL
  split
  · exact List.length_pos_iff.mpr (TL.numL_ne _)
  · simp
theorem runs_thing {t : Tg} (h : TgW t) : Runs 63 (thingW t) ∧ Low (thingW t) := by
  have key : ∀ p ∈ wordsW t, p.length ≤ 63 ∧ Low p := fun p hp => by
    rcases List.mem_cons.mp hp with rfl | hp
    · exact ⟨intL_len h.i1, low_int _⟩
    · rcases List.mem_cons.mp hp with rfl | hp
      · have := nameL_len h.nm
        exact ⟨by omega, low_name h.nm⟩
      · obtain ⟨n, hn, rfl⟩ := List.mem_map.mp hp
        have := intL_len10 (h.ns.2.2 n hn)
        exact ⟨by omega, low_int _⟩
  exact ⟨Runs.join (.inl rfl) fun p hp => runs_len (key p hp).1, low_join (by decide) fun p hp => (key p hp).2⟩
theorem runs_head {W : Wd} (h : WdW W) : Runs 63 (headW W) ∧ Low (headW W) := by
  have key : ∀ p ∈ [intL W.t, intL W.n, intL W.l], p.length ≤ 63 ∧ Low p := fun p hp => by
    simp only [List.mem_cons, List.not_mem_nil, or_false] at hp
    rcases hp with rfl | rfl | rfl
    · exact ⟨intL_len h.t1, low_int _⟩
    · exact ⟨intL_len h.n1, low_int _⟩
    · exact ⟨intL_len (luck62 h), low_int _⟩
  exact ⟨Runs.join (.inl rfl) fun p hp => runs_len (key p hp).1, low_join (by decide) fun p hp => (key p hp).2⟩
theorem near_world {W : Wd} (h : WdW W) : NearOk (worldW W) := by
  have hp : ∀ p ∈ headW W :: W.ts.map thingW, Runs 63 p ∧ Low p ∧ p.length ≤ 192 := fun p hp => by
    rcases List.mem_cons.mp hp with rfl | hp
    · exact ⟨(runs_head h).1, (runs_head h).2, head_len h⟩
    · obtain ⟨t, ht, rfl⟩ := List.mem_map.mp hp
      have h1 := runs_thing (h.tg t ht)
      have h2 := thing_len (h.tg t ht)
      exact ⟨h1.1, h1.2, by omega⟩
  refine ⟨?_, worldW_len h, low_join (ps := headW W :: W.ts.map thingW) (by decide) fun p h => (hp p h).2.1, Runs.join (ps := headW W :: W.ts.map thingW) (.inr rfl) fun p h => (hp p h).1, fun q hq => ?_⟩
  · have h1 : 0 < (headW W).length := by
      unfold headW
      have := intL_pos W.t
      show 0 < (intL W.t ++ 32 :: _).length
      rw [List.length_append]
      omega
    show 0 < (joinL 59 (headW W :: W.ts.map thingW)).length
    cases W.ts.map thingW with
    | nil => exact h1
    | cons a r =>
      show 0 < (headW W ++ 59 :: _).length
      rw [List.length_append]
      omega
  · rw [worldW_parts h] at hq
    exact (hp q hq).2.2
theorem lenAll_split (c : Nat) (z : List Nat) : lenAll (splitL c z) = z.length + 1 := by
  have key : ∀ ps : List (List Nat), ps ≠ [] → lenAll ps = (joinL c ps).length + 1 := by
    intro ps
    induction ps with
    | nil => intro h; exact absurd rfl h
    | cons p r ih =>
      intro _
      cases r with
      | nil => rfl
      | cons q r =>
        rw [lenAll_cons, ih (fun z => by cases z), joinL_cons (ps := q :: r) (fun z => by cases z), List.length_append, List.length_cons]
        omega
  obtain ⟨p, ps, h⟩ := splitL_ne c z
  rw [key _ (by rw [h]; simp), join_splitL]
theorem lenAll_rev (ps : List (List Nat)) : lenAll ps.reverse = lenAll ps := by
  induction ps with
  | nil => rfl
  | cons p r ih =>
    rw [List.reverse_cons, lenAll_app, ih, lenAll_cons, lenAll_cons]
    show _ + (_ + 1 + 0) = _
    omega
theorem lenAll_cut (k : Nat) (ps : List (List Nat)) : lenAll (ps.take k) + lenAll (ps.drop k) = lenAll ps := by rw [← lenAll_app, List.take_append_drop]
def up (c : Nat) : Nat := if 97 ≤ c ∧ c ≤ 122 then c - 32 else c
theorem upper_S : ∀ {l : List Nat}, Low l → Txt.upper (S l) = S (l.map up)
  | [], _ => by decide +kernel
  | c :: l, h => by
    have e : S (c :: l) = S [c] ++ S l := by rw [S_app]; rfl
    have e2 : S ((c :: l).map up) = S [up c] ++ S (l.map up) := by rw [S_app]; rfl
    rw [e, PySem.W.KOpn.upper_app, e2, upper_S fun d hd => h d (List.mem_cons_of_mem _ hd)]
    congr 1
    exact PySem.W.KOpn.upper_one (h c (List.mem_cons_self ..))
theorem up_free {c d : Nat} (hd : d = 32 ∨ d = 59) (h : up c = d) : c = d := by
  unfold up at h
  split at h <;> omega
theorem runs_up {n : Nat} {z : List Nat} (h : Runs n z) : Runs n (z.map up) := fun r hr h1 h2 => by
  obtain ⟨s, t, e⟩ := hr
  obtain ⟨l1, l2, e1, e2, e3⟩ := List.map_eq_append_iff.mp e.symm
  obtain ⟨l3, l4, e4, e5, e6⟩ := List.map_eq_append_iff.mp e2
  rw [← e6, List.length_map]
  refine h l4 ⟨l3, l2, by rw [e1, e4]⟩ (fun z => h1 ?_) fun z => h2 ?_
  · rw [← e6]
    exact List.mem_map.mpr ⟨32, z, by decide⟩
  · rw [← e6]
    exact List.mem_map.mpr ⟨59, z, by decide⟩
theorem low_up {z : List Nat} (h : Low z) : Low (z.map up) := fun c hc => by
  obtain ⟨d, hd, rfl⟩ := List.mem_map.mp hc
  have := h d hd
  unfold up
  split <;> omega
end Kz
set_option Elab.async false
set_option linter.all false
set_option maxRecDepth 100000
set_option maxHeartbeats 4000000
set_option exponentiation.threshold 500
namespace Kz
open PySem PySem.Spec PyProof.Rows L2 Evl Vr
local macro_rules | `(tactic| walk_at "sc") => `(tactic| first | (with_reducible assumption) | (with_reducible exact sc_mul (by omega)) | (with_reducible exact sc_mulr (by omega)) | (with_reducible exact sc_div (by omega) (by decide)) | (show (0 : Int) < _; omega) | (show _ ≠ (0 : Int); omega) | (with_reducible rfl) | decide)
local macro_rules | `(tactic| walk_at "sq") => `(tactic| first | assumption | exact sq_of (by assumption) | exact st_of (by assumption))
local macro_rules | `(tactic| walk_at "pl") => `(tactic| first | assumption | exact pl_int | exact pl_bl | exact pl_str | exact pl_non | exact pl_lst (by assumption) | exact pl_tup (by assumption) | exact pl_dK (by assumption))
local macro_rules | `(tactic| walk_at "rv") => `(tactic| first
  | with_reducible exact rv_I0
  | with_reducible exact ru_neg
  | ((with_reducible apply rv_I); walk_at "sc")
  | ((with_reducible apply rv_ixL); walk_at "sq"; first | rfl | assumption)
  | ((with_reducible apply rv_ixT); walk_at "sq"; first | rfl | assumption)
  | ((with_reducible apply rv_eq); rfl) | ((with_reducible apply rv_ne); rfl))
local macro_rules | `(tactic| walk_at "rc") => `(tactic| first
  | with_reducible exact rc_I1 | with_reducible exact rc_B1 | with_reducible exact rc_I2 | ((with_reducible apply rc_repr); walk_at "sc") | ((with_reducible apply rc_lenL); walk_at "sq")
  | ((with_reducible apply rc_isiInt); walk_at "pl") | ((with_reducible apply rc_isiBool); walk_at "pl"))
local macro_rules | `(tactic| walk_at "ea") => `(tactic| first
  | with_reducible exact ea_nil | ((with_reducible apply ea_cons); walk_at "ev"; walk_at "ea"))
local macro_rules | `(tactic| walk_at "pow") => `(tactic| first
  | with_reducible exact ev_pow (a := 10) (b := 9) (c := 1000000000) (by decide +kernel) (by decide +kernel)
  | with_reducible exact ev_pow (a := 10) (b := 10) (c := 10000000000) (by decide +kernel) (by decide +kernel)
  | with_reducible exact ev_pow (a := 10) (b := 12) (c := 1000000000000) (by decide +kernel) (by decide +kernel)
  | with_reducible exact ev_pow (a := 10) (b := 17) (c := 100000000000000000) (by decide +kernel) (by decide +kernel)
  | with_reducible exact ev_pow (a := 10) (b := 20) (c := 100000000000000000000) (by decide +kernel) (by decide +kernel)
  | with_reducible exact ev_pow (a := 10) (b := 29) (c := 100000000000000000000000000000) (by decide +kernel) (by decide +kernel)
  | with_reducible exact ev_pow (a := 10) (b := 30) (c := 1000000000000000000000000000000) (by decide +kernel) (by decide +kernel)
  | with_reducible exact ev_pow (a := 10) (b := 40) (c := 10000000000000000000000000000000000000000) (by decide +kernel) (by decide +kernel)
  | with_reducible exact ev_pow (a := 10) (b := 57) (c := 1000000000000000000000000000000000000000000000000000000000) (by decide +kernel) (by decide +kernel)
  | with_reducible exact ev_pow (a := 10) (b := 58) (c := 10000000000000000000000000000000000000000000000000000000000) (by decide +kernel) (by decide +kernel)
  | with_reducible exact ev_pow (a := 10) (b := 59) (c := 100000000000000000000000000000000000000000000000000000000000) (by decide +kernel) (by decide +kernel)
  | with_reducible exact ev_pow (a := 10) (b := 60) (c := 1000000000000000000000000000000000000000000000000000000000000) (by decide +kernel) (by decide +kernel))
local macro_rules | `(tactic| walk_at "call") => `(tactic| (intro H9 e9; first | exact ⟨_, rfl, rfl⟩ | exact ⟨_, _, rfl, rfl⟩ | exact ⟨_, _, _, rfl, rfl⟩ | exact ⟨_, rfl, by walk_at "pl", rfl⟩ | (refine ⟨_, _, _, rfl, ?_, rfl⟩; first | exact Plain.ex e9 (by assumption) | walk_at "pl") | (refine ⟨_, rfl, ?_, rfl⟩; first | exact Plain.ex e9 (by assumption) | walk_at "pl")))
local macro_rules | `(tactic| walk_at "ev") => `(tactic| first
  | with_reducible exact ev_c
  | exact ev_var rfl
  | walk_at "pow"
  | ((with_reducible apply ev_op); walk_at "ev"; walk_at "ev"; walk_at "rv")
  | ((with_reducible apply ev_un); walk_at "ev"; walk_at "rv")
  | ((with_reducible apply ev_cb); walk_at "ea"; walk_at "rc")
  | ((with_reducible apply ev_callP); walk_at "ea"; walk_at "call")
  | ((with_reducible apply ev_chain); walk_at "ev"; walk_at "ev"; walk_at "rv"; walk_at "ev"; walk_at "rv")
  | ((with_reducible apply ev_andV); walk_at "ev"; intro _; walk_at "ev")
  | ((with_reducible apply ev_orV); walk_at "ev"; intro _; walk_at "ev")
  | ((with_reducible apply ev_ite); walk_at "et"; intro _; walk_at "ev"; intro _; walk_at "ev")
  | ((with_reducible apply ev_notV); walk_at "ev"))
local macro_rules | `(tactic| walk_at "et") => `(tactic| first
  | ((with_reducible apply et_test); walk_at "ev")
  | ((with_reducible apply et_B); walk_at "ev")
  | ((with_reducible apply et_and); walk_at "et"; intro _; walk_at "et")
  | ((with_reducible apply et_or); walk_at "et"; intro _; walk_at "et")
  | ((with_reducible apply et_not); walk_at "et"))
open En Wo Tx NumText
section
variable {σ : L2.St} {H : Hp} {te ta tb ti : TE} {K : PySem.W.Frag} {tz : TS} {D : Ends} {p l : Addr} {z : List Nat}
theorem q_parDvL {i j : Nat} {R : V → Prop} {xs : List V} (h1 : Dv p ta σ H R) (hd : Dice p H) (h2 : ∀ H1, Exd p H H1 → EvL tb σ H1 xs) (k : ∀ v l H1, R v → l ≠ p → Exd p H H1 → Dice p H1 → H1 l = some (.lst xs) → tz D ((σ.set i (some v)).set j (some (.ref l))) H1) : tSeq (tPar i j (tCons ta (tCons tb tNil))) tz D σ H :=
  h1 H (Exd.refl p H) hd _ fun v H1 r e1 d1 => h2 H1 e1 H1 (Ex.refl H1) _ fun l H2 hl e2 hx => ⟨v, .ref l, rfl, k v l H2 r (d1.ne hl) (e1.trans (Exd.of e2)) (d1.ex e2) hx⟩
theorem el_catVL {xs ys : List V} (h1 : Ev ta σ H (.ref l)) (hl : H l = some (.lst xs)) (h2 : ∀ H1, Ex H H1 → EvL tb σ H1 ys) (hz : xs.length + ys.length ≤ 100000) : EvL (tOp rCat ta tb) σ H (xs ++ ys) := fun H1 e Q q =>
  h1 H1 e _ fun H2 e2 => h2 H2 (e.trans e2) H2 (Ex.refl H2) _ fun b H3 hb e3 h3 => ⟨l, b, xs, ys, rfl, rfl, e3 _ _ (e2 _ _ (e _ _ hl)), h3, sz_of hz, fun r hr => q r _ (fresh_back (e2.trans e3) hr) ((e2.trans e3).trans (Ex.new hr)) upd_same⟩
theorem ev_takeS {k : Nat} (h : Ev te σ H (vS z)) (hi : ∀ H1, Ex H H1 → Ev ti σ H1 (.int (k : Int))) (hl : z.length ≤ 100000) : Ev (L2.tSl rSlS te tNoPart (tPart ti)) σ H (vS (z.take k)) := ev_is (ev_slS (lo := none) (hi := some (k : Int)) h (fun _ _ => eo_none) (fun H1 e => eo_some (hi H1 e)) hl) (by
  refine congrArg vS ?_
  rw [HT.sIx_none, HT.sIx_nat, List.drop_zero, Nat.sub_zero]
  by_cases hk : k ≤ z.length
  · rw [Nat.min_eq_left hk]
  · rw [Nat.min_eq_right (by omega), List.take_of_length_le (Nat.le_refl _), List.take_of_length_le (by omega)])
theorem ev_dropS {k : Nat} (h : Ev te σ H (vS z)) (hi : ∀ H1, Ex H H1 → Ev ti σ H1 (.int (k : Int))) (hl : z.length ≤ 100000) : Ev (L2.tSl rSlS te (tPart ti) tNoPart) σ H (vS (z.drop k)) := ev_is (ev_slS (lo := some (k : Int)) (hi := none) h (fun H1 e => eo_some (hi H1 e)) (fun _ _ => eo_none) hl) (by
  refine congrArg vS ?_
  rw [HT.sIx_none, HT.sIx_nat]
  by_cases hk : k ≤ z.length
  · rw [Nat.min_eq_left hk, List.take_of_length_le (by rw [List.length_drop]; exact Nat.le_refl _)]
  · rw [Nat.min_eq_right (by omega), List.drop_of_length_le (Nat.le_refl _), List.drop_of_length_le (by omega)]
    simp)
theorem cut_t (xs : List V) (k : Nat) : cutV xs none (some (k : Int)) = xs.take k := by
  unfold cutV
  rw [HT.sIx_none, HT.sIx_nat, List.drop_zero, Nat.sub_zero]
  by_cases hk : k ≤ xs.length
  · rw [Nat.min_eq_left hk]
  · rw [Nat.min_eq_right (by omega), List.take_of_length_le (Nat.le_refl _), List.take_of_length_le (by omega)]
theorem el_takeW {ps : List (List Nat)} {k : Nat} (h : Ev te σ H (.ref l)) (hi : Ev ti σ H (.int (k : Int))) (hl : SqL K H l (ps.map vS)) : EvL (L2.tSl (rSlL K) te tNoPart (tPart ti)) σ H ((ps.take k).map vS) := by
  have := el_sl (lo := none) (hi := some (k : Int)) h eo_none (eo_some hi) hl
  rw [cut_t, ← List.map_take] at this
  exact this
theorem el_dropW {ps : List (List Nat)} {k : Nat} (h : Ev te σ H (.ref l)) (hi : Ev ti σ H (.int (k : Int))) (hl : SqL K H l (ps.map vS)) : EvL (L2.tSl (rSlL K) te (tPart ti) tNoPart) σ H ((ps.drop k).map vS) := by
  have := el_sl (lo := some (k : Int)) (hi := none) h (eo_some hi) eo_none hl
  rw [cut_n, ← List.map_drop] at this
  exact this
end
theorem succ_int (k : Nat) : V.int ((k : Int) + 1) = V.int ((k + 1 : Nat) : Int) := by simp
def newWords : List V := [.str "", .str "0", .str "-0", .str "00", .str "-1", .str "1000000001", .str "-1000000000", .str "999999937", .str "hero", .str "9", .str "07", .str "1_0"]
theorem new_word {v : V} (h : v ∈ newWords) : ∃ l : List Nat, v = vS l ∧ l.length ≤ 11 ∧ Low l := by
  have key : ∀ s : Str, s.cps.toList.length ≤ 11 → (∀ c ∈ s.cps.toList, c < 128) → ∃ l : List Nat, V.str s = vS l ∧ l.length ≤ 11 ∧ Low l := fun s h1 h2 => ⟨_, kd_vS s, h1, h2⟩
  simp only [newWords, List.mem_cons, List.not_mem_nil, or_false] at h
  rcases h with rfl | rfl | rfl | rfl | rfl | rfl | rfl | rfl | rfl | rfl | rfl | rfl <;> exact key _ (by decide +kernel) (by decide +kernel)
section
variable {P : Program} {w : World} {K : PySem.W.Frag} {mg : Str → Option Value} {base : Heap}
/-- texts near a text -/
def DrawsN (K : PySem.W.Frag) : Sp := fun vs H Q _ => ∃ (p : Addr) (z : List Nat), vs = [.ref p, vS z] ∧ NearOk z ∧ Dice p H ∧ ∀ (a : Addr) (ls : List (List Nat)) (H' : Hp), (∀ l ∈ ls, TextOk l) → ls.length ≤ 20 → a ≠ p → Exd p H H' → Dice p H' → H' a = some (.lst (ls.map vS)) → Q (.ref a) H'
theorem ok_near_texts (T : Txt K mg w) : FnOk P w K mg base CX0 3 T.a_law_near_texts T.fd_law_near_texts ["dice", "text"] (DrawsN K) := by
  have G_law_roll := ok_roll (P := P) (w := w) (base := base) T
  have G_law_pick := ok_pick (P := P) (w := w) (base := base) T
  refine T.F_law_near_texts.ok sc_law_near_texts (fun vs H Q E h => ?_) (fun cdv A outer s H vs Q E hr h => ?_)
  · obtain ⟨p, z, rfl, _⟩ := h; rfl
  · obtain ⟨p, z, rfl, hn, hd, q⟩ := h
    refine ⟨_, (pss_cons (ps_par (i := 2) (j := 3) (by rfl) sc_law_near_texts.nd rfl rfl (by decide) rfl rfl (pa_cons (pe_call G_law_roll (hr.mono (by decide)) (by rfl) T.g_law_roll T.F_law_roll.kp T.b_law_roll .nil pass0 (pa_cons (pv 0) (pa_cons (pe_callB call_len_str (by rfl) T.z_len PySem.boot_len (pa_cons (pv 1) pa_nil)) pa_nil))) (pa_cons (pe_split (pv 1) pe_str) pa_nil)) (by rfl))
  (pss_cons (ps_set (i := 4) sc_law_near_texts.nd rfl (.inl rfl) (pe_call G_law_pick (hr.mono (by decide)) (by rfl) T.g_law_pick T.F_law_pick.kp T.b_law_pick .nil pass0 (pa_cons (pv 0) (pa_cons (pe_callTy (Tx.c_listStr rfl) (by rfl) T.z_list (by decide +kernel) (pa_cons pe_str pa_nil)) pa_nil))))
  (pss_cons (ps_set (i := 5) sc_law_near_texts.nd rfl (.inl rfl) (pe_lst (pa_cons (pe_op op_add_str (pe_op op_add_str (pe_slice sl_str (pv 1) po_none (po_some (pv 2))) (pv 4)) (pe_slice sl_str (pv 1) (po_some (pe_op op_add (pv 2) pe_int)) po_none)) (pa_cons (pe_op op_add_str (pe_slice sl_str (pv 1) po_none (po_some (pv 2))) (pe_slice sl_str (pv 1) (po_some (pe_op op_add (pv 2) pe_int)) po_none)) (pa_cons (pe_op op_add_str (pe_op op_add_str (pe_slice sl_str (pv 1) po_none (po_some (pv 2))) (pv 4)) (pe_slice sl_str (pv 1) (po_some (pv 2)) po_none)) (pa_cons (pe_op op_add_str (pv 1) (pv 4)) (pa_cons (pe_op op_add_str (pv 4) (pv 1)) pa_nil)))))))
  (pss_cons (ps_set (i := 6) sc_law_near_texts.nd rfl (.inl rfl) (pe_call G_law_roll (hr.mono (by decide)) (by rfl) T.g_law_roll T.F_law_roll.kp T.b_law_roll .nil pass0 (pa_cons (pv 0) (pa_cons (pe_callB c_len (by rfl) T.z_len PySem.boot_len (pa_cons (pv 3) pa_nil)) pa_nil))))
  (pss_cons (ps_set (i := 7) sc_law_near_texts.nd rfl (.inl rfl) (pe_op op_cat (pe_slice sl_list (pv 3) po_none (po_some (pe_op op_add (pv 6) pe_int))) (pe_slice sl_list (pv 3) (po_some (pv 6)) po_none)))
  (pss_cons (ps_expr (pe_bm PySem.F.plainAttrs_list PySem.F.slot_list_append PySem.F.type_list_append mt_append (pv 5) (pa_cons (pe_join pe_str (pv 7)) pa_nil)))
  (pss_cons (ps_expr (pe_bm PySem.F.plainAttrs_list PySem.F.slot_list_append PySem.F.type_list_append mt_append (pv 5) (pa_cons (pe_join pe_str (pe_op op_cat (pe_slice sl_list (pv 3) po_none (po_some pe_int)) (pe_revL (pe_slice sl_list (pv 3) (po_some pe_int) po_none)))) pa_nil)))
  (pss_cons (ps_set (i := 8) sc_law_near_texts.nd rfl (.inl rfl) (pe_split (pv 1) pe_str))
  (pss_cons (ps_set (i := 9) sc_law_near_texts.nd rfl (.inl rfl) (pe_call G_law_roll (hr.mono (by decide)) (by rfl) T.g_law_roll T.F_law_roll.kp T.b_law_roll .nil pass0 (pa_cons (pv 0) (pa_cons (pe_callB c_len (by rfl) T.z_len PySem.boot_len (pa_cons (pv 8) pa_nil)) pa_nil))))
  (pss_cons (ps_set (i := 10) sc_law_near_texts.nd rfl (.inl rfl) (pe_call G_law_pick (hr.mono (by decide)) (by rfl) T.g_law_pick T.F_law_pick.kp T.b_law_pick .nil pass0 (pa_cons (pv 0) (pa_cons (pe_lst (pa_cons pe_str (pa_cons pe_str (pa_cons pe_str (pa_cons pe_str (pa_cons pe_str (pa_cons pe_str (pa_cons pe_str (pa_cons pe_str (pa_cons pe_str (pa_cons pe_str (pa_cons pe_str (pa_cons pe_str pa_nil))))))))))))) pa_nil))))
  (pss_one (ps_ret (pe_op op_cat (pv 5) (pe_lst (pa_cons (pe_join pe_str (pe_op op_cat (pe_op op_cat (pe_slice sl_list (pv 8) po_none (po_some (pv 9))) (pe_lst (pa_cons (pv 10) pa_nil))) (pe_slice sl_list (pv 8) (po_some (pe_op op_add (pv 9) pe_int)) po_none))) (pa_cons (pe_join pe_str (pe_op op_cat (pe_slice sl_list (pv 8) po_none (po_some (pv 9))) (pe_slice sl_list (pv 8) (po_some (pe_op op_add (pv 9) pe_int)) po_none))) (pa_cons (pe_op op_add_str (pv 1) pe_str) (pa_cons (pe_m0 PySem.F.slot_str_upper PySem.F.type_str_upper mt_upper (pv 1)) pa_nil)))))))))))))))))), ?_⟩
    have hzl := hn.len
    have hpos := hn.pos
    have hlA := lenAll_split 59 z
    have hlB := lenAll_split 32 z
    have hzw : z.length ≤ 100000 := by omega
    obtain ⟨q0, qr, hsp⟩ := splitL_ne 59 z
    obtain ⟨w0, wr, hsw⟩ := splitL_ne 32 z
    have hcA : (splitL 59 z).length ≤ 2234 := by have := splitL_length 59 z; omega
    have hcB : (splitL 32 z).length ≤ 2234 := by have := splitL_length 32 z; omega
    have hA0 : 0 < (splitL 59 z).length := by rw [hsp]; simp
    have hB0 : 0 < (splitL 32 z).length := by rw [hsw]; simp
    have big : ∀ n : Nat, n ≤ 100000 → ((n : Int)).natAbs < 2 ^ 400 := fun n h => by omega
    refine q_parDvL (p := p) (R := fun v => ∃ r : Int, v = .int r ∧ 0 ≤ r ∧ r < (z.length : Int)) (xs := (splitL 59 z).map vS) (dv_roll (m := (z.length : Int)) rfl (fun H1 => ev_cb (vs := [vS z]) (by walk_at "ea") (rc_lenV hzw)) (by omega) (big _ hzw)) hd (fun H1 _ => el_split (by decide) (ev_var rfl) (fun _ _ => ev_is ev_c s_semi) hzw) fun v lp H1 ⟨r, hv, r0, r1⟩ hlpp e1 d1 hlp => ?_
    obtain ⟨at', rfl⟩ : ∃ k : Nat, r = k := ⟨r.toNat, by omega⟩
    subst hv
    refine q_asgDv (p := p) (R := fun v => ∃ c : Nat, v = vS [c] ∧ c < 128) ((dv_pickL (xs := (Str.ofString "0019-+ ;azA_.").cps.toList.map fun c => vS [c]) (R := fun v => v ∈ (Str.ofString "0019-+ ;azA_.").cps.toList.map fun c => vS [c]) rfl (fun H1 _ _ => el_listS (ev_is ev_c (kd_vS _)) (by decide +kernel)) (fun l H1 _ _ hl h => ⟨l, _, rfl, hl, sq_of h, by rw [List.length_map]; decide +kernel, by rw [List.length_map]; decide +kernel, rfl⟩)).mono fun v hv => by
      obtain ⟨c, hc, rfl⟩ := List.mem_map.mp hv
      exact ⟨c, rfl, (show ∀ c ∈ (Str.ofString "0019-+ ;azA_.").cps.toList, c < 128 by decide +kernel) c hc⟩) d1 fun v H2 ⟨c, hv, hc⟩ e2 d2 => ?_
    subst hv
    have i0 : ∀ {σ : L2.St} {H : Hp}, σ[2]? = some (some (V.int (at' : Int))) → Ev (tVar 2) σ H (.int ((at' : Nat) : Int)) := fun h => ev_var h
    have i1 : ∀ {σ : L2.St} {H : Hp}, σ[2]? = some (some (V.int (at' : Int))) → Ev (tOp (rI0 fun i j => V.int (i + j)) (tVar 2) (tC (.int 1))) σ H (.int ((at' + 1 : Nat) : Int)) := fun h => ev_is (ev_op (ev_var h) ev_c rv_I0) (succ_int at')
    have tl : (z.take at').length ≤ z.length := by rw [List.length_take]; omega
    have dl : ∀ k, (z.drop k).length ≤ z.length := fun k => by rw [List.length_drop]; omega
    refine q_asgL (xs := [(z.take at' ++ [c]) ++ z.drop (at' + 1), z.take at' ++ z.drop (at' + 1), (z.take at' ++ [c]) ++ z.drop at', z ++ [c], [c] ++ z].map vS) (el_lst (ea_cons (ev_plus (ev_plus (ev_takeS (ev_var rfl) (fun _ _ => i0 rfl) hzw) (ev_var rfl) (by simp; omega)) (ev_dropS (ev_var rfl) (fun _ _ => i1 rfl) hzw) (by simp; omega)) (ea_cons (ev_plus (ev_takeS (ev_var rfl) (fun _ _ => i0 rfl) hzw) (ev_dropS (ev_var rfl) (fun _ _ => i1 rfl) hzw) (by simp; omega)) (ea_cons (ev_plus (ev_plus (ev_takeS (ev_var rfl) (fun _ _ => i0 rfl) hzw) (ev_var rfl) (by simp; omega)) (ev_dropS (ev_var rfl) (fun _ _ => i0 rfl) hzw) (by simp; omega)) (ea_cons (ev_plus (ev_var rfl) (ev_var rfl) (by simp; omega)) (ea_cons (ev_plus (ev_var rfl) (ev_var rfl) (by simp; omega)) ea_nil))))) (by show 5 ≤ 100000; decide)) fun lf H3 hf e3 h3 => ?_
    have d3 := d2.ex e3
    have hfp : lf ≠ p := d2.ne hf
    have hlp2 := e2 _ _ hlpp hlp
    have hlpf : lp ≠ lf := fun y => by rw [← y, hlp2] at hf; cases hf
    have hlp3 := e3 _ _ hlp2
    refine q_asgDv (p := p) (R := fun v => ∃ r : Int, v = .int r ∧ 0 ≤ r ∧ r < (((splitL 59 z).map vS).length : Int)) (dv_call (vs := [.ref p, .int (((splitL 59 z).map vS).length : Int)]) (fun H4 e4 _ => ea_cons (ev_var rfl) (ea_cons (ev_cb (vs := [.ref lp]) (by walk_at "ea") (rc_lenL (sq_of (e4 _ _ hlpp hlp3)))) ea_nil)) (fun H4 _ _ => ⟨_, rfl, by rw [List.length_map]; omega, big _ (by rw [List.length_map]; omega), rfl⟩)) d3 fun v H4 ⟨r, hv, pl0, pl1⟩ e4 d4 => ?_
    obtain ⟨k, rfl⟩ : ∃ k : Nat, r = k := ⟨r.toNat, by omega⟩
    subst hv
    rw [List.length_map] at pl1
    have hlp4 := e4 _ _ hlpp hlp3
    have htw : lenAll ((splitL 59 z).take (k + 1) ++ (splitL 59 z).drop k) ≤ 2427 := by
      rw [lenAll_app]
      have h1 : (splitL 59 z)[k]? = some ((splitL 59 z)[k]'(by omega)) := List.getElem?_eq_getElem (by omega)
      have h2 := hn.part _ (List.mem_of_getElem? h1)
      rw [take_succ h1, lenAll_app]
      have h3 := lenAll_cut k (splitL 59 z)
      have h4 : lenAll [(splitL 59 z)[k]'(by omega)] = ((splitL 59 z)[k]'(by omega)).length + 1 := by rw [lenAll_cons]; rfl
      omega
    refine q_asgL (xs := ((splitL 59 z).take (k + 1) ++ (splitL 59 z).drop k).map vS) (by
      rw [List.map_append]
      exact el_cat (el_takeW (ev_var rfl) (ev_is (ev_op (ev_var rfl) ev_c rv_I0) (succ_int k)) (sq_of hlp4)) (el_dropW (ev_var rfl) (ev_var rfl) (sq_of hlp4)) (by simp only [List.length_map, List.length_take, List.length_drop]; omega)) fun lt H5 ht e5 h5 => ?_
    have d5 := d4.ex e5
    have hf4 := e4 _ _ hfp h3
    refine q_app (v := vS (joinL 59 ((splitL 59 z).take (k + 1) ++ (splitL 59 z).drop k))) (e5 _ _ hf4) (ev_var rfl) (ev_joinV (c := 59) (ev_is ev_c s_semi) (fun _ _ => ev_var rfl) (sq_of h5) (by omega)) (by show 5 < 100000; decide) fun H6 e6 => ?_
    have hf6 := e6 _ _ (e5 _ _ hf4)
    have e46 := e5.trans e6
    generalize hX7 : upd H6 lf (.lst (_ ++ [_])) = H7
    have hf7 : H7 lf = some (.lst (([(z.take at' ++ [c]) ++ z.drop (at' + 1), z.take at' ++ z.drop (at' + 1), (z.take at' ++ [c]) ++ z.drop at', z ++ [c], [c] ++ z] ++ [joinL 59 ((splitL 59 z).take (k + 1) ++ (splitL 59 z).drop k)]).map vS)) := by
      rw [← hX7, upd_same, List.map_append]
      rfl
    have x67 : Exd lf H6 H7 := by rw [← hX7]; exact Exd.upd
    have hlp7 := x67 _ _ hlpf (e46 _ _ hlp4)
    have htw2 : lenAll ((splitL 59 z).take 1 ++ ((splitL 59 z).drop 1).reverse) ≤ 2234 := by
      rw [lenAll_app, lenAll_rev, lenAll_cut]
      omega
    refine q_app (v := vS (joinL 59 ((splitL 59 z).take 1 ++ ((splitL 59 z).drop 1).reverse))) hf7 (ev_var rfl) (ev_joinN (c := 59) (ev_is ev_c s_semi) (fun H8 e8 => by
      rw [List.map_append, List.map_reverse]
      exact el_cat (el_takeW (k := 1) (ev_var rfl) ev_c (sq_of (e8 _ _ hlp7))) (el_rev (el_dropW (k := 1) (ev_var rfl) ev_c (sq_of (e8 _ _ hlp7)))) (by simp only [List.length_map, List.length_take, List.length_drop, List.length_reverse]; omega)) (by omega)) (by show 6 < 100000; decide) fun H8 e8 => ?_
    have hf8 := e8 _ _ hf7
    generalize hX9 : upd H8 lf (.lst (_ ++ [_])) = H9
    have x89 : Exd lf H8 H9 := by rw [← hX9]; exact Exd.upd
    have hf9 : H9 lf = some (.lst (([(z.take at' ++ [c]) ++ z.drop (at' + 1), z.take at' ++ z.drop (at' + 1), (z.take at' ++ [c]) ++ z.drop at', z ++ [c], [c] ++ z] ++ [joinL 59 ((splitL 59 z).take (k + 1) ++ (splitL 59 z).drop k)] ++ [joinL 59 ((splitL 59 z).take 1 ++ ((splitL 59 z).drop 1).reverse)]).map vS)) := by
      rw [← hX9, upd_same, List.map_append]
      rfl
    have dup : ∀ {H2 H3 : Hp}, Exd lf H2 H3 → Dice p H2 → Dice p H3 := fun {H2 H3} x d => by
      obtain ⟨a, b, c, h⟩ := d
      exact ⟨a, b, c, x _ _ (Ne.symm hfp) h⟩
    have d9 := dup x89 ((dup x67 (d5.ex e6)).ex e8)
    -- all but p and lf as it was
    have hH4 : Exd p H H4 := ((e1.trans e2).trans (Exd.of e3)).trans e4
    have hH9 : Exd p H H9 := fun a u ha hu => by
      have hal : a ≠ lf := fun y => by
        have := ((e1.trans e2) _ _ ha hu)
        rw [y, hf] at this
        cases this
      exact x89 _ _ hal (e8 _ _ (x67 _ _ hal (e46 _ _ (hH4 _ _ ha hu))))
    refine q_asgL (xs := (splitL 32 z).map vS) (el_split (by decide) (ev_var rfl) (fun _ _ => ev_is ev_c s_blank) hzw) fun lw H10 hw e10 h10 => ?_
    have d10 := d9.ex e10
    have hwp : lw ≠ p := d9.ne hw
    refine q_asgDv (p := p) (R := fun v => ∃ r : Int, v = .int r ∧ 0 ≤ r ∧ r < (((splitL 32 z).map vS).length : Int)) (dv_call (vs := [.ref p, .int (((splitL 32 z).map vS).length : Int)]) (fun H4 e4 _ => ea_cons (ev_var rfl) (ea_cons (ev_cb (vs := [.ref lw]) (by walk_at "ea") (rc_lenL (sq_of (e4 _ _ hwp h10)))) ea_nil)) (fun H4 _ _ => ⟨_, rfl, by rw [List.length_map]; omega, big _ (by rw [List.length_map]; omega), rfl⟩)) d10 fun v H11 ⟨r, hv, sp0, sp1⟩ e11 d11 => ?_
    obtain ⟨s', rfl⟩ : ∃ k : Nat, r = k := ⟨r.toNat, by omega⟩
    subst hv
    refine q_asgDv (p := p) (R := fun v => v ∈ newWords) (dv_pickL (xs := newWords) (R := fun v => v ∈ newWords) rfl (fun H1 _ _ => el_lst (by unfold newWords; walk_at "ea") (by decide)) (fun l H1 _ _ hl h => ⟨l, _, rfl, hl, sq_of h, by decide, by decide, rfl⟩)) d11 fun v H12 hv e12 d12 => ?_
    obtain ⟨nw, rfl, nwl, nwlow⟩ := new_word hv
    have e1012 := e11.trans e12
    have hw12 := e1012 _ _ hwp h10
    have hf12 := e1012 _ _ hfp (e10 _ _ hf9)
    have hcutB := lenAll_cut s' (splitL 32 z)
    have hdrB : lenAll ((splitL 32 z).drop (s' + 1)) ≤ lenAll ((splitL 32 z).drop s') := by
      cases hd' : (splitL 32 z).drop s' with
      | nil =>
        rw [← List.drop_drop, hd']
        exact Nat.le_refl _
      | cons a r =>
        rw [← List.drop_drop, hd', lenAll_cons]
        show lenAll r ≤ _
        omega
    have h8w : lenAll (((splitL 32 z).take s' ++ [nw]) ++ (splitL 32 z).drop (s' + 1)) ≤ 2246 := by
      rw [lenAll_app, lenAll_app]
      have : lenAll [nw] = nw.length + 1 := by rw [lenAll_cons]; rfl
      omega
    have h9w : lenAll ((splitL 32 z).take s' ++ (splitL 32 z).drop (s' + 1)) ≤ 2246 := by
      rw [lenAll_app]
      omega
    have hup : Txt.upper (S z) = S (z.map up) := upper_S hn.low
    refine s_retL (xs := ([(z.take at' ++ [c]) ++ z.drop (at' + 1), z.take at' ++ z.drop (at' + 1), (z.take at' ++ [c]) ++ z.drop at', z ++ [c], [c] ++ z] ++ [joinL 59 ((splitL 59 z).take (k + 1) ++ (splitL 59 z).drop k)] ++ [joinL 59 ((splitL 59 z).take 1 ++ ((splitL 59 z).drop 1).reverse)] ++ [joinL 32 (((splitL 32 z).take s' ++ [nw]) ++ (splitL 32 z).drop (s' + 1)), joinL 32 ((splitL 32 z).take s' ++ (splitL 32 z).drop (s' + 1)), z ++ [10], z.map up]).map vS) ?_ fun lr H13 hlr e13 h13 => ?_
    · rw [List.map_append]
      refine el_catVL (ev_var rfl) hf12 (fun H13 e13 => el_lst (ea_cons (ev_joinN (c := 32) (ev_is ev_c s_blank) (fun H14 e14 => ?_) (by omega)) (ea_cons (ev_joinN (c := 32) (ev_is ev_c s_blank) (fun H14 e14 => ?_) (by omega)) (ea_cons (ev_plus (ev_var rfl) (b := [10]) (ev_is ev_c (by decide +kernel)) (by simp; omega)) (ea_cons (ev_is (ev_m0 (z := .str (Txt.upper (S z))) (ev_var rfl) fun H1 Q q => ⟨S z, rfl, rfl, by rw [S_len]; omega, q⟩) (by rw [hup])) ea_nil)))) (by show 4 ≤ 100000; decide)) (by simp)
      · rw [List.map_append, List.map_append]
        exact el_cat (el_cat (el_takeW (ev_var rfl) (ev_var rfl) (sq_of (e14 _ _ (e13 _ _ hw12)))) (el_lst (ea_cons (ev_var rfl) ea_nil) (by show 1 ≤ 100000; decide)) (by simp only [List.length_map, List.length_take, List.length_cons, List.length_nil]; omega)) (el_dropW (ev_var rfl) (ev_is (ev_op (ev_var rfl) ev_c rv_I0) (succ_int s')) (sq_of (e14 _ _ (e13 _ _ hw12)))) (by simp only [List.length_map, List.length_take, List.length_append, List.length_drop, List.length_cons, List.length_nil]; omega)
      · rw [List.map_append]
        exact el_cat (el_takeW (ev_var rfl) (ev_var rfl) (sq_of (e14 _ _ (e13 _ _ hw12)))) (el_dropW (ev_var rfl) (ev_is (ev_op (ev_var rfl) ev_c rv_I0) (succ_int s')) (sq_of (e14 _ _ (e13 _ _ hw12)))) (by simp only [List.length_map, List.length_take, List.length_drop]; omega)
    · refine q lr _ H13 ?_ (by simp) ?_ ?_ ?_ h13
      · have rz := hn.runs
        have lz := hn.low
        have rt : ∀ k, Runs 63 (z.take k) := fun k => rz.inf (List.take_prefix ..).isInfix
        have rd : ∀ k, Runs 63 (z.drop k) := fun k => rz.inf (List.drop_suffix ..).isInfix
        have lt' : ∀ k, Low (z.take k) := fun k => lz.infix (List.take_prefix ..).isInfix
        have ld : ∀ k, Low (z.drop k) := fun k => lz.infix (List.drop_suffix ..).isInfix
        have r1 : Runs 1 [c] := runs_len (Nat.le_refl _)
        have lc := low_one hc
        have pA : ∀ q ∈ splitL 59 z, Runs 63 q ∧ Low q := fun q h => ⟨rz.inf (splitL_infix 59 z q h), lz.infix (splitL_infix 59 z q h)⟩
        have pB : ∀ q ∈ splitL 32 z, Runs 63 q ∧ Low q := fun q h => ⟨rz.inf (splitL_infix 32 z q h), lz.infix (splitL_infix 32 z q h)⟩
        intro l hl
        simp only [List.mem_append, List.mem_cons, List.not_mem_nil, or_false] at hl
        rcases hl with ((((rfl | rfl | rfl | rfl | rfl) | rfl) | rfl) | rfl | rfl | rfl | rfl)
        · exact text_ok (by simp; omega) (low_app (low_app (lt' _) lc) (ld _)) (((rt _).app r1).app (rd _)) (by decide)
        · exact text_ok (by simp; omega) (low_app (lt' _) (ld _)) ((rt _).app (rd _)) (by decide)
        · exact text_ok (by simp; omega) (low_app (low_app (lt' _) lc) (ld _)) (((rt _).app r1).app (rd _)) (by decide)
        · exact text_ok (by simp; omega) (low_app lz lc) (rz.app r1) (by decide)
        · exact text_ok (by simp; omega) (low_app lc lz) (r1.app rz) (by decide)
        · have hm : ∀ q ∈ (splitL 59 z).take (k + 1) ++ (splitL 59 z).drop k, q ∈ splitL 59 z := fun q h => (List.mem_append.mp h).elim List.mem_of_mem_take List.mem_of_mem_drop
          exact text_ok (Nat.le_trans (joinL_le ..) (by omega)) (low_join (by decide) fun q h => (pA q (hm q h)).2) (Runs.join (.inr rfl) fun q h => (pA q (hm q h)).1) (by decide)
        · have hm : ∀ q ∈ (splitL 59 z).take 1 ++ ((splitL 59 z).drop 1).reverse, q ∈ splitL 59 z := fun q h => (List.mem_append.mp h).elim List.mem_of_mem_take fun y => List.mem_of_mem_drop (List.mem_reverse.mp y)
          exact text_ok (Nat.le_trans (joinL_le ..) (by omega)) (low_join (by decide) fun q h => (pA q (hm q h)).2) (Runs.join (.inr rfl) fun q h => (pA q (hm q h)).1) (by decide)
        · have hm : ∀ q ∈ ((splitL 32 z).take s' ++ [nw]) ++ (splitL 32 z).drop (s' + 1), Runs 63 q ∧ Low q := fun q h => by
            rcases List.mem_append.mp h with h | h
            · rcases List.mem_append.mp h with h | h
              · exact pB q (List.mem_of_mem_take h)
              · rw [List.mem_singleton.mp h]
                exact ⟨runs_len (by omega), nwlow⟩
            · exact pB q (List.mem_of_mem_drop h)
          exact text_ok (Nat.le_trans (joinL_le ..) (by omega)) (low_join (by decide) fun q h => (hm q h).2) (Runs.join (.inl rfl) fun q h => (hm q h).1) (by decide)
        · have hm : ∀ q ∈ (splitL 32 z).take s' ++ (splitL 32 z).drop (s' + 1), q ∈ splitL 32 z := fun q h => (List.mem_append.mp h).elim List.mem_of_mem_take List.mem_of_mem_drop
          exact text_ok (Nat.le_trans (joinL_le ..) (by omega)) (low_join (by decide) fun q h => (pB q (hm q h)).2) (Runs.join (.inl rfl) fun q h => (pB q (hm q h)).1) (by decide)
        · exact text_ok (by simp; omega) (low_app lz (low_one (by decide))) (rz.app (runs_len (z := [10]) (n := 1) (Nat.le_refl _))) (by decide)
        · exact text_ok (by simp; omega) (low_up lz) (runs_up rz) (by decide)
      · exact fun y => by
          rw [y] at hlr
          exact (d12.ne hlr) rfl
      · exact ((hH9.trans (Exd.of e10)).trans e1012).trans (Exd.of e13)
      · exact d12.ex e13
end
end Kz
set_option Elab.async false
set_option linter.all false
set_option maxRecDepth 100000
set_option maxHeartbeats 4000000
set_option exponentiation.threshold 500
namespace Kz
open PySem PySem.Spec PyProof.Rows L2 Evl Vr
local macro_rules | `(tactic| walk_at "sc") => `(tactic| first | (with_reducible assumption) | (with_reducible exact sc_mul (by omega)) | (with_reducible exact sc_mulr (by omega)) | (with_reducible exact sc_div (by omega) (by decide)) | (show (0 : Int) < _; omega) | (show _ ≠ (0 : Int); omega) | (with_reducible rfl) | decide)
local macro_rules | `(tactic| walk_at "sq") => `(tactic| first | assumption | exact sq_of (by assumption) | exact st_of (by assumption))
local macro_rules | `(tactic| walk_at "pl") => `(tactic| first | assumption | exact pl_int | exact pl_bl | exact pl_str | exact pl_non | exact pl_lst (by assumption) | exact pl_tup (by assumption) | exact pl_dK (by assumption))
local macro_rules | `(tactic| walk_at "rv") => `(tactic| first
  | with_reducible exact rv_I0
  | with_reducible exact ru_neg
  | ((with_reducible apply rv_I); walk_at "sc")
  | ((with_reducible apply rv_ixL); walk_at "sq"; first | rfl | assumption)
  | ((with_reducible apply rv_ixT); walk_at "sq"; first | rfl | assumption)
  | ((with_reducible apply rv_eq); rfl) | ((with_reducible apply rv_ne); rfl))
local macro_rules | `(tactic| walk_at "rc") => `(tactic| first
  | with_reducible exact rc_I1 | with_reducible exact rc_B1 | with_reducible exact rc_I2 | ((with_reducible apply rc_repr); walk_at "sc") | ((with_reducible apply rc_lenL); walk_at "sq")
  | ((with_reducible apply rc_isiInt); walk_at "pl") | ((with_reducible apply rc_isiBool); walk_at "pl"))
local macro_rules | `(tactic| walk_at "ea") => `(tactic| first
  | with_reducible exact ea_nil | ((with_reducible apply ea_cons); walk_at "ev"; walk_at "ea"))
local macro_rules | `(tactic| walk_at "pow") => `(tactic| first
  | with_reducible exact ev_pow (a := 10) (b := 9) (c := 1000000000) (by decide +kernel) (by decide +kernel)
  | with_reducible exact ev_pow (a := 10) (b := 10) (c := 10000000000) (by decide +kernel) (by decide +kernel)
  | with_reducible exact ev_pow (a := 10) (b := 12) (c := 1000000000000) (by decide +kernel) (by decide +kernel)
  | with_reducible exact ev_pow (a := 10) (b := 17) (c := 100000000000000000) (by decide +kernel) (by decide +kernel)
  | with_reducible exact ev_pow (a := 10) (b := 20) (c := 100000000000000000000) (by decide +kernel) (by decide +kernel)
  | with_reducible exact ev_pow (a := 10) (b := 29) (c := 100000000000000000000000000000) (by decide +kernel) (by decide +kernel)
  | with_reducible exact ev_pow (a := 10) (b := 30) (c := 1000000000000000000000000000000) (by decide +kernel) (by decide +kernel)
  | with_reducible exact ev_pow (a := 10) (b := 40) (c := 10000000000000000000000000000000000000000) (by decide +kernel) (by decide +kernel)
  | with_reducible exact ev_pow (a := 10) (b := 57) (c := 1000000000000000000000000000000000000000000000000000000000) (by decide +kernel) (by decide +kernel)
  | with_reducible exact ev_pow (a := 10) (b := 58) (c := 10000000000000000000000000000000000000000000000000000000000) (by decide +kernel) (by decide +kernel)
  | with_reducible exact ev_pow (a := 10) (b := 59) (c := 100000000000000000000000000000000000000000000000000000000000) (by decide +kernel) (by decide +kernel)
  | with_reducible exact ev_pow (a := 10) (b := 60) (c := 1000000000000000000000000000000000000000000000000000000000000) (by decide +kernel) (by decide +kernel))
local macro_rules | `(tactic| walk_at "call") => `(tactic| (intro H9 e9; first | exact ⟨_, rfl, rfl⟩ | exact ⟨_, _, rfl, rfl⟩ | exact ⟨_, _, _, rfl, rfl⟩ | exact ⟨_, rfl, by walk_at "pl", rfl⟩ | (refine ⟨_, _, _, rfl, ?_, rfl⟩; first | exact Plain.ex e9 (by assumption) | walk_at "pl") | (refine ⟨_, rfl, ?_, rfl⟩; first | exact Plain.ex e9 (by assumption) | walk_at "pl")))
local macro_rules | `(tactic| walk_at "ev") => `(tactic| first
  | with_reducible exact ev_c
  | exact ev_var rfl
  | walk_at "pow"
  | ((with_reducible apply ev_op); walk_at "ev"; walk_at "ev"; walk_at "rv")
  | ((with_reducible apply ev_un); walk_at "ev"; walk_at "rv")
  | ((with_reducible apply ev_cb); walk_at "ea"; walk_at "rc")
  | ((with_reducible apply ev_callP); walk_at "ea"; walk_at "call")
  | ((with_reducible apply ev_chain); walk_at "ev"; walk_at "ev"; walk_at "rv"; walk_at "ev"; walk_at "rv")
  | ((with_reducible apply ev_andV); walk_at "ev"; intro _; walk_at "ev")
  | ((with_reducible apply ev_orV); walk_at "ev"; intro _; walk_at "ev")
  | ((with_reducible apply ev_ite); walk_at "et"; intro _; walk_at "ev"; intro _; walk_at "ev")
  | ((with_reducible apply ev_notV); walk_at "ev"))
local macro_rules | `(tactic| walk_at "et") => `(tactic| first
  | ((with_reducible apply et_test); walk_at "ev")
  | ((with_reducible apply et_B); walk_at "ev")
  | ((with_reducible apply et_and); walk_at "et"; intro _; walk_at "et")
  | ((with_reducible apply et_or); walk_at "et"; intro _; walk_at "et")
  | ((with_reducible apply et_not); walk_at "et"))
open En Wo Tx NumText
theorem exm_iw {K : PySem.W.Frag} {C : Addr} (h1 : PySem.W.subIn K (.ref C) (.type "BaseException") = some true) (h2 : PySem.W.isClsIn K C = true) (h3 : PySem.W.typeIn K (.ref C) = some (.type "type")) (h4 : PySem.W.subIn K (.ref C) (.ref C) = some true) : PySem.W.exmOne K (.ref C) (.ref C) = some true := by
  unfold PySem.W.isClsIn at h2
  unfold PySem.W.exmOne PySem.W.kitCls
  rw [h1]
  simp [h2, h3, h4]
def spTold (K : PySem.W.Frag) : Sp := fun vs H Q _ => ∃ (x : V) (z : List Nat), vs = [x] ∧ (x = vS z ∨ (z = [] ∧ RC (rIsi K) [x, .ty "str"] H (.bl false))) ∧ TextOk z ∧ (worldP z = none → ∀ H', Ex H H' → Q .non H') ∧ ∀ W, worldP z = some W → ∀ p H', H p = none → Ex H H' → PlAt K H' p W → Q (.ref p) H'
theorem PlAt.tl {K : PySem.W.Frag} {H H' : Hp} {q a : Addr} {W : Wd} {ys : List V} (e : Exd q H H') (hq : H q = some (.lst ys)) (h : PlAt K H a W) : PlAt K H' a W := by
  obtain ⟨aT, h1, rs, h2, h3⟩ := h
  exact ⟨aT, e.tlst hq h1, rs, e.tlst hq h2, h3.tl e hq⟩
theorem PlAt.dc {K : PySem.W.Frag} {H H' : Hp} {p a : Addr} {W : Wd} (e : Exd p H H') (d : Dice p H) (h : PlAt K H a W) : PlAt K H' a W := by
  obtain ⟨x, y, z, hp⟩ := d
  exact h.tl e hp
theorem allP_kds : ∀ {ps : List (List Nat)} {ts : List Tg}, allP ps = some ts → KdsOk ts
  | [], ts, h => by
    cases h
    intro t ht
    cases ht
  | p :: ps, ts, h => by
    rw [allP_cons] at h
    split at h
    · rename_i g gs h1 h2
      cases h
      intro t ht
      rcases List.mem_cons.mp ht with rfl | ht
      · exact thingP_kd h1
      · exact allP_kds h2 t ht
    · cases h
theorem worldP_kds {z : List Nat} {W : Wd} (h : worldP z = some W) : KdsOk W.ts := by
  unfold worldP at h
  split at h
  · cases h
  · split at h
    · split at h
      · cases h
      · rename_i hA
        split at h
        · cases h
          exact allP_kds hA
        · cases h
    · cases h
def datO : Option Wd → PyData
  | none => .none
  | some W => W.dat
theorem datO_shaped {z : List Nat} : SeqAt.shaped (datO (worldP z)) = true := by
  cases h : worldP z with
  | none => decide
  | some W => exact shaped_wd (worldP_kds h)
theorem datO_eqv (o : Option Wd) : PyData.eqv (datO o) (datO o) = true := by
  cases o with
  | none => rfl
  | some W =>
    show PyData.eqv W.dat W.dat = true
    rw [eqv_wd]
    simp
theorem near_ok {z : List Nat} (h : NearOk z) : TextOk z := text_ok (by have := h.len; omega) h.low h.runs (by decide)
/-- other values -/
def OddV (p : Addr) (H : Hp) (v : V) : Prop := v = .non ∨ v = .int 0 ∨ v = .str "" ∨ v = .bl true ∨ ∃ a, v = .ref a ∧ a ≠ p ∧ ((∃ xs, H a = some (.tup xs)) ∨ (∃ xs, H a = some (.lst xs)) ∨ ∃ kvs, H a = some (.dK kvs))
theorem OddV.exd {p : Addr} {H H' : Hp} {v : V} (e : Exd p H H') (h : OddV p H v) : OddV p H' v := by
  rcases h with h | h | h | h | ⟨a, h, hp, h2⟩
  · exact .inl h
  · exact .inr (.inl h)
  · exact .inr (.inr (.inl h))
  · exact .inr (.inr (.inr (.inl h)))
  · refine .inr (.inr (.inr (.inr ⟨a, h, hp, ?_⟩)))
    rcases h2 with ⟨xs, h2⟩ | ⟨xs, h2⟩ | ⟨xs, h2⟩
    · exact .inl ⟨xs, e _ _ hp h2⟩
    · exact .inr (.inl ⟨xs, e _ _ hp h2⟩)
    · exact .inr (.inr ⟨xs, e _ _ hp h2⟩)
theorem OddV.no {K : PySem.W.Frag} {p : Addr} {H : Hp} {v : V} (h : OddV p H v) : v = vS [] ∨ (([] : List Nat) = [] ∧ RC (rIsi K) [v, .ty "str"] H (.bl false)) := by
  rcases h with rfl | rfl | rfl | rfl | ⟨a, rfl, hp, h2⟩
  · exact .inr ⟨rfl, fun H1 e Q q => ⟨.non, .ty "str", .type "NoneType", .type "str", false, rfl, .ty _, .base .non, kit_ty (r := false) (by decide +kernel), q H1 (Ex.refl H1)⟩⟩
  · exact .inr ⟨rfl, fun H1 e Q q => ⟨.int 0, .ty "str", .type "int", .type "str", false, rfl, .ty _, .base (.int 0), kit_ty (r := false) (by decide +kernel), q H1 (Ex.refl H1)⟩⟩
  · exact .inl s_empty
  · exact .inr ⟨rfl, fun H1 e Q q => ⟨.bl true, .ty "str", .type "bool", .type "str", false, rfl, .ty _, .base (.bl true), kit_ty (r := false) (by decide +kernel), q H1 (Ex.refl H1)⟩⟩
  · rcases h2 with ⟨xs, h2⟩ | ⟨xs, h2⟩ | ⟨xs, h2⟩
    · exact .inr ⟨rfl, fun H1 e Q q => ⟨.ref a, .ty "str", .type "tuple", .type "str", false, rfl, .ty _, .base (.tup (e _ _ h2)), kit_ty (r := false) (by decide +kernel), q H1 (Ex.refl H1)⟩⟩
    · exact .inr ⟨rfl, fun H1 e Q q => ⟨.ref a, .ty "str", .type "list", .type "str", false, rfl, .ty _, .base (.lst (e _ _ h2)), kit_ty (r := false) (by decide +kernel), q H1 (Ex.refl H1)⟩⟩
    · exact .inr ⟨rfl, fun H1 e Q q => ⟨.ref a, .ty "str", .type "dict", .type "str", false, rfl, .ty _, .base (.dK (e _ _ h2)), kit_ty (r := false) (by decide +kernel), q H1 (Ex.refl H1)⟩⟩
theorem textOk_nil : TextOk [] := ⟨by decide, (fun _ h => by cases h), fun p hp w hw => by
  have h1 := (splitL_infix 59 [] p hp).length_le
  have h2 := (splitL_infix 32 p w hw).length_le
  exact Nat.le_trans h2 (Nat.le_trans h1 (by decide))⟩
section
variable {σ : L2.St} {H H' : Hp} {te ta tb : TE} {ts tr : TA} {tz tu : TS} {D : Ends} {K : PySem.W.Frag} {C p : Addr} {W : Wd}
def DvO (p : Addr) (te : TE) (σ : L2.St) (H : Hp) : Prop := ∀ H1, Exd p H H1 → Dice p H1 → ∀ Q : VK, (∀ v H2, OddV p H2 v → Exd p H1 H2 → Dice p H2 → Q v H2) → te σ H1 Q
def DvOA (p : Addr) (ts : TA) (n : Nat) (σ : L2.St) (H : Hp) : Prop := ∀ H1, Exd p H H1 → Dice p H1 → ∀ Q : List V → Hp → Prop, (∀ vs H2, vs.length = n → (∀ v ∈ vs, OddV p H2 v) → Exd p H1 H2 → Dice p H2 → Q vs H2) → ts σ H1 Q
theorem dvo_nil : DvOA p tNil 0 σ H := fun H1 e d Q q => q [] H1 rfl (fun _ h => by cases h) (Exd.refl p H1) d
theorem dvo_cons {n : Nat} (h : DvO p te σ H) (hr : DvOA p tr n σ H) : DvOA p (tCons te tr) (n + 1) σ H := fun H1 e d Q q =>
  h H1 e d _ fun v H2 hv e2 d2 => hr H2 (e.trans e2) d2 _ fun ws H3 hn hw e3 d3 => q (v :: ws) H3 (by rw [List.length_cons, hn]) (fun u hu => by
    rcases List.mem_cons.mp hu with rfl | hu
    · exact hv.exd e3
    · exact hw u hu) (e2.trans e3) d3
theorem dvo_c {v : V} (h : ∀ H, OddV p H v) : DvO p (tC v) σ H := fun H1 e d Q q => q v H1 (h H1) (Exd.refl p H1) d
theorem dvo_lst (h : ∀ H1, ∃ xs, EvL te σ H1 xs) : DvO p te σ H := fun H1 e d Q q => by
  obtain ⟨xs, h⟩ := h H1
  exact h H1 (Ex.refl H1) Q fun l H2 hl e2 h2 => q _ H2 (.inr (.inr (.inr (.inr ⟨l, rfl, d.ne hl, .inr (.inl ⟨xs, h2⟩)⟩)))) (Exd.of e2) (d.ex e2)
theorem dvo_dict : DvO p tDNewK σ H := fun H1 e d Q q a ha => q _ _ (.inr (.inr (.inr (.inr ⟨a, rfl, d.ne ha, .inr (.inr ⟨[], upd_same⟩)⟩)))) (Exd.of (Ex.new ha)) (d.ex (Ex.new ha))
theorem dvo_tup {P : List V → Hp → Prop} (h : ∀ H1, EvAP ts σ H1 P) (hz : ∀ vs H1, P vs H1 → vs.length ≤ 100000) : DvO p (tTup ts) σ H := fun H1 e d Q q => h H1 H1 (Ex.refl H1) _ fun vs H2 e2 hp => ⟨sz_of (hz vs H2 hp), fun a ha => by
  have d2 := d.ex e2
  exact q _ _ (.inr (.inr (.inr (.inr ⟨a, rfl, d2.ne ha, .inl ⟨vs, upd_same⟩⟩)))) (Exd.of (e2.trans (Ex.new ha))) (d2.ex (Ex.new ha))⟩
theorem dvo_pick {E : XK} {i n : Nat} (hs : σ[i]? = some (some (.ref p))) (h : DvOA p ts n σ H) (h0 : 0 < n) (hn : n ≤ 100) : DvO p (tCall (Draws (kPick K)) [] E (tCons (tVar i) (tCons (tLst ts) tNil))) σ H := fun H1 e d Q q =>
  ⟨.ref p, hs, h H1 e d _ fun xs H2 hl hx e2 d2 => ⟨sz_of (by omega), fun l hl2 => by
    have d3 := d2.ex (Ex.new (o := .lst xs) hl2)
    have e3 : Exd p H2 (upd H2 l (.lst xs)) := Exd.of (Ex.new hl2)
    exact ⟨p, fun v => v ∈ xs, ⟨l, xs, rfl, d2.ne hl2, sq_of upd_same, by omega, by omega, rfl⟩, d3, fun v H4 hv e4 d4 => q v H4 ((hx v hv).exd (e3.trans e4)) ((e2.trans e3).trans e4) d4⟩⟩⟩
/-- drawn texts -/
def DvTx (p : Addr) (te : TE) (n : Nat) (σ : L2.St) (H : Hp) : Prop := ∀ H1, Exd p H H1 → Dice p H1 → ∀ Q : VK, (∀ (a : Addr) (ls : List (List Nat)) (H2 : Hp), (∀ l ∈ ls, TextOk l) → ls.length ≤ n → a ≠ p → Exd p H1 H2 → Dice p H2 → H2 a = some (.lst (ls.map vS)) → Q (.ref a) H2) → te σ H1 Q
theorem dvt_near {E : XK} {i : Nat} {z : List Nat} (hs : σ[i]? = some (some (.ref p))) (hz : NearOk z) (h : ∀ H1, Exd p H H1 → Dice p H1 → Ev te σ H1 (vS z)) : DvTx p (tCall (DrawsN K) [] E (tCons (tVar i) (tCons te tNil))) 20 σ H := fun H1 e d Q q =>
  ⟨.ref p, hs, h H1 e d H1 (Ex.refl H1) _ fun H2 e2 => ⟨p, z, rfl, hz, d.ex e2, fun a ls H3 h1 h2 h3 h4 h5 h6 => q a ls H3 h1 h2 h3 ((Exd.of e2).trans h4) h5 h6⟩⟩
theorem dvt_one {z : List Nat} (hz : TextOk z) (h : ∀ H1, Exd p H H1 → Dice p H1 → Ev te σ H1 (vS z)) : DvTx p (tLst (tCons te tNil)) 1 σ H := fun H1 e d Q q =>
  (el_lst (ea_cons (h H1 e d) ea_nil) (by show 1 ≤ 100000; decide)) H1 (Ex.refl H1) Q fun l H2 hl e2 h2 => q l [z] H2 (fun x hx => by rw [List.mem_singleton.mp hx]; exact hz) (Nat.le_refl _) (d.ne hl) (Exd.of e2) (d.ex e2) h2
theorem dvt_cat {n m : Nat} (h1 : DvTx p ta n σ H) (h2 : DvTx p tb m σ H) (hn : n + m ≤ 1000) : DvTx p (tOp rCat ta tb) (n + m) σ H := fun H1 e d Q q =>
  h1 H1 e d _ fun a xs H2 hx hxl ha e2 d2 h3 => h2 H2 (e.trans e2) d2 _ fun b ys H3 hy hyl hb e3 d3 h4 => ⟨a, b, xs.map vS, ys.map vS, rfl, rfl, e3 _ _ ha h3, h4, sz_of (by rw [List.length_map, List.length_map]; omega), fun c hc => q c (xs ++ ys) _ (fun l hl => (List.mem_append.mp hl).elim (hx l) (hy l)) (by rw [List.length_append]; omega) (d3.ne hc) ((e2.trans e3).trans (Exd.of (Ex.new hc))) (d3.ex (Ex.new hc)) (by rw [upd_same, List.map_append])⟩
theorem q_forTx {n j : Nat} (h : DvTx p te n σ H) (hd : Dice p H) (Pv : Addr → List (List Nat) → Nat → L2.St → Hp → Prop) (h0 : ∀ a ls H1, a ≠ p → Exd p H H1 → Dice p H1 → H1 a = some (.lst (ls.map vS)) → Pv a ls 0 σ H1) (hl : ∀ a ls i σ' H', i ≤ (ls.map vS).length → Pv a ls i σ' H' → SqL K H' a (ls.map vS))
    (hs : ∀ a ls i x σ' H', (∀ l ∈ ls, TextOk l) → (ls.map vS)[i]? = some x → Pv a ls i σ' H' → tu { D with nx := Pv a ls (i + 1), ct := Pv a ls (i + 1), bk := tz D } (σ'.set j (some x)) H') (hq : ∀ a ls σ' H', Pv a ls (ls.map vS).length σ' H' → tz D σ' H') : tSeq (tFor (iList K te) (gName j) tu) tz D σ H :=
  h H (Exd.refl p H) hd _ fun a ls H1 hx hll ha e1 d1 h1 => ⟨a, rfl, ⟨ls.map vS, sq_of h1⟩, for_list (Pv a ls) (h0 a ls H1 ha e1 d1 h1) (hl a ls) (fun i x σ' H' hi hp => hs a ls i x σ' H' hx hi hp) (hq a ls)⟩
def DvPl (K : PySem.W.Frag) (p : Addr) (te : TE) (σ : L2.St) (H : Hp) : Prop := ∀ H1, Exd p H H1 → Dice p H1 → ∀ Q : VK, (∀ a W H2, W.gd → PlAt K H2 a W → a ≠ p → Exd p H1 H2 → Dice p H2 → Q (.ref a) H2) → te σ H1 Q
theorem dpl_call {E : XK} {i : Nat} (hs : σ[i]? = some (some (.ref p))) : DvPl K p (tCall (DrawsW K) [] E (tCons (tVar i) tNil)) σ H := fun H1 e d Q q => ⟨.ref p, hs, ⟨p, rfl, d, q⟩⟩
theorem q_parPl {i j : Nat} (h1 : DvPl K p ta σ H) (h2 : DvPl K p tb σ H) (hd : Dice p H) (k : ∀ a b W W' H1, W.gd → W'.gd → PlAt K H1 a W → PlAt K H1 b W' → a ≠ p → b ≠ p → Exd p H H1 → Dice p H1 → tz D ((σ.set i (some (.ref a))).set j (some (.ref b))) H1) : tSeq (tPar i j (tCons ta (tCons tb tNil))) tz D σ H :=
  h1 H (Exd.refl p H) hd _ fun a W H1 g1 p1 n1 e1 d1 => h2 H1 e1 d1 _ fun b W' H2 g2 p2 n2 e2 d2 => ⟨.ref a, .ref b, rfl, k a b W W' H2 g1 g2 (p1.dc e2 d1) p2 n1 n2 (e1.trans e2) d2⟩
theorem q_parWW {i j : Nat} {W' : Wd} (h1 : EvW K C ta σ H W) (h2 : EvW K C tb σ H W') (k : ∀ a b H1, Ex H H1 → WdAt K C H1 a W → WdAt K C H1 b W' → tz D ((σ.set i (some (.ref a))).set j (some (.ref b))) H1) : tSeq (tPar i j (tCons ta (tCons tb tNil))) tz D σ H :=
  h1 H (Ex.refl H) _ fun a H1 ha e1 w1 => h2 H1 e1 _ fun b H2 hb e2 w2 => ⟨.ref a, .ref b, rfl, k a b H2 (e1.trans e2) (w1.ex e2) w2⟩
theorem ap_ofP {P : List V → Hp → Prop} {vs : List V} (h : EvA ts σ H vs) (hp : ∀ H1, Ex H H1 → P vs H1) : EvAP ts σ H P := fun H1 e Q q => h H1 e Q fun H2 e2 => q vs H2 e2 (hp H2 (e.trans e2))
theorem ew_new {E : XK} {aT : Addr} (h : EvA ts σ H [.int W.t, .int W.n, .int W.l, .ref aT]) (hT : TsAt K H aT W.ts) (ok : W.ok) : EvW K C (tMake C (spInit K C) [] E ts) σ H W := ew_make (ap_ofP h fun H1 e => ⟨aT, rfl, hT.ex e⟩) ok
/-- the world of a text that is written -/
theorem ew_read {E : XK} {CI : Addr} (h : Ev te σ H (vS (worldW W))) (hW : WdW W) (hn : NearOk (worldW W)) : EvW K C (tCall (spRW K C CI) [] E (tCons te tNil)) σ H W := fun H1 e Q q => h H1 e _ fun H2 e2 =>
  ⟨vS (worldW W), worldW W, rfl, .inl rfl, near_ok hn, (fun hno => by rw [world_back hW] at hno; cases hno), fun W' hW' p' H3 hp e3 hw => by
    rw [world_back hW] at hW'
    cases hW'
    exact q p' H3 (fresh_back e2 hp) (e2.trans e3) hw⟩
theorem evd_told {E : XK} {i : Nat} {z : List Nat} (hs : σ[i]? = some (some (vS z))) (hz : TextOk z) : EvD K (tCall (spTold K) [] E (tCons (tVar i) tNil)) σ H (datO (worldP z)) := fun H1 e Q q =>
  ⟨vS z, hs, ⟨vS z, z, rfl, .inl rfl, hz, fun hn H' e' => q .non H' e' (by rw [hn]; exact .non), fun W hW p' H' hp e' hw => q _ H' e' (by rw [hW]; exact hw.dp)⟩⟩
theorem evd_read {E : XK} {i : Nat} {z : List Nat} (hs : σ[i]? = some (some (vS z))) (hz : TextOk z) : EvD K (tCall (spLR K) [] E (tCons (tVar i) tNil)) σ H (datO (worldP z)) := fun H1 e Q q =>
  ⟨vS z, hs, ⟨z, rfl, hz, fun hn H' e' => q .non H' e' (by rw [hn]; exact .non), fun W hW p' H' hp e' hw => q _ H' e' (by rw [hW]; exact hw.dp)⟩⟩
end
section
variable {P : Program} {w : World} {K : PySem.W.Frag} {mg : Str → Option Value} {base : Heap}
theorem ok_law_told (T : Txt K mg w) : FnOk P w K mg base CX0 11 T.a_law_told T.fd_law_told ["text"] (spTold K) := by
  have G_read_world := ok_read_world (P := P) (w := w) (base := base) T
  have G_law_wd_plain := ok__law_wd_plain (P := P) (w := w) (base := base) T
  refine T.F_law_told.ok sc_law_told (fun vs H Q E h => ?_) (fun cdv A outer s H vs Q E hr h => ?_)
  · obtain ⟨_, _, rfl, _⟩ := h; rfl
  · obtain ⟨x, z, rfl, hx, ht, qn, qs⟩ := h
    refine ⟨_, pss_one (ps_try_only (tb := fun W => tRet (tCall (Plnew K (kProps K T.C_World)) [] E0 (tCons (tCallS (spRW K T.C_World T.C_IW) (WE W) (tCons (tVar 0) tNil)) tNil))) (ts := fun _ _ _ => tRet (tC .non)) (Wout := fun _ _ _ _ => False) rfl rfl ⟨rfl, by decide, .inl T.g_InvalidWorld⟩ takes0
      (fun W pn xe tk _ => pss_one (ps_ret (pe_call G_law_wd_plain (hr.mono (by decide)) (by rfl) T.g_law_wd_plain T.F_law_wd_plain.kp T.b_law_wd_plain .nil pass0 (pa_cons (pe_callS G_read_world (hr.mono (by decide)) (by rfl) T.g_read_world T.F_read_world.kp T.b_read_world (fun σ => passAt tk σ) (pa_cons (pv 0) pa_nil)) pa_nil))))
      (fun a oe cls d pn hz hf => pss_one (ps_ret pe_non))), ?_⟩
    refine ⟨x, rfl, ⟨x, z, rfl, hx, ht, fun hn H' e => ⟨true, exm_iw T.e_IW T.c_IW T.y_IW T.s_IW, fun _ a ha => qn hn H' e, fun h => by cases h⟩, fun W hW p H' hp e hw => ⟨W, ⟨p, rfl, hw⟩, fun p' H2 hp2 e2 hpl => qs W hW p' H2 (fresh_back e hp2) (e.trans e2) hpl⟩⟩⟩
theorem ok_law_right (T : Txt K mg w) : FnOk P w K mg base CX0 12 T.a_law_right T.fd_law_right ["dice"] (fun vs H Q _ => ∃ p, vs = [.ref p] ∧ Dice p H ∧ ∀ H', Exd p H H' → Dice p H' → Q (.bl true) H') := by
  have G_law_world_drawn := ok_world_drawn (P := P) (w := w) (base := base) T
  have G_World___init__ := ok_init (P := P) (w := w) (base := base) T
  have G_world_text := ok_world_text (P := P) (w := w) (base := base) T
  have G_law_written := ok_law_written (P := P) (w := w) (base := base) T
  have G_read_world := ok_read_world (P := P) (w := w) (base := base) T
  have G_World___eq__ := ok_eq (P := P) (w := w) (base := base) T
  have G_law_near_texts := ok_near_texts (P := P) (w := w) (base := base) T
  have G_law_told := ok_law_told (P := P) (w := w) (base := base) T
  have G_law_read := ok_law_read (P := P) (w := w) (base := base) T
  have G_law_pick := ok_pick (P := P) (w := w) (base := base) T
  refine T.F_law_right.ok sc_law_right (fun vs H Q E h => ?_) (fun cdv A outer s H vs Q E hr h => ?_)
  · obtain ⟨p, rfl, _⟩ := h; rfl
  · obtain ⟨p, rfl, hd, q⟩ := h
    refine ⟨_, (pss_cons (ps_par (i := 1) (j := 2) (by rfl) sc_law_right.nd rfl rfl (by decide) rfl rfl (pa_cons (pe_call G_law_world_drawn (hr.mono (by decide)) (by rfl) T.g_law_world_drawn T.F_law_world_drawn.kp T.b_law_world_drawn .nil pass0 (pa_cons (pv 0) pa_nil)) (pa_cons (pe_call G_law_world_drawn (hr.mono (by decide)) (by rfl) T.g_law_world_drawn T.F_law_world_drawn.kp T.b_law_world_drawn .nil pass0 (pa_cons (pv 0) pa_nil)) pa_nil)) (by rfl))
  (pss_cons (ps_par (i := 3) (j := 4) (by rfl) sc_law_right.nd rfl rfl (by decide) rfl rfl (pa_cons (pe_make T.mk_World G_World___init__ (hr.mono (by decide)) (by rfl) T.g_World T.b_World___init__ .nil pass0 (pa_cons (pe_ix ix_tup (pv 1) pe_int (fun _ _ => rfl)) (pa_cons (pe_ix ix_tup (pv 1) pe_int (fun _ _ => rfl)) (pa_cons (pe_ix ix_tup (pv 1) pe_int (fun _ _ => rfl)) (pa_cons (pe_ix ix_tup (pv 1) pe_int (fun _ _ => rfl)) pa_nil))))) (pa_cons (pe_make T.mk_World G_World___init__ (hr.mono (by decide)) (by rfl) T.g_World T.b_World___init__ .nil pass0 (pa_cons (pe_ix ix_tup (pv 2) pe_int (fun _ _ => rfl)) (pa_cons (pe_ix ix_tup (pv 2) pe_int (fun _ _ => rfl)) (pa_cons (pe_ix ix_tup (pv 2) pe_int (fun _ _ => rfl)) (pa_cons (pe_ix ix_tup (pv 2) pe_int (fun _ _ => rfl)) pa_nil))))) pa_nil)) (by rfl))
  (pss_cons (ps_if (PW.pt (pw_or (pt_cmpR op_ne (pe_call G_world_text (hr.mono (by decide)) (by rfl) T.g_world_text T.F_world_text.kp T.b_world_text .nil pass0 (pa_cons (pv 3) pa_nil)) (pe_call G_law_written (hr.mono (by decide)) (by rfl) T.g_law_written T.F_law_written.kp T.b_law_written .nil pass0 (pa_cons (pv 1) pa_nil)) (nomark _)) (pw_or (pt_cmpR (op_neOK (K := K) rfl G_World___eq__ (hr.mono (by decide)) T.m_World___eq__ T.ne_World T.ob_World T.b_World___eq__ pass0) (pe_call G_read_world (hr.mono (by decide)) (by rfl) T.g_read_world T.F_read_world.kp T.b_read_world .nil passL (pa_cons (pe_call G_world_text (hr.mono (by decide)) (by rfl) T.g_world_text T.F_world_text.kp T.b_world_text .nil pass0 (pa_cons (pv 3) pa_nil)) pa_nil)) (pv 3) (nomark _)) (pw_or1 (pt_cmpR op_ne (pe_cmpR op_eq (pe_call G_world_text (hr.mono (by decide)) (by rfl) T.g_world_text T.F_world_text.kp T.b_world_text .nil pass0 (pa_cons (pv 3) pa_nil)) (pe_call G_world_text (hr.mono (by decide)) (by rfl) T.g_world_text T.F_world_text.kp T.b_world_text .nil pass0 (pa_cons (pv 4) pa_nil)) (nomark _)) (pe_cmpR (op_eqD hr.units) (pv 1) (pv 2) (nomark _)) (nomark _)))))) (pss_one (ps_ret pe_bl)) pss_nil)
  (pss_cons (ps_for PassesOwn.never rfl (pi_list (pe_op op_cat (pe_op op_cat (pe_call G_law_near_texts (hr.mono (by decide)) (by rfl) T.g_law_near_texts T.F_law_near_texts.kp T.b_law_near_texts .nil pass0 (pa_cons (pv 0) (pa_cons (pe_call G_law_written (hr.mono (by decide)) (by rfl) T.g_law_written T.F_law_written.kp T.b_law_written .nil pass0 (pa_cons (pv 1) pa_nil)) pa_nil))) (pe_call G_law_near_texts (hr.mono (by decide)) (by rfl) T.g_law_near_texts T.F_law_near_texts.kp T.b_law_near_texts .nil pass0 (pa_cons (pv 0) (pa_cons (pe_call G_law_written (hr.mono (by decide)) (by rfl) T.g_law_written T.F_law_written.kp T.b_law_written .nil pass0 (pa_cons (pv 2) pa_nil)) pa_nil)))) (pe_lst (pa_cons (pe_call G_law_written (hr.mono (by decide)) (by rfl) T.g_law_written T.F_law_written.kp T.b_law_written .nil pass0 (pa_cons (pv 1) pa_nil)) pa_nil)))) (pg_name (i := 5) sc_law_right.nd rfl (.inl rfl)) (pss_one (ps_if (pt_cmpR (op_neD hr.units) (pe_call G_law_told (hr.mono (by decide)) (by rfl) T.g_law_told T.F_law_told.kp T.b_law_told .nil pass0 (pa_cons (pv 5) pa_nil)) (pe_call G_law_read (hr.mono (by decide)) (by rfl) T.g_law_read T.F_law_read.kp T.b_law_read .nil pass0 (pa_cons (pv 5) pa_nil)) (nomark _)) (pss_one (ps_ret pe_bl)) pss_nil)))
  (pss_one (ps_ret (pe_cmp (pc_isN (pe_call G_law_told (hr.mono (by decide)) (by rfl) T.g_law_told T.F_law_told.kp T.b_law_told .nil pass0 (pa_cons (pe_call G_law_pick (hr.mono (by decide)) (by rfl) T.g_law_pick T.F_law_pick.kp T.b_law_pick .nil pass0 (pa_cons (pv 0) (pa_cons (pe_lst (pa_cons pe_non (pa_cons pe_int (pa_cons pe_str (pa_cons (pe_tup (pa_cons pe_int (pa_cons pe_int (pa_cons pe_int (pa_cons (pe_tup pa_nil) pa_nil))))) (pa_cons (pe_lst (pa_cons pe_str pa_nil)) (pa_cons pe_dnewK (pa_cons pe_bl pa_nil)))))))) pa_nil))) pa_nil))) rfl))))))), ?_⟩
    refine q_parPl (p := p) (dpl_call rfl) (dpl_call rfl) hd fun a b W W' H1 g g' hP hP' nap nbp e1 d1 => ?_
    obtain ⟨aT, hS, hT⟩ := id hP
    obtain ⟨bT, hS', hT'⟩ := id hP'
    refine q_parWW (C := T.C_World) (W := W) (W' := W') (ew_new (ea_cons (ev_op (ev_var rfl) ev_c (rv_ixT hS rfl)) (ea_cons (ev_op (ev_var rfl) ev_c (rv_ixT hS rfl)) (ea_cons (ev_op (ev_var rfl) ev_c (rv_ixT hS rfl)) (ea_cons (ev_op (ev_var rfl) ev_c (rv_ixT hS rfl)) ea_nil)))) hT g.ok) (ew_new (ea_cons (ev_op (ev_var rfl) ev_c (rv_ixT hS' rfl)) (ea_cons (ev_op (ev_var rfl) ev_c (rv_ixT hS' rfl)) (ea_cons (ev_op (ev_var rfl) ev_c (rv_ixT hS' rfl)) (ea_cons (ev_op (ev_var rfl) ev_c (rv_ixT hS' rfl)) ea_nil)))) hT' g'.ok) fun f f' H2 e2 hF hF' => ?_
    have hP2 := hP.ex e2
    have hP2' := hP'.ex e2
    have nW := near_world g.w
    have nW' := near_world g'.w
    have tx : ∀ {σ : L2.St} {H : Hp} {i : Nat} {f : Addr} {W : Wd}, σ[i]? = some (some (V.ref f)) → WdAt K T.C_World H f W → WdW W → Ev (tCall (Pure (kTextW K T.C_World)) [] E0 (tCons (tVar i) tNil)) σ H (vS (worldW W)) := fun {σ H i f W} hs hF hw => ev_callP (vs := [.ref f]) (ea_cons (ev_var hs) ea_nil) fun H3 e3 => ⟨f, W, rfl, hF.ex e3, hw, rfl⟩
    have wr : ∀ {σ : L2.St} {H : Hp} {i : Nat} {f : Addr} {W : Wd}, σ[i]? = some (some (V.ref f)) → PlAt K H f W → WdW W → Ev (tCall (Pure (kWritten K)) [] E0 (tCons (tVar i) tNil)) σ H (vS (worldW W)) := fun {σ H i f W} hs hF hw => ev_callP (vs := [.ref f]) (ea_cons (ev_var hs) ea_nil) fun H3 e3 => ⟨f, W, rfl, hF.ex e3, hw, rfl⟩
    have d2 := d1.ex e2
    refine q_when (b := false) (et_is (et_or (a := false) (b := false) (et_is (et_test (ev_op (tx rfl hF g.w) (wr rfl hP2 g.w) (rv_ne rfl))) (by simp)) fun _ => et_or (a := false) (b := false) (et_test fun H3 e3 Q3 q3 => ?_) fun _ => et_is (et_test (ev_op (ev_op (tx rfl hF g.w) (tx rfl hF' g'.w) (rv_eq rfl)) (ev_eqD (evd_PV (ev_var rfl) hP2) (evd_PV (ev_var rfl) hP2') (shaped_wd g.kds) (shaped_wd g'.kds)) (rv_ne rfl))) ?_) rfl) (fun h => by cases h) fun _ H3 e3 => ?_
    · exact (ew_read (K := K) (C := T.C_World) (W := W) (tx rfl hF g.w) g.w nW) H3 e3 _ fun r H4 hr e4 hR => ⟨.ref f, rfl, by
        have hF4 := (hF.ex e3).ex e4
        obtain ⟨rs, cT, cO, cD, ⟨dx, hob⟩, hrest⟩ := id hR
        obtain ⟨rs', cT', cO', cD', ⟨dx', hob'⟩, hrest'⟩ := id hF4
        refine rv_neO (b := true) hob (fun H5 e5 => .base (.ins (e5 _ _ hob') T.cl_World T.ha_World T.hn_World T.ht_World T.hm_World)) (by unfold PySem.W.notFirst; simp) (fun H5 e5 => ⟨r, W, _, rfl, hR.ex e5, .inl ⟨f, W, rfl, hF4.ex e5, g.kds, g.kds, by simp⟩⟩) H4 (Ex.refl H4) Q3 fun H5 e5 => q3 H5 (e4.trans e5)⟩
    · rw [eqv_wd]
      by_cases hw : W = W'
      · rw [hw]
        simp
      · have hne : vS (worldW W) ≠ vS (worldW W') := fun y => hw (worldW_inj g.w g'.w (S_inj (V.str.inj y)))
        rw [decide_eq_false hw, decide_eq_false hne]
        rfl
    have d3 := d2.ex e3
    have hP3 := hP2.ex e3
    have hP3' := hP2'.ex e3
    have e03 : Exd p H H3 := (e1.trans (Exd.of e2)).trans (Exd.of e3)
    let Pv : Addr → List (List Nat) → Nat → L2.St → Hp → Prop := fun l ls i σ' H' => ∃ t : Option V, σ' = [some (.ref p), some (.ref a), some (.ref b), some (.ref f), some (.ref f'), t] ∧ Exd p H H' ∧ Dice p H' ∧ H' l = some (.lst (ls.map vS))
    refine q_forTx (p := p) (n := 41) (dvt_cat (n := 40) (m := 1) (dvt_cat (n := 20) (m := 20) (dvt_near rfl nW fun H4 e4 _ => wr rfl (hP3.dc e4 d3) g.w) (dvt_near rfl nW' fun H4 e4 _ => wr rfl (hP3'.dc e4 d3) g'.w) (by decide)) (dvt_one (near_ok nW) fun H4 e4 _ => wr rfl (hP3.dc e4 d3) g.w) (by decide)) d3 Pv (fun l ls H4 hl e4 d4 h4 => ⟨none, rfl, e03.trans e4, d4, h4⟩) (fun l ls i σ' H' _ ⟨_, _, _, _, h⟩ => sq_of h) (fun l ls i x σ' H' hok hx ⟨t, hσ, e4, d4, h4⟩ => ?_) fun l ls σ' H' ⟨t, hσ, e4, d4, h4⟩ => ?_
    · subst hσ
      rw [List.getElem?_map] at hx
      cases hq : ls[i]? with
      | none => rw [hq] at hx; cases hx
      | some z =>
        rw [hq] at hx
        obtain rfl : x = vS z := (Option.some.inj hx).symm
        have hz := hok z (List.mem_of_getElem? hq)
        refine s_when (b := false) (et_is (et_test (ev_neD (evd_told rfl hz) (evd_read rfl hz) datO_shaped datO_shaped)) (by rw [datO_eqv]; rfl)) (fun h => by cases h) fun _ H5 e5 => ⟨_, rfl, e4.trans (Exd.of e5), d4.ex e5, e5 _ _ h4⟩
    · subst hσ
      have od : ∀ {v : V}, (v = .non ∨ v = .int 0 ∨ v = .str "" ∨ v = .bl true) → ∀ H, OddV p H v := fun h H => by
        rcases h with h | h | h | h
        · exact .inl h
        · exact .inr (.inl h)
        · exact .inr (.inr (.inl h))
        · exact .inr (.inr (.inr (.inl h)))
      refine (dvo_pick (K := K) (p := p) (i := 0) (n := 7) rfl (dvo_cons (dvo_c (od (.inl rfl))) (dvo_cons (dvo_c (od (.inr (.inl rfl)))) (dvo_cons (dvo_c (od (.inr (.inr (.inl rfl))))) (dvo_cons (dvo_tup (fun H5 => ap_cons ev_c (ap_cons ev_c (ap_cons ev_c (ap_consU (xs := []) (eu_tup ea_nil (by decide)) ap_nil)))) fun vs H5 ⟨_, h1, _, h2, _, h3, _, _, h4, _, h5⟩ => by rw [h1, h2, h3, h4, h5]; show 4 ≤ 100000; decide) (dvo_cons (dvo_lst fun H5 => ⟨_, el_lst (ea_cons ev_c ea_nil) (by show 1 ≤ 100000; decide)⟩) (dvo_cons dvo_dict (dvo_cons (dvo_c (od (.inr (.inr (.inr rfl))))) dvo_nil))))))) (by decide) (by decide)) H' (Exd.refl p H') d4 _ fun v H5 hv e5 d5 => ?_
      have hno : worldP [] = none := by decide
      refine ⟨v, [], rfl, hv.no, textOk_nil, fun _ H6 e6 => q H6 ((e4.trans e5).trans (Exd.of e6)) (d5.ex e6), fun W hW => by rw [hno] at hW; cases hW⟩
end
end Kz
set_option Elab.async false
set_option linter.all false
set_option maxRecDepth 100000
set_option maxHeartbeats 4000000
set_option exponentiation.threshold 500
namespace Kz
open PySem PySem.Spec PyProof.Rows L2 Evl Vr
local macro_rules | `(tactic| walk_at "sc") => `(tactic| first | (with_reducible assumption) | (with_reducible exact sc_mul (by omega)) | (with_reducible exact sc_mulr (by omega)) | (with_reducible exact sc_div (by omega) (by decide)) | (show (0 : Int) < _; omega) | (show _ ≠ (0 : Int); omega) | (with_reducible rfl) | decide)
local macro_rules | `(tactic| walk_at "sq") => `(tactic| first | assumption | exact sq_of (by assumption) | exact st_of (by assumption))
local macro_rules | `(tactic| walk_at "pl") => `(tactic| first | assumption | exact pl_int | exact pl_bl | exact pl_str | exact pl_non | exact pl_lst (by assumption) | exact pl_tup (by assumption) | exact pl_dK (by assumption))
local macro_rules | `(tactic| walk_at "rv") => `(tactic| first
  | with_reducible exact rv_I0
  | with_reducible exact ru_neg
  | ((with_reducible apply rv_I); walk_at "sc")
  | ((with_reducible apply rv_ixL); walk_at "sq"; first | rfl | assumption)
  | ((with_reducible apply rv_ixT); walk_at "sq"; first | rfl | assumption)
  | ((with_reducible apply rv_eq); rfl) | ((with_reducible apply rv_ne); rfl))
local macro_rules | `(tactic| walk_at "rc") => `(tactic| first
  | with_reducible exact rc_I1 | with_reducible exact rc_B1 | with_reducible exact rc_I2 | ((with_reducible apply rc_repr); walk_at "sc") | ((with_reducible apply rc_lenL); walk_at "sq")
  | ((with_reducible apply rc_isiInt); walk_at "pl") | ((with_reducible apply rc_isiBool); walk_at "pl"))
local macro_rules | `(tactic| walk_at "ea") => `(tactic| first
  | with_reducible exact ea_nil | ((with_reducible apply ea_cons); walk_at "ev"; walk_at "ea"))
local macro_rules | `(tactic| walk_at "pow") => `(tactic| first
  | with_reducible exact ev_pow (a := 10) (b := 9) (c := 1000000000) (by decide +kernel) (by decide +kernel)
  | with_reducible exact ev_pow (a := 10) (b := 10) (c := 10000000000) (by decide +kernel) (by decide +kernel)
  | with_reducible exact ev_pow (a := 10) (b := 12) (c := 1000000000000) (by decide +kernel) (by decide +kernel)
  | with_reducible exact ev_pow (a := 10) (b := 17) (c := 100000000000000000) (by decide +kernel) (by decide +kernel)
  | with_reducible exact ev_pow (a := 10) (b := 20) (c := 100000000000000000000) (by decide +kernel) (by decide +kernel)
  | with_reducible exact ev_pow (a := 10) (b := 29) (c := 100000000000000000000000000000) (by decide +kernel) (by decide +kernel)
  | with_reducible exact ev_pow (a := 10) (b := 30) (c := 1000000000000000000000000000000) (by decide +kernel) (by decide +kernel)
  | with_reducible exact ev_pow (a := 10) (b := 40) (c := 10000000000000000000000000000000000000000) (by decide +kernel) (by decide +kernel)
  | with_reducible exact ev_pow (a := 10) (b := 57) (c := 1000000000000000000000000000000000000000000000000000000000) (by decide +kernel) (by decide +kernel)
  | with_reducible exact ev_pow (a := 10) (b := 58) (c := 10000000000000000000000000000000000000000000000000000000000) (by decide +kernel) (by decide +kernel)
  | with_reducible exact ev_pow (a := 10) (b := 59) (c := 100000000000000000000000000000000000000000000000000000000000) (by decide +kernel) (by decide +kernel)
  | with_reducible exact ev_pow (a := 10) (b := 60) (c := 1000000000000000000000000000000000000000000000000000000000000) (by decide +kernel) (by decide +kernel))
local macro_rules | `(tactic| walk_at "call") => `(tactic| (intro H9 e9; first | exact ⟨_, rfl, rfl⟩ | exact ⟨_, _, rfl, rfl⟩ | exact ⟨_, _, _, rfl, rfl⟩ | exact ⟨_, rfl, by walk_at "pl", rfl⟩ | (refine ⟨_, _, _, rfl, ?_, rfl⟩; first | exact Plain.ex e9 (by assumption) | walk_at "pl") | (refine ⟨_, rfl, ?_, rfl⟩; first | exact Plain.ex e9 (by assumption) | walk_at "pl")))
local macro_rules | `(tactic| walk_at "ev") => `(tactic| first
  | with_reducible exact ev_c
  | exact ev_var rfl
  | walk_at "pow"
  | ((with_reducible apply ev_op); walk_at "ev"; walk_at "ev"; walk_at "rv")
  | ((with_reducible apply ev_un); walk_at "ev"; walk_at "rv")
  | ((with_reducible apply ev_cb); walk_at "ea"; walk_at "rc")
  | ((with_reducible apply ev_callP); walk_at "ea"; walk_at "call")
  | ((with_reducible apply ev_chain); walk_at "ev"; walk_at "ev"; walk_at "rv"; walk_at "ev"; walk_at "rv")
  | ((with_reducible apply ev_andV); walk_at "ev"; intro _; walk_at "ev")
  | ((with_reducible apply ev_orV); walk_at "ev"; intro _; walk_at "ev")
  | ((with_reducible apply ev_ite); walk_at "et"; intro _; walk_at "ev"; intro _; walk_at "ev")
  | ((with_reducible apply ev_notV); walk_at "ev"))
local macro_rules | `(tactic| walk_at "et") => `(tactic| first
  | ((with_reducible apply et_test); walk_at "ev")
  | ((with_reducible apply et_B); walk_at "ev")
  | ((with_reducible apply et_and); walk_at "et"; intro _; walk_at "et")
  | ((with_reducible apply et_or); walk_at "et"; intro _; walk_at "et")
  | ((with_reducible apply et_not); walk_at "et"))
open En Wo Tx NumText
def W0' : Wd := ⟨0, 0, 0, []⟩
def W1 : Wd := ⟨12, 9, 5, [⟨3, "a", [-4, 0]⟩, ⟨8, "bc", [1000000000]⟩]⟩
def W2 : Wd := ⟨0, 1, 0, [⟨0, "a", [0]⟩]⟩
theorem w0_w : WdW W0' := ⟨by decide, by decide +kernel, by decide, by decide +kernel, by decide, by decide, by decide, (fun _ h => by cases h), by decide⟩
theorem w0_ok' : W0'.ok := ⟨⟨by decide, by decide⟩, ⟨by decide, by decide⟩, ⟨by decide, by decide⟩, ⟨by decide, fun _ h => by cases h⟩, by decide⟩
theorem w1_w : WdW W1 := ⟨by decide, by decide +kernel, by decide, by decide +kernel, by decide, by decide, by decide, (fun t h => by
  simp only [W1, List.mem_cons, List.not_mem_nil, or_false] at h
  rcases h with rfl | rfl
  · exact ⟨by decide, by decide +kernel, by unfold nameL; decide +kernel, by decide, by decide, fun n hn => by simp only [List.mem_cons, List.not_mem_nil, or_false] at hn; unfold num; omega⟩
  · exact ⟨by decide, by decide +kernel, by unfold nameL; decide +kernel, by decide, by decide, fun n hn => by simp only [List.mem_cons, List.not_mem_nil, or_false] at hn; unfold num; omega⟩), by decide⟩
theorem w1_ok : W1.ok := ⟨⟨by decide, by decide⟩, ⟨by decide, by decide⟩, ⟨by decide, by decide⟩, ⟨by decide, fun t h => by
  simp only [W1, List.mem_cons, List.not_mem_nil, or_false] at h
  rcases h with rfl | rfl
  · exact ⟨⟨by decide, by decide⟩, ⟨by decide +kernel, by decide +kernel, by decide +kernel, by decide +kernel, by decide +kernel⟩, by decide, by decide, fun n hn => by simp only [List.mem_cons, List.not_mem_nil, or_false] at hn; unfold num; omega⟩
  · exact ⟨⟨by decide, by decide⟩, ⟨by decide +kernel, by decide +kernel, by decide +kernel, by decide +kernel, by decide +kernel⟩, by decide, by decide, fun n hn => by simp only [List.mem_cons, List.not_mem_nil, or_false] at hn; unfold num; omega⟩⟩, by decide⟩
theorem w0_text : vS (worldW W0') = V.str "0 0 0" := by
  have : worldW W0' = (Str.ofString "0 0 0").cps.toList := by decide +kernel
  rw [this, ← kd_vS]
theorem w1_text : vS (worldW W1) = V.str "12 9 5;3 a -4 0;8 bc 1000000000" := by
  have : worldW W1 = (Str.ofString "12 9 5;3 a -4 0;8 bc 1000000000").cps.toList := by decide +kernel
  rw [this, ← kd_vS]
def okB (z : List Nat) : Bool := decide (z.length ≤ 4000) && z.all (fun c => decide (c < 128)) && (splitL 59 z).all fun p => (splitL 32 p).all fun w => decide (w.length ≤ 500)
theorem okB_is {z : List Nat} (h : okB z = true) : TextOk z := by
  unfold okB at h
  simp only [Bool.and_eq_true, decide_eq_true_eq, List.all_eq_true] at h
  exact ⟨h.1.1, h.1.2, fun p hp w hw => h.2 p hp w hw⟩
def odds : List Str := ["0 0", "0 0 0 ", "0 0 0;", "0 1 0;1 a 0", "0 2 0;1 a 0;0 a 0", "0 1 0;0 a", "0 1 0;0  a 0", "0 1 0;0 a 00", "0 1 0;0 a -0", "-1 0 0"]
theorem odds_no : ∀ s ∈ odds, TextOk s.cps.toList ∧ worldP s.cps.toList = none := fun s hs => by
  have h : (odds.all fun s => okB s.cps.toList && (worldP s.cps.toList).isNone) = true := by decide +kernel
  have := List.all_eq_true.mp h s hs
  simp only [Bool.and_eq_true, Option.isNone_iff_eq_none] at this
  exact ⟨okB_is this.1, this.2⟩
theorem w2_back : worldP (Str.ofString "0 1 0;0 a 0").cps.toList = some W2 ∧ TextOk (Str.ofString "0 1 0;0 a 0").cps.toList := ⟨by decide +kernel, okB_is (by decide +kernel)⟩
section
variable {σ : L2.St} {H H' : Hp} {te ta tb : TE} {ts tr : TA} {tz tu : TS} {D : Ends} {K : PySem.W.Frag} {C p a q l : Addr} {W : Wd} {xs ys : List V} {v1 v2 : V}
/-- a new thing, new things -/
def EvTg (K : PySem.W.Frag) (te : TE) (σ : L2.St) (H : Hp) (t : Tg) : Prop := ∀ H1, Ex H H1 → ∀ Q : VK, (∀ r H2, Ex H1 H2 → TgAt K H2 r t → Q (.ref r) H2) → te σ H1 Q
def EvTs (K : PySem.W.Frag) (te : TE) (σ : L2.St) (H : Hp) (us : List Tg) : Prop := ∀ H1, Ex H H1 → ∀ Q : VK, (∀ r H2, Ex H1 H2 → TsAt K H2 r us → Q (.ref r) H2) → te σ H1 Q
theorem etg {t : Tg} {tc : TE} (h1 : Ev ta σ H (.int t.id)) (h2 : Ev tb σ H (.str t.kd)) (h3 : EvU tc σ H (t.ns.map V.int)) : EvTg K (tTup (tCons ta (tCons tb (tCons tc tNil)))) σ H t := fun H1 e Q q =>
  (ap_cons h1 (ap_cons h2 (ap_consU h3 ap_nil))) H1 e _ fun vs H2 e2 ⟨_, y1, _, y2, b, _, y3, y4, y5⟩ => ⟨by rw [y1, y2, y3, y5]; exact sz_of (by show 3 ≤ 100000; decide), fun r hr => q r _ (e2.trans (Ex.new hr)) ⟨b, st_of (by rw [upd_same, y1, y2, y3, y5]), st_of (Ex.new hr _ _ y4)⟩⟩
theorem ets2 {t1 t2 : Tg} (h1 : EvTg K ta σ H t1) (h2 : EvTg K tb σ H t2) : EvTs K (tTup (tCons ta (tCons tb tNil))) σ H [t1, t2] := fun H1 e Q q =>
  h1 H1 e _ fun a H2 e2 k1 => h2 H2 (e.trans e2) _ fun b H3 e3 k2 => ⟨sz_of (by show 2 ≤ 100000; decide), fun r hr => q r _ ((e2.trans e3).trans (Ex.new hr)) ⟨[a, b], st_of upd_same, rfl, fun i r' t y1 y2 => by
    match i with
    | 0 => cases y1; cases y2; exact (k1.ex e3).ex (Ex.new hr)
    | 1 => cases y1; cases y2; exact k2.ex (Ex.new hr)
    | n + 2 => cases y1⟩⟩
theorem ets0 : EvTs K (tTup tNil) σ H [] := fun H1 e Q q => ⟨sz_of (by show 0 ≤ 100000; decide), fun r hr => q r _ (Ex.new hr) ⟨[], st_of upd_same, rfl, fun i r' t y1 _ => by cases y1⟩⟩
theorem ew_newTs {E : XK} {t1 t2 t3 t4 : TE} (h1 : Ev t1 σ H (.int W.t)) (h2 : Ev t2 σ H (.int W.n)) (h3 : Ev t3 σ H (.int W.l)) (h4 : EvTs K t4 σ H W.ts) (ok : W.ok) : EvW K C (tMake C (spInit K C) [] E (tCons t1 (tCons t2 (tCons t3 (tCons t4 tNil))))) σ H W :=
  ew_make (fun H1 e Q q => h1 H1 e _ fun H2 e2 => h2 H2 (e.trans e2) _ fun H3 e3 => h3 H3 ((e.trans e2).trans e3) _ fun H4 e4 => h4 H4 (((e.trans e2).trans e3).trans e4) _ fun b H5 e5 hT => q _ H5 (((e2.trans e3).trans e4).trans e5) ⟨b, rfl, hT⟩) ok
theorem ev_textW {E : XK} (h : EvW K C te σ H W) (hw : WdW W) : Ev (tCall (Pure (kTextW K C)) [] E (tCons te tNil)) σ H (vS (worldW W)) := fun H1 e Q q => h H1 e _ fun p H2 hp e2 hW => ⟨_, ⟨p, W, rfl, hW, hw, rfl⟩, fun H3 e3 => q H3 (e2.trans e3)⟩
theorem evd_toldE {E : XK} {z : List Nat} (h : Ev te σ H (vS z)) (hz : TextOk z) : EvD K (tCall (spTold K) [] E (tCons te tNil)) σ H (datO (worldP z)) := fun H1 e Q q => h H1 e _ fun H2 e2 =>
  ⟨vS z, z, rfl, .inl rfl, hz, fun hn H' e' => q .non H' (e2.trans e') (by rw [hn]; exact .non), fun W hW p' H' hp e' hw => q _ H' (e2.trans e') (by rw [hW]; exact hw.dp)⟩
theorem ev_toldN {E : XK} {z : List Nat} (h : Ev te σ H (vS z)) (hz : TextOk z) (hno : worldP z = none) : Ev (tCall (spTold K) [] E (tCons te tNil)) σ H .non := fun H1 e Q q => h H1 e _ fun H2 e2 =>
  ⟨vS z, z, rfl, .inl rfl, hz, fun _ H' e' => q H' (e2.trans e'), fun W hW => by rw [hno] at hW; cases hW⟩
theorem ev_readN {E : XK} {z : List Nat} (h : Ev te σ H (vS z)) (hz : TextOk z) (hno : worldP z = none) : Ev (tCall (spLR K) [] E (tCons te tNil)) σ H .non := fun H1 e Q q => h H1 e _ fun H2 e2 =>
  ⟨z, rfl, hz, fun _ H' e' => q H' (e2.trans e'), fun W hW => by rw [hno] at hW; cases hW⟩
theorem ev_isNn (h : Ev te σ H v1) : Ev (tIsN te) σ H (.bl (decide (v1 = .non))) := fun H1 e _ q => h H1 e _ fun H2 e2 => q H2 e2
theorem ev_notNn (h : Ev te σ H v1) : Ev (tNotN te) σ H (.bl (!decide (v1 = .non))) := fun H1 e _ q => h H1 e _ fun H2 e2 => q H2 e2
/-- if not right(dice): return False -/
theorem s_whenR {E : XK} {i : Nat} (hs : σ[i]? = some (some (.ref p))) (d : Dice p H) (k : ∀ H1, Exd p H H1 → Dice p H1 → D.nx σ H1) :
    tIfS (tNot (tB (tCall (fun vs H Q _ => ∃ p, vs = [.ref p] ∧ Dice p H ∧ ∀ H', Exd p H H' → Dice p H' → Q (.bl true) H') [] E (tCons (tVar i) tNil)))) tu tNext D σ H :=
  ⟨.ref p, hs, ⟨p, rfl, d, fun H1 e1 d1 => ⟨true, rfl, by
    show (if (!true) = true then tu D σ H1 else tNext D σ H1)
    rw [if_neg (by decide)]
    exact k H1 e1 d1⟩⟩⟩
end
section
variable {P : Program} {w : World} {K : PySem.W.Frag} {mg : Str → Option Value} {base : Heap}
def spLaw (K : PySem.W.Frag) : Sp := fun vs H Q _ => ∃ (a : Addr) (ns : List Int), vs = [.ref a] ∧ SqL K H a (ns.map V.int) ∧ ns.length ≤ 63 ∧ ∀ H', Q (.bl true) H'
theorem ok_law (T : Txt K mg w) {f : Addr} {fd : FuncData} (F : Fun K "law" "law" s_law f fd) : FnOk P w K mg base CX0 13 f fd ["script"] (spLaw K) := by
  have G_law_dice := ok_dice (P := P) (w := w) (base := base) T
  have G_law_right := ok_law_right (P := P) (w := w) (base := base) T
  have G_World___init__ := ok_init (P := P) (w := w) (base := base) T
  have G_world_text := ok_world_text (P := P) (w := w) (base := base) T
  have G_law_told := ok_law_told (P := P) (w := w) (base := base) T
  have G_law_read := ok_law_read (P := P) (w := w) (base := base) T
  refine F.ok sc_law (fun vs H Q E h => ?_) (fun cdv A outer s H vs Q E hr h => ?_)
  · obtain ⟨_, _, rfl, _⟩ := h; rfl
  · obtain ⟨a, ns, rfl, hS, hlen, q⟩ := h
    refine ⟨_, (pss_cons (ps_for PassesOwn.never rfl (pi_range1 rfl T.z_range (pa_cons (pe_callB (c_max rfl) (by rfl) T.z_max (by decide +kernel) (pa_cons pe_int (pa_cons (pe_callB (c_min rfl) (by rfl) T.z_min (by decide +kernel) (pa_cons pe_int (pa_cons (pe_callB c_len (by rfl) T.z_len PySem.boot_len (pa_cons (pv 0) pa_nil)) pa_nil))) pa_nil))) pa_nil)) (pg_name (i := 1) sc_law.nd rfl (.inl rfl)) (pss_cons (ps_set (i := 2) sc_law.nd rfl (.inl rfl) (pe_call G_law_dice (hr.mono (by decide)) (by rfl) T.g_law_dice T.F_law_dice.kp T.b_law_dice .nil pass0 (pa_cons (pv 0) (pa_cons (pv 1) pa_nil))))
  (pss_one (ps_for PassesOwn.never rfl (pi_range1 rfl T.z_range (pa_cons pe_int pa_nil)) (pg_name (i := 3) sc_law.nd rfl (.inl rfl)) (pss_one (ps_if (pt_not (pt_val (pe_call G_law_right (hr.mono (by decide)) (by rfl) T.g_law_right T.F_law_right.kp T.b_law_right .nil pass0 (pa_cons (pv 2) pa_nil)))) (pss_one (ps_ret pe_bl)) pss_nil))))))
  (pss_cons (ps_set (i := 4) sc_law.nd rfl (.inl rfl) (pe_lst (pa_cons (pe_call G_world_text (hr.mono (by decide)) (by rfl) T.g_world_text T.F_world_text.kp T.b_world_text .nil pass0 (pa_cons (pe_make T.mk_World G_World___init__ (hr.mono (by decide)) (by rfl) T.g_World T.b_World___init__ .nil pass0 (pa_cons pe_int (pa_cons pe_int (pa_cons pe_int (pa_cons (pe_tup pa_nil) pa_nil))))) pa_nil)) (pa_cons (pe_call G_world_text (hr.mono (by decide)) (by rfl) T.g_world_text T.F_world_text.kp T.b_world_text .nil pass0 (pa_cons (pe_make T.mk_World G_World___init__ (hr.mono (by decide)) (by rfl) T.g_World T.b_World___init__ .nil pass0 (pa_cons pe_int (pa_cons pe_int (pa_cons pe_int (pa_cons (pe_tup (pa_cons (pe_tup (pa_cons pe_int (pa_cons pe_str (pa_cons (pe_tup (pa_cons (pe_un un_neg pe_int) (pa_cons pe_int pa_nil))) pa_nil)))) (pa_cons (pe_tup (pa_cons pe_int (pa_cons pe_str (pa_cons (pe_tup (pa_cons (pe_op op_pow pe_int pe_int) pa_nil)) pa_nil)))) pa_nil))) pa_nil))))) pa_nil)) pa_nil))))
  (pss_cons (ps_if (PW.pt (pw_or (pt_cmpR (op_neD hr.units) (pv 4) (pe_lst (pa_cons pe_str (pa_cons pe_str pa_nil))) (nomark _)) (pw_or1 (pt_cmpR (op_neD hr.units) (pe_call G_law_told (hr.mono (by decide)) (by rfl) T.g_law_told T.F_law_told.kp T.b_law_told .nil pass0 (pa_cons pe_str pa_nil)) (pe_tup (pa_cons pe_int (pa_cons pe_int (pa_cons pe_int (pa_cons (pe_tup (pa_cons (pe_tup (pa_cons pe_int (pa_cons pe_str (pa_cons (pe_tup (pa_cons pe_int pa_nil)) pa_nil)))) pa_nil)) pa_nil))))) (nomark _))))) (pss_one (ps_ret pe_bl)) pss_nil)
  (pss_cons (ps_set (i := 5) sc_law.nd rfl (.inl rfl) (pe_lst (pa_cons pe_str (pa_cons pe_str (pa_cons pe_str (pa_cons pe_str (pa_cons pe_str (pa_cons pe_str (pa_cons pe_str (pa_cons pe_str (pa_cons pe_str (pa_cons pe_str pa_nil))))))))))))
  (pss_one (ps_ret (pe_and (pe_cmpR (op_eqD hr.units) (pe_lc (own := [("text", 6)]) (g := gName 6) (by rfl) sc_law.nd (pi_list (pv 5)) (blkOk_by (own := [("text", 6)]) (N := ["script", "spot", "dice", "turn", "told", "odd", "text"]) (sc := defScope s_law) (by decide +kernel)) (fun _ _ _ _ _ => pg_name (i := 6) sc_law.nd rfl (Or.inl rfl)) (fun _ _ _ _ _ => (pts_one (pt_cmp (pc_notN (pe_call G_law_told (hr.mono (by decide)) (by rfl) T.g_law_told T.F_law_told.kp T.b_law_told .nil pass0 (pa_cons (pv 6) pa_nil))) rfl))) (fun _ _ _ _ _ => (pv 6))) (pe_lst pa_nil) (nomark _)) (pe_one (pe_cmp (pc_isN (pe_call G_law_read (hr.mono (by decide)) (by rfl) T.g_law_read T.F_law_read.kp T.b_law_read .nil pass0 (pa_cons pe_str pa_nil))) rfl))))))))), ?_⟩
    have hcnt : ∃ m : Int, 0 ≤ m ∧ m ≤ 1000 ∧ (if (if (ns.map V.int).length < (3 : Int) then ((ns.map V.int).length : Int) else 3) > 1 then (if (ns.map V.int).length < (3 : Int) then ((ns.map V.int).length : Int) else 3) else 1) = m := ⟨_, by split <;> split <;> omega, by split <;> split <;> omega, rfl⟩
    obtain ⟨m, hm0, hm1, hm⟩ := hcnt
    refine q_forR1 (n := m) (ea_cons (ev_is (by walk_at "ev") (by rw [← hm])) ea_nil) ⟨hm0, by omega⟩ (fun i σ' H' => Ex H H' ∧ ∃ z1 z2 z3, σ' = [some (.ref a), z1, z2, z3, none, none, none]) (fun H1 e1 => ⟨e1, none, none, none, rfl⟩) ?_ ?_
    · rintro i σ' H1 hi ⟨e1, z1, z2, z3, rfl⟩
      refine q_asgCall (vs := [.ref a, .int i]) (by walk_at "ea") fun H2 e2 => ⟨a, ns, i, rfl, ex_l (e1.trans e2) hS, fun p H3 hp e3 d3 => ?_⟩
      refine s_forR1 (n := 2) (ea_cons ev_c ea_nil) ⟨by decide, by decide⟩ (fun j σ' H' => Exd p H2 H' ∧ Dice p H' ∧ ∃ z3, σ' = [some (.ref a), some (.int i), some (.ref p), z3, none, none, none]) (fun H4 e4 => ⟨Exd.of (e3.trans e4), d3.ex e4, _, rfl⟩) ?_ ?_
      · rintro j σ' H4 hj ⟨x4, d4, z3, rfl⟩
        exact s_whenR (p := p) rfl d4 fun H5 x5 d5 => ⟨x4.trans x5, d5, _, rfl⟩
      · rintro σ' H4 ⟨x4, d4, z3, rfl⟩
        exact ⟨Exd.out x4 (e1.trans e2) (fresh_back (e1.trans e2) hp), _, _, _, rfl⟩
    rintro σ' H1 ⟨e1, z1, z2, z3, rfl⟩
    refine q_asgL (xs := [.str "0 0 0", .str "12 9 5;3 a -4 0;8 bc 1000000000"]) (el_lst (ea_cons (ev_is (ev_textW (W := W0') (ew_newTs (W := W0') ev_c ev_c ev_c ets0 w0_ok') w0_w) w0_text) (ea_cons (ev_is (ev_textW (W := W1) (ew_newTs (W := W1) ev_c ev_c ev_c (ets2 (t1 := ⟨3, "a", [-4, 0]⟩) (t2 := ⟨8, "bc", [1000000000]⟩) (etg ev_c ev_c (eu_tup (ea_cons (by walk_at "ev") (ea_cons ev_c ea_nil)) (by show 2 ≤ 100000; decide))) (etg ev_c ev_c (eu_tup (ea_cons (by walk_at "ev") ea_nil) (by show 1 ≤ 100000; decide)))) w1_ok) w1_w) w1_text) ea_nil)) (by show 2 ≤ 100000; decide)) fun pt H2 hpt e2 h2 => ?_
    refine q_when (b := false) (et_is (et_or (a := false) (b := false) (et_is (et_test (ev_neD (d := .list [.str "0 0 0", .str "12 9 5;3 a -4 0;8 bc 1000000000"]) (e := .list [.str "0 0 0", .str "12 9 5;3 a -4 0;8 bc 1000000000"]) (evd_of (ev_var rfl) fun H3 e3 => .lst (sq_of (e3 _ _ h2)) (.cons (.str _) (.cons (.str _) .nil))) (evd_lst (evda_cons (evd_str ev_c) (evda_cons (evd_str ev_c) evda_nil)) (by show 2 ≤ 100000; decide)) (by decide +kernel) (by decide +kernel))) (by decide +kernel)) fun _ => et_is (et_test (ev_neD (d := W2.dat) (e := W2.dat) ?_ (evd_tup (evda_cons (evd_int ev_c) (evda_cons (evd_int ev_c) (evda_cons (evd_int ev_c) (evda_cons (evd_tup (evda_cons (evd_tup (evda_cons (evd_int ev_c) (evda_cons (evd_str ev_c) (evda_cons (evd_tup (evda_cons (evd_int ev_c) evda_nil) (by show 1 ≤ 100000; decide)) evda_nil))) (by show 3 ≤ 100000; decide)) evda_nil) (by show 1 ≤ 100000; decide)) evda_nil)))) (by show 4 ≤ 100000; decide)) (by decide +kernel) (by decide +kernel))) (by rw [eqv_wd]; simp)) rfl) (fun h => by cases h) fun _ H3 e3 => ?_
    · have h := evd_toldE (K := K) (E := E0) (σ := [some (.ref a), z1, z2, z3, some (.ref pt), none, none]) (H := H2) (te := tC (.str "0 1 0;0 a 0")) (ev_is ev_c (kd_vS _)) w2_back.2
      rw [w2_back.1] at h
      exact h
    refine q_asgL (xs := odds.map V.str) (el_lst (by show EvA _ _ _ [_, _, _, _, _, _, _, _, _, _]; walk_at "ea") (by show 10 ≤ 100000; decide)) fun po H4 hpo e4 h4 => ?_
    have h8 := odds_no "0 1 0;0 a 00" (by decide +kernel)
    refine s_ret (v := .bl true) (ev_is (ev_andV (a := true) (b := true) (ev_is (ev_eqD (d := .list []) (e := .list []) (fun H5 e5 Q5 q5 => ?_) (evd_lst evda_nil (by decide)) (by decide) (by decide)) (by decide)) fun _ => ev_is (ev_isNn (ev_readN (z := (Str.ofString "0 1 0;0 a 00").cps.toList) (ev_is ev_c (kd_vS _)) h8.1 h8.2)) (by decide)) rfl) fun H5 e5 => q H5
    have hel : EvL (tLc (iList K (tVar 5)) (gName 6) (tB (tNotN (tCall (spTold K) [] E0 (tCons (tVar 6) tNil)))) (tVar 6) [6]) [some (.ref a), z1, z2, z3, some (.ref pt), some (.ref po), none] H4 (given (odds.map V.str).length (fun _ => false) fun _ => .non) := el_lcL (fun _ => false) (fun _ => .non) (ev_var rfl) (sq_of h4) (by decide +kernel) (fun _ => rfl) (fun i x H6 e6 hx => ?_) fun i x H6 e6 hx hf => by cases hf
    · have hg : given (odds.map V.str).length (fun _ => false) (fun _ => V.non) = [] := by
        unfold given
        rw [List.filter_eq_nil_iff.mpr (fun _ _ => by decide)]
        rfl
      rw [hg] at hel
      exact hel H5 e5 Q5 fun r H6 hr e6 h6 => q5 _ H6 e6 (.lst (sq_of h6) .nil)
    · rw [List.getElem?_map] at hx
      cases hq : odds[i]? with
      | none => rw [hq] at hx; cases hx
      | some s =>
        rw [hq] at hx
        obtain rfl : x = .str s := (Option.some.inj hx).symm
        have h9 := odds_no s (List.mem_of_getElem? hq)
        exact et_is (et_B (ev_notNn (ev_toldN (z := s.cps.toList) (ev_is (ev_var rfl) (kd_vS _)) h9.1 h9.2))) (by decide)
end
end Kz
set_option Elab.async false
set_option linter.all false
set_option maxRecDepth 100000
set_option maxHeartbeats 4000000
set_option exponentiation.threshold 500
namespace Kz
open PySem PySem.Spec PyProof.Rows L2 Evl Vr
open En Wo Tx NumText
theorem all_mk {l : PySem.W.OpenLaw} {w : World} {K : PySem.W.Frag} {h : Heap} {mg : Str → Option Value} {fa f0 f1 f2 f3 f4 f5 f6 f7 f8 f9 f10 f11 f12 f13 f14 f15 f16 f17 f18 f19 f20 f21 f22 f23 f24 f25 f26 f27 f28 f29 f30 f31 f32 f33 f34 f35 f36 f37 f38 f39 f40 f41 f42 : Addr} (X : K.In h) (G : h.Ns mainGlobals mg) (hfa : mg "law" = some (.ref fa)) {aIW : Addr} {C_World : Addr} {t_MODULUS : Tok} {t_MOST : Tok} {t_MAX_THINGS : Tok} {t_MAX_FIELDS : Tok} {t_MOST_DIGITS : Tok}
    {od0 an0 od1 an1 od2 an2 od3 an3 od4 an4 od5 an5 od6 an6 od7 an7 od8 an8 od9 an9 od10 an10 od11 an11 od12 an12 od13 an13 od14 an14 od15 an15 od16 an16 od17 an17 od18 an18 od19 an19 od20 an20 od21 an21 od22 an22 od23 an23 od24 an24 od25 an25 od26 an26 od27 an27 od28 an28 od29 an29 od30 an30 od31 an31 od32 an32 od33 an33 od34 an34 od35 an35 od36 an36 od37 an37 od38 an38 od39 an39 od40 an40 od41 an41 od42 an42 : Option Addr} {sl0 sl1 sl2 sl3 sl4 sl5 sl6 sl7 sl8 sl9 sl10 sl11 sl12 sl13 sl14 sl15 sl16 sl17 sl18 sl19 sl20 sl21 sl22 sl23 sl24 sl25 sl26 sl27 sl28 sl29 sl30 sl31 sl32 sl33 sl34 sl35 sl36 sl37 sl38 sl39 sl40 sl41 sl42 : Array (Option Value)} {oc0 kV0 dc0 pm0 cd0 ct0 oc1 kV1 dc1 pm1 cd1 ct1 oc2 kV2 dc2 pm2 cd2 ct2 oc3 kV3 dc3 pm3 cd3 ct3 oc4 kV4 dc4 pm4 cd4 ct4 oc5 kV5 dc5 pm5 cd5 ct5 oc6 kV6 dc6 pm6 cd6 ct6 oc7 kV7 dc7 pm7 cd7 ct7 oc8 kV8 dc8 pm8 cd8 ct8 oc9 kV9 dc9 pm9 cd9 ct9 oc10 kV10 dc10 pm10 cd10 ct10 oc11 kV11 dc11 pm11 cd11 ct11 oc12 kV12 dc12 pm12 cd12 ct12 oc13 kV13 dc13 pm13 cd13 ct13 oc14 kV14 dc14 pm14 cd14 ct14 oc15 kV15 dc15 pm15 cd15 ct15 oc16 kV16 dc16 pm16 cd16 ct16 oc17 kV17 dc17 pm17 cd17 ct17 oc18 kV18 dc18 pm18 cd18 ct18 oc19 kV19 dc19 pm19 cd19 ct19 oc20 kV20 dc20 pm20 cd20 ct20 oc21 kV21 dc21 pm21 cd21 ct21 oc22 kV22 dc22 pm22 cd22 ct22 oc23 kV23 dc23 pm23 cd23 ct23 oc24 kV24 dc24 pm24 cd24 ct24 oc25 kV25 dc25 pm25 cd25 ct25 oc26 kV26 dc26 pm26 cd26 ct26 oc27 kV27 dc27 pm27 cd27 ct27 oc28 kV28 dc28 pm28 cd28 ct28 oc29 kV29 dc29 pm29 cd29 ct29 oc30 kV30 dc30 pm30 cd30 ct30 oc31 kV31 dc31 pm31 cd31 ct31 oc32 kV32 dc32 pm32 cd32 ct32 oc33 kV33 dc33 pm33 cd33 ct33 oc34 kV34 dc34 pm34 cd34 ct34 oc35 kV35 dc35 pm35 cd35 ct35 oc36 kV36 dc36 pm36 cd36 ct36 oc37 kV37 dc37 pm37 cd37 ct37 oc38 kV38 dc38 pm38 cd38 ct38 oc39 kV39 dc39 pm39 cd39 ct39 oc40 kV40 dc40 pm40 cd40 ct40 oc41 kV41 dc41 pm41 cd41 ct41 oc42 kV42 dc42 pm42 cd42 ct42 : Value}
    (aC_World : PySem.W.nsIn K mainGlobals "World" = some (some (.ref C_World))) (pg_World : PySem.W.plainGet K C_World Str.empty = true) (hd_World : PySem.W.hasDictIn K C_World = true) (po_World : PySem.W.plainOver K C_World = true) (sa_World : PySem.W.findIn K (.ref C_World) "__setattr__" = some (some (.builtin "object.__setattr__"))) (mi_World : PySem.W.makesIn K C_World = true) (kc_World : PySem.W.keepIn K (.ref C_World) = true)
    (nA_World_tick : PySem.W.findIn K (.ref C_World) "tick" = some none)
    (nA_World_next_id : PySem.W.findIn K (.ref C_World) "next_id" = some none)
    (nA_World_luck : PySem.W.findIn K (.ref C_World) "luck" = some none)
    (nA_World_things : PySem.W.findIn K (.ref C_World) "things" = some none)
    (nA_World_order : PySem.W.findIn K (.ref C_World) "order" = some none)
    (nA_World_table : PySem.W.findIn K (.ref C_World) "table" = some none)
    (a0 : PySem.W.nsIn K mainGlobals "_wall" = some (some (.ref f0))) (l0 : K.lookup f0 = some ⟨oc0, od0, .func (PySem.W.fnOf "_wall" "_wall" (defArgs s_wall) (defBody s_wall) (defScope s_wall) .none kV0 dc0 pm0 an0 cd0 ct0), sl0⟩) (c0 : PySem.W.codeIn K cd0 "_wall" = true) (k0 : PySem.W.keepIn K (.ref f0) = true)
    (a1 : PySem.W.nsIn K mainGlobals "is_integer" = some (some (.ref f1))) (l1 : K.lookup f1 = some ⟨oc1, od1, .func (PySem.W.fnOf "is_integer" "is_integer" (defArgs s_is_integer) (defBody s_is_integer) (defScope s_is_integer) .none kV1 dc1 pm1 an1 cd1 ct1), sl1⟩) (c1 : PySem.W.codeIn K cd1 "is_integer" = true) (k1 : PySem.W.keepIn K (.ref f1) = true)
    (a2 : PySem.W.nsIn K mainGlobals "is_within" = some (some (.ref f2))) (l2 : K.lookup f2 = some ⟨oc2, od2, .func (PySem.W.fnOf "is_within" "is_within" (defArgs s_is_within) (defBody s_is_within) (defScope s_is_within) .none kV2 dc2 pm2 an2 cd2 ct2), sl2⟩) (c2 : PySem.W.codeIn K cd2 "is_within" = true) (k2 : PySem.W.keepIn K (.ref f2) = true)
    (a3 : PySem.W.nsIn K mainGlobals "is_whole" = some (some (.ref f3))) (l3 : K.lookup f3 = some ⟨oc3, od3, .func (PySem.W.fnOf "is_whole" "is_whole" (defArgs s_is_whole) (defBody s_is_whole) (defScope s_is_whole) .none kV3 dc3 pm3 an3 cd3 ct3), sl3⟩) (c3 : PySem.W.codeIn K cd3 "is_whole" = true) (k3 : PySem.W.keepIn K (.ref f3) = true)
    (a4 : PySem.W.nsIn K mainGlobals "is_name" = some (some (.ref f4))) (l4 : K.lookup f4 = some ⟨oc4, od4, .func (PySem.W.fnOf "is_name" "is_name" (defArgs s_is_name) (defBody s_is_name) (defScope s_is_name) .none kV4 dc4 pm4 an4 cd4 ct4), sl4⟩) (c4 : PySem.W.codeIn K cd4 "is_name" = true) (k4 : PySem.W.keepIn K (.ref f4) = true)
    (a5 : PySem.W.nsIn K mainGlobals "is_luck" = some (some (.ref f5))) (l5 : K.lookup f5 = some ⟨oc5, od5, .func (PySem.W.fnOf "is_luck" "is_luck" (defArgs s_is_luck) (defBody s_is_luck) (defScope s_is_luck) .none kV5 dc5 pm5 an5 cd5 ct5), sl5⟩) (c5 : PySem.W.codeIn K cd5 "is_luck" = true) (k5 : PySem.W.keepIn K (.ref f5) = true)
    (a6 : PySem.W.nsIn K mainGlobals "is_number" = some (some (.ref f6))) (l6 : K.lookup f6 = some ⟨oc6, od6, .func (PySem.W.fnOf "is_number" "is_number" (defArgs s_is_number) (defBody s_is_number) (defScope s_is_number) .none kV6 dc6 pm6 an6 cd6 ct6), sl6⟩) (c6 : PySem.W.codeIn K cd6 "is_number" = true) (k6 : PySem.W.keepIn K (.ref f6) = true)
    (a7 : PySem.W.findIn K (.ref C_World) "__init__" = some (some (.ref f7))) (i7 : PySem.W.isFn K (.ref f7) = true) (l7 : K.lookup f7 = some ⟨oc7, od7, .func (PySem.W.fnOf "__init__" "World.__init__" (defArgs s_World___init__) (defBody s_World___init__) (defScope s_World___init__) .none kV7 dc7 pm7 an7 cd7 ct7), sl7⟩) (c7 : PySem.W.codeIn K cd7 "World.__init__" = true) (k7 : PySem.W.keepIn K (.ref f7) = true)
    (a8 : PySem.W.findIn K (.ref C_World) "_fill" = some (some (.ref f8))) (i8 : PySem.W.isFn K (.ref f8) = true) (l8 : K.lookup f8 = some ⟨oc8, od8, .func (PySem.W.fnOf "_fill" "World._fill" (defArgs s_World__fill) (defBody s_World__fill) (defScope s_World__fill) .none kV8 dc8 pm8 an8 cd8 ct8), sl8⟩) (c8 : PySem.W.codeIn K cd8 "World._fill" = true) (k8 : PySem.W.keepIn K (.ref f8) = true)
    (a9 : PySem.W.findIn K (.ref C_World) "ids" = some (some (.ref f9))) (i9 : PySem.W.isFn K (.ref f9) = true) (l9 : K.lookup f9 = some ⟨oc9, od9, .func (PySem.W.fnOf "ids" "World.ids" (defArgs s_World_ids) (defBody s_World_ids) (defScope s_World_ids) .none kV9 dc9 pm9 an9 cd9 ct9), sl9⟩) (c9 : PySem.W.codeIn K cd9 "World.ids" = true) (k9 : PySem.W.keepIn K (.ref f9) = true)
    (a10 : PySem.W.findIn K (.ref C_World) "kind_of" = some (some (.ref f10))) (i10 : PySem.W.isFn K (.ref f10) = true) (l10 : K.lookup f10 = some ⟨oc10, od10, .func (PySem.W.fnOf "kind_of" "World.kind_of" (defArgs s_World_kind_of) (defBody s_World_kind_of) (defScope s_World_kind_of) .none kV10 dc10 pm10 an10 cd10 ct10), sl10⟩) (c10 : PySem.W.codeIn K cd10 "World.kind_of" = true) (k10 : PySem.W.keepIn K (.ref f10) = true)
    (a11 : PySem.W.findIn K (.ref C_World) "numbers" = some (some (.ref f11))) (i11 : PySem.W.isFn K (.ref f11) = true) (l11 : K.lookup f11 = some ⟨oc11, od11, .func (PySem.W.fnOf "numbers" "World.numbers" (defArgs s_World_numbers) (defBody s_World_numbers) (defScope s_World_numbers) .none kV11 dc11 pm11 an11 cd11 ct11), sl11⟩) (c11 : PySem.W.codeIn K cd11 "World.numbers" = true) (k11 : PySem.W.keepIn K (.ref f11) = true)
    (a12 : PySem.W.findIn K (.ref C_World) "__contains__" = some (some (.ref f12))) (i12 : PySem.W.isFn K (.ref f12) = true) (l12 : K.lookup f12 = some ⟨oc12, od12, .func (PySem.W.fnOf "__contains__" "World.__contains__" (defArgs s_World___contains__) (defBody s_World___contains__) (defScope s_World___contains__) .none kV12 dc12 pm12 an12 cd12 ct12), sl12⟩) (c12 : PySem.W.codeIn K cd12 "World.__contains__" = true) (k12 : PySem.W.keepIn K (.ref f12) = true)
    (a13 : PySem.W.findIn K (.ref C_World) "__len__" = some (some (.ref f13))) (i13 : PySem.W.isFn K (.ref f13) = true) (l13 : K.lookup f13 = some ⟨oc13, od13, .func (PySem.W.fnOf "__len__" "World.__len__" (defArgs s_World___len__) (defBody s_World___len__) (defScope s_World___len__) .none kV13 dc13 pm13 an13 cd13 ct13), sl13⟩) (c13 : PySem.W.codeIn K cd13 "World.__len__" = true) (k13 : PySem.W.keepIn K (.ref f13) = true)
    (a14 : PySem.W.findIn K (.ref C_World) "__iter__" = some (some (.ref f14))) (i14 : PySem.W.isFn K (.ref f14) = true) (l14 : K.lookup f14 = some ⟨oc14, od14, .func (PySem.W.fnOf "__iter__" "World.__iter__" (defArgs s_World___iter__) (defBody s_World___iter__) (defScope s_World___iter__) .none kV14 dc14 pm14 an14 cd14 ct14), sl14⟩) (c14 : PySem.W.codeIn K cd14 "World.__iter__" = true) (k14 : PySem.W.keepIn K (.ref f14) = true)
    (a15 : PySem.W.findIn K (.ref C_World) "__eq__" = some (some (.ref f15))) (i15 : PySem.W.isFn K (.ref f15) = true) (l15 : K.lookup f15 = some ⟨oc15, od15, .func (PySem.W.fnOf "__eq__" "World.__eq__" (defArgs s_World___eq__) (defBody s_World___eq__) (defScope s_World___eq__) .none kV15 dc15 pm15 an15 cd15 ct15), sl15⟩) (c15 : PySem.W.codeIn K cd15 "World.__eq__" = true) (k15 : PySem.W.keepIn K (.ref f15) = true)
    (a16 : PySem.W.findIn K (.ref C_World) "__str__" = some (some (.ref f16))) (i16 : PySem.W.isFn K (.ref f16) = true) (l16 : K.lookup f16 = some ⟨oc16, od16, .func (PySem.W.fnOf "__str__" "World.__str__" (defArgs s_World___str__) (defBody s_World___str__) (defScope s_World___str__) .none kV16 dc16 pm16 an16 cd16 ct16), sl16⟩) (c16 : PySem.W.codeIn K cd16 "World.__str__" = true) (k16 : PySem.W.keepIn K (.ref f16) = true)
    (a17 : PySem.W.nsIn K mainGlobals "properties_of" = some (some (.ref f17))) (l17 : K.lookup f17 = some ⟨oc17, od17, .func (PySem.W.fnOf "properties_of" "properties_of" (defArgs s_properties_of) (defBody s_properties_of) (defScope s_properties_of) .none kV17 dc17 pm17 an17 cd17 ct17), sl17⟩) (c17 : PySem.W.codeIn K cd17 "properties_of" = true) (k17 : PySem.W.keepIn K (.ref f17) = true)
    (a18 : PySem.W.nsIn K mainGlobals "world_of" = some (some (.ref f18))) (l18 : K.lookup f18 = some ⟨oc18, od18, .func (PySem.W.fnOf "world_of" "world_of" (defArgs s_world_of) (defBody s_world_of) (defScope s_world_of) .none kV18 dc18 pm18 an18 cd18 ct18), sl18⟩) (c18 : PySem.W.codeIn K cd18 "world_of" = true) (k18 : PySem.W.keepIn K (.ref f18) = true)
    (a19 : PySem.W.nsIn K mainGlobals "are_things" = some (some (.ref f19))) (l19 : K.lookup f19 = some ⟨oc19, od19, .func (PySem.W.fnOf "are_things" "are_things" (defArgs s_are_things) (defBody s_are_things) (defScope s_are_things) .none kV19 dc19 pm19 an19 cd19 ct19), sl19⟩) (c19 : PySem.W.codeIn K cd19 "are_things" = true) (k19 : PySem.W.keepIn K (.ref f19) = true)
    (a20 : PySem.W.nsIn K mainGlobals "is_thing" = some (some (.ref f20))) (l20 : K.lookup f20 = some ⟨oc20, od20, .func (PySem.W.fnOf "is_thing" "is_thing" (defArgs s_is_thing) (defBody s_is_thing) (defScope s_is_thing) .none kV20 dc20 pm20 an20 cd20 ct20), sl20⟩) (c20 : PySem.W.codeIn K cd20 "is_thing" = true) (k20 : PySem.W.keepIn K (.ref f20) = true)
    (a21 : PySem.W.nsIn K mainGlobals "are_numbers" = some (some (.ref f21))) (l21 : K.lookup f21 = some ⟨oc21, od21, .func (PySem.W.fnOf "are_numbers" "are_numbers" (defArgs s_are_numbers) (defBody s_are_numbers) (defScope s_are_numbers) .none kV21 dc21 pm21 an21 cd21 ct21), sl21⟩) (c21 : PySem.W.codeIn K cd21 "are_numbers" = true) (k21 : PySem.W.keepIn K (.ref f21) = true)
    (a22 : PySem.W.nsIn K mainGlobals "are_in_sequence" = some (some (.ref f22))) (l22 : K.lookup f22 = some ⟨oc22, od22, .func (PySem.W.fnOf "are_in_sequence" "are_in_sequence" (defArgs s_are_in_sequence) (defBody s_are_in_sequence) (defScope s_are_in_sequence) .none kV22 dc22 pm22 an22 cd22 ct22), sl22⟩) (c22 : PySem.W.codeIn K cd22 "are_in_sequence" = true) (k22 : PySem.W.keepIn K (.ref f22) = true)
    (a23 : PySem.W.nsIn K mainGlobals "need_world" = some (some (.ref f23))) (l23 : K.lookup f23 = some ⟨oc23, od23, .func (PySem.W.fnOf "need_world" "need_world" (defArgs s_need_world) (defBody s_need_world) (defScope s_need_world) .none kV23 dc23 pm23 an23 cd23 ct23), sl23⟩) (c23 : PySem.W.codeIn K cd23 "need_world" = true) (k23 : PySem.W.keepIn K (.ref f23) = true)
    (a24 : PySem.W.nsIn K mainGlobals "world_text" = some (some (.ref f24))) (l24 : K.lookup f24 = some ⟨oc24, od24, .func (PySem.W.fnOf "world_text" "world_text" (defArgs s_world_text) (defBody s_world_text) (defScope s_world_text) .none kV24 dc24 pm24 an24 cd24 ct24), sl24⟩) (c24 : PySem.W.codeIn K cd24 "world_text" = true) (k24 : PySem.W.keepIn K (.ref f24) = true)
    (a25 : PySem.W.nsIn K mainGlobals "read_world" = some (some (.ref f25))) (l25 : K.lookup f25 = some ⟨oc25, od25, .func (PySem.W.fnOf "read_world" "read_world" (defArgs s_read_world) (defBody s_read_world) (defScope s_read_world) .none kV25 dc25 pm25 an25 cd25 ct25), sl25⟩) (c25 : PySem.W.codeIn K cd25 "read_world" = true) (k25 : PySem.W.keepIn K (.ref f25) = true)
    (a26 : PySem.W.nsIn K mainGlobals "read_thing" = some (some (.ref f26))) (l26 : K.lookup f26 = some ⟨oc26, od26, .func (PySem.W.fnOf "read_thing" "read_thing" (defArgs s_read_thing) (defBody s_read_thing) (defScope s_read_thing) .none kV26 dc26 pm26 an26 cd26 ct26), sl26⟩) (c26 : PySem.W.codeIn K cd26 "read_thing" = true) (k26 : PySem.W.keepIn K (.ref f26) = true)
    (a27 : PySem.W.nsIn K mainGlobals "is_count" = some (some (.ref f27))) (l27 : K.lookup f27 = some ⟨oc27, od27, .func (PySem.W.fnOf "is_count" "is_count" (defArgs s_is_count) (defBody s_is_count) (defScope s_is_count) .none kV27 dc27 pm27 an27 cd27 ct27), sl27⟩) (c27 : PySem.W.codeIn K cd27 "is_count" = true) (k27 : PySem.W.keepIn K (.ref f27) = true)
    (a28 : PySem.W.nsIn K mainGlobals "is_signed" = some (some (.ref f28))) (l28 : K.lookup f28 = some ⟨oc28, od28, .func (PySem.W.fnOf "is_signed" "is_signed" (defArgs s_is_signed) (defBody s_is_signed) (defScope s_is_signed) .none kV28 dc28 pm28 an28 cd28 ct28), sl28⟩) (c28 : PySem.W.codeIn K cd28 "is_signed" = true) (k28 : PySem.W.keepIn K (.ref f28) = true)
    (a29 : PySem.W.nsIn K mainGlobals "_law_dice" = some (some (.ref f29))) (l29 : K.lookup f29 = some ⟨oc29, od29, .func (PySem.W.fnOf "_law_dice" "_law_dice" (defArgs s_law_dice) (defBody s_law_dice) (defScope s_law_dice) .none kV29 dc29 pm29 an29 cd29 ct29), sl29⟩) (c29 : PySem.W.codeIn K cd29 "_law_dice" = true) (k29 : PySem.W.keepIn K (.ref f29) = true)
    (a30 : PySem.W.nsIn K mainGlobals "_law_roll" = some (some (.ref f30))) (l30 : K.lookup f30 = some ⟨oc30, od30, .func (PySem.W.fnOf "_law_roll" "_law_roll" (defArgs s_law_roll) (defBody s_law_roll) (defScope s_law_roll) .none kV30 dc30 pm30 an30 cd30 ct30), sl30⟩) (c30 : PySem.W.codeIn K cd30 "_law_roll" = true) (k30 : PySem.W.keepIn K (.ref f30) = true)
    (a31 : PySem.W.nsIn K mainGlobals "_law_pick" = some (some (.ref f31))) (l31 : K.lookup f31 = some ⟨oc31, od31, .func (PySem.W.fnOf "_law_pick" "_law_pick" (defArgs s_law_pick) (defBody s_law_pick) (defScope s_law_pick) .none kV31 dc31 pm31 an31 cd31 ct31), sl31⟩) (c31 : PySem.W.codeIn K cd31 "_law_pick" = true) (k31 : PySem.W.keepIn K (.ref f31) = true)
    (a32 : PySem.W.nsIn K mainGlobals "_law_near" = some (some (.ref f32))) (l32 : K.lookup f32 = some ⟨oc32, od32, .func (PySem.W.fnOf "_law_near" "_law_near" (defArgs s_law_near) (defBody s_law_near) (defScope s_law_near) .none kV32 dc32 pm32 an32 cd32 ct32), sl32⟩) (c32 : PySem.W.codeIn K cd32 "_law_near" = true) (k32 : PySem.W.keepIn K (.ref f32) = true)
    (a33 : PySem.W.nsIn K mainGlobals "_law_wd_plain" = some (some (.ref f33))) (l33 : K.lookup f33 = some ⟨oc33, od33, .func (PySem.W.fnOf "_law_wd_plain" "_law_wd_plain" (defArgs s_law_wd_plain) (defBody s_law_wd_plain) (defScope s_law_wd_plain) .none kV33 dc33 pm33 an33 cd33 ct33), sl33⟩) (c33 : PySem.W.codeIn K cd33 "_law_wd_plain" = true) (k33 : PySem.W.keepIn K (.ref f33) = true)
    (a34 : PySem.W.nsIn K mainGlobals "_law_world_drawn" = some (some (.ref f34))) (l34 : K.lookup f34 = some ⟨oc34, od34, .func (PySem.W.fnOf "_law_world_drawn" "_law_world_drawn" (defArgs s_law_world_drawn) (defBody s_law_world_drawn) (defScope s_law_world_drawn) .none kV34 dc34 pm34 an34 cd34 ct34), sl34⟩) (c34 : PySem.W.codeIn K cd34 "_law_world_drawn" = true) (k34 : PySem.W.keepIn K (.ref f34) = true)
    (a35 : PySem.W.nsIn K mainGlobals "_law_written" = some (some (.ref f35))) (l35 : K.lookup f35 = some ⟨oc35, od35, .func (PySem.W.fnOf "_law_written" "_law_written" (defArgs s_law_written) (defBody s_law_written) (defScope s_law_written) .none kV35 dc35 pm35 an35 cd35 ct35), sl35⟩) (c35 : PySem.W.codeIn K cd35 "_law_written" = true) (k35 : PySem.W.keepIn K (.ref f35) = true)
    (a36 : PySem.W.nsIn K mainGlobals "_law_integer" = some (some (.ref f36))) (l36 : K.lookup f36 = some ⟨oc36, od36, .func (PySem.W.fnOf "_law_integer" "_law_integer" (defArgs s_law_integer) (defBody s_law_integer) (defScope s_law_integer) .none kV36 dc36 pm36 an36 cd36 ct36), sl36⟩) (c36 : PySem.W.codeIn K cd36 "_law_integer" = true) (k36 : PySem.W.keepIn K (.ref f36) = true)
    (a37 : PySem.W.nsIn K mainGlobals "_law_read_thing" = some (some (.ref f37))) (l37 : K.lookup f37 = some ⟨oc37, od37, .func (PySem.W.fnOf "_law_read_thing" "_law_read_thing" (defArgs s_law_read_thing) (defBody s_law_read_thing) (defScope s_law_read_thing) .none kV37 dc37 pm37 an37 cd37 ct37), sl37⟩) (c37 : PySem.W.codeIn K cd37 "_law_read_thing" = true) (k37 : PySem.W.keepIn K (.ref f37) = true)
    (a38 : PySem.W.nsIn K mainGlobals "_law_read" = some (some (.ref f38))) (l38 : K.lookup f38 = some ⟨oc38, od38, .func (PySem.W.fnOf "_law_read" "_law_read" (defArgs s_law_read) (defBody s_law_read) (defScope s_law_read) .none kV38 dc38 pm38 an38 cd38 ct38), sl38⟩) (c38 : PySem.W.codeIn K cd38 "_law_read" = true) (k38 : PySem.W.keepIn K (.ref f38) = true)
    (a39 : PySem.W.nsIn K mainGlobals "_law_near_texts" = some (some (.ref f39))) (l39 : K.lookup f39 = some ⟨oc39, od39, .func (PySem.W.fnOf "_law_near_texts" "_law_near_texts" (defArgs s_law_near_texts) (defBody s_law_near_texts) (defScope s_law_near_texts) .none kV39 dc39 pm39 an39 cd39 ct39), sl39⟩) (c39 : PySem.W.codeIn K cd39 "_law_near_texts" = true) (k39 : PySem.W.keepIn K (.ref f39) = true)
    (a40 : PySem.W.nsIn K mainGlobals "_law_told" = some (some (.ref f40))) (l40 : K.lookup f40 = some ⟨oc40, od40, .func (PySem.W.fnOf "_law_told" "_law_told" (defArgs s_law_told) (defBody s_law_told) (defScope s_law_told) .none kV40 dc40 pm40 an40 cd40 ct40), sl40⟩) (c40 : PySem.W.codeIn K cd40 "_law_told" = true) (k40 : PySem.W.keepIn K (.ref f40) = true)
    (a41 : PySem.W.nsIn K mainGlobals "_law_right" = some (some (.ref f41))) (l41 : K.lookup f41 = some ⟨oc41, od41, .func (PySem.W.fnOf "_law_right" "_law_right" (defArgs s_law_right) (defBody s_law_right) (defScope s_law_right) .none kV41 dc41 pm41 an41 cd41 ct41), sl41⟩) (c41 : PySem.W.codeIn K cd41 "_law_right" = true) (k41 : PySem.W.keepIn K (.ref f41) = true)
    (a42 : PySem.W.nsIn K mainGlobals "law" = some (some (.ref f42))) (l42 : K.lookup f42 = some ⟨oc42, od42, .func (PySem.W.fnOf "law" "law" (defArgs s_law) (defBody s_law) (defScope s_law) .none kV42 dc42 pm42 an42 cd42 ct42), sl42⟩) (c42 : PySem.W.codeIn K cd42 "law" = true) (k42 : PySem.W.keepIn K (.ref f42) = true)
    (z_abs : PySem.W.nsIn K mainGlobals "abs" = some none)
    (z_max : PySem.W.nsIn K mainGlobals "max" = some none)
    (z_min : PySem.W.nsIn K mainGlobals "min" = some none)
    (z_int : PySem.W.nsIn K mainGlobals "int" = some none)
    (z_len : PySem.W.nsIn K mainGlobals "len" = some none)
    (z_range : PySem.W.nsIn K mainGlobals "range" = some none)
    (z_isinstance : PySem.W.nsIn K mainGlobals "isinstance" = some none)
    (z_str : PySem.W.nsIn K mainGlobals "str" = some none)
    (z_bool : PySem.W.nsIn K mainGlobals "bool" = some none)
    (z_tuple : PySem.W.nsIn K mainGlobals "tuple" = some none)
    (z_list : PySem.W.nsIn K mainGlobals "list" = some none)
    (z_all : PySem.W.nsIn K mainGlobals "all" = some none)
    (z_zip : PySem.W.nsIn K mainGlobals "zip" = some none)
    (z_iter : PySem.W.nsIn K mainGlobals "iter" = some none)
    (v_MODULUS : PySem.W.nsIn K mainGlobals "MODULUS" = some (some (.int 999999937 t_MODULUS)))
    (v_MOST : PySem.W.nsIn K mainGlobals "MOST" = some (some (.int 1000000000 t_MOST)))
    (v_MAX_THINGS : PySem.W.nsIn K mainGlobals "MAX_THINGS" = some (some (.int 12 t_MAX_THINGS)))
    (v_MAX_FIELDS : PySem.W.nsIn K mainGlobals "MAX_FIELDS" = some (some (.int 8 t_MAX_FIELDS)))
    (v_MOST_DIGITS : PySem.W.nsIn K mainGlobals "MOST_DIGITS" = some (some (.int 4000 t_MOST_DIGITS)))
    (vha_World : PySem.W.findIn K (.ref C_World) "__class__" = some (some (.builtin "object.__class__")))
    (vhn_World : PySem.W.specialIn K (.builtin "object.__class__") "__get__" = some (some (.builtin "getset_descriptor.__get__")))
    (vht_World : PySem.W.takesIn K (.builtin "object.__class__") = some true)
    (vhm_World : PySem.W.mroIn K C_World (.type "object") = some true)
    (vhy_World : PySem.W.typeIn K (.ref C_World) = some (.type "type"))
    (vhs_World_tuple : PySem.W.subIn K (.type "tuple") (.ref C_World) = some false)
    (vhs_World_NoneType : PySem.W.subIn K (.type "NoneType") (.ref C_World) = some false)
    (vhs_World_str : PySem.W.subIn K (.type "str") (.ref C_World) = some false)
    (vne_World : PySem.W.findIn K (.ref C_World) "__ne__" = some (some (.builtin "object.__ne__")))
    (vob_World : PySem.W.subIn K (.ref C_World) (.type "object") = some true)
    (wg_IW : PySem.W.nsIn K mainGlobals "InvalidWorld" = some (some (.ref aIW)))
    (wx_IW : PySem.W.excIn K aIW [.type "ValueError", .type "Exception", .type "BaseException", .type "object"] "ValueError.__new__" = true)
    (wk_IW : PySem.W.keepIn K (.ref aIW) = true)
    (we_IW : PySem.W.subIn K (.ref aIW) (.type "BaseException") = some true)
    (wy_IW : PySem.W.typeIn K (.ref aIW) = some (.type "type"))
    (wc_IW : PySem.W.isClsIn K aIW = true)
    (ws_IW : PySem.W.subIn K (.ref aIW) (.ref aIW) = some true)
    : ∃ fd : FuncData, (∀ (s : Shared) (v : Value), BindsTo s fd ⟨[v], []⟩ [("script", v)]) ∧ ∀ base : Heap, K.In base → base.Ns mainGlobals mg → FnOk l.prog w K mg base CX0 13 fa fd ["script"] (spLaw K) := by
  have e := hfa.symm.trans (PySem.W.mg_of X G a42)
  cases e
  have F0 := fun_mk (st := s_wall) l0 c0 k0
  have b0 := F0.binds (ps := ["k"]) fun _ _ _ _ _ _ us hl => match us, hl with | [_], _ => rfl
  have F1 := fun_mk (st := s_is_integer) l1 c1 k1
  have b1 := F1.binds (ps := ["value"]) fun _ _ _ _ _ _ us hl => match us, hl with | [_], _ => rfl
  have F2 := fun_mk (st := s_is_within) l2 c2 k2
  have b2 := F2.binds (ps := ["value", "low", "high"]) fun _ _ _ _ _ _ us hl => match us, hl with | [_, _, _], _ => rfl
  have F3 := fun_mk (st := s_is_whole) l3 c3 k3
  have b3 := F3.binds (ps := ["value"]) fun _ _ _ _ _ _ us hl => match us, hl with | [_], _ => rfl
  have F4 := fun_mk (st := s_is_name) l4 c4 k4
  have b4 := F4.binds (ps := ["value"]) fun _ _ _ _ _ _ us hl => match us, hl with | [_], _ => rfl
  have F5 := fun_mk (st := s_is_luck) l5 c5 k5
  have b5 := F5.binds (ps := ["value"]) fun _ _ _ _ _ _ us hl => match us, hl with | [_], _ => rfl
  have F6 := fun_mk (st := s_is_number) l6 c6 k6
  have b6 := F6.binds (ps := ["value"]) fun _ _ _ _ _ _ us hl => match us, hl with | [_], _ => rfl
  have F7 := fun_mk (st := s_World___init__) l7 c7 k7
  have b7 := F7.binds (ps := ["self", "tick", "next_id", "luck", "things"]) fun _ _ _ _ _ _ us hl => match us, hl with | [_, _, _, _, _], _ => rfl
  have F8 := fun_mk (st := s_World__fill) l8 c8 k8
  have b8 := F8.binds (ps := ["self", "tick", "next_id", "luck", "things"]) fun _ _ _ _ _ _ us hl => match us, hl with | [_, _, _, _, _], _ => rfl
  have F9 := fun_mk (st := s_World_ids) l9 c9 k9
  have b9 := F9.binds (ps := ["self", "kind"]) fun _ _ _ _ _ _ us hl => match us, hl with | [_, _], _ => rfl
  have F10 := fun_mk (st := s_World_kind_of) l10 c10 k10
  have b10 := F10.binds (ps := ["self", "thing"]) fun _ _ _ _ _ _ us hl => match us, hl with | [_, _], _ => rfl
  have F11 := fun_mk (st := s_World_numbers) l11 c11 k11
  have b11 := F11.binds (ps := ["self", "thing"]) fun _ _ _ _ _ _ us hl => match us, hl with | [_, _], _ => rfl
  have F12 := fun_mk (st := s_World___contains__) l12 c12 k12
  have b12 := F12.binds (ps := ["self", "value"]) fun _ _ _ _ _ _ us hl => match us, hl with | [_, _], _ => rfl
  have F13 := fun_mk (st := s_World___len__) l13 c13 k13
  have b13 := F13.binds (ps := ["self"]) fun _ _ _ _ _ _ us hl => match us, hl with | [_], _ => rfl
  have F14 := fun_mk (st := s_World___iter__) l14 c14 k14
  have b14 := F14.binds (ps := ["self"]) fun _ _ _ _ _ _ us hl => match us, hl with | [_], _ => rfl
  have F15 := fun_mk (st := s_World___eq__) l15 c15 k15
  have b15 := F15.binds (ps := ["self", "other"]) fun _ _ _ _ _ _ us hl => match us, hl with | [_, _], _ => rfl
  have F16 := fun_mk (st := s_World___str__) l16 c16 k16
  have b16 := F16.binds (ps := ["self"]) fun _ _ _ _ _ _ us hl => match us, hl with | [_], _ => rfl
  have F17 := fun_mk (st := s_properties_of) l17 c17 k17
  have b17 := F17.binds (ps := ["world"]) fun _ _ _ _ _ _ us hl => match us, hl with | [_], _ => rfl
  have F18 := fun_mk (st := s_world_of) l18 c18 k18
  have b18 := F18.binds (ps := ["tick", "next_id", "luck", "things"]) fun _ _ _ _ _ _ us hl => match us, hl with | [_, _, _, _], _ => rfl
  have F19 := fun_mk (st := s_are_things) l19 c19 k19
  have b19 := F19.binds (ps := ["value"]) fun _ _ _ _ _ _ us hl => match us, hl with | [_], _ => rfl
  have F20 := fun_mk (st := s_is_thing) l20 c20 k20
  have b20 := F20.binds (ps := ["value"]) fun _ _ _ _ _ _ us hl => match us, hl with | [_], _ => rfl
  have F21 := fun_mk (st := s_are_numbers) l21 c21 k21
  have b21 := F21.binds (ps := ["value"]) fun _ _ _ _ _ _ us hl => match us, hl with | [_], _ => rfl
  have F22 := fun_mk (st := s_are_in_sequence) l22 c22 k22
  have b22 := F22.binds (ps := ["things", "next_id"]) fun _ _ _ _ _ _ us hl => match us, hl with | [_, _], _ => rfl
  have F23 := fun_mk (st := s_need_world) l23 c23 k23
  have b23 := F23.binds (ps := ["value"]) fun _ _ _ _ _ _ us hl => match us, hl with | [_], _ => rfl
  have F24 := fun_mk (st := s_world_text) l24 c24 k24
  have b24 := F24.binds (ps := ["world"]) fun _ _ _ _ _ _ us hl => match us, hl with | [_], _ => rfl
  have F25 := fun_mk (st := s_read_world) l25 c25 k25
  have b25 := F25.binds (ps := ["text"]) fun _ _ _ _ _ _ us hl => match us, hl with | [_], _ => rfl
  have F26 := fun_mk (st := s_read_thing) l26 c26 k26
  have b26 := F26.binds (ps := ["text"]) fun _ _ _ _ _ _ us hl => match us, hl with | [_], _ => rfl
  have F27 := fun_mk (st := s_is_count) l27 c27 k27
  have b27 := F27.binds (ps := ["word"]) fun _ _ _ _ _ _ us hl => match us, hl with | [_], _ => rfl
  have F28 := fun_mk (st := s_is_signed) l28 c28 k28
  have b28 := F28.binds (ps := ["word"]) fun _ _ _ _ _ _ us hl => match us, hl with | [_], _ => rfl
  have F29 := fun_mk (st := s_law_dice) l29 c29 k29
  have b29 := F29.binds (ps := ["script", "spot"]) fun _ _ _ _ _ _ us hl => match us, hl with | [_, _], _ => rfl
  have F30 := fun_mk (st := s_law_roll) l30 c30 k30
  have b30 := F30.binds (ps := ["dice", "total"]) fun _ _ _ _ _ _ us hl => match us, hl with | [_, _], _ => rfl
  have F31 := fun_mk (st := s_law_pick) l31 c31 k31
  have b31 := F31.binds (ps := ["dice", "items"]) fun _ _ _ _ _ _ us hl => match us, hl with | [_, _], _ => rfl
  have F32 := fun_mk (st := s_law_near) l32 c32 k32
  have b32 := F32.binds (ps := ["dice", "most"]) fun _ _ _ _ _ _ us hl => match us, hl with | [_, _], _ => rfl
  have F33 := fun_mk (st := s_law_wd_plain) l33 c33 k33
  have b33 := F33.binds (ps := ["world"]) fun _ _ _ _ _ _ us hl => match us, hl with | [_], _ => rfl
  have F34 := fun_mk (st := s_law_world_drawn) l34 c34 k34
  have b34 := F34.binds (ps := ["dice"]) fun _ _ _ _ _ _ us hl => match us, hl with | [_], _ => rfl
  have F35 := fun_mk (st := s_law_written) l35 c35 k35
  have b35 := F35.binds (ps := ["plain"]) fun _ _ _ _ _ _ us hl => match us, hl with | [_], _ => rfl
  have F36 := fun_mk (st := s_law_integer) l36 c36 k36
  have b36 := F36.binds (ps := ["part"]) fun _ _ _ _ _ _ us hl => match us, hl with | [_], _ => rfl
  have F37 := fun_mk (st := s_law_read_thing) l37 c37 k37
  have b37 := F37.binds (ps := ["part", "least"]) fun _ _ _ _ _ _ us hl => match us, hl with | [_, _], _ => rfl
  have F38 := fun_mk (st := s_law_read) l38 c38 k38
  have b38 := F38.binds (ps := ["text"]) fun _ _ _ _ _ _ us hl => match us, hl with | [_], _ => rfl
  have F39 := fun_mk (st := s_law_near_texts) l39 c39 k39
  have b39 := F39.binds (ps := ["dice", "text"]) fun _ _ _ _ _ _ us hl => match us, hl with | [_, _], _ => rfl
  have F40 := fun_mk (st := s_law_told) l40 c40 k40
  have b40 := F40.binds (ps := ["text"]) fun _ _ _ _ _ _ us hl => match us, hl with | [_], _ => rfl
  have F41 := fun_mk (st := s_law_right) l41 c41 k41
  have b41 := F41.binds (ps := ["dice"]) fun _ _ _ _ _ _ us hl => match us, hl with | [_], _ => rfl
  have F42 := fun_mk (st := s_law) l42 c42 k42
  let T : Txt K mg w := {
    a_wall := f0
    fd_wall := _
    F_wall := F0
    g_wall := PySem.W.mg_of X G a0
    b_wall := b0
    a_is_integer := f1
    fd_is_integer := _
    F_is_integer := F1
    g_is_integer := PySem.W.mg_of X G a1
    b_is_integer := b1
    a_is_within := f2
    fd_is_within := _
    F_is_within := F2
    g_is_within := PySem.W.mg_of X G a2
    b_is_within := b2
    a_is_whole := f3
    fd_is_whole := _
    F_is_whole := F3
    g_is_whole := PySem.W.mg_of X G a3
    b_is_whole := b3
    a_is_name := f4
    fd_is_name := _
    F_is_name := F4
    g_is_name := PySem.W.mg_of X G a4
    b_is_name := b4
    a_is_luck := f5
    fd_is_luck := _
    F_is_luck := F5
    g_is_luck := PySem.W.mg_of X G a5
    b_is_luck := b5
    a_is_number := f6
    fd_is_number := _
    F_is_number := F6
    g_is_number := PySem.W.mg_of X G a6
    b_is_number := b6
    a_World___init__ := f7
    fd_World___init__ := _
    F_World___init__ := F7
    m_World___init__ := ⟨a7, i7, k7⟩
    b_World___init__ := b7
    mk_World := ⟨mi_World, a7, i7, kc_World⟩
    a_World__fill := f8
    fd_World__fill := _
    F_World__fill := F8
    m_World__fill := ⟨a8, i8, k8⟩
    b_World__fill := b8
    a_World_ids := f9
    fd_World_ids := _
    F_World_ids := F9
    m_World_ids := ⟨a9, i9, k9⟩
    b_World_ids := b9
    a_World_kind_of := f10
    fd_World_kind_of := _
    F_World_kind_of := F10
    m_World_kind_of := ⟨a10, i10, k10⟩
    b_World_kind_of := b10
    a_World_numbers := f11
    fd_World_numbers := _
    F_World_numbers := F11
    m_World_numbers := ⟨a11, i11, k11⟩
    b_World_numbers := b11
    a_World___contains__ := f12
    fd_World___contains__ := _
    F_World___contains__ := F12
    m_World___contains__ := ⟨a12, i12, k12⟩
    b_World___contains__ := b12
    a_World___len__ := f13
    fd_World___len__ := _
    F_World___len__ := F13
    m_World___len__ := ⟨a13, i13, k13⟩
    b_World___len__ := b13
    a_World___iter__ := f14
    fd_World___iter__ := _
    F_World___iter__ := F14
    m_World___iter__ := ⟨a14, i14, k14⟩
    b_World___iter__ := b14
    a_World___eq__ := f15
    fd_World___eq__ := _
    F_World___eq__ := F15
    m_World___eq__ := ⟨a15, i15, k15⟩
    b_World___eq__ := b15
    a_World___str__ := f16
    fd_World___str__ := _
    F_World___str__ := F16
    m_World___str__ := ⟨a16, i16, k16⟩
    b_World___str__ := b16
    a_properties_of := f17
    fd_properties_of := _
    F_properties_of := F17
    g_properties_of := PySem.W.mg_of X G a17
    b_properties_of := b17
    a_world_of := f18
    fd_world_of := _
    F_world_of := F18
    g_world_of := PySem.W.mg_of X G a18
    b_world_of := b18
    a_are_things := f19
    fd_are_things := _
    F_are_things := F19
    g_are_things := PySem.W.mg_of X G a19
    b_are_things := b19
    a_is_thing := f20
    fd_is_thing := _
    F_is_thing := F20
    g_is_thing := PySem.W.mg_of X G a20
    b_is_thing := b20
    a_are_numbers := f21
    fd_are_numbers := _
    F_are_numbers := F21
    g_are_numbers := PySem.W.mg_of X G a21
    b_are_numbers := b21
    a_are_in_sequence := f22
    fd_are_in_sequence := _
    F_are_in_sequence := F22
    g_are_in_sequence := PySem.W.mg_of X G a22
    b_are_in_sequence := b22
    a_need_world := f23
    fd_need_world := _
    F_need_world := F23
    g_need_world := PySem.W.mg_of X G a23
    b_need_world := b23
    a_world_text := f24
    fd_world_text := _
    F_world_text := F24
    g_world_text := PySem.W.mg_of X G a24
    b_world_text := b24
    a_read_world := f25
    fd_read_world := _
    F_read_world := F25
    g_read_world := PySem.W.mg_of X G a25
    b_read_world := b25
    a_read_thing := f26
    fd_read_thing := _
    F_read_thing := F26
    g_read_thing := PySem.W.mg_of X G a26
    b_read_thing := b26
    a_is_count := f27
    fd_is_count := _
    F_is_count := F27
    g_is_count := PySem.W.mg_of X G a27
    b_is_count := b27
    a_is_signed := f28
    fd_is_signed := _
    F_is_signed := F28
    g_is_signed := PySem.W.mg_of X G a28
    b_is_signed := b28
    a_law_dice := f29
    fd_law_dice := _
    F_law_dice := F29
    g_law_dice := PySem.W.mg_of X G a29
    b_law_dice := b29
    a_law_roll := f30
    fd_law_roll := _
    F_law_roll := F30
    g_law_roll := PySem.W.mg_of X G a30
    b_law_roll := b30
    a_law_pick := f31
    fd_law_pick := _
    F_law_pick := F31
    g_law_pick := PySem.W.mg_of X G a31
    b_law_pick := b31
    a_law_near := f32
    fd_law_near := _
    F_law_near := F32
    g_law_near := PySem.W.mg_of X G a32
    b_law_near := b32
    a_law_wd_plain := f33
    fd_law_wd_plain := _
    F_law_wd_plain := F33
    g_law_wd_plain := PySem.W.mg_of X G a33
    b_law_wd_plain := b33
    a_law_world_drawn := f34
    fd_law_world_drawn := _
    F_law_world_drawn := F34
    g_law_world_drawn := PySem.W.mg_of X G a34
    b_law_world_drawn := b34
    a_law_written := f35
    fd_law_written := _
    F_law_written := F35
    g_law_written := PySem.W.mg_of X G a35
    b_law_written := b35
    a_law_integer := f36
    fd_law_integer := _
    F_law_integer := F36
    g_law_integer := PySem.W.mg_of X G a36
    b_law_integer := b36
    a_law_read_thing := f37
    fd_law_read_thing := _
    F_law_read_thing := F37
    g_law_read_thing := PySem.W.mg_of X G a37
    b_law_read_thing := b37
    a_law_read := f38
    fd_law_read := _
    F_law_read := F38
    g_law_read := PySem.W.mg_of X G a38
    b_law_read := b38
    a_law_near_texts := f39
    fd_law_near_texts := _
    F_law_near_texts := F39
    g_law_near_texts := PySem.W.mg_of X G a39
    b_law_near_texts := b39
    a_law_told := f40
    fd_law_told := _
    F_law_told := F40
    g_law_told := PySem.W.mg_of X G a40
    b_law_told := b40
    a_law_right := f41
    fd_law_right := _
    F_law_right := F41
    g_law_right := PySem.W.mg_of X G a41
    b_law_right := b41
    C_World := C_World
    cl_World := ⟨pg_World, hd_World, po_World, sa_World⟩
    g_World := PySem.W.mg_of X G aC_World
    n_World_tick := nA_World_tick
    n_World_next_id := nA_World_next_id
    n_World_luck := nA_World_luck
    n_World_things := nA_World_things
    n_World_order := nA_World_order
    n_World_table := nA_World_table
    z_abs := PySem.W.mg_none_of X G z_abs
    z_max := PySem.W.mg_none_of X G z_max
    z_min := PySem.W.mg_none_of X G z_min
    z_int := PySem.W.mg_none_of X G z_int
    z_len := PySem.W.mg_none_of X G z_len
    z_range := PySem.W.mg_none_of X G z_range
    z_isinstance := PySem.W.mg_none_of X G z_isinstance
    z_str := PySem.W.mg_none_of X G z_str
    z_bool := PySem.W.mg_none_of X G z_bool
    z_tuple := PySem.W.mg_none_of X G z_tuple
    z_list := PySem.W.mg_none_of X G z_list
    z_all := PySem.W.mg_none_of X G z_all
    z_zip := PySem.W.mg_none_of X G z_zip
    z_iter := PySem.W.mg_none_of X G z_iter
    t_MODULUS := t_MODULUS
    g_MODULUS := PySem.W.mg_of X G v_MODULUS
    t_MOST := t_MOST
    g_MOST := PySem.W.mg_of X G v_MOST
    t_MAX_THINGS := t_MAX_THINGS
    g_MAX_THINGS := PySem.W.mg_of X G v_MAX_THINGS
    t_MAX_FIELDS := t_MAX_FIELDS
    g_MAX_FIELDS := PySem.W.mg_of X G v_MAX_FIELDS
    t_MOST_DIGITS := t_MOST_DIGITS
    g_MOST_DIGITS := PySem.W.mg_of X G v_MOST_DIGITS
    ha_World := vha_World
    hn_World := vhn_World
    ht_World := vht_World
    hm_World := vhm_World
    hc_World := (by obtain ⟨cd, hc, _⟩ := PySem.W.any_some hd_World; rw [hc]; rfl)
    hy_World := vhy_World
    hs_World_tuple := vhs_World_tuple
    hs_World_NoneType := vhs_World_NoneType
    hs_World_str := vhs_World_str
    ne_World := vne_World
    ob_World := vob_World
    C_IW := aIW
    g_InvalidWorld := PySem.W.mg_of X G wg_IW
    x_IW := wx_IW
    k_IW := wk_IW
    e_IW := we_IW
    y_IW := wy_IW
    c_IW := wc_IW
    s_IW := ws_IW
  }
  exact ⟨PySem.W.fnOf "law" "law" (defArgs s_law) (defBody s_law) (defScope s_law) .none kV42 dc42 pm42 an42 cd42 ct42, fun s v => .of_eq rfl, fun base _ _ => ok_law T F42⟩
end Kz
open PySem PySem.W PyProof.Rows
set_option maxHeartbeats 0 in
theorem PySem.Challenge.cw_settledplay_k07_whole_texts_of_worlds_holds : PySem.Challenge.rw_settledplay_k07_whole_texts_of_worlds.Holds := by
  w_on; o_law; k_head; (case hw => w_witness2)
  k_fill
  refine L2.walk_of (l := PySem.Challenge.rw_settledplay_k07_whole_texts_of_worlds) (n := 63) (k := 13) (x := "script") (CX := fun _ => L2.CX0) (sp := fun w => Kz.spLaw _) rfl (by decide) rfl ⟨rfl, by decide, by decide⟩ (fun w h Y => PySem.W.kIn_of Y) ?F (fun _ _ a ns hl _ hS => ⟨a, ns, rfl, hS, hl, fun _ => rfl⟩) (fun _ _ _ _ _ h => h)
  case F =>
    intro w mg fa h KX G hmg
    refine' Kz.all_mk KX G hmg ?aC_World ?pg_World ?hd_World ?po_World ?sa_World ?mi_World ?kc_World ?nA_World_tick ?nA_World_next_id ?nA_World_luck ?nA_World_things ?nA_World_order ?nA_World_table ?a0 ?l0 ?c0 ?k0 ?a1 ?l1 ?c1 ?k1 ?a2 ?l2 ?c2 ?k2 ?a3 ?l3 ?c3 ?k3 ?a4 ?l4 ?c4 ?k4 ?a5 ?l5 ?c5 ?k5 ?a6 ?l6 ?c6 ?k6 ?a7 ?i7 ?l7 ?c7 ?k7 ?a8 ?i8 ?l8 ?c8 ?k8 ?a9 ?i9 ?l9 ?c9 ?k9 ?a10 ?i10 ?l10 ?c10 ?k10 ?a11 ?i11 ?l11 ?c11 ?k11 ?a12 ?i12 ?l12 ?c12 ?k12 ?a13 ?i13 ?l13 ?c13 ?k13 ?a14 ?i14 ?l14 ?c14 ?k14 ?a15 ?i15 ?l15 ?c15 ?k15 ?a16 ?i16 ?l16 ?c16 ?k16 ?a17 ?l17 ?c17 ?k17 ?a18 ?l18 ?c18 ?k18 ?a19 ?l19 ?c19 ?k19 ?a20 ?l20 ?c20 ?k20 ?a21 ?l21 ?c21 ?k21 ?a22 ?l22 ?c22 ?k22 ?a23 ?l23 ?c23 ?k23 ?a24 ?l24 ?c24 ?k24 ?a25 ?l25 ?c25 ?k25 ?a26 ?l26 ?c26 ?k26 ?a27 ?l27 ?c27 ?k27 ?a28 ?l28 ?c28 ?k28 ?a29 ?l29 ?c29 ?k29 ?a30 ?l30 ?c30 ?k30 ?a31 ?l31 ?c31 ?k31 ?a32 ?l32 ?c32 ?k32 ?a33 ?l33 ?c33 ?k33 ?a34 ?l34 ?c34 ?k34 ?a35 ?l35 ?c35 ?k35 ?a36 ?l36 ?c36 ?k36 ?a37 ?l37 ?c37 ?k37 ?a38 ?l38 ?c38 ?k38 ?a39 ?l39 ?c39 ?k39 ?a40 ?l40 ?c40 ?k40 ?a41 ?l41 ?c41 ?k41 ?a42 ?l42 ?c42 ?k42 ?z_abs ?z_max ?z_min ?z_int ?z_len ?z_range ?z_isinstance ?z_str ?z_bool ?z_tuple ?z_list ?z_all ?z_zip ?z_iter ?v_MODULUS ?v_MOST ?v_MAX_THINGS ?v_MAX_FIELDS ?v_MOST_DIGITS ?vha_World ?vhn_World ?vht_World ?vhm_World ?vhy_World ?vhs_World_tuple ?vhs_World_NoneType ?vhs_World_str ?vne_World ?vob_World ?wg_IW ?wx_IW ?wk_IW ?we_IW ?wy_IW ?wc_IW ?ws_IW
    (case aC_World => k_is)
    (case pg_World => k_is)
    (case hd_World => k_is)
    (case po_World => k_is)
    (case sa_World => k_is)
    (case mi_World => k_is)
    (case kc_World => k_is)
    (case nA_World_tick => k_is)
    (case nA_World_next_id => k_is)
    (case nA_World_luck => k_is)
    (case nA_World_things => k_is)
    (case nA_World_order => k_is)
    (case nA_World_table => k_is)
    (case a0 => k_is)
    (case l0 => k_is)
    (case c0 => k_is)
    (case k0 => k_is)
    (case a1 => k_is)
    (case l1 => k_is)
    (case c1 => k_is)
    (case k1 => k_is)
    (case a2 => k_is)
    (case l2 => k_is)
    (case c2 => k_is)
    (case k2 => k_is)
    (case a3 => k_is)
    (case l3 => k_is)
    (case c3 => k_is)
    (case k3 => k_is)
    (case a4 => k_is)
    (case l4 => k_is)
    (case c4 => k_is)
    (case k4 => k_is)
    (case a5 => k_is)
    (case l5 => k_is)
    (case c5 => k_is)
    (case k5 => k_is)
    (case a6 => k_is)
    (case l6 => k_is)
    (case c6 => k_is)
    (case k6 => k_is)
    (case a7 => k_is)
    (case i7 => k_is)
    (case l7 => k_is)
    (case c7 => k_is)
    (case k7 => k_is)
    (case a8 => k_is)
    (case i8 => k_is)
    (case l8 => k_is)
    (case c8 => k_is)
    (case k8 => k_is)
    (case a9 => k_is)
    (case i9 => k_is)
    (case l9 => k_is)
    (case c9 => k_is)
    (case k9 => k_is)
    (case a10 => k_is)
    (case i10 => k_is)
    (case l10 => k_is)
    (case c10 => k_is)
    (case k10 => k_is)
    (case a11 => k_is)
    (case i11 => k_is)
    (case l11 => k_is)
    (case c11 => k_is)
    (case k11 => k_is)
    (case a12 => k_is)
    (case i12 => k_is)
    (case l12 => k_is)
    (case c12 => k_is)
    (case k12 => k_is)
    (case a13 => k_is)
    (case i13 => k_is)
    (case l13 => k_is)
    (case c13 => k_is)
    (case k13 => k_is)
    (case a14 => k_is)
    (case i14 => k_is)
    (case l14 => k_is)
    (case c14 => k_is)
    (case k14 => k_is)
    (case a15 => k_is)
    (case i15 => k_is)
    (case l15 => k_is)
    (case c15 => k_is)
    (case k15 => k_is)
    (case a16 => k_is)
    (case i16 => k_is)
    (case l16 => k_is)
    (case c16 => k_is)
    (case k16 => k_is)
    (case a17 => k_is)
    (case l17 => k_is)
    (case c17 => k_is)
    (case k17 => k_is)
    (case a18 => k_is)
    (case l18 => k_is)
    (case c18 => k_is)
    (case k18 => k_is)
    (case a19 => k_is)
    (case l19 => k_is)
    (case c19 => k_is)
    (case k19 => k_is)
    (case a20 => k_is)
    (case l20 => k_is)
    (case c20 => k_is)
    (case k20 => k_is)
    (case a21 => k_is)
    (case l21 => k_is)
    (case c21 => k_is)
    (case k21 => k_is)
    (case a22 => k_is)
    (case l22 => k_is)
    (case c22 => k_is)
    (case k22 => k_is)
    (case a23 => k_is)
    (case l23 => k_is)
    (case c23 => k_is)
    (case k23 => k_is)
    (case a24 => k_is)
    (case l24 => k_is)
    (case c24 => k_is)
    (case k24 => k_is)
    (case a25 => k_is)
    (case l25 => k_is)
    (case c25 => k_is)
    (case k25 => k_is)
    (case a26 => k_is)
    (case l26 => k_is)
    (case c26 => k_is)
    (case k26 => k_is)
    (case a27 => k_is)
    (case l27 => k_is)
    (case c27 => k_is)
    (case k27 => k_is)
    (case a28 => k_is)
    (case l28 => k_is)
    (case c28 => k_is)
    (case k28 => k_is)
    (case a29 => k_is)
    (case l29 => k_is)
    (case c29 => k_is)
    (case k29 => k_is)
    (case a30 => k_is)
    (case l30 => k_is)
    (case c30 => k_is)
    (case k30 => k_is)
    (case a31 => k_is)
    (case l31 => k_is)
    (case c31 => k_is)
    (case k31 => k_is)
    (case a32 => k_is)
    (case l32 => k_is)
    (case c32 => k_is)
    (case k32 => k_is)
    (case a33 => k_is)
    (case l33 => k_is)
    (case c33 => k_is)
    (case k33 => k_is)
    (case a34 => k_is)
    (case l34 => k_is)
    (case c34 => k_is)
    (case k34 => k_is)
    (case a35 => k_is)
    (case l35 => k_is)
    (case c35 => k_is)
    (case k35 => k_is)
    (case a36 => k_is)
    (case l36 => k_is)
    (case c36 => k_is)
    (case k36 => k_is)
    (case a37 => k_is)
    (case l37 => k_is)
    (case c37 => k_is)
    (case k37 => k_is)
    (case a38 => k_is)
    (case l38 => k_is)
    (case c38 => k_is)
    (case k38 => k_is)
    (case a39 => k_is)
    (case l39 => k_is)
    (case c39 => k_is)
    (case k39 => k_is)
    (case a40 => k_is)
    (case l40 => k_is)
    (case c40 => k_is)
    (case k40 => k_is)
    (case a41 => k_is)
    (case l41 => k_is)
    (case c41 => k_is)
    (case k41 => k_is)
    (case a42 => k_is)
    (case l42 => k_is)
    (case c42 => k_is)
    (case k42 => k_is)
    (case z_abs => k_is)
    (case z_max => k_is)
    (case z_min => k_is)
    (case z_int => k_is)
    (case z_len => k_is)
    (case z_range => k_is)
    (case z_isinstance => k_is)
    (case z_str => k_is)
    (case z_bool => k_is)
    (case z_tuple => k_is)
    (case z_list => k_is)
    (case z_all => k_is)
    (case z_zip => k_is)
    (case z_iter => k_is)
    (case v_MODULUS => k_is)
    (case v_MOST => k_is)
    (case v_MAX_THINGS => k_is)
    (case v_MAX_FIELDS => k_is)
    (case v_MOST_DIGITS => k_is)
    (case vha_World => k_is)
    (case vhn_World => k_is)
    (case vht_World => k_is)
    (case vhm_World => k_is)
    (case vhy_World => k_is)
    (case vhs_World_tuple => k_is)
    (case vhs_World_NoneType => k_is)
    (case vhs_World_str => k_is)
    (case vne_World => k_is)
    (case vob_World => k_is)
    (case wg_IW => k_is)
    (case wx_IW => k_exc)
    (case wk_IW => k_is)
    (case we_IW => k_is)
    (case wy_IW => k_is)
    (case wc_IW => k_is)
    (case ws_IW => first | rfl | k_is)
