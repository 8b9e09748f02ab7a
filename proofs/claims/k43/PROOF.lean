import PyProof.Rows.All
import Wide.All
import OpenK.AllK
import Wide.FinOn
import HandS.ForMost
import HandS.Wide
import HandS.Evl
import HandS.IsInst
import HandS.RaiseMore
import HandS.More
import HandS.CallLocal
import HandS.Style
import HandS.TupAny
import HandS.Strs
import KE.IntTextLaws
import HandS.Walk
import HandS.Iter
import KE.GoesMore
import HandS.OwnEq
import HandS.OwnIter
import HandS.DictComp
import HandS.StrMore
import HandS.FStr
import HandS.Zip
import HandS.Text
import HandS.Star
import HandS.Defaults
import PyProof.InstEq
import PyProof.CallStr
import HandS.IterVal
import PyProof.NeKinds
import HandS.SetFor
import PyProof.SetRoads
import HandS.Deep
import HandS.NoneIn
import PyProof.ListStr
import HandS.MakeKwOnly
import HandS.Exc
import HandS.ExcOwn
import HandS.TryOnly
import HandS.WordsExc
import HandS.Codes
import HandS.Small
import HandS.WrittenGet
import PySem.Challenge.RW_settledplay_k43_whole_bags_and_handings
import PyProof.ListRange
import PyProof.StrOps2
import HandS.SetKeys
set_option Elab.async false
set_option linter.all false
set_option maxRecDepth 100000
set_option maxHeartbeats 4000000
namespace Vr
open PySem PySem.Spec PyProof.Rows L2 Evl
/-! ### rules of calls whose answer is one -/
section
variable {X : Cx}
def rI1 (g : Int → V) : List V → Hp → VK → Prop := fun xs H Q => ∃ i, xs = [.int i] ∧ Q (g i) H
def rB1 (g : Bool → V) : List V → Hp → VK → Prop := fun xs H Q => ∃ i, xs = [.bl i] ∧ Q (g i) H
def rI2 (g : Int → Int → V) : List V → Hp → VK → Prop := fun xs H Q => ∃ i j, xs = [.int i, .int j] ∧ Q (g i j) H
theorem callR_mono {f : Value} {r r' : List V → Hp → VK → Prop} (h : CallR X f r) (k : ∀ vs H Q, r' vs H Q → r vs H Q) : CallR X f r' :=
  fun pins s σ H xs us Q I rv q => h pins s σ H xs us Q I rv (k _ _ _ q)
theorem c_int : CallR X (.type "int") (rI1 fun i => .int i) := callR_mono call_int1 fun _ _ _ h => .inl h
theorem c_intB : CallR X (.type "int") (rB1 fun k => .int (if k then 1 else 0)) := callR_mono call_int1 fun _ _ _ h => .inr h
theorem c_abs : CallR X (.builtin "abs") (rI1 fun i => .int (if i < 0 then -i else i)) := call_abs
theorem c_max (hc : X.calm = true) : CallR X (.builtin "max") (rI2 fun i j => .int (if j > i then j else i)) := call_max2 hc
theorem c_min (hc : X.calm = true) : CallR X (.builtin "min") (rI2 fun i j => .int (if j < i then j else i)) := call_min2 hc
def rRepr : List V → Hp → VK → Prop := fun xs H Q => ∃ i : Int, xs = [.int i] ∧ i.natAbs.log2 < 1920 ∧ Q (.str (toString i)) H
theorem c_repr : CallR X (.builtin "repr") rRepr := SkE.call_repr_int
theorem c_len : CallR X (.builtin "len") (rLenS X.K) := call_len_seq
end
section
variable {K : PySem.W.Frag} {σ : L2.St} {H H' : Hp} {ta tb tc te : TE} {t u : TT} {x y z v : V} {r r' : R2} {D : Ends}
theorem sc_mul {i j : Int} (h : -18446744073709551616 < i ∧ i < 18446744073709551616) : CMul i j := .inl h
theorem sc_div {i j : Int} (h : 0 < j) (h2 : j.natAbs.log2 < 9000) : CDivW i j := ⟨h, h2⟩
theorem rc_I1 {g : Int → V} {i : Int} : RC (rI1 g) [.int i] H (g i) := fun H1 _ _ q => ⟨i, rfl, q H1 (Ex.refl H1)⟩
theorem rc_B1 {g : Bool → V} {i : Bool} : RC (rB1 g) [.bl i] H (g i) := fun H1 _ _ q => ⟨i, rfl, q H1 (Ex.refl H1)⟩
theorem rc_I2 {g : Int → Int → V} {i j : Int} : RC (rI2 g) [.int i, .int j] H (g i j) := fun H1 _ _ q => ⟨i, j, rfl, q H1 (Ex.refl H1)⟩
theorem rc_repr {i : Int} (h : i.natAbs.log2 < 1920) : RC rRepr [.int i] H (.str (toString i)) := fun H1 _ _ q => ⟨i, rfl, h, q H1 (Ex.refl H1)⟩
theorem rc_lenL {p : Addr} {xs : List V} (h : SqL K H p xs) : RC (rLenS K) [.ref p] H (.int (xs.length : Int)) := fun H1 e _ q => ⟨p, xs, rfl, .inl (ex_l e h), q H1 (Ex.refl H1)⟩
theorem ev_chain {a b : Bool} (h1 : Ev ta σ H x) (h2 : Ev tb σ H y) (r1 : RV r x y H (.bl a)) (h3 : Ev tc σ H z) (r2 : RV r' y z H (.bl b)) : Ev (tChain r r' ta tb tc) σ H (.bl (a && b)) := fun H1 e Q q =>
  h1 H1 e _ fun H2 e2 => h2 H2 (e.trans e2) _ fun H3 e3 => r1 H3 ((e.trans e2).trans e3) _ fun H4 e4 => ⟨a, rfl, by
    cases a with
    | true =>
      rw [if_pos rfl]
      exact h3 H4 (((e.trans e2).trans e3).trans e4) _ fun H5 e5 => r2 H5 ((((e.trans e2).trans e3).trans e4).trans e5) _ fun H6 e6 => q H6 ((((e2.trans e3).trans e4).trans e5).trans e6)
    | false =>
      rw [if_neg Bool.false_ne_true]
      exact q H4 ((e2.trans e3).trans e4)⟩
/-- an expression that evaluates, then what follows -/
theorem go {Q : VK} (h : Ev te σ H v) (k : ∀ H1, Ex H H1 → Q v H1) : te σ H Q := h H (Ex.refl H) Q k
theorem goT {b : Bool} {Q : Bool → Hp → Prop} (h : EvT t σ H b) (k : ∀ H1, Ex H H1 → Q b H1) : t σ H Q := h H (Ex.refl H) Q k
theorem goA {ts : TA} {vs : List V} {Q : List V → Hp → Prop} (h : EvA ts σ H vs) (k : ∀ H1, Ex H H1 → Q vs H1) : ts σ H Q := h H (Ex.refl H) Q k
/-! ### promises of defs that answer by their arguments, whatever else they make -/
def Pure (ok : List V → Hp → V → Prop) : Sp := fun vs H Q _ => ∃ z, ok vs H z ∧ ∀ H', Ex H H' → Q z H'
theorem ev_callP {ok : List V → Hp → V → Prop} {E : XK} {ts : TA} {vs : List V} (h : EvA ts σ H vs) (ho : ∀ H1, Ex H H1 → ok vs H1 z) : Ev (tCall (Pure ok) [] E ts) σ H z := fun H1 e Q q =>
  h H1 e _ fun H2 e2 => by
    show Pure ok (vs ++ []) H2 Q E
    rw [List.append_nil]
    exact ⟨z, ho H2 (e.trans e2), fun H3 e3 => q H3 (e2.trans e3)⟩
theorem fin {Q : VK} (k : ∀ H', Ex H H' → Q z H') (e : Ex H H') : Q z H' := k H' e
/-! ### the dice: a list of three ints at p, all else as it was -/
def Exd (p : Addr) (H H' : Hp) : Prop := ∀ a o, a ≠ p → H a = some o → H' a = some o
theorem Exd.refl (p : Addr) (H : Hp) : Exd p H H := fun _ _ _ h => h
theorem Exd.trans {p : Addr} {H H1 H2 : Hp} (a : Exd p H H1) (b : Exd p H1 H2) : Exd p H H2 := fun c o n h => b c o n (a c o n h)
theorem Exd.of {p : Addr} (e : Ex H H') : Exd p H H' := fun a o _ h => e a o h
theorem Exd.upd {p : Addr} {o : HO} : Exd p H (upd H p o) := fun a u n h => by rw [upd_ne n]; exact h
def Dice (p : Addr) (H : Hp) : Prop := ∃ a b c : Int, H p = some (.lst [.int a, .int b, .int c])
theorem Dice.ex {p : Addr} (e : Ex H H') (d : Dice p H) : Dice p H' := by
  obtain ⟨a, b, c, h⟩ := d
  exact ⟨a, b, c, e _ _ h⟩
theorem Exd.l {p a : Addr} {xs : List V} (e : Exd p H H') (n : a ≠ p) (h : SqL K H a xs) : SqL K H' a xs := by
  rcases h with (h | ⟨o, h⟩) | h
  · exact .inl (.inl (e _ _ n h))
  · exact .inl (.inr ⟨o, e _ _ n h⟩)
  · exact .inr h
/-! ### more values -/
theorem ev_ite {b : Bool} {v1 v2 : V} (h : EvT t σ H b) (h1 : b = true → Ev ta σ H v1) (h2 : b = false → Ev tb σ H v2) : Ev (tIf t ta tb) σ H (if b = true then v1 else v2) :=
  ev_if h (fun e => by rw [if_pos e]; exact h1 e) (fun e => by rw [if_neg (by rw [e]; exact Bool.false_ne_true)]; exact h2 e)
theorem ev_pow {a b c : Int} (h : 0 ≤ b ∧ b ≤ 1000000 ∧ a.natAbs < 2 ^ 64) (e : a ^ b.toNat = c) : Ev (tOp (rI CPow fun i j => .int (i ^ j.toNat)) (tC (.int a)) (tC (.int b))) σ H (.int c) := by
  rw [← e]
  exact ev_op ev_c ev_c (rv_I h)
/-- the type of a value, and what isinstance says of int and bool -/
def isIB : V → Bool
  | .int _ => true
  | .bl _ => true
  | _ => false
def isB : V → Bool
  | .bl _ => true
  | _ => false
def isS : V → Bool
  | .str _ => true
  | _ => false
/-- a plain value: its type is a built-in one -/
def Plain (K : PySem.W.Frag) (H : Hp) (x : V) : Prop := ∃ n, TyX K H x (.type n)
theorem isi_int {n : String} (h : TyX K H x (.type n)) : PySem.W.kitOne K (.type n) (.type "int") = some (isIB x) := by
  cases h with
  | base b => cases b <;> first | exact kit_ty (r := false) (by decide +kernel) | exact kit_ty (r := true) (by decide +kernel)
  | byt _ => first | exact kit_ty (r := false) (by decide +kernel) | exact kit_ty (r := true) (by decide +kernel)
  | set _ => first | exact kit_ty (r := false) (by decide +kernel) | exact kit_ty (r := true) (by decide +kernel)
  | kList _ _ => first | exact kit_ty (r := false) (by decide +kernel) | exact kit_ty (r := true) (by decide +kernel)
  | kTuple _ _ => first | exact kit_ty (r := false) (by decide +kernel) | exact kit_ty (r := true) (by decide +kernel)
  | kDict _ _ => first | exact kit_ty (r := false) (by decide +kernel) | exact kit_ty (r := true) (by decide +kernel)
  | fTuple _ => first | exact kit_ty (r := false) (by decide +kernel) | exact kit_ty (r := true) (by decide +kernel)
  | fDict _ => first | exact kit_ty (r := false) (by decide +kernel) | exact kit_ty (r := true) (by decide +kernel)
theorem isi_bool {n : String} (h : TyX K H x (.type n)) : PySem.W.kitOne K (.type n) (.type "bool") = some (isB x) := by
  cases h with
  | base b => cases b <;> first | exact kit_ty (r := false) (by decide +kernel) | exact kit_ty (r := true) (by decide +kernel)
  | byt _ => first | exact kit_ty (r := false) (by decide +kernel) | exact kit_ty (r := true) (by decide +kernel)
  | set _ => first | exact kit_ty (r := false) (by decide +kernel) | exact kit_ty (r := true) (by decide +kernel)
  | kList _ _ => first | exact kit_ty (r := false) (by decide +kernel) | exact kit_ty (r := true) (by decide +kernel)
  | kTuple _ _ => first | exact kit_ty (r := false) (by decide +kernel) | exact kit_ty (r := true) (by decide +kernel)
  | kDict _ _ => first | exact kit_ty (r := false) (by decide +kernel) | exact kit_ty (r := true) (by decide +kernel)
  | fTuple _ => first | exact kit_ty (r := false) (by decide +kernel) | exact kit_ty (r := true) (by decide +kernel)
  | fDict _ => first | exact kit_ty (r := false) (by decide +kernel) | exact kit_ty (r := true) (by decide +kernel)
theorem ty_ex {u : Value} (e : Ex H H') (h : TyX K H x u) : TyX K H' x u := by
  cases h with
  | base b =>
    cases b with
    | non => exact .base .non
    | bl y => exact .base (.bl y)
    | int y => exact .base (.int y)
    | str y => exact .base (.str y)
    | flt y => exact .base (.flt y)
    | lst h => exact .base (.lst (e _ _ h))
    | frz h => exact .base (.frz (e _ _ h))
    | tup h => exact .base (.tup (e _ _ h))
    | dK h => exact .base (.dK (e _ _ h))
    | dT h => exact .base (.dT (e _ _ h))
    | ins h a b c d f => exact .base (.ins (e _ _ h) a b c d f)
  | byt b => exact .byt b
  | set h => exact .set (e _ _ h)
  | kList h c => exact .kList h c
  | kTuple h c => exact .kTuple h c
  | kDict h c => exact .kDict h c
  | fTuple h => exact .fTuple (e _ _ h)
  | fDict h => exact .fDict (e _ _ h)
theorem Plain.ex (e : Ex H H') (h : Plain K H x) : Plain K H' x := by
  obtain ⟨n, h⟩ := h
  exact ⟨n, ty_ex e h⟩
theorem rc_isiInt (h : Plain K H x) : RC (rIsi K) [x, .ty "int"] H (.bl (isIB x)) := fun H1 e Q q => by
  obtain ⟨n, h⟩ := h.ex e
  exact ⟨x, .ty "int", .type n, .type "int", _, rfl, .ty _, h, isi_int h, q H1 (Ex.refl H1)⟩
theorem rc_isiBool (h : Plain K H x) : RC (rIsi K) [x, .ty "bool"] H (.bl (isB x)) := fun H1 e Q q => by
  obtain ⟨n, h⟩ := h.ex e
  exact ⟨x, .ty "bool", .type n, .type "bool", _, rfl, .ty _, h, isi_bool h, q H1 (Ex.refl H1)⟩
/-- an integer of at most sixty digits -/
def isIntV : V → Bool
  | .int i => decide (-1000000000000000000000000000000000000000000000000000000000000 < i) && decide (i < 1000000000000000000000000000000000000000000000000000000000000)
  | _ => false
def isWithin (lo hi : Int) : V → Bool
  | .int i => isIntV (.int i) && (decide (lo ≤ i) && decide (i ≤ hi))
  | _ => false
theorem pl_int {i : Int} : Plain K H (.int i) := ⟨_, .base (.int i)⟩
theorem pl_bl {i : Bool} : Plain K H (.bl i) := ⟨_, .base (.bl i)⟩
theorem pl_str {i : Str} : Plain K H (.str i) := ⟨_, .base (.str i)⟩
theorem pl_non : Plain K H .non := ⟨_, .base .non⟩
theorem pl_lst {a : Addr} {xs : List V} (h : H a = some (.lst xs)) : Plain K H (.ref a) := ⟨_, .base (.lst h)⟩
theorem pl_tup {a : Addr} {xs : List V} (h : H a = some (.tup xs)) : Plain K H (.ref a) := ⟨_, .base (.tup h)⟩
theorem pl_dK {a : Addr} {xs : List (Key × V)} (h : H a = some (.dK xs)) : Plain K H (.ref a) := ⟨_, .base (.dK h)⟩
/-! ### loops over a new tuple -/
variable {tu tw tz : TS} {g : TG}
theorem s_forNU {xs : List V} {tl : TE} (h : EvU tl σ H xs) (Pv : Addr → Nat → L2.St → Hp → Prop) (h0 : ∀ p H1, H p = none → Ex H H1 → H1 p = some (.tup xs) → Pv p 0 σ H1) (hl : ∀ p i σ' H', i ≤ xs.length → Pv p i σ' H' → SqT K H' p xs)
    (hs : ∀ p i x σ' H', xs[i]? = some x → Pv p i σ' H' → g x σ' H' fun σ2 H2 => tu { D with nx := Pv p (i + 1), ct := Pv p (i + 1), bk := D.nx } σ2 H2) (hd : ∀ p σ' H', Pv p xs.length σ' H' → D.nx σ' H') : tFor (iTup K tl) g tu D σ H :=
  h H (Ex.refl H) _ fun p H1 hp e h1 => ⟨p, rfl, ⟨xs, st_of h1⟩, for_tup (Pv p) (h0 p H1 hp e h1) (hl p) (hs p) (hd p)⟩
theorem q_forNU {xs : List V} {tl : TE} (h : EvU tl σ H xs) (Pv : Addr → Nat → L2.St → Hp → Prop) (h0 : ∀ p H1, H p = none → Ex H H1 → H1 p = some (.tup xs) → Pv p 0 σ H1) (hl : ∀ p i σ' H', i ≤ xs.length → Pv p i σ' H' → SqT K H' p xs)
    (hs : ∀ p i x σ' H', xs[i]? = some x → Pv p i σ' H' → g x σ' H' fun σ2 H2 => tu { D with nx := Pv p (i + 1), ct := Pv p (i + 1), bk := tz D } σ2 H2) (hd : ∀ p σ' H', Pv p xs.length σ' H' → tz D σ' H') : tSeq (tFor (iTup K tl) g tu) tz D σ H :=
  s_forNU (D := { D with nx := tz D }) h Pv h0 hl hs hd
/-! ### what draws from the dice -/
def Dv (p : Addr) (te : TE) (σ : L2.St) (H : Hp) (R : V → Prop) : Prop := ∀ H1, Exd p H H1 → Dice p H1 → ∀ Q : VK, (∀ v H2, R v → Exd p H1 H2 → Dice p H2 → Q v H2) → te σ H1 Q
def DvA (p : Addr) (ta : TA) (σ : L2.St) (H : Hp) (R : List V → Prop) : Prop := ∀ H1, Exd p H H1 → Dice p H1 → ∀ Q : List V → Hp → Prop, (∀ v H2, R v → Exd p H1 H2 → Dice p H2 → Q v H2) → ta σ H1 Q
theorem dv_ev {p : Addr} {R : V → Prop} (h : ∀ H1, Exd p H H1 → Dice p H1 → Ev te σ H1 v) (hr : R v) : Dv p te σ H R := fun H1 e d Q q => h H1 e d H1 (Ex.refl H1) Q fun H2 e2 => q v H2 hr (Exd.of e2) (d.ex e2)
theorem Dv.mono {p : Addr} {R R' : V → Prop} (h : Dv p te σ H R) (k : ∀ v, R v → R' v) : Dv p te σ H R' := fun H1 e d Q q => h H1 e d Q fun v H2 r => q v H2 (k v r)
theorem da_nil {p : Addr} {P : V → Prop} : DvA p tNil σ H (fun vs => vs.length = 0 ∧ ∀ v ∈ vs, P v) := fun H1 e d Q q => q [] H1 ⟨rfl, fun _ h => by cases h⟩ (Exd.refl p H1) d
theorem da_cons {p : Addr} {n : Nat} {P : V → Prop} {tr : TA} (h : Dv p te σ H P) (hr : DvA p tr σ H (fun vs => vs.length = n ∧ ∀ v ∈ vs, P v)) : DvA p (tCons te tr) σ H (fun vs => vs.length = n + 1 ∧ ∀ v ∈ vs, P v) := fun H1 e d Q q =>
  h H1 e d _ fun v H2 r e2 d2 => hr H2 (e.trans e2) d2 _ fun vs H3 rs e3 d3 => q (v :: vs) H3 ⟨by rw [List.length_cons, rs.1], fun x hx => by
    rcases List.mem_cons.mp hx with z | z
    · rw [z]; exact r
    · exact rs.2 x z⟩ (e2.trans e3) d3
theorem Exd.none {p a : Addr} (e : Exd p H H') (n : a ≠ p) (h : H' a = none) : H a = none := by
  cases q : H a with
  | none => rfl
  | some o => rw [e a o n q] at h; cases h
theorem Dice.ne {p a : Addr} (d : Dice p H) (h : H a = none) : a ≠ p := by
  obtain ⟨x, y, z, hp⟩ := d
  intro e
  rw [e, hp] at h
  cases h
/-- the call of a def that draws: what it promises of its answer -/
def Draws (ok : List V → Hp → Addr → (V → Prop) → Prop) : Sp := fun vs H Q _ => ∃ (p : Addr) (R : V → Prop), ok vs H p R ∧ Dice p H ∧ ∀ v H', R v → Exd p H H' → Dice p H' → Q v H'
theorem dv_call {ok : List V → Hp → Addr → (V → Prop) → Prop} {E : XK} {ts : TA} {p : Addr} {R : V → Prop} {vs : List V} (h : ∀ H1, Exd p H H1 → Dice p H1 → EvA ts σ H1 vs) (ho : ∀ H1, Exd p H H1 → Dice p H1 → ok vs H1 p R) : Dv p (tCall (Draws ok) [] E ts) σ H R := fun H1 e d Q q =>
  h H1 e d H1 (Ex.refl H1) _ fun H2 e2 => by
    show Draws ok (vs ++ []) H2 Q E
    rw [List.append_nil]
    exact ⟨p, R, ho H2 (e.trans (Exd.of e2)) (d.ex e2), d.ex e2, fun v H3 r e3 d3 => q v H3 r ((Exd.of e2).trans e3) d3⟩
theorem sc_mulr {i j : Int} (h : -18446744073709551616 < j ∧ j < 18446744073709551616) : CMul i j := .inr h
theorem q_asgI {i : Nat} (h : ∃ c : Int, Ev te σ H (.int c)) (k : ∀ (c : Int) H1, Ex H H1 → tz D (σ.set i (some (.int c))) H1) : tSeq (tAsg te (gName i)) tz D σ H := by
  obtain ⟨c, h⟩ := h
  exact q_asg h (k c)
/-! ### data of any depth -/
mutual
theorem dp_ex (e : Ex H H') : ∀ {d : PyData} {x : V}, Dp K H x d → Dp K H' x d
  | _, _, .non => .non
  | _, _, .bl b => .bl b
  | _, _, .int i => .int i
  | _, _, .str z => .str z
  | _, _, .lst h a => .lst (ex_l e h) (dpa_ex e a)
  | _, _, .tup h a => .tup (ex_t e h) (dpa_ex e a)
theorem dpa_ex (e : Ex H H') : ∀ {ds : List PyData} {xs : List V}, DpAll K H xs ds → DpAll K H' xs ds
  | _, _, .nil => .nil
  | _, _, .cons h t => .cons (dp_ex e h) (dpa_ex e t)
end
def EvD (K : PySem.W.Frag) (te : TE) (σ : L2.St) (H : Hp) (d : PyData) : Prop := ∀ H1, Ex H H1 → ∀ Q : VK, (∀ v H2, Ex H1 H2 → Dp K H2 v d → Q v H2) → te σ H1 Q
def EvDA (K : PySem.W.Frag) (ta : TA) (σ : L2.St) (H : Hp) (ds : List PyData) : Prop := ∀ H1, Ex H H1 → ∀ Q : List V → Hp → Prop, (∀ vs H2, Ex H1 H2 → DpAll K H2 vs ds → Q vs H2) → ta σ H1 Q
theorem dpa_len : ∀ {vs : List V} {ds : List PyData}, DpAll K H vs ds → vs.length = ds.length
  | _, _, .nil => rfl
  | _, _, .cons _ t => congrArg (· + 1) (dpa_len t)
theorem evd_of {d : PyData} (h : Ev te σ H v) (hd : ∀ H1, Ex H H1 → Dp K H1 v d) : EvD K te σ H d := fun H1 e Q q => h H1 e Q fun H2 e2 => q v H2 e2 (hd H2 (e.trans e2))
theorem evd_int {i : Int} (h : Ev te σ H (.int i)) : EvD K te σ H (.int i) := evd_of h fun _ _ => .int i
theorem evd_bl {b : Bool} (h : Ev te σ H (.bl b)) : EvD K te σ H (.bool b) := evd_of h fun _ _ => .bl b
theorem evd_str {z : Str} (h : Ev te σ H (.str z)) : EvD K te σ H (.str z) := evd_of h fun _ _ => .str z
theorem evd_non (h : Ev te σ H .non) : EvD K te σ H .none := evd_of h fun _ _ => .non
theorem evda_nil : EvDA K tNil σ H [] := fun H1 _ _ q => q [] H1 (Ex.refl H1) .nil
theorem evda_cons {d : PyData} {ds : List PyData} {tr : TA} (h : EvD K te σ H d) (hr : EvDA K tr σ H ds) : EvDA K (tCons te tr) σ H (d :: ds) := fun H1 e Q q =>
  h H1 e _ fun v H2 e2 hv => hr H2 (e.trans e2) _ fun vs H3 e3 hs => q (v :: vs) H3 (e2.trans e3) (.cons (dp_ex e3 hv) hs)
theorem evd_tup {ds : List PyData} {ts : TA} (h : EvDA K ts σ H ds) (hl : ds.length ≤ 100000) : EvD K (tTup ts) σ H (.tuple ds) := fun H1 e Q q =>
  h H1 e _ fun vs H2 e2 hs => ⟨by rw [dpa_len hs]; exact sz_of hl, fun p hp => q _ _ (e2.trans (Ex.new hp)) (.tup (st_of upd_same) (dpa_ex (Ex.new hp) hs))⟩
theorem evd_lst {ds : List PyData} {ts : TA} (h : EvDA K ts σ H ds) (hl : ds.length ≤ 100000) : EvD K (tLst ts) σ H (.list ds) := fun H1 e Q q =>
  h H1 e _ fun vs H2 e2 hs => ⟨by rw [dpa_len hs]; exact sz_of hl, fun p hp => q _ _ (e2.trans (Ex.new hp)) (.lst (sq_of upd_same) (dpa_ex (Ex.new hp) hs))⟩
theorem ev_eqD {d e : PyData} (h1 : EvD K ta σ H d) (h2 : EvD K tb σ H e) (s1 : SeqAt.shaped d = true) (s2 : SeqAt.shaped e = true) : Ev (tOp (rEqD K) ta tb) σ H (.bl (PyData.eqv d e)) := fun H1 x Q q =>
  h1 H1 x _ fun v H2 x2 hv => h2 H2 (x.trans x2) _ fun u H3 x3 hu => ⟨d, e, dp_ex x3 hv, hu, s1, s2, q H3 (x2.trans x3)⟩
theorem ev_neD {d e : PyData} (h1 : EvD K ta σ H d) (h2 : EvD K tb σ H e) (s1 : SeqAt.shaped d = true) (s2 : SeqAt.shaped e = true) : Ev (tOp (rNeD K) ta tb) σ H (.bl (!PyData.eqv d e)) := fun H1 x Q q =>
  h1 H1 x _ fun v H2 x2 hv => h2 H2 (x.trans x2) _ fun u H3 x3 hu => ⟨d, e, dp_ex x3 hv, hu, s1, s2, q H3 (x2.trans x3)⟩
/-! ### dicts laid on the way -/
def EvPs (trs : List (TE × TE)) (σ : L2.St) (H : Hp) (ps : List (V × V)) : Prop := ∀ H1, Ex H H1 → ∀ Q : List (V × V) → Hp → Prop, (∀ H2, Ex H1 H2 → Q ps H2) → tPairs trs σ H1 Q
theorem eps_nil : EvPs [] σ H [] := fun H1 _ _ q => q H1 (Ex.refl H1)
theorem eps_cons {trs : List (TE × TE)} {ps : List (V × V)} (h1 : Ev ta σ H x) (h2 : Ev tb σ H y) (hr : EvPs trs σ H ps) : EvPs ((ta, tb) :: trs) σ H ((x, y) :: ps) := fun H1 e Q q =>
  h1 H1 e _ fun H2 e2 => h2 H2 (e.trans e2) _ fun H3 e3 => hr H3 ((e.trans e2).trans e3) _ fun H4 e4 => q H4 ((e2.trans e3).trans e4)
def EvK (te : TE) (σ : L2.St) (H : Hp) (kvs : List (Key × V)) : Prop := ∀ H1, Ex H H1 → ∀ Q : VK, (∀ p H2, H1 p = none → Ex H1 H2 → H2 p = some (.dK kvs) → Q (.ref p) H2) → te σ H1 Q
theorem ek_disp {trs : List (TE × TE)} {ps : List (V × V)} (kvs : List (Key × V)) (h : EvPs trs σ H ps) (e : ps = kvs.map fun kv => (kV kv.1, kv.2)) (hl : kvs.length ≤ 15) : EvK (tDisp trs) σ H (mergeK [] kvs) := fun H1 x Q q p hp =>
  h (upd H1 p (.dK [])) (x.trans (Ex.new hp)) _ fun H2 x2 => ⟨x2 _ _ upd_same, kvs, e, hl, q p _ hp (fun a o ha => by rw [upd_ne (ne_of_none ha hp)]; exact x2 _ _ (Ex.new hp _ _ ha)) upd_same⟩
theorem ev_dgetK {kvs : List (Key × V)} {k : Key} (h1 : EvK ta σ H kvs) (h2 : Ev tb σ H (kV k)) (hv : valV kvs k = some v) : Ev (tDGet ta tb) σ H v := fun H1 e Q q =>
  h1 H1 e _ fun p H2 hp e2 h => h2 H2 (e.trans e2) _ fun H3 e3 => ⟨p, v, rfl, by rw [← hv]; exact DGet.k (e3 _ _ h), q H3 (e2.trans e3)⟩
/-! ### sorted ints, an item of a new list -/
theorem el_sorted {tl : TE} {ns ms : List Int} (h : EvL tl σ H (ns.map V.int)) (hl : ns.length < 64) (hp : ms.Perm ns) (hs : ms.Pairwise (· ≤ ·)) : EvL (tCB (rSorted K) (tCons tl tNil)) σ H (ms.map V.int) := fun H1 e Q q =>
  h H1 e _ fun p H2 hp2 e2 h2 => ⟨p, ns, rfl, sq_of h2, hl, fun ns' a hp' hs' ha => by
    have z : ns' = ms := PySem.W.ksm_same (hp'.trans hp.symm) hs' hs
    rw [z]
    exact q a _ (fresh_back e2 ha) (e2.trans (Ex.new ha)) upd_same⟩
theorem ev_ixN {xs : List V} {i : Int} (h : EvL ta σ H xs) (hb : ∀ H1, Ex H H1 → Ev tb σ H1 (.int i)) (ha : atI xs i = some v) : Ev (tOp (rIxL K) ta tb) σ H v := ev_opL1 h hb fun p H1 hp _ => rv_ixL (sq_of hp) ha
theorem q_asgDL {p : Addr} {i : Nat} {ts : TA} {R : List V → Prop} (h : DvA p ts σ H R) (hd : Dice p H) (hl : ∀ vs, R vs → vs.length ≤ 100000) (k : ∀ l xs H1, R xs → Exd p H H1 → Dice p H1 → H1 l = some (.lst xs) → l ≠ p → tz D (σ.set i (some (.ref l))) H1) : tSeq (tAsg (tLst ts) (gName i)) tz D σ H :=
  h H (Exd.refl p H) hd _ fun xs H1 hx e1 d1 => ⟨sz_of (hl xs hx), fun l hl => k l xs _ hx (e1.trans (Exd.of (Ex.new hl))) (d1.ex (Ex.new hl)) upd_same (d1.ne hl)⟩
/-- xs + [drawn things]: a new list of both -/
theorem cat_go {p : Addr} {ts : TA} {R : List V → Prop} {l : Addr} {i : Nat} {xs : List V} {Q : VK} (h : DvA p ts σ H R) (hd : Dice p H) (hx : H l = some (.lst xs)) (hlp : l ≠ p) (hi : σ[i]? = some (some (.ref l))) (hl : ∀ ys, R ys → xs.length + ys.length ≤ 100000)
    (k : ∀ ys l4 H', R ys → Exd p H H' → Dice p H' → H' l4 = some (.lst (xs ++ ys)) → l4 ≠ p → Q (.ref l4) H') : tOp rCat (tVar i) (tLst ts) σ H Q :=
  ⟨.ref l, hi, h H (Exd.refl p H) hd _ fun ys H3 hy e3 d3 => ⟨sz_of (Nat.le_trans (Nat.le_add_left _ _) (hl ys hy)), fun l2 hl2 => ⟨l, l2, xs, ys, rfl, rfl, Ex.new hl2 _ _ (e3 _ _ hlp hx), upd_same, sz_of (hl ys hy), fun l4 hl4 =>
    k ys l4 _ hy (e3.trans ((Exd.of (Ex.new hl2)).trans (Exd.of (Ex.new hl4)))) ((d3.ex (Ex.new hl2)).ex (Ex.new hl4)) upd_same ((d3.ex (Ex.new hl2)).ne hl4)⟩⟩⟩
/-- a if t else b, as a test -/
def tIfT (t u1 u2 : TT) : TT := fun σ H Q => t σ H fun c H1 => if c = true then u1 σ H1 Q else u2 σ H1 Q
theorem pt_ifExp {X : Cx} {c a b : Expr} {pos : Pos} {tA t1 t2 : TT} (hc : PT X c tA) (ha : PT X a t1) (hb : PT X b t2) : PT X (.IfExp c a b pos) (tIfT tA t1 t2) := by
  refine ⟨fun pins s σ H Q I h => ?_⟩
  refine isTrue_IfExp (thn (hc.run pins s σ H _ I h) fun d s1 ⟨H1, I1, q1⟩ => ?_)
  cases d with
  | true => exact ha.run pins s1 σ H1 Q I1 q1
  | false => exact hb.run pins s1 σ H1 Q I1 q1
theorem et_ifT {u1 u2 : TT} {b c : Bool} (h : EvT t σ H b) (h1 : b = true → EvT u1 σ H c) (h2 : b = false → EvT u2 σ H c) : EvT (tIfT t u1 u2) σ H c := fun H1 e Q q => h H1 e _ fun H2 e2 => by
  cases b with
  | true =>
    rw [if_pos rfl]
    exact h1 rfl H2 (e.trans e2) Q fun H3 e3 => q H3 (e2.trans e3)
  | false =>
    rw [if_neg Bool.false_ne_true]
    exact h2 rfl H2 (e.trans e2) Q fun H3 e3 => q H3 (e2.trans e3)
/-- a, b = a new tuple of two -/
theorem q_asg2U {i j : Nat} {v1 v2 : V} (h : EvU te σ H [v1, v2]) (k : ∀ H1, Ex H H1 → tz D ((σ.set i (some v1)).set j (some v2)) H1) : tSeq (tAsg te (gTup K 2 (gCons (gName i) (gCons (gName j) gNil)))) tz D σ H :=
  h H (Ex.refl H) _ fun p H1 hp e hl => ⟨p, [v1, v2], rfl, st_of hl, rfl, v1, [v2], rfl, v2, [], rfl, rfl, k H1 e⟩
/-! ### tests that hang on the dice, calls with a new tuple -/
def DvT (p : Addr) (t : TT) (σ : L2.St) (H : Hp) : Prop := ∀ H1, Exd p H H1 → Dice p H1 → ∀ Q : Bool → Hp → Prop, (∀ b H2, Exd p H1 H2 → Dice p H2 → Q b H2) → t σ H1 Q
def IntV (v : V) : Prop := ∃ n : Int, v = .int n
theorem dvt_eq {p : Addr} {k : Int} (h : Dv p ta σ H IntV) : DvT p (tTest (tOp rEq ta (tC (.int k)))) σ H := fun H1 e d Q q =>
  h H1 e d _ fun v H2 hv e2 d2 => by
    obtain ⟨n, rfl⟩ := hv
    exact ⟨rfl, _, rfl, q _ H2 e2 d2⟩
theorem dv_if {p : Addr} {R : V → Prop} (h : DvT p t σ H) (h1 : Dv p ta σ H R) (h2 : Dv p tb σ H R) : Dv p (tIf t ta tb) σ H R := fun H1 e d Q q =>
  h H1 e d _ fun b H2 e2 d2 => by
    cases b with
    | true =>
      rw [if_pos rfl]
      exact h1 H2 (e.trans e2) d2 Q fun v H3 r e3 d3 => q v H3 r (e2.trans e3) d3
    | false =>
      rw [if_neg Bool.false_ne_true]
      exact h2 H2 (e.trans e2) d2 Q fun v H3 r e3 d3 => q v H3 r (e2.trans e3) d3
theorem dv_op {p : Addr} {R1 R2' R : V → Prop} (h1 : Dv p ta σ H R1) (h2 : Dv p tb σ H R2') (hr : ∀ x y H1, R1 x → R2' y → ∃ z, RV r x y H1 z ∧ R z) : Dv p (tOp r ta tb) σ H R := fun H1 e d Q q =>
  h1 H1 e d _ fun x H2 hx e2 d2 => h2 H2 (e.trans e2) d2 _ fun y H3 hy e3 d3 => by
    obtain ⟨z, hz, rz⟩ := hr x y H3 hx hy
    exact hz H3 (Ex.refl H3) Q fun H4 e4 => q z H4 rz ((e2.trans e3).trans (Exd.of e4)) (d3.ex e4)
theorem dv_c {p : Addr} {R : V → Prop} (hr : R v) : Dv p (tC v) σ H R := dv_ev (fun H1 _ _ => ev_c) hr
theorem dv_var {p : Addr} {i : Nat} {R : V → Prop} (h : σ[i]? = some (some v)) (hr : R v) : Dv p (tVar i) σ H R := dv_ev (fun H1 _ _ => ev_var h) hr
theorem ev_callU {ok : List V → Hp → V → Prop} {E : XK} {xs : List V} (h1 : Ev ta σ H x) (h2 : EvU tb σ H xs) (ho : ∀ p H1, Ex H H1 → H1 p = some (.tup xs) → ok [x, .ref p] H1 z) : Ev (tCall (Pure ok) [] E (tCons ta (tCons tb tNil))) σ H z := fun H1 e Q q =>
  h1 H1 e _ fun H2 e2 => h2 H2 (e.trans e2) _ fun p H3 hp e3 h3 => ⟨z, ho p H3 ((e.trans e2).trans e3) h3, fun H4 e4 => q H4 ((e2.trans e3).trans e4)⟩
/-- a call that draws, whose last argument is a new list -/
theorem dv_pickL {ok : List V → Hp → Addr → (V → Prop) → Prop} {E : XK} {p : Addr} {R : V → Prop} {xs : List V} {i : Nat} (hs : σ[i]? = some (some (.ref p))) (h : ∀ H1, Exd p H H1 → Dice p H1 → EvL tb σ H1 xs) (ho : ∀ l H1, Exd p H H1 → Dice p H1 → l ≠ p → H1 l = some (.lst xs) → ok [.ref p, .ref l] H1 p R) :
    Dv p (tCall (Draws ok) [] E (tCons (tVar i) (tCons tb tNil))) σ H R := fun H1 e d Q q => ⟨.ref p, hs, h H1 e d H1 (Ex.refl H1) _ fun l H2 hl e2 h2 => ⟨p, R, ho l H2 (e.trans (Exd.of e2)) (d.ex e2) (d.ne hl) h2, d.ex e2, fun v H3 r e3 d3 => q v H3 r ((Exd.of e2).trans e3) d3⟩⟩
theorem q_asgDv {p : Addr} {i : Nat} {R : V → Prop} (h : Dv p te σ H R) (hd : Dice p H) (k : ∀ v H1, R v → Exd p H H1 → Dice p H1 → tz D (σ.set i (some v)) H1) : tSeq (tAsg te (gName i)) tz D σ H := h H (Exd.refl p H) hd _ fun v H1 r e1 d1 => k v H1 r e1 d1
theorem s_retDv {p : Addr} {R : V → Prop} (h : Dv p te σ H R) (hd : Dice p H) (k : ∀ v H1, R v → Exd p H H1 → Dice p H1 → D.rt v H1) : tRet te D σ H := h H (Exd.refl p H) hd _ fun v H1 r e1 d1 => k v H1 r e1 d1
theorem q_par {ts : TA} {i j : Nat} {v1 v2 : V} (h : EvA ts σ H [v1, v2]) (k : ∀ H1, Ex H H1 → tz D ((σ.set i (some v1)).set j (some v2)) H1) : tSeq (tPar i j ts) tz D σ H := h H (Ex.refl H) _ fun H1 e1 => ⟨v1, v2, rfl, k H1 e1⟩
theorem q_parDv {p : Addr} {i j : Nat} {R1 R2' : V → Prop} (h1 : Dv p ta σ H R1) (h2 : Dv p tb σ H R2') (hd : Dice p H) (k : ∀ v1 v2 H1, R1 v1 → R2' v2 → Exd p H H1 → Dice p H1 → tz D ((σ.set i (some v1)).set j (some v2)) H1) : tSeq (tPar i j (tCons ta (tCons tb tNil))) tz D σ H :=
  h1 H (Exd.refl p H) hd _ fun v1 H1 r1 e1 d1 => h2 H1 e1 d1 _ fun v2 H2 r2 e2 d2 => ⟨v1, v2, rfl, k v1 v2 H2 r1 r2 (e1.trans e2) d2⟩
/-! ### tests that are known, whatever the dice did -/
def DvF (p : Addr) (t : TT) (σ : L2.St) (H : Hp) (b : Bool) : Prop := ∀ H1, Exd p H H1 → Dice p H1 → ∀ Q : Bool → Hp → Prop, (∀ H2, Exd p H1 H2 → Dice p H2 → Q b H2) → t σ H1 Q
theorem dvf_et {p : Addr} {b : Bool} (h : ∀ H1, Exd p H H1 → Dice p H1 → EvT t σ H1 b) : DvF p t σ H b := fun H1 e d Q q => h H1 e d H1 (Ex.refl H1) Q fun H2 e2 => q H2 (Exd.of e2) (d.ex e2)
theorem dvf_or {p : Addr} {b : Bool} (h1 : DvF p t σ H false) (h2 : DvF p u σ H b) : DvF p (tOr t u) σ H b := fun H1 e d Q q => h1 H1 e d _ fun H2 e2 d2 => by
  rw [if_neg Bool.false_ne_true]
  exact h2 H2 (e.trans e2) d2 Q fun H3 e3 d3 => q H3 (e2.trans e3) d3
theorem dvf_not {p : Addr} {b : Bool} (h : DvF p t σ H b) : DvF p (tNot t) σ H (!b) := fun H1 e d Q q => h H1 e d _ fun H2 e2 d2 => q H2 e2 d2
theorem dvf_B {p : Addr} {b : Bool} (h : Dv p te σ H (fun v => v = .bl b)) : DvF p (tB te) σ H b := fun H1 e d Q q => h H1 e d _ fun v H2 hv e2 d2 => ⟨b, hv, q H2 e2 d2⟩
theorem q_whenF {p : Addr} (h : DvF p t σ H false) (hd : Dice p H) (k : ∀ H1, Exd p H H1 → Dice p H1 → tz D σ H1) : tSeq (tIfS t tu tNext) tz D σ H := h H (Exd.refl p H) hd _ fun H1 e1 d1 => by
  rw [if_neg Bool.false_ne_true]
  exact k H1 e1 d1
/-! ### tuples, whatever the dice did -/
def DvU (K : PySem.W.Frag) (p : Addr) (te : TE) (σ : L2.St) (H : Hp) (R : List V → Prop) : Prop := ∀ H1, Exd p H H1 → Dice p H1 → ∀ Q : VK, (∀ b xs H2, R xs → b ≠ p → Exd p H1 H2 → Dice p H2 → SqT K H2 b xs → Q (.ref b) H2) → te σ H1 Q
theorem Exd.tt {p a : Addr} {xs : List V} (e : Exd p H H') (n : a ≠ p) (h : SqT K H a xs) : SqT K H' a xs := by
  rcases h with (h | ⟨o, h⟩) | h
  · exact .inl (.inl (e _ _ n h))
  · exact .inl (.inr ⟨o, e _ _ n h⟩)
  · exact .inr h
theorem du_sl {p a : Addr} {i : Nat} {xs : List V} {lo hi : Option Int} {tl th : TO} (hs : σ[i]? = some (some (.ref a))) (hap : a ≠ p) (hT : SqT K H a xs) (hl : ∀ H1, EvO tl σ H1 lo) (hh : ∀ H1, EvO th σ H1 hi) (hc : HT.sIx xs.length 0 lo = 0 ∧ HT.sIx xs.length xs.length hi = xs.length → cutV xs lo hi = xs) :
    DvU K p (tSl (rSlA K) (tVar i) tl th) σ H (fun ys => ys = cutV xs lo hi) := fun H1 e d Q q => ⟨.ref a, hs, hl H1 H1 (Ex.refl H1) _ fun H2 e2 => hh H2 H2 (Ex.refl H2) _ fun H3 e3 => ⟨a, xs, rfl, ex_t (e2.trans e3) (e.tt hap hT),
  fun z => q a xs H3 (hc z).symm hap (Exd.of (e2.trans e3)) (d.ex (e2.trans e3)) (ex_t (e2.trans e3) (e.tt hap hT)),
  fun _ b hb => q b _ _ rfl ((d.ex (e2.trans e3)).ne hb) (Exd.of ((e2.trans e3).trans (Ex.new hb))) (d.ex ((e2.trans e3).trans (Ex.new hb))) (st_of upd_same)⟩⟩
theorem du_one {p : Addr} {R : V → Prop} (h : Dv p te σ H R) : DvU K p (tTup (tCons te tNil)) σ H (fun ys => ∃ v, ys = [v] ∧ R v) := fun H1 e d Q q => h H1 e d _ fun v H2 hv e2 d2 => ⟨by show 1 ≤ sizeLine; decide, fun b hb => q b [v] _ ⟨v, rfl, hv⟩ (d2.ne hb) (e2.trans (Exd.of (Ex.new hb))) (d2.ex (Ex.new hb)) (st_of upd_same)⟩
theorem du_cat {p : Addr} {R1 R2' R : List V → Prop} (h1 : DvU K p ta σ H R1) (h2 : DvU K p tb σ H R2') (hr : ∀ xs ys, R1 xs → R2' ys → R (xs ++ ys) ∧ xs.length + ys.length ≤ 100000) : DvU K p (tOp (rCatA K) ta tb) σ H R := fun H1 e d Q q =>
  h1 H1 e d _ fun a xs H2 hx ha e2 d2 h2x => h2 H2 (e.trans e2) d2 _ fun b ys H3 hy hb e3 d3 h3y => by
    obtain ⟨r1, r2⟩ := hr xs ys hx hy
    refine ⟨a, b, xs, ys, rfl, rfl, e3.tt ha h2x, h3y, sz_of r2, fun z => ?_, fun _ z => ?_, fun _ _ c hc => ?_⟩
    · subst z
      exact q b ys H3 r1 hb (e2.trans e3) d3 h3y
    · subst z
      rw [List.append_nil] at r1
      exact q a xs H3 r1 ha (e2.trans e3) d3 (e3.tt ha h2x)
    · exact q c _ _ r1 (d3.ne hc) ((e2.trans e3).trans (Exd.of (Ex.new hc))) (d3.ex (Ex.new hc)) (st_of upd_same)
theorem q_asgU2 {p : Addr} {i : Nat} {R : List V → Prop} (h : DvU K p te σ H R) (hd : Dice p H) (k : ∀ b xs H1, R xs → b ≠ p → Exd p H H1 → Dice p H1 → SqT K H1 b xs → tz D (σ.set i (some (.ref b))) H1) : tSeq (tAsg te (gName i)) tz D σ H := h H (Exd.refl p H) hd _ fun b xs H1 hx hb e1 d1 hT => k b xs H1 hx hb e1 d1 hT
def rTupL (K : PySem.W.Frag) : List V → Hp → VK → Prop := fun xs H Q => ∃ p ys, xs = [.ref p] ∧ SqL K H p ys ∧ ∀ l, H l = none → Q (.ref l) (upd H l (.tup ys))
theorem c_tupL {X : Cx} : CallR X (.type "tuple") (rTupL X.K) := callR_mono call_tuple_of fun vs H Q h => by
  obtain ⟨p, ys, e, hs, k⟩ := h
  exact ⟨p, ys, e, .inl ⟨hs, k⟩⟩
/-- [e for x in range(n)], each e drawn -/
theorem dl_lcR {p : Addr} {n j : Nat} {vs : List Nat} {R : V → Prop} {Q : VK} (hw : ∀ x, wipe ((wipe σ vs).set j (some x)) vs = wipe σ vs) (hn : n ≤ 1000) (he : ∀ i : Nat, i < n → Dv p te ((wipe σ vs).set j (some (.int (0 + (i : Int))))) H R) (hd : Dice p H)
    (k : ∀ l xs H2, (xs.length = n ∧ ∀ v ∈ xs, R v) → l ≠ p → Exd p H H2 → Dice p H2 → H2 l = some (.lst xs) → Q (.ref l) H2) : tLc (iRng1 (tCons (tC (.int n)) tNil)) (gName j) tYes te vs σ H Q :=
  ⟨n, rfl, by omega, by omega, fun Dl hD => by
    have hDp : Dl ≠ p := hd.ne hD
    rw [show ((n : Int).toNat) = n from Int.toNat_natCast n]
    refine lc_range (fun i H' => Exd p H H' ∧ Dice p H' ∧ ∃ acc, H' Dl = some (.lst acc) ∧ acc.length = i ∧ ∀ v ∈ acc, R v) ⟨Exd.of (Ex.new hD), hd.ex (Ex.new hD), [], upd_same, rfl, fun _ h => by cases h⟩ ?_ ?_
    · rintro i H' hi ⟨e', d', acc, hacc, hlen, hR⟩
      refine ⟨hw _, ?_⟩
      unfold tYes
      dsimp only
      rw [if_pos rfl]
      refine he i hi H' e' d' _ fun v H4 hv e4 d4 => ⟨acc, e4 _ _ hDp hacc, sz_lt (by omega), fun a o ha ho => ?_, ?_, acc ++ [v], upd_same, by rw [List.length_append, hlen]; rfl, fun x hx => ?_⟩
      · rw [upd_ne (ne_of_none ho hD)]
        exact e4 _ _ ha (e' _ _ ha ho)
      · obtain ⟨x, y, z, h⟩ := d4
        exact ⟨x, y, z, by rw [upd_ne (Ne.symm hDp)]; exact h⟩
      · rcases List.mem_append.mp hx with z | z
        · exact hR x z
        · rw [List.mem_singleton.mp z]; exact hv
    · rintro H' ⟨e', d', acc, hacc, hlen, hR⟩
      exact k Dl acc H' ⟨hlen, hR⟩ hDp e' d' hacc⟩
theorem du_tupLc {p : Addr} {n j : Nat} {vs : List Nat} {R : V → Prop} (hw : ∀ x, wipe ((wipe σ vs).set j (some x)) vs = wipe σ vs) (hn : n ≤ 1000) (he : ∀ i : Nat, i < n → Dv p te ((wipe σ vs).set j (some (.int (0 + (i : Int))))) H R) :
    DvU K p (tCB (rTupL K) (tCons (tLc (iRng1 (tCons (tC (.int n)) tNil)) (gName j) tYes te vs) tNil)) σ H (fun ys => ys.length = n ∧ ∀ v ∈ ys, R v) := fun H1 e d Q q =>
  dl_lcR (Q := fun x H2 => rTupL K [x] H2 Q) hw hn (fun i hi H2 e2 => he i hi H2 (e.trans e2)) d fun l xs H2 hx hl e2 d2 h2 => ⟨l, xs, rfl, sq_of h2, fun b hb => q b xs _ hx (d2.ne hb) (e2.trans (Exd.of (Ex.new hb))) (d2.ex (Ex.new hb)) (st_of upd_same)⟩
theorem q_parU {p : Addr} {i j : Nat} {R1 : V → Prop} {R2' : List V → Prop} (h1 : Dv p ta σ H R1) (h2 : DvU K p tb σ H R2') (hd : Dice p H) (k : ∀ v1 b xs H1, R1 v1 → R2' xs → b ≠ p → Exd p H H1 → Dice p H1 → SqT K H1 b xs → tz D ((σ.set i (some v1)).set j (some (.ref b))) H1) : tSeq (tPar i j (tCons ta (tCons tb tNil))) tz D σ H :=
  h1 H (Exd.refl p H) hd _ fun v1 H1 r1 e1 d1 => h2 H1 e1 d1 _ fun b xs H2 hx hb e2 d2 hT => ⟨v1, .ref b, rfl, k v1 b xs H2 r1 hx hb (e1.trans e2) d2 hT⟩
theorem s_retCallDv {p : Addr} {ok : List V → Hp → V → Prop} {E : XK} {R : V → Prop} {i j : Nat} {x1 x2 : V} (h1 : σ[i]? = some (some x1)) (h2 : σ[j]? = some (some x2)) (h3 : Dv p te σ H R) (hd : Dice p H) (k : ∀ v H1, R v → Exd p H H1 → Dice p H1 → ok [x1, x2, v] H1 z) (q : ∀ H1, Exd p H H1 → Dice p H1 → D.rt z H1) :
    tRet (tCall (Pure ok) [] E (tCons (tVar i) (tCons (tVar j) (tCons te tNil)))) D σ H := ⟨x1, h1, x2, h2, h3 H (Exd.refl p H) hd _ fun v H1 r e1 d1 => ⟨z, k v H1 r e1 d1, fun H2 e2 => q H2 (e1.trans (Exd.of e2)) (d1.ex e2)⟩⟩
theorem s_whenF {p : Addr} (h : DvF p t σ H false) (hd : Dice p H) (k : ∀ H1, Exd p H H1 → Dice p H1 → D.nx σ H1) : tIfS t tu tNext D σ H := h H (Exd.refl p H) hd _ fun H1 e1 d1 => by
  rw [if_neg Bool.false_ne_true]
  exact k H1 e1 d1
/-- what the dice did is nothing to a heap that has not got them -/
theorem Exd.out {p : Addr} {H0 : Hp} (e : Exd p H H') (e0 : Ex H0 H) (h : H0 p = Option.none) : Ex H0 H' := fun a o ho => e a o (fun z => by rw [z, h] at ho; cases ho) (e0 a o ho)
theorem dpa_ints : ∀ ns : List Int, DpAll K H (ns.map V.int) (ns.map PyData.int)
  | [] => .nil
  | n :: ns => .cons (.int n) (dpa_ints ns)
theorem evd_ints {ns : List Int} (h : EvL te σ H (ns.map V.int)) : EvD K te σ H (.list (ns.map PyData.int)) := fun H1 e Q q => h H1 e Q fun p H2 _ e2 h2 => q _ H2 e2 (.lst (sq_of h2) (dpa_ints ns))
end
end Vr
set_option Elab.async false
set_option linter.all false
set_option maxRecDepth 100000
set_option maxHeartbeats 4000000
namespace Tx
open PySem PySem.Builtin.Str PySem.StrLaws
/-! texts as lists of signs -/
abbrev S (l : List Nat) : Str := ⟨l.toArray⟩
theorem S_toList (l : List Nat) : (S l).cps.toList = l := rfl
theorem S_of (z : Str) : S z.cps.toList = z := by cases z; rfl
theorem S_len (l : List Nat) : (S l).length = l.length := by simp [Str.length]
theorem S_app (a b : List Nat) : S a ++ S b = S (a ++ b) := by
  apply Str.ext'
  simp [Str.cps_append]
theorem S_inj {a b : List Nat} (h : S a = S b) : a = b := by
  have := congrArg (fun z : Str => z.cps.toList) h
  exact this
def splitL (c : Nat) : List Nat → List (List Nat)
  | [] => [[]]
  | x :: xs => if x = c then [] :: splitL c xs else match splitL c xs with
    | [] => [[x]]
    | p :: ps => (x :: p) :: ps
def joinL (c : Nat) : List (List Nat) → List Nat
  | [] => []
  | [p] => p
  | p :: q :: r => p ++ c :: joinL c (q :: r)
theorem splitL_ne (c : Nat) : ∀ xs, ∃ p ps, splitL c xs = p :: ps
  | [] => ⟨[], [], rfl⟩
  | x :: xs => by
    obtain ⟨p, ps, h⟩ := splitL_ne c xs
    by_cases hx : x = c
    · exact ⟨[], splitL c xs, by show (if x = c then _ else _) = _; rw [if_pos hx]⟩
    · exact ⟨x :: p, ps, by show (if x = c then _ else _) = _; rw [if_neg hx, h]⟩
theorem splitL_hit {c x : Nat} {xs : List Nat} (h : x = c) : splitL c (x :: xs) = [] :: splitL c xs := by
  show (if x = c then _ else _) = _
  rw [if_pos h]
theorem splitL_miss {c x : Nat} {xs p : List Nat} {ps : List (List Nat)} (h : x ≠ c) (e : splitL c xs = p :: ps) : splitL c (x :: xs) = (x :: p) :: ps := by
  show (if x = c then _ else _) = _
  rw [if_neg h, e]
theorem joinL_cons {c : Nat} {p : List Nat} {ps : List (List Nat)} (h : ps ≠ []) : joinL c (p :: ps) = p ++ c :: joinL c ps := by
  cases ps with
  | nil => exact absurd rfl h
  | cons q r => rfl
theorem join_splitL (c : Nat) : ∀ xs, joinL c (splitL c xs) = xs
  | [] => rfl
  | x :: xs => by
    obtain ⟨p, ps, h⟩ := splitL_ne c xs
    have ih := join_splitL c xs
    by_cases hx : x = c
    · rw [splitL_hit hx, joinL_cons (by rw [h]; simp), ih, hx]
      rfl
    · rw [splitL_miss hx h]
      rw [h] at ih
      cases ps with
      | nil => show x :: p = x :: xs; rw [show p = xs from ih]
      | cons q r =>
        show x :: (p ++ c :: joinL c (q :: r)) = _
        rw [show p ++ c :: joinL c (q :: r) = xs from ih]
theorem splitL_no (c : Nat) : ∀ xs, ∀ p ∈ splitL c xs, c ∉ p
  | [], p, h => by
    rw [List.mem_singleton.mp h]
    simp
  | x :: xs, p, h => by
    have ih := splitL_no c xs
    obtain ⟨q, qs, e⟩ := splitL_ne c xs
    by_cases hx : x = c
    · rw [splitL_hit hx] at h
      rcases List.mem_cons.mp h with rfl | h
      · simp
      · exact ih p h
    · rw [splitL_miss hx e] at h
      rcases List.mem_cons.mp h with rfl | h
      · have := ih q (by rw [e]; exact List.mem_cons_self ..)
        simp only [List.mem_cons, not_or]
        exact ⟨fun z => hx z.symm, this⟩
      · exact ih p (by rw [e]; exact List.mem_cons_of_mem _ h)
theorem splitL_part {c : Nat} : ∀ {p rest : List Nat}, c ∉ p → splitL c (p ++ c :: rest) = p :: splitL c rest
  | [], rest, _ => splitL_hit rfl
  | x :: p, rest, h => by
    have h' : x ≠ c ∧ c ∉ p := ⟨fun z => h (by rw [z]; exact List.mem_cons_self ..), fun z => h (List.mem_cons_of_mem _ z)⟩
    exact splitL_miss h'.1 (splitL_part h'.2)
theorem splitL_one {c : Nat} : ∀ {p : List Nat}, c ∉ p → splitL c p = [p]
  | [], _ => rfl
  | x :: p, h => splitL_miss (fun z => h (by rw [z]; exact List.mem_cons_self ..)) (splitL_one fun z => h (List.mem_cons_of_mem _ z))
theorem split_joinL {c : Nat} : ∀ {ps : List (List Nat)}, ps ≠ [] → (∀ p ∈ ps, c ∉ p) → splitL c (joinL c ps) = ps
  | [], h, _ => absurd rfl h
  | [p], _, h => splitL_one (h p (List.mem_cons_self ..))
  | p :: q :: r, _, h => by
    show splitL c (p ++ c :: joinL c (q :: r)) = _
    rw [splitL_part (h p (List.mem_cons_self ..)), split_joinL (by simp) fun x hx => h x (List.mem_cons_of_mem _ hx)]
theorem splitL_infix (c : Nat) : ∀ xs, ∀ p ∈ splitL c xs, p <:+: xs := fun xs p hp => by
  have key : ∀ ps : List (List Nat), ∀ p ∈ ps, p <:+: joinL c ps := by
    intro ps
    induction ps with
    | nil => intro p h; cases h
    | cons q r ih =>
      intro p h
      cases r with
      | nil =>
        rw [List.mem_singleton.mp h]
        exact List.infix_refl _
      | cons q2 r =>
        show p <:+: q ++ c :: joinL c (q2 :: r)
        rcases List.mem_cons.mp h with rfl | h
        · exact ⟨[], c :: joinL c (q2 :: r), by simp⟩
        · obtain ⟨a, b, e⟩ := ih p h
          exact ⟨q ++ c :: a, b, by rw [← e]; simp⟩
  have := key _ p hp
  rwa [join_splitL] at this
theorem splitL_length (c : Nat) : ∀ xs, (splitL c xs).length ≤ xs.length + 1
  | [] => Nat.le_refl _
  | x :: xs => by
    have ih := splitL_length c xs
    obtain ⟨q, qs, e⟩ := splitL_ne c xs
    by_cases hx : x = c
    · rw [splitL_hit hx, List.length_cons, List.length_cons]; omega
    · rw [splitL_miss hx e]
      rw [e] at ih
      simp only [List.length_cons] at ih ⊢
      omega
/-! the model's split by one sign -/
def posL (c : Nat) : Nat → List Nat → List Nat
  | _, [] => []
  | k, x :: xs => if x = c then k :: posL c (k + 1) xs else posL c (k + 1) xs
theorem subAt1 {l : List Nat} {c k : Nat} {x : Nat} {xs : List Nat} (h : l.drop k = x :: xs) : subAt (S l) (S [c]) k = decide (x = c) := by
  rw [subAt_eq]
  show ((l.drop k).take 1 == [c]) = _
  rw [h]
  by_cases hx : x = c
  · subst hx; simp
  · simp [hx]
theorem occ_go (l : List Nat) (c : Nat) : ∀ (xs : List Nat) (k : Nat) (acc : Array Nat) (free : Nat), l.drop k = xs → k + xs.length = l.length → free ≤ k → acc.size ≤ k →
    (forIn (List.range' k (xs.length + 1)) (acc, free) (occBody (S l) (S [c]) l.length (l.length + 1))).run.fst.toList = acc.toList ++ posL c k xs
  | [], k, acc, free, h, hk, hf, ha => by
    rw [List.range'_succ, List.forIn_cons]
    unfold occBody
    rw [if_neg (fun z => by
      have z2 : k + (S [c]).length ≤ l.length := z.1.2
      rw [S_len] at z2
      have : k = l.length := by simpa using hk
      simp only [List.length_cons, List.length_nil] at z2
      omega)]
    show _ = acc.toList ++ []
    rw [List.append_nil]
    rfl
  | x :: xs, k, acc, free, h, hk, hf, ha => by
    have hs := subAt1 (c := c) h
    have h1 : l.drop (k + 1) = xs := by rw [← List.drop_drop, h]; rfl
    have h2 : k + 1 + xs.length = l.length := by rw [List.length_cons] at hk; omega
    have h3 : k + 1 ≤ l.length := by omega
    rw [List.length_cons, List.range'_succ, List.forIn_cons]
    by_cases hx : x = c
    · have e : occBody (S l) (S [c]) l.length (l.length + 1) k (acc, free) = pure (ForInStep.yield (acc.push k, k + 1)) := by
        unfold occBody
        rw [if_pos ⟨⟨⟨by show acc.size < l.length + 1; omega, hf⟩, by rw [S_len]; exact h3⟩, by rw [hs, decide_eq_true hx]⟩, S_len]
        rfl
      rw [e]
      refine Eq.trans (b := (forIn (m := Id) (List.range' (k + 1) (xs.length + 1)) (acc.push k, k + 1) (occBody (S l) (S [c]) l.length (l.length + 1))).run.fst.toList) rfl ?_
      rw [occ_go l c xs (k + 1) (acc.push k) (k + 1) h1 h2 (Nat.le_refl _) (by rw [Array.size_push]; omega), Array.toList_push]
      show _ = acc.toList ++ (if x = c then _ else _)
      rw [if_pos hx, List.append_assoc]
      rfl
    · have e : occBody (S l) (S [c]) l.length (l.length + 1) k (acc, free) = pure (ForInStep.yield (acc, free)) := by
        unfold occBody
        rw [if_neg (fun z => by rw [hs, decide_eq_false hx] at z; exact absurd z.2 (by simp))]
      rw [e]
      refine Eq.trans (b := (forIn (m := Id) (List.range' (k + 1) (xs.length + 1)) (acc, free) (occBody (S l) (S [c]) l.length (l.length + 1))).run.fst.toList) rfl ?_
      rw [occ_go l c xs (k + 1) acc free h1 h2 (by omega) (by omega)]
      show _ = acc.toList ++ (if x = c then _ else _)
      rw [if_neg hx]
theorem occ_one (l : List Nat) (c : Nat) : occurrences (S l) (S [c]) 0 (S l).length ((S l).length + 1) = posL c 0 l := by
  rw [occ_eq, S_len]
  have := occ_go l c l 0 #[] 0 rfl (by simp) (Nat.le_refl _) (Nat.le_refl _)
  simpa using this
theorem sub_S (l : List Nat) (a b : Nat) : strSub (S l) a b = S ((l.drop a).take (b - a)) := by
  apply Str.ext'
  apply Array.toList_inj.mp
  rw [strSub_toList]
theorem parts_go (l : List Nat) (c : Nat) : ∀ (xs : List Nat) (a k : Nat) (p : List Nat) (ps : List (List Nat)), l.drop k = xs → a ≤ k → k + xs.length = l.length → splitL c xs = p :: ps →
    partsFrom (S l) 1 a (posL c k xs) = S ((l.drop a).take (k - a) ++ p) :: ps.map S
  | [], a, k, p, ps, h, ha, hk, hs => by
    have e : splitL c [] = [[]] := rfl
    rw [e] at hs
    cases hs
    show [strSub (S l) a (S l).length] = _
    rw [sub_S, S_len, List.append_nil]
    have : k = l.length := by simpa using hk
    rw [this]
    rfl
  | x :: xs, a, k, p, ps, h, ha, hk, hs => by
    have h1 : l.drop (k + 1) = xs := by rw [← List.drop_drop, h]; rfl
    have h2 : k + 1 + xs.length = l.length := by rw [List.length_cons] at hk; omega
    obtain ⟨q, qs, e⟩ := splitL_ne c xs
    by_cases hx : x = c
    · rw [splitL_hit hx] at hs
      cases hs
      show partsFrom (S l) 1 a (if x = c then k :: posL c (k + 1) xs else _) = _
      rw [if_pos hx]
      show strSub (S l) a k :: partsFrom (S l) 1 (k + 1) (posL c (k + 1) xs) = _
      rw [parts_go l c xs (k + 1) (k + 1) q qs h1 (Nat.le_refl _) h2 e, sub_S, List.append_nil, e, Nat.sub_self]
      simp
    · rw [splitL_miss hx e] at hs
      cases hs
      show partsFrom (S l) 1 a (if x = c then _ else posL c (k + 1) xs) = _
      rw [if_neg hx, parts_go l c xs a (k + 1) q ps h1 (by omega) h2 e]
      congr 2
      have e1 : k + 1 - a = (k - a) + 1 := by omega
      have e2 : (l.drop a).drop (k - a) = x :: xs := by rw [List.drop_drop, ← h]; congr 1; omega
      rw [e1, List.take_add_one]
      have e3 : (l.drop a)[k - a]? = some x := by
        have := congrArg (fun z => z[0]?) e2
        simpa using this
      rw [e3]
      simp
theorem kind_small {c : Nat} (h : c < 256) (x : Str) : decide (Builtin.Str.strKind x < Builtin.Str.strKind (S [c])) = false := by
  have e : Builtin.Str.strKind (S [c]) = 1 := by
    unfold Builtin.Str.strKind
    rw [if_pos (by simp [S, h])]
  rw [e]
  refine decide_eq_false fun z => ?_
  unfold Builtin.Str.strKind at z
  split at z
  · omega
  · split at z <;> omega
theorem split_S {c : Nat} (hc : c < 256) (l : List Nat) : Txt.split (S l) (S [c]) = (splitL c l).map S := by
  obtain ⟨p, ps, e⟩ := splitL_ne c l
  have hp := parts_go l c l 0 0 p ps rfl (Nat.le_refl _) (by simp) e
  unfold Txt.split
  rw [kind_small hc, occ_one, partsBetween_eq]
  split
  · rename_i h
    have h0 : l.length < 1 := by simpa [S_len] using h
    have : l = [] := List.length_eq_zero_iff.mp (by omega)
    subst this
    rfl
  · have e1 : (S [c]).length = 1 := S_len _
    split
    · rename_i h
      have h0 : posL c 0 l = [] := by simpa using h
      rw [h0] at hp
      have h2 : partsFrom (S l) 1 0 [] = [S l] := by
        show [strSub (S l) 0 (S l).length] = _
        rw [sub_whole]
      rw [h2] at hp
      rw [hp, e]
      simp
    · rw [e1, hp, e]
      simp
theorem glued_S (c : List Nat) : ∀ ps : List (List Nat), Txt.join (S c) (ps.map S) = S (match ps with | [] => [] | p :: r => r.foldl (fun acc q => acc ++ c ++ q) p) := by
  intro ps
  show glued _ _ = _
  unfold glued
  cases ps with
  | nil => rfl
  | cons p r =>
    show (⟨((r.map S).foldl (fun acc q => acc ++ (S c).cps ++ q.cps) (S p).cps)⟩ : Str) = _
    apply Str.ext'
    show (r.map S).foldl (fun acc q => acc ++ (S c).cps ++ q.cps) p.toArray = (r.foldl (fun acc q => acc ++ c ++ q) p).toArray
    induction r generalizing p with
    | nil => rfl
    | cons q r ih =>
      rw [List.map_cons, List.foldl_cons, List.foldl_cons]
      have : p.toArray ++ (S c).cps ++ (S q).cps = (p ++ c ++ q).toArray := by simp
      rw [this]
      exact ih (p ++ c ++ q)
theorem fold_joinL (c : Nat) : ∀ (r : List (List Nat)) (p : List Nat), r.foldl (fun acc q => acc ++ [c] ++ q) p = joinL c (p :: r)
  | [], p => rfl
  | q :: r, p => by
    rw [List.foldl_cons, fold_joinL c r (p ++ [c] ++ q)]
    cases r with
    | nil => show p ++ [c] ++ q = p ++ c :: q; simp
    | cons q2 r =>
      show (p ++ [c] ++ q) ++ c :: joinL c (q2 :: r) = p ++ c :: (q ++ c :: joinL c (q2 :: r))
      simp
theorem join_S (c : Nat) (ps : List (List Nat)) : Txt.join (S [c]) (ps.map S) = S (joinL c ps) := by
  rw [glued_S]
  cases ps with
  | nil => rfl
  | cons p r => exact congrArg S (fold_joinL c r p)
end Tx
set_option Elab.async false
set_option linter.all false
set_option maxRecDepth 100000
set_option maxHeartbeats 4000000
namespace En
open PySem PySem.Spec PyProof.Rows L2 Evl Vr
theorem meets_newT (l : Addr) (items : Array Value) :
    Meets (Builtin.«enumerate.__new__» ⟨[.type "enumerate", .ref l], []⟩) (fun _ R s => s.heap.IsTuple l items ∧
      R (.ok (.ret (.ref (s.heap.push { cls := .type "tuple_iterator", data := .fields #[.ref l, .int 0 0] }).objs.size)))
        { s with heap := (s.heap.push { cls := .type "tuple_iterator", data := .fields #[.ref l, .int 0 0] }).push { cls := .type "enumerate", data := .fields #[.none, .bool false, .ref s.heap.objs.size, rawInt 0, .none, .none] } }) :=
  .of_wp fun prog w A R s h => by
    obtain ⟨hp, g, d, tk, os⟩ := s; obtain ⟨hl, h⟩ := h
    have hsub := sub_enumerate
    have q1 : ∀ {A' : Around} {E : Value → Shared → Prop} {Q : Value → Shared → Prop}, Q (.ref hp.objs.size) ⟨hp.push { cls := .type "tuple_iterator", data := .fields #[.ref l, .int 0 0] }, g, d, tk, os⟩ → wpAny (model prog w) A' (pyIter (.ref l)) Q E ⟨hp, g, d, tk, os⟩ :=
      fun q => wpAny_pyIter_tuple (s := ⟨hp, g, d, tk, os⟩) hl q
    wp_walk using q1
    refine wpAny_stack_any fun st => wpAny_pure ?_
    split
    · rename_i c _ _ _ _ _
      cases (c == Value.type "enumerate")
      · wp_walk using q1
        exact ⟨_, rfl, h⟩
      · wp_walk using q1
        exact ⟨_, rfl, h⟩
    · wp_walk using q1
      exact ⟨_, rfl, h⟩
theorem call_enumT {prog : Program} {w : World} {A : Around} {E : Value → Shared → Prop} {s : Shared} {l : Addr} {items : Array Value} {Q : Value → Shared → Prop} (hL : s.heap.IsTuple l items)
    (h : ∀ h', IsEnum h' (s.heap.objs.size + 1) s.heap.objs.size 0 .none → h'.IsTupleIter s.heap.objs.size l 0 → h'.objs.size = s.heap.objs.size + 2 →
      (∀ b o, s.heap.get? b = some o → h'.get? b = some o) → Q (.ref (s.heap.objs.size + 1)) { s with heap := h' }) :
    wpAny (model prog w) A (call (.type "enumerate") [.ref l]) Q E s := by
  refine callType_new F.called_enumerate (by decide) (F.typeCall_enumerate_1 _) (F.newCall_enumerate_1 _) (fun obj => F.args_object_init_2 obj _) F.entry_enumerate_new
    (meets_newT l items) ⟨hL, ?_⟩
  have hz : (s.heap.push { cls := .type "tuple_iterator", data := .fields #[.ref l, .int 0 0] }).objs.size = s.heap.objs.size + 1 := Heap.size_push ..
  show _ ∧ _
  rw [hz]
  have he : IsEnum ((s.heap.push { cls := .type "tuple_iterator", data := .fields #[.ref l, .int 0 0] }).push
      { cls := .type "enumerate", data := .fields #[.none, .bool false, .ref s.heap.objs.size, rawInt 0, .none, .none] }) (s.heap.objs.size + 1) s.heap.objs.size 0 .none := by
    have := Heap.get?_push_size (s.heap.push { cls := .type "tuple_iterator", data := .fields #[.ref l, .int 0 0] })
      (o := { cls := .type "enumerate", data := .fields #[.none, .bool false, .ref s.heap.objs.size, rawInt 0, .none, .none] }) rfl
    rw [hz] at this; exact this
  refine ⟨⟨_, he, rfl⟩, h _ he ⟨_, Heap.get?_push_of_some _ (Heap.get?_push_size _ rfl), rfl, rfl⟩ (by rw [Heap.size_push, hz]) fun b o x => Heap.get?_push_of_some _ (Heap.get?_push_of_some _ x)⟩
/-- the tuple at a, each item in a new pair -/
def IteT (K : PySem.W.Frag) (a : Addr) : It :=
  ⟨fun i H => ∃ (xs : List V) (x : V), SqT K H a xs ∧ xs[i]? = some x, fun i H v H' => ∃ T x, v = .ref T ∧ H T = none ∧ H' = upd H T (.tup [.int (i : Nat), x]) ∧ ∀ xs, SqT K H a xs → xs[i]? = some x, fun i H => ∃ xs : List V, SqT K H a xs ∧ xs.length ≤ i⟩
theorem turn_enumT {P : Program} {w : World} {K : PySem.W.Frag} {elts : List Expr} {kk : Nat} {tpos : Pos} (a e it : Addr) :
    Turn P w K (.Tuple elts kk tpos) (IteT K a) [e, it] e (fun i h => (∃ old, IsEnum h e it ((i : Nat) : Int) old) ∧ h.IsTupleIter it a i ∧ e ≠ it) where
  mem := by simp
  obj := fun i h st b hb => by
    obtain ⟨⟨old, he⟩, ⟨o, ho, hc, hd⟩, _⟩ := st
    have e' : b = e ∨ b = it := by simpa using hb
    rcases e' with z | z
    · rw [z]; exact ⟨_, he, fun v q => nomatch q⟩
    · rw [z]; exact ⟨o, ho, fun v q => by rw [hd] at q; cases q⟩
  keep := fun i h h' st k => let ⟨⟨old, he⟩, hi, hne⟩ := st; ⟨⟨old, k e (by simp) _ he⟩, hi.at fun o q => k it (by simp) o q, hne⟩
  item := by
    intro X hP hw hK hc i pins s σ H E I hf st hg
    subst hP hw hK
    obtain ⟨⟨old, he⟩, hit, hne⟩ := st
    obtain ⟨xs, x, hq, hx⟩ := hg
    obtain ⟨its, rv, p, hz⟩ := I.tuple hq
    have p : s.heap.IsTuple a its.toArray := p
    obtain ⟨u, hu, ru⟩ := rv.get hx
    have hel : e < s.heap.objs.size := Heap.lt_size he
    have hil : it < s.heap.objs.size := by obtain ⟨_, q, _⟩ := hit; exact Heap.lt_size q
    have hai : a ≠ it := by
      intro z
      obtain ⟨o, ho, hc1, _⟩ := hit
      obtain ⟨o2, ho2, hc2, _⟩ := p
      rw [z, ho] at ho2
      cases ho2
      rw [hc1] at hc2
      exact absurd hc2 (by decide)
    have hae : e ≠ a := by
      intro z
      obtain ⟨o2, ho2, hc2, _⟩ := p
      have he' : s.heap.get? e = _ := he
      rw [z, ho2] at he'
      cases he'
      exact absurd (show Value.type "enumerate" = Value.type "tuple" from hc2) (by decide)
    have hh : X.A.handled = none := I.ok.hd hc
    have Dr := Draws.tuple (prog := X.prog) (w := X.w) (A := X.A.in1) (by simp [hh]) it a hai its.toArray
    have hlt : i < its.toArray.size := by
      have := (List.getElem?_eq_some_iff.mp hu).1
      simpa using this
    refine wpAny_pyNext_enum_itemD Dr he ⟨hit, p⟩ hlt hne (by simp [hne, hae]) fun x' h' tk hPx ho hit' hT hsz hk => ?_
    have hxu : x' = u := by
      have h1 : its[i]? = some x' := by simpa using hPx
      rw [hu] at h1
      exact (Option.some.inj h1).symm
    subst hxu
    obtain ⟨hit', _⟩ := hit'
    refine ⟨_, rfl, wpAny_letOwnedTupleGo_enum (s := { s with heap := h', toks := tk + 1 }) ho fun h'' he' sb => ?_⟩
    have hT2 : h''.get? s.heap.objs.size = some { cls := .type "tuple", data := .seq #[.int i tk, x'] } := (sb.2 _ (Nat.ne_of_gt hel)).trans hT
    have new : ObjOk X.prog X.w (upd H s.heap.objs.size (.tup [.int (i : Nat), x])) h'' s.heap.objs.size (.tup [.int (i : Nat), x]) :=
      ⟨by show 2 ≤ sizeLine; decide, [.int i tk, x'], .cons ⟨_, rfl⟩ (.cons ru .nil), ⟨_, hT2, rfl, _, rfl⟩⟩
    have I1 : Inv X pins σ (upd H s.heap.objs.size (.tup [.int (i : Nat), x])) { s with heap := h'', toks := tk + 1 } :=
      I.turnedNew (ch := [e, it]) (fun b ob hb q => (sb.2 b (fun z => hb (by simp [z]))).trans (hk b ob (fun z => hb (by simp [z])) (fun z => hb (by simp [z])) q)) hf (Nat.le_refl _) new
    refine ⟨.ref s.heap.objs.size, _, I1, rfl, ⟨_, x, rfl, I.hok.fresh (Nat.le_refl _), rfl, fun ys hy => by rw [I.tuple_inj hy hq]; exact hx⟩, ⟨⟨x', ?_⟩, hit'.at fun o q => (sb.2 it (Ne.symm hne)).trans q, hne⟩, fun b hb => ?_⟩
    · have e1 : ((i + 1 : Nat) : Int) = (i : Int) + 1 := by omega
      rw [e1]; exact he'
    · have hb' : b < s.heap.objs.size := by
        have e' : b = e ∨ b = it := by simpa using hb
        rcases e' with z | z
        · rw [z]; exact hel
        · rw [z]; exact hil
      rw [upd_ne (Nat.ne_of_lt hb')]
      exact (hf b hb).1
  done := by
    intro X hP hw hK hc i pins s σ H E I hf st hg
    subst hP hw hK
    obtain ⟨⟨old, he⟩, hit, hne⟩ := st
    obtain ⟨xs, hq, hx⟩ := hg
    obtain ⟨its, rv, p, hz⟩ := I.tuple hq
    have p : s.heap.IsTuple a its.toArray := p
    obtain ⟨f0, f1, f2, f3, f4, f5⟩ := hf it (by simp)
    have hl := rv.length
    have hT : s.TypeIs (.ref e) "enumerate" := ⟨_, he, rfl⟩
    have hh : X.A.handled = none := I.ok.hd hc
    unfold pyNext
    refine wpAny_bind (wpAny_attempt (wpAny_callSpecial?_slot (name := Str.ofString "__next__") hT F.slot_enumerate_next
      (wpAny_call_entry F.slot_enumerate_next hT F.entry_enumerate_next ?_ (F.args_enumerate_next_1 _))))
    show wpAny _ _ (field (.ref e) 2 >>= _) _ _ _
    refine wpAny_bind (wpAny_field he rfl (x := .ref it) rfl ?_)
    refine wpAny_bind (wpAny_nextOf_tuple_end (by simp [hh]) hit p (by simp; omega) fun h' x he' hx' => ?_)
    obtain ⟨o, ho, hc⟩ := hx'
    refine wpAny_bind (wpAny_isInstance (T := "StopIteration") (b := true) ⟨o, ho, hc⟩ isSubtype_stop ?_)
    exact wpAny_pure ⟨rfl, I.turned (t' := s.toks) (fun b o hb q => he' b o hb q) f0 f1 f3 f4 f5⟩
  self := fun A i s Q E st h => let ⟨⟨_, he⟩, _⟩ := st; wpAny_pyIter_enum he h
def iEnumT (K : PySem.W.Frag) (ta : TA) : TI := fun σ H R => ta σ H fun vs H1 => ∃ a xs, vs = [.ref a] ∧ SqT K H1 a xs ∧ R (IteT K a) H1
theorem pi_enumT {X : Cx} {e : Expr} {ta : TA} {p pos tpos : Pos} {elts : List Expr} {kk : Nat} (hg : Gl X "enumerate") (hm : X.mg "enumerate" = none) (ha : PA X [e] ta) (hs : starEach [e] X.env = [(false, eval e X.env)] := by rfl) :
    PI X (.Tuple elts kk tpos) (.Call (.Name "enumerate" p) [e] [] pos) (iEnumT X.K ta) := by
  refine ⟨fun pins s σ H R I h => ?_⟩
  refine Call_ (ld_blt I hg hm boot_enumerate (PyProof.Rows.callWith_type1 (thn (ha.run pos pins s σ H _ I h) fun us s1 ⟨vs, H1, I1, r1, q1⟩ => ?_) hs rfl))
  obtain ⟨a, xs, ex, hq, q⟩ := q1
  subst ex
  cases r1 with
  | cons r rr =>
    cases rr
    cases r
    obtain ⟨its, rv, p', hz⟩ := I1.tuple hq
    have p' : s1.heap.IsTuple a its.toArray := p'
    refine call_enumT p' fun h' he hit hsz hk => wpAny_pyIter_enum he ?_
    have I2 : Inv X pins σ H1 { s1 with heap := h' } := I1.kept (t' := s1.toks) hk
    refine ⟨s1.heap.objs.size + 1, [s1.heap.objs.size + 1, s1.heap.objs.size], _, _, H1, rfl, I2, turn_enumT a (s1.heap.objs.size + 1) s1.heap.objs.size, ⟨⟨.none, he⟩, hit, Nat.succ_ne_self _⟩, fun b hb => ?_, q⟩
    have e' : b = s1.heap.objs.size + 1 ∨ b = s1.heap.objs.size := by simpa using hb
    have hle : s1.heap.objs.size ≤ b := by
      rcases e' with z | z
      · rw [z]; exact Nat.le_add_right _ _
      · rw [z]; exact Nat.le_refl _
    exact I1.fpOk hle (I1.hok.fresh hle)
theorem walk_enumT {K : PySem.W.Frag} {a : Addr} {xs : List V} : Walk (IteT K a) xs.length (fun H => SqT K H a xs) (YPair (fun i => some (.int (i : Nat))) (fun i => xs[i]?)) := by
  refine ⟨fun i _ hi q => ⟨xs, xs[i], q, by simp [hi]⟩, fun _ q => ⟨xs, q, Nat.le_refl _⟩, fun i H v H' _ q y => ?_⟩
  obtain ⟨T, x, h1, h2, h3, h4⟩ := y
  exact ⟨T, .int (i : Nat), x, h1, h2, h3, rfl, h4 xs q⟩
/-- [e for i, x in enumerate(tuple) if t] -/
theorem el_lcEnumT {σ : L2.St} {H : Hp} {te : TE} {t : TT} {K : PySem.W.Frag} {a : Addr} {xs : List V} {ta : TA} {j l : Nat} {vs : List Nat} (f : Nat → Bool) (v : Nat → V) (h : EvA ta σ H [.ref a]) (hx : SqT K H a xs) (hz : xs.length ≤ 40000)
    (hw : ∀ x y, wipe (((wipe σ vs).set j (some x)).set l (some y)) vs = wipe σ vs)
    (ht : ∀ (i : Nat) (x : V) H1, Ex H H1 → xs[i]? = some x → EvT t (((wipe σ vs).set j (some (.int (i : Nat)))).set l (some x)) H1 (f i)) (he : ∀ (i : Nat) (x : V) H1, Ex H H1 → xs[i]? = some x → f i = true → Ev te (((wipe σ vs).set j (some (.int (i : Nat)))).set l (some x)) H1 (v i)) :
    EvL (tLc (iEnumT K ta) (gTup K 2 (gCons (gName j) (gCons (gName l) gNil))) t te vs) σ H (given xs.length f v) := fun H0 e Q q => h H0 e _ fun H1 e1 => ⟨a, xs, rfl, ex_t (e.trans e1) hx, fun Dl hD =>
  lc_it walk_enumT (Cw H1 f v Dl) ⟨hD, Ex.new hD, upd_same⟩ (fun i H' _ p => ex_t ((e.trans e1).trans p.2.1) hx) (fun i x H' H'' hi p y => by
    obtain ⟨T, y1, y2, rfl, hT, rfl, h3, h4⟩ := y
    have h3 : y1 = .int (i : Nat) := (Option.some.inj h3).symm
    subst h3
    have eT : Ex H' (upd H' T (.tup [.int (i : Nat), y2])) := Ex.new hT
    refine ⟨T, [.int (i : Nat), y2], rfl, st_of upd_same, rfl, .int (i : Nat), [y2], rfl, y2, [], rfl, rfl, hw _ _, ?_⟩
    have p' : Cw H1 f v Dl i (upd H' T (.tup [.int (i : Nat), y2])) := ⟨p.1, p.2.1.trans eT, eT _ _ p.2.2⟩
    exact cw_turn p' (by omega) (ht i y2 H1 (e.trans e1) h4) (fun hf => he i y2 H1 (e.trans e1) h4 hf))
    (fun H' p => q Dl H' (fresh_back e1 p.1) (e1.trans p.2.1) p.2.2)⟩
end En
set_option Elab.async false
set_option linter.all false
set_option maxRecDepth 100000
set_option maxHeartbeats 4000000
namespace Wo
open PySem PySem.Spec PyProof.Rows L2 Evl Vr En
section
variable {X : Cx} {CX : CXT} {n f C : Addr} {fd : FuncData} {ps : List Str} {sp : Sp} {E : XK} {pins : List (Addr × Obj)} {σ : L2.St} {H : Hp} {s : Shared} {us : List Value} {vs : List V} {Q : VK}
theorem ix_tupK {X : Cx} {K : PySem.W.Frag} (h : X.K = K) : IxR X (rIxT K) := by subst h; exact ix_tup
theorem ix_listK {X : Cx} {K : PySem.W.Frag} (h : X.K = K) : IxR X (rIxL K) := by subst h; exact ix_list
/-- a def called from somewhere below the body -/
theorem call_sub {A : Around} {k : Nat} (sb : Sub X k A) (F : FnOk X.prog X.w X.K X.mg X.base CX k f fd ps sp) (hb : Binds X.K fd ps []) (hx : Passes CX X E) (I : Inv X pins σ H s) (r : Vals vs us) (h : sp vs H Q E) :
    wpAny (model X.prog X.w) A (call (.ref f) us) (EP X pins σ Q) X.xe s := by
  have e0 : Env0 X.prog X.w X.K X.mg X.base A X.stack s H := by
    have e := I.env0
    exact ⟨by rw [sb.fr]; exact e.frames, e.mod, e.bs, e.bsz, e.funs, e.frf, e.hok, e.bare⟩
  have hl := F.len _ _ _ _ h
  have hb' : BindsTo s fd ⟨us, []⟩ (ps.zip us) := by
    have := hb s us I.kIn (by rw [List.append_nil, ← r.length]; exact hl)
    simpa using this
  refine wpAny_call (codeAny_mono (F.run A X.stack s H ⟨us, []⟩ us vs Q E sb.room e0 hb' r h) fun r s' hq => ?_)
  cases r with
  | error e => exact hx pins σ H s e s' I hq
  | ok fl =>
    cases fl with
    | ret u => exact I.after hq
    | next => exact False.elim hq
    | brk => exact False.elim hq
    | cont => exact False.elim hq
/-- the bool that comes back -/
def backB (Q : VK) : VK := fun v H' => ∃ b, v = .bl b ∧ Q (.bl b) H'
def backN (Q : VK) : VK := fun v H' => ∃ b, v = .bl b ∧ Q (.bl (!b)) H'
/-- x in o, o's class with its own __contains__ -/
def rInO (C : Addr) (sp : Sp) (E : XK) : R2 := fun x y H Q => ∃ a dx fs, y = .ref a ∧ H a = some (.ins C dx fs) ∧ sp [.ref a, x] H (backB Q) E
def rNiO (C : Addr) (sp : Sp) (E : XK) : R2 := fun x y H Q => ∃ a dx fs, y = .ref a ∧ H a = some (.ins C dx fs) ∧ sp [.ref a, x] H (backN Q) E
theorem op_inO {k : Nat} (F : FnOk X.prog X.w X.K X.mg X.base CX k f fd ps sp) (hr : Room k X.A) (M : Meth X.K C "__contains__" f) (hb : Binds X.K fd ps []) (hx : Passes CX X E) : OpR X (compareOp .In) (rInO C sp E) := by
  intro pins s σ H x y v u Q I rx ry h
  obtain ⟨a, dx, fs, rfl, ha, h⟩ := h
  cases ry
  obtain ⟨mA, J, _⟩ := ins_get I.hok ha
  obtain ⟨od, J, _⟩ := J.look
  obtain ⟨m, hF⟩ := I.fr
  refine PySem.W.in_K hF I.ok.mod.kin J M.at_ M.fn ?_
  refine wpAny_mono (call_sub (vs := [.ref a, x]) ⟨hr, rfl⟩ F hb hx I (.cons rfl (.cons rx .nil)) h) (fun r s' z => ?_) fun _ _ z => z
  obtain ⟨w, H', I', rw', b, rfl, q⟩ := z
  cases rw'
  exact wpAny_truthy_bool ⟨.bl b, H', I', rfl, q⟩
theorem op_niO {k : Nat} (F : FnOk X.prog X.w X.K X.mg X.base CX k f fd ps sp) (hr : Room k X.A) (M : Meth X.K C "__contains__" f) (hb : Binds X.K fd ps []) (hx : Passes CX X E) : OpR X (compareOp .NotIn) (rNiO C sp E) := by
  intro pins s σ H x y v u Q I rx ry h
  obtain ⟨a, dx, fs, rfl, ha, h⟩ := h
  cases ry
  obtain ⟨mA, J, _⟩ := ins_get I.hok ha
  obtain ⟨od, J, _⟩ := J.look
  obtain ⟨m, hF⟩ := I.fr
  refine PySem.W.notIn_K hF I.ok.mod.kin J M.at_ M.fn ?_
  refine wpAny_mono (call_sub (vs := [.ref a, x]) ⟨hr, rfl⟩ F hb hx I (.cons rfl (.cons rx .nil)) h) (fun r s' z => ?_) fun _ _ z => z
  obtain ⟨w, H', I', rw', b, rfl, q⟩ := z
  cases rw'
  exact wpAny_truthy_bool ⟨.bl (!b), H', I', rfl, q⟩
/-- len(o) -/
def rLenO (C : Addr) (sp : Sp) (E : XK) : List V → Hp → VK → Prop := fun xs H Q => ∃ a dx fs, xs = [.ref a] ∧ H a = some (.ins C dx fs) ∧ sp [.ref a] H (fun v H' => ∃ n : Int, v = .int n ∧ 0 ≤ n ∧ n < 2 ^ 63 ∧ Q (.int n) H') E
theorem c_lenO {k : Nat} (F : FnOk X.prog X.w X.K X.mg X.base CX k f fd ps sp) (hr : Room (k + 1) X.A) (M : Meth X.K C "__len__" f) (hb : Binds X.K fd ps []) (hx : Passes CX X E) : CallR X (.builtin "len") (rLenO C sp E) := by
  intro pins s σ H xs us Q I r h
  obtain ⟨a, dx, fs, rfl, ha, h⟩ := h
  rw [Vals.ref1 r]
  obtain ⟨mA, J, _⟩ := ins_get I.hok ha
  obtain ⟨od, J, _⟩ := J.look
  obtain ⟨m, hF⟩ := I.fr
  refine PySem.W.len_K hF I.ok.mod.kin J M.at_ M.fn ?_
  have hs : Sub X k X.A.in1 := Sub.in1 ⟨hr, rfl⟩
  refine wpAny_mono (call_sub (vs := [.ref a]) hs F hb hx I (.cons rfl .nil) h) (fun r s' z => ?_) fun _ _ z => z
  obtain ⟨w, H', I', rw', n, rfl, h0, h1, q⟩ := z
  obtain ⟨t, rfl⟩ := rw'
  exact ⟨⟨h0, h1⟩, .int n, H', I'.tok _, ⟨_, rfl⟩, q⟩
end
section
variable {σ : L2.St} {H : Hp} {te ta tb to : TE} {ts tr : TA} {K : PySem.W.Frag} {a C dx : Addr} {fs : List (Str × V)} {f : Str} {v z x : V}
theorem ev_fld (h : Ev ta σ H (.ref a)) (ho : H a = some (.ins C dx fs)) (c : Cls K C) (n : NoAttr K C f) (l : fs.lookup f = some v) : Ev (tFld K ta f) σ H v := fun H1 e Q q =>
  h H1 e _ fun H2 e2 => ⟨a, C, dx, fs, v, rfl, (e.trans e2) _ _ ho, c, n, l, q H2 e2⟩
theorem ev_methP {m : Str} {ok : List V → Hp → V → Prop} {E : XK} {vs : List V} (h : Ev to σ H (.ref a)) (ho : H a = some (.ins C dx fs)) (hl : fs.lookup m = none) (ha : EvA ts σ H vs) (hok : ∀ H1, Ex H H1 → ok (.ref a :: vs) H1 z) : Ev (tMeth C m (Pure ok) [] E to ts) σ H z := fun H1 e Q q =>
  h H1 e _ fun H2 e2 => ⟨a, dx, fs, rfl, (e.trans e2) _ _ ho, hl, ha H2 (e.trans e2) _ fun H3 e3 => by
    rw [List.append_nil]
    exact ⟨z, hok H3 ((e.trans e2).trans e3), fun H4 e4 => q H4 ((e2.trans e3).trans e4)⟩⟩
theorem rv_inO {ok : List V → Hp → V → Prop} {E : XK} {b : Bool} (ho : H a = some (.ins C dx fs)) (hok : ∀ H1, Ex H H1 → ok [.ref a, x] H1 (.bl b)) : RV (rInO C (Pure ok) E) x (.ref a) H (.bl b) := fun H1 e Q q =>
  ⟨a, dx, fs, rfl, e _ _ ho, .bl b, hok H1 e, fun H2 e2 => ⟨b, rfl, q H2 e2⟩⟩
theorem rv_niO {ok : List V → Hp → V → Prop} {E : XK} {b : Bool} (ho : H a = some (.ins C dx fs)) (hok : ∀ H1, Ex H H1 → ok [.ref a, x] H1 (.bl b)) : RV (rNiO C (Pure ok) E) x (.ref a) H (.bl (!b)) := fun H1 e Q q =>
  ⟨a, dx, fs, rfl, e _ _ ho, .bl b, hok H1 e, fun H2 e2 => ⟨b, rfl, q H2 e2⟩⟩
theorem rc_lenO {ok : List V → Hp → V → Prop} {E : XK} {n : Int} (ho : H a = some (.ins C dx fs)) (h0 : 0 ≤ n) (h1 : n < 2 ^ 63) (hok : ∀ H1, Ex H H1 → ok [.ref a] H1 (.int n)) : RC (rLenO C (Pure ok) E) [.ref a] H (.int n) := fun H1 e Q q =>
  ⟨a, dx, fs, rfl, e _ _ ho, .int n, hok H1 e, fun H2 e2 => ⟨n, rfl, h0, h1, q H2 e2⟩⟩
end
end Wo
set_option Elab.async false
set_option linter.all false
set_option maxRecDepth 100000
set_option maxHeartbeats 4000000
namespace Wo
open PySem PySem.Spec PyProof.Rows L2 Evl Vr En
section
variable {σ : L2.St} {H H' : Hp} {te ta tb tc tn to : TE} {t : TT} {tr ts tk : TA} {tz tu : TS} {D : Ends} {K : PySem.W.Frag} {w : World} {x y z v : V} {g : TG}
def Tupd (ok : List V → Hp → List V → Prop) : Sp := fun vs H Q _ => ∃ xs, ok vs H xs ∧ ∀ p H', H p = none → Ex H H' → H' p = some (.tup xs) → Q (.ref p) H'
theorem eu_callT {ok : List V → Hp → List V → Prop} {E : XK} {ts : TA} {vs xs : List V} (h : EvA ts σ H vs) (ho : ∀ H1, Ex H H1 → ok vs H1 xs) : EvU (tCall (Tupd ok) [] E ts) σ H xs := fun H1 e Q q =>
  h H1 e _ fun H2 e2 => by
    show Tupd ok (vs ++ []) H2 Q E
    rw [List.append_nil]
    exact ⟨xs, ho H2 (e.trans e2), fun p H3 hp e3 h3 => q p H3 (fresh_back e2 hp) (e2.trans e3) h3⟩
theorem q_asg2T {i j : Nat} {p : Addr} {v1 v2 : V} (h : Ev te σ H (.ref p)) (hT : SqT K H p [v1, v2]) (k : ∀ H1, Ex H H1 → tz D ((σ.set i (some v1)).set j (some v2)) H1) : tSeq (tAsg te (gTup K 2 (gCons (gName i) (gCons (gName j) gNil)))) tz D σ H :=
  h H (Ex.refl H) _ fun H1 e => ⟨p, [v1, v2], rfl, ex_t e hT, rfl, v1, [v2], rfl, v2, [], rfl, rfl, k H1 e⟩
theorem q_asg4T {i j l m : Nat} {p : Addr} {v1 v2 v3 v4 : V} (h : Ev te σ H (.ref p)) (hT : SqT K H p [v1, v2, v3, v4]) (k : ∀ H1, Ex H H1 → tz D ((((σ.set i (some v1)).set j (some v2)).set l (some v3)).set m (some v4)) H1) : tSeq (tAsg te (gTup K 4 (gCons (gName i) (gCons (gName j) (gCons (gName l) (gCons (gName m) gNil)))))) tz D σ H :=
  h H (Ex.refl H) _ fun H1 e => ⟨p, [v1, v2, v3, v4], rfl, ex_t e hT, rfl, v1, _, rfl, v2, _, rfl, v3, _, rfl, v4, [], rfl, rfl, k H1 e⟩
def Lstd (ok : List V → Hp → List V → Prop) : Sp := fun vs H Q _ => ∃ xs, ok vs H xs ∧ ∀ p H', H p = none → Ex H H' → H' p = some (.lst xs) → Q (.ref p) H'
theorem el_callL {ok : List V → Hp → List V → Prop} {E : XK} {ts : TA} {vs xs : List V} (h : EvA ts σ H vs) (ho : ∀ H1, Ex H H1 → ok vs H1 xs) : EvL (tCall (Lstd ok) [] E ts) σ H xs := fun H1 e Q q =>
  h H1 e _ fun H2 e2 => by
    show Lstd ok (vs ++ []) H2 Q E
    rw [List.append_nil]
    exact ⟨xs, ho H2 (e.trans e2), fun p H3 hp e3 h3 => q p H3 (fresh_back e2 hp) (e2.trans e3) h3⟩
theorem eu_if {b : Bool} {xs : List V} (h : EvT t σ H b) (h1 : b = true → EvU ta σ H xs) (h2 : b = false → EvU tb σ H xs) : EvU (tIf t ta tb) σ H xs := fun H1 e Q q => h H1 e _ fun H2 e2 => by
  match b with
  | true =>
    rw [if_pos rfl]
    exact h1 rfl H2 (e.trans e2) Q fun p H3 hp e3 h3 => q p H3 (fresh_back e2 hp) (e2.trans e3) h3
  | false =>
    rw [if_neg Bool.false_ne_true]
    exact h2 rfl H2 (e.trans e2) Q fun p H3 hp e3 h3 => q p H3 (fresh_back e2 hp) (e2.trans e3) h3
theorem ea_starL {xs ys : List V} (h : EvL te σ H xs) (hr : ∀ H1, Ex H H1 → EvA tr σ H1 ys) : EvA (StX.tStar K te tr) σ H (xs ++ ys) := fun H1 e Q q =>
  h H1 e _ fun p H2 hp e2 h2 => ⟨p, xs, rfl, .inr (sq_of h2), hr H2 (e.trans e2) H2 (Ex.refl H2) _ fun H3 e3 => q H3 (e2.trans e3)⟩
theorem given_int (l : List Int) (g : Int → Bool) : given l.length (fun i => g (l.getD i 0)) (fun i => V.int (l.getD i 0)) = (l.filter g).map V.int := by
  unfold given
  have e : (List.range l.length).map (fun i => l.getD i 0) = l := by
    apply List.ext_getElem
    · simp
    · intro i h1 h2
      simp [List.getD_eq_getElem?_getD, List.getElem?_eq_getElem h2]
  conv => rhs; rw [← e, List.filter_map, List.map_map]
  rfl
theorem ev_callT {ok : List V → Hp → V → Prop} {E : XK} {xs vs : List V} (h1 : EvU ta σ H xs) (h2 : ∀ H1, Ex H H1 → EvA tr σ H1 vs) (ho : ∀ p H1, Ex H H1 → H1 p = some (.tup xs) → ok (.ref p :: vs) H1 z) : Ev (tCall (Pure ok) [] E (tCons ta tr)) σ H z := fun H1 e Q q =>
  h1 H1 e _ fun p H2 hp e2 hx => h2 H2 (e.trans e2) H2 (Ex.refl H2) _ fun H3 e3 => by
    show Pure ok ((.ref p :: vs) ++ []) H3 Q E
    rw [List.append_nil]
    exact ⟨z, ho p H3 ((e.trans e2).trans e3) (e3 _ _ hx), fun H4 e4 => q H4 ((e2.trans e3).trans e4)⟩
theorem ev_anyN {bs : List Bool} (ha : EvL ta σ H (bs.map V.bl)) : Ev (tCB (rAny K) (tCons ta tNil)) σ H (.bl (bs.any id)) := fun H1 e Q q =>
  ha H1 e _ fun p H2 _ e2 h2 => ⟨p, bs, rfl, sq_of h2, q H2 e2⟩
theorem ev_minN {ns : List Int} {m : Int} (ha : EvL ta σ H (ns.map V.int)) (hm : m ∈ ns) (hl : ∀ y ∈ ns, m ≤ y) : Ev (tCB (rMin K) (tCons ta tNil)) σ H (.int m) := fun H1 e Q q =>
  ha H1 e _ fun p H2 _ e2 h2 => ⟨p, ns, rfl, sq_of h2, List.length_pos_of_mem hm, fun m' h1 h3 => by
    have e4 : m' = m := Int.le_antisymm (h3 m hm) (hl m' h1)
    rw [e4]
    exact q H2 e2⟩
theorem el_lcT {a : Addr} {xs : List V} {tl : TE} {j : Nat} {vs : List Nat} (f : Nat → Bool) (v : Nat → V) (h : Ev tl σ H (.ref a)) (hx : SqT K H a xs) (hz : xs.length ≤ 40000) (hw : ∀ x, wipe ((wipe σ vs).set j (some x)) vs = wipe σ vs)
    (ht : ∀ (i : Nat) (x : V) H1, Ex H H1 → xs[i]? = some x → EvT t ((wipe σ vs).set j (some x)) H1 (f i)) (he : ∀ (i : Nat) (x : V) H1, Ex H H1 → xs[i]? = some x → f i = true → Ev te ((wipe σ vs).set j (some x)) H1 (v i)) :
    EvL (tLc (iTup K tl) (gName j) t te vs) σ H (given xs.length f v) := fun H0 e Q q => h H0 e _ fun H1 e1 => ⟨a, rfl, ⟨xs, ex_t (e.trans e1) hx⟩, fun Dl hD =>
  lc_tup (xs := xs) (Cw H1 f v Dl) ⟨hD, Ex.new hD, upd_same⟩ (fun i H' _ p => ex_t ((e.trans e1).trans p.2.1) hx) (fun i x H' hi p => ⟨hw x, cw_turn p (by have := (List.getElem?_eq_some_iff.mp hi).1; omega) (ht i x H1 (e.trans e1) hi) (fun hf => he i x H1 (e.trans e1) hi hf)⟩)
    (fun H' p => q Dl H' (fresh_back e1 p.1) (e1.trans p.2.1) p.2.2)⟩
theorem given_yes_map {α : Type} (l : List α) (d : α) (g : α → V) : given l.length (fun _ => true) (fun i => g (l.getD i d)) = l.map g := by
  unfold given
  rw [List.filter_eq_self.mpr (fun _ _ => rfl)]
  apply List.ext_getElem
  · simp
  · intro i h1 h2
    have h3 : i < l.length := by simpa using h2
    simp [List.getD_eq_getElem?_getD, List.getElem?_eq_getElem h3]
theorem rc_isiTup {a : Addr} {xs : List V} (h : SqT K H a xs) : RC (rIsi K) [.ref a, .ty "tuple"] H (.bl true) := fun H1 e Q q => by
  have ht : TyX K H1 (.ref a) (.type "tuple") := by
    rcases ex_t e h with h | ⟨o, its, n, h1, h2, _⟩
    · rcases h with h | ⟨d, h⟩
      · exact .base (.tup h)
      · exact .fTuple h
    · exact .kTuple h1 h2
  exact ⟨_, .ty "tuple", .type "tuple", .type "tuple", true, rfl, .ty _, ht, kit_ty (r := true) (by decide +kernel), q H1 (Ex.refl H1)⟩
theorem rc_lenT {a : Addr} {xs : List V} (h : SqT K H a xs) : RC (rLenS K) [.ref a] H (.int (xs.length : Int)) := fun H1 e _ q => ⟨a, xs, rfl, .inr (ex_t e h), q H1 (Ex.refl H1)⟩
theorem within_ok {lo hi n : Int} (h : lo ≤ n ∧ n ≤ hi) (hl : -1000000000 ≤ lo) (hh : hi ≤ 1000000000) : isWithin lo hi (.int n) = true := by
  unfold isWithin isIntV
  simp only [Bool.and_eq_true, decide_eq_true_eq]
  omega
theorem ev_allN {bs : List Bool} (ha : EvL ta σ H (bs.map V.bl)) : Ev (tCB (rAll K) (tCons ta tNil)) σ H (.bl (bs.all id)) := fun H1 e Q q =>
  ha H1 e _ fun p H2 _ e2 h2 => ⟨p, bs, rfl, sq_of h2, q H2 e2⟩
theorem ev_callVT {ok : List V → Hp → V → Prop} {E : XK} {x : V} {xs vs : List V} (h0 : Ev ta σ H x) (h1 : EvU tb σ H xs) (h2 : ∀ H1, Ex H H1 → EvA tr σ H1 vs) (ho : ∀ p H1, Ex H H1 → H1 p = some (.tup xs) → ok (x :: .ref p :: vs) H1 z) : Ev (tCall (Pure ok) [] E (tCons ta (tCons tb tr))) σ H z := fun H0 e0 Q q =>
  h0 H0 e0 _ fun H1 e1 => h1 H1 (e0.trans e1) _ fun p H2 hp e2 hx => h2 H2 ((e0.trans e1).trans e2) H2 (Ex.refl H2) _ fun H3 e3 => by
    show Pure ok ((x :: .ref p :: vs) ++ []) H3 Q E
    rw [List.append_nil]
    exact ⟨z, ho p H3 (((e0.trans e1).trans e2).trans e3) (e3 _ _ hx), fun H4 e4 => q H4 (((e1.trans e2).trans e3).trans e4)⟩
theorem given_filter {α : Type} (l : List α) (d : α) (g : α → Bool) (h : α → V) : given l.length (fun i => g (l.getD i d)) (fun i => h (l.getD i d)) = (l.filter g).map h := by
  unfold given
  have e : (List.range l.length).map (fun i => l.getD i d) = l := by
    apply List.ext_getElem
    · simp
    · intro i h1 h2
      simp [List.getD_eq_getElem?_getD, List.getElem?_eq_getElem h2]
  conv => rhs; rw [← e, List.filter_map, List.map_map]
  rfl
theorem lay_ints : ∀ ns : List Int, PyData.canLayAll0 (ns.map PyData.int) = true ∧ PyData.depthAll (ns.map PyData.int) = 0
  | [] => ⟨rfl, rfl⟩
  | n :: ns => by
    have h := lay_ints ns
    refine ⟨?_, ?_⟩
    · show (true && PyData.canLayAll0 (ns.map PyData.int)) = true
      rw [h.1]
      rfl
    · show max 0 (PyData.depthAll (ns.map PyData.int)) = 0
      rw [h.2]
      rfl
theorem shaped_ints (ns : List Int) : SeqAt.shaped (.list (ns.map PyData.int)) = true := by
  have h := lay_ints ns
  show (PyData.canLayAll0 (ns.map PyData.int) && decide (PyData.depthAll (ns.map PyData.int) + 1 ≤ 64)) = true
  rw [h.1, h.2]
  rfl
def DrawsT (ok : List V → Hp → Addr → (List V → Prop) → Prop) : Sp := fun vs H Q _ => ∃ p R, ok vs H p R ∧ Dice p H ∧ ∀ a xs H', R xs → a ≠ p → Exd p H H' → Dice p H' → H' a = some (.tup xs) → Q (.ref a) H'
theorem du_callT {ok : List V → Hp → Addr → (List V → Prop) → Prop} {E : XK} {ts : TA} {p : Addr} {R : List V → Prop} {vs : List V} (h : ∀ H1, Exd p H H1 → Dice p H1 → EvA ts σ H1 vs) (ho : ∀ H1, Exd p H H1 → Dice p H1 → ok vs H1 p R) : DvU K p (tCall (DrawsT ok) [] E ts) σ H R := fun H1 e d Q q =>
  h H1 e d H1 (Ex.refl H1) _ fun H2 e2 => by
    show DrawsT ok (vs ++ []) H2 Q E
    rw [List.append_nil]
    exact ⟨p, R, ho H2 (e.trans (Exd.of e2)) (d.ex e2), d.ex e2, fun a xs H3 hx ha e3 d3 h3 => q a xs H3 hx ha ((Exd.of e2).trans e3) d3 (st_of h3)⟩
theorem s_retT {p : Addr} {ts : TA} {R : List V → Prop} (h : DvA p ts σ H R) (hd : Dice p H) (hl : ∀ xs, R xs → xs.length ≤ 100000) (k : ∀ a xs H1, R xs → a ≠ p → Exd p H H1 → Dice p H1 → H1 a = some (.tup xs) → D.rt (.ref a) H1) : tRet (tTup ts) D σ H :=
  h H (Exd.refl p H) hd _ fun xs H1 hx e1 d1 => ⟨sz_of (hl xs hx), fun a ha => k a xs _ hx (d1.ne ha) (e1.trans (Exd.of (Ex.new ha))) (d1.ex (Ex.new ha)) upd_same⟩
theorem da_nil0 {p : Addr} : DvA p tNil σ H (fun vs => vs = []) := fun H1 e d Q q => q [] H1 rfl (Exd.refl p H1) d
theorem da_cons2 {p : Addr} {R1 : V → Prop} {R2' : List V → Prop} (h : Dv p te σ H R1) (hr : DvA p tr σ H R2') : DvA p (tCons te tr) σ H (fun vs => ∃ v ws, vs = v :: ws ∧ R1 v ∧ R2' ws) := fun H1 e d Q q =>
  h H1 e d _ fun v H2 r e2 d2 => hr H2 (e.trans e2) d2 _ fun ws H3 rs e3 d3 => q (v :: ws) H3 ⟨v, ws, rfl, r, rs⟩ (e2.trans e3) d3
theorem q_asgLc {p : Addr} {n i j : Nat} {vs : List Nat} {R : V → Prop} {tz : TS} (hw : ∀ x, wipe ((wipe σ vs).set j (some x)) vs = wipe σ vs) (hn : n ≤ 1000) (he : ∀ k : Nat, k < n → Dv p te ((wipe σ vs).set j (some (.int (0 + (k : Int))))) H R) (hd : Dice p H)
    (k : ∀ l xs H2, (xs.length = n ∧ ∀ v ∈ xs, R v) → l ≠ p → Exd p H H2 → Dice p H2 → H2 l = some (.lst xs) → tz D (σ.set i (some (.ref l))) H2) : tSeq (tAsg (tLc (iRng1 (tCons (tC (.int n)) tNil)) (gName j) tYes te vs) (gName i)) tz D σ H := dl_lcR (Q := fun v H2 => tz D (σ.set i (some v)) H2) hw hn he hd k
def reprV : V → Str
  | .int i => toString i
  | .bl b => if b then "True" else "False"
  | _ => "None"
def reprOk : V → Prop
  | .int i => i.natAbs.log2 < 1920
  | .bl _ => True
  | .non => True
  | _ => False
def rReprA : List V → Hp → VK → Prop := fun xs H Q => ∃ x, xs = [x] ∧ reprOk x ∧ Q (.str (reprV x)) H
theorem c_reprA {X : Cx} : CallR X (.builtin "repr") rReprA := by
  intro pins s σ H xs us Q I r h
  obtain ⟨x, rfl, hz, q⟩ := h
  match x, hz with
  | .int i, hz => 
    obtain ⟨u, rfl, t, rfl⟩ := vals1 r
    exact PySem.P.repr_of_int hz ⟨.str _, H, I.tok _, ⟨_, rfl⟩, q⟩
  | .bl b, _ =>
    obtain ⟨u, rfl, rfl⟩ := vals1 r
    exact PySem.P.repr_of_bool ⟨.str _, H, I.tok _, ⟨_, rfl⟩, q⟩
  | .non, _ =>
    obtain ⟨u, rfl, rfl⟩ := vals1 r
    exact PySem.P.repr_of_none ⟨.str _, H, I.tok _, ⟨_, rfl⟩, q⟩
theorem rc_reprA (h : reprOk x) : RC rReprA [x] H (.str (reprV x)) := fun H1 _ _ q => ⟨x, rfl, h, q H1 (Ex.refl H1)⟩
theorem el_cat {xs ys : List V} (h1 : EvL ta σ H xs) (h2 : EvL tb σ H ys) (hz : xs.length + ys.length ≤ 100000) : EvL (tOp rCat ta tb) σ H (xs ++ ys) := fun H1 e Q q =>
  h1 H1 e _ fun p H2 hp e2 hx => h2 H2 (e.trans e2) _ fun r H3 hr e3 hy => ⟨p, r, xs, ys, rfl, rfl, e3 _ _ hx, hy, sz_of hz, fun l hl =>
    q l _ (fresh_back (e2.trans e3) hl) ((e2.trans e3).trans (Ex.new hl)) upd_same⟩
theorem q_asg2UU {tz : TS} {i j : Nat} {xs ys : List V} (h1 : EvU ta σ H xs) (h2 : EvU tb σ H ys) (k : ∀ p r H1, H p = none → H r = none → Ex H H1 → H1 p = some (.tup xs) → H1 r = some (.tup ys) → tz D ((σ.set i (some (.ref p))).set j (some (.ref r))) H1) :
    tSeq (tAsg (tTup (tCons ta (tCons tb tNil))) (gTup K 2 (gCons (gName i) (gCons (gName j) gNil)))) tz D σ H :=
  h1 H (Ex.refl H) _ fun p H1 hp e1 hx => h2 H1 e1 _ fun r H2 hr e2 hy => ⟨by show 2 ≤ sizeLine; decide, fun t ht => ⟨t, [.ref p, .ref r], rfl, st_of upd_same, rfl, .ref p, [.ref r], rfl, .ref r, [], rfl, rfl,
    k p r _ hp (fresh_back e1 hr) ((e1.trans e2).trans (Ex.new ht)) (Ex.new ht _ _ (e2 _ _ hx)) (Ex.new ht _ _ hy)⟩⟩
theorem q_parUU {tz : TS} {i j : Nat} {xs ys : List V} (h1 : EvU ta σ H xs) (h2 : EvU tb σ H ys) (k : ∀ p r H1, H p = none → H r = none → Ex H H1 → H1 p = some (.tup xs) → H1 r = some (.tup ys) → tz D ((σ.set i (some (.ref p))).set j (some (.ref r))) H1) : tSeq (tPar i j (tCons ta (tCons tb tNil))) tz D σ H :=
  h1 H (Ex.refl H) _ fun p H1 hp e1 hx => h2 H1 e1 _ fun r H2 hr e2 hy => ⟨.ref p, .ref r, rfl, k p r H2 hp (fresh_back e1 hr) (e1.trans e2) (e2 _ _ hx) hy⟩
theorem bool_iff {a b : Bool} (h : a = true ↔ b = true) : a = b := by
  cases a <;> cases b <;> simp_all
theorem s_forDv {p : Addr} {R : List V → Prop} (h : DvA p ts σ H R) (hd : Dice p H) (hz : ∀ xs, R xs → xs.length ≤ 100000) (Pv : Addr → List V → Nat → L2.St → Hp → Prop) (h0 : ∀ t xs H1, R xs → t ≠ p → Exd p H H1 → Dice p H1 → H1 t = some (.tup xs) → Pv t xs 0 σ H1)
    (hl : ∀ t xs i σ' H', i ≤ xs.length → Pv t xs i σ' H' → SqT K H' t xs) (hs : ∀ t xs i x σ' H', R xs → xs[i]? = some x → Pv t xs i σ' H' → g x σ' H' fun σ2 H2 => tu { D with nx := Pv t xs (i + 1), ct := Pv t xs (i + 1), bk := D.nx } σ2 H2) (hd2 : ∀ t xs σ' H', Pv t xs xs.length σ' H' → D.nx σ' H') : tFor (iTup K (tTup ts)) g tu D σ H :=
  h H (Exd.refl p H) hd _ fun xs H1 hx e1 d1 => ⟨sz_of (hz xs hx), fun t ht => ⟨t, rfl, ⟨xs, st_of upd_same⟩, for_tup (Pv t xs) (h0 t xs _ hx (d1.ne ht) (e1.trans (Exd.of (Ex.new ht))) (d1.ex (Ex.new ht)) upd_same) (hl t xs) (fun i x σ' H' hi p' => hs t xs i x σ' H' hx hi p') (hd2 t xs)⟩⟩
theorem q_same {x : V} : (!decide (x = x)) = false := by simp
theorem shaped_tup (ns : List Int) : SeqAt.shaped (.tuple (ns.map PyData.int)) = true := by
  have h := lay_ints ns
  show (PyData.canLayAll0 (ns.map PyData.int) && decide (PyData.depthAll (ns.map PyData.int) + 1 ≤ 64)) = true
  rw [h.1, h.2]
  rfl
theorem eqv_ints : ∀ ns : List Int, PyData.eqvAll (ns.map PyData.int) (ns.map PyData.int) = true
  | [] => rfl
  | n :: ns => by
    show ((n == n) && PyData.eqvAll (ns.map PyData.int) (ns.map PyData.int)) = true
    rw [eqv_ints ns]
    simp
theorem eqv_tup (ns : List Int) : PyData.eqv (.tuple (ns.map PyData.int)) (.tuple (ns.map PyData.int)) = true := eqv_ints ns
theorem evd_intsU {ns : List Int} (h : EvU te σ H (ns.map V.int)) : EvD K te σ H (.tuple (ns.map PyData.int)) := fun H1 e Q q => h H1 e Q fun p H2 _ e2 h2 => q _ H2 e2 (.tup (st_of h2) (dpa_ints ns))
theorem evd_intsT {a : Addr} {ns : List Int} (h : Ev te σ H (.ref a)) (hT : SqT K H a (ns.map V.int)) : EvD K te σ H (.tuple (ns.map PyData.int)) := fun H1 e Q q => h H1 e Q fun H2 e2 => q _ H2 e2 (.tup (ex_t (e.trans e2) hT) (dpa_ints ns))
def DvN (p : Addr) (te : TE) (σ : L2.St) (H : Hp) (R : List V → Prop) : Prop := ∀ H1, Exd p H H1 → Dice p H1 → ∀ Q : VK, (∀ b xs H2, R xs → b ≠ p → Exd p H1 H2 → Dice p H2 → H2 b = some (.tup xs) → Q (.ref b) H2) → te σ H1 Q
theorem dn_callT {ok : List V → Hp → Addr → (List V → Prop) → Prop} {E : XK} {ts : TA} {p : Addr} {R : List V → Prop} {vs : List V} (h : ∀ H1, Exd p H H1 → Dice p H1 → EvA ts σ H1 vs) (ho : ∀ H1, Exd p H H1 → Dice p H1 → ok vs H1 p R) : DvN p (tCall (DrawsT ok) [] E ts) σ H R := fun H1 e d Q q =>
  h H1 e d H1 (Ex.refl H1) _ fun H2 e2 => by
    show DrawsT ok (vs ++ []) H2 Q E
    rw [List.append_nil]
    exact ⟨p, R, ho H2 (e.trans (Exd.of e2)) (d.ex e2), d.ex e2, fun a xs H3 hx ha e3 d3 h3 => q a xs H3 hx ha ((Exd.of e2).trans e3) d3 h3⟩
def EvAP (ta : TA) (σ : L2.St) (H : Hp) (P : List V → Hp → Prop) : Prop := ∀ H1, Ex H H1 → ∀ Q : List V → Hp → Prop, (∀ vs H2, Ex H1 H2 → P vs H2 → Q vs H2) → ta σ H1 Q
theorem ap_nil : EvAP tNil σ H (fun vs _ => vs = []) := fun H1 _ _ q => q [] H1 (Ex.refl H1) rfl
theorem ap_cons {P : List V → Hp → Prop} (h : Ev te σ H x) (hr : EvAP tr σ H P) : EvAP (tCons te tr) σ H (fun vs H' => ∃ ws, vs = x :: ws ∧ P ws H') := fun H1 e Q q =>
  h H1 e _ fun H2 e2 => hr H2 (e.trans e2) _ fun ws H3 e3 p => q (x :: ws) H3 (e2.trans e3) ⟨ws, rfl, p⟩
theorem ap_consU {P : List V → Hp → Prop} {xs : List V} (h : EvU te σ H xs) (hr : EvAP tr σ H P) : EvAP (tCons te tr) σ H (fun vs H' => ∃ p ws, vs = .ref p :: ws ∧ H' p = some (.tup xs) ∧ P ws H') := fun H1 e Q q =>
  h H1 e _ fun p H2 hp e2 h2 => hr H2 (e.trans e2) _ fun ws H3 e3 pw => q (.ref p :: ws) H3 (e2.trans e3) ⟨p, ws, rfl, e3 _ _ h2, pw⟩
theorem ev_callAP {ok : List V → Hp → V → Prop} {E : XK} {P : List V → Hp → Prop} (h : EvAP ts σ H P) (ho : ∀ vs H1, Ex H H1 → P vs H1 → ok vs H1 z) : Ev (tCall (Pure ok) [] E ts) σ H z := fun H1 e Q q =>
  h H1 e _ fun vs H2 e2 p => by
    show Pure ok (vs ++ []) H2 Q E
    rw [List.append_nil]
    exact ⟨z, ho vs H2 (e.trans e2) p, fun H3 e3 => q H3 (e2.trans e3)⟩
theorem eu_callAP {ok : List V → Hp → List V → Prop} {E : XK} {P : List V → Hp → Prop} {xs : List V} (h : EvAP ts σ H P) (ho : ∀ vs H1, Ex H H1 → P vs H1 → ok vs H1 xs) : EvU (tCall (Tupd ok) [] E ts) σ H xs := fun H1 e Q q =>
  h H1 e _ fun vs H2 e2 pw => by
    show Tupd ok (vs ++ []) H2 Q E
    rw [List.append_nil]
    exact ⟨xs, ho vs H2 (e.trans e2) pw, fun p H3 hp e3 h3 => q p H3 (fresh_back e2 hp) (e2.trans e3) h3⟩
theorem EvAP.mono {P P' : List V → Hp → Prop} (h : EvAP ts σ H P) (k : ∀ vs H1, P vs H1 → P' vs H1) : EvAP ts σ H P' := fun H1 e Q q => h H1 e Q fun vs H2 e2 p => q vs H2 e2 (k vs H2 p)
theorem q_asgD {i : Nat} {d : PyData} (h : EvD K te σ H d) (k : ∀ v H1, Ex H H1 → Dp K H1 v d → tz D (σ.set i (some v)) H1) : tSeq (tAsg te (gName i)) tz D σ H := h H (Ex.refl H) _ fun v H1 e p => k v H1 e p
theorem evd_var {i : Nat} {d : PyData} {v : V} (h : σ[i]? = some (some v)) (p : Dp K H v d) : EvD K (tVar i) σ H d := evd_of (ev_var h) fun H1 e => dp_ex e p
theorem q_asg3U {i j l : Nat} {xs ys zs : List V} (h1 : EvU ta σ H xs) (h2 : EvU tb σ H ys) (h3 : EvU tc σ H zs) (k : ∀ p r s H1, Ex H H1 → H1 p = some (.tup xs) → H1 r = some (.tup ys) → H1 s = some (.tup zs) → tz D (((σ.set i (some (.ref p))).set j (some (.ref r))).set l (some (.ref s))) H1) :
    tSeq (tAsg (tTup (tCons ta (tCons tb (tCons tc tNil)))) (gTup K 3 (gCons (gName i) (gCons (gName j) (gCons (gName l) gNil))))) tz D σ H :=
  h1 H (Ex.refl H) _ fun p H1 hp e1 hx => h2 H1 e1 _ fun r H2 hr e2 hy => h3 H2 (e1.trans e2) _ fun s H3 hs e3 hz => ⟨by show 3 ≤ sizeLine; decide, fun t ht => ⟨t, [.ref p, .ref r, .ref s], rfl, st_of upd_same, rfl, .ref p, [.ref r, .ref s], rfl, .ref r, [.ref s], rfl, .ref s, [], rfl, rfl,
    k p r s _ (((e1.trans e2).trans e3).trans (Ex.new ht)) (Ex.new ht _ _ (e3 _ _ (e2 _ _ hx))) (Ex.new ht _ _ (e3 _ _ hy)) (Ex.new ht _ _ hz)⟩⟩
theorem el_lcNT {xs : List V} {tl : TE} {j : Nat} {vs : List Nat} (f : Nat → Bool) (v : Nat → V) (h : EvU tl σ H xs) (hz : xs.length ≤ 40000) (hw : ∀ x, wipe ((wipe σ vs).set j (some x)) vs = wipe σ vs)
    (ht : ∀ (i : Nat) (x : V) H1, Ex H H1 → xs[i]? = some x → EvT t ((wipe σ vs).set j (some x)) H1 (f i)) (he : ∀ (i : Nat) (x : V) H1, Ex H H1 → xs[i]? = some x → f i = true → Ev te ((wipe σ vs).set j (some x)) H1 (v i)) :
    EvL (tLc (iTup K tl) (gName j) t te vs) σ H (given xs.length f v) := fun H0 e Q q => h H0 e _ fun a H1 ha e1 hx => ⟨a, rfl, ⟨xs, st_of hx⟩, fun Dl hD =>
  lc_tup (xs := xs) (Cw H1 f v Dl) ⟨hD, Ex.new hD, upd_same⟩ (fun i H' _ p => st_of (p.2.1 a _ hx)) (fun i x H' hi p => ⟨hw x, cw_turn p (by have := (List.getElem?_eq_some_iff.mp hi).1; omega) (ht i x H1 (e.trans e1) hi) (fun hf => he i x H1 (e.trans e1) hi hf)⟩)
    (fun H' p => q Dl H' (fresh_back e1 p.1) (e1.trans p.2.1) p.2.2)⟩
theorem dpa_bls {H : Hp} : ∀ bs : List Bool, DpAll K H (bs.map V.bl) (bs.map PyData.bool)
  | [] => .nil
  | b :: bs => .cons (.bl b) (dpa_bls bs)
theorem evd_bls {bs : List Bool} (h : EvL te σ H (bs.map V.bl)) : EvD K te σ H (.list (bs.map PyData.bool)) := fun H1 e Q q => h H1 e Q fun p H2 _ e2 h2 => q _ H2 e2 (.lst (sq_of h2) (dpa_bls bs))
theorem et_notN (h : Ev te σ H x) : EvT (tB (tNotN te)) σ H (!decide (x = .non)) := fun H1 e _ q => h H1 e _ fun H2 e2 => ⟨_, rfl, q H2 e2⟩
theorem ap_consL {P : List V → Hp → Prop} {xs : List V} (h : EvL te σ H xs) (hr : EvAP tr σ H P) : EvAP (tCons te tr) σ H (fun vs H' => ∃ p ws, vs = .ref p :: ws ∧ H' p = some (.lst xs) ∧ P ws H') := fun H1 e Q q =>
  h H1 e _ fun p H2 hp e2 h2 => hr H2 (e.trans e2) _ fun ws H3 e3 pw => q (.ref p :: ws) H3 (e2.trans e3) ⟨p, ws, rfl, e3 _ _ h2, pw⟩
theorem cut1 (xs : List V) : cutV xs (some 1) none = xs.drop 1 := by
  unfold cutV HT.sIx
  cases xs with
  | nil => rfl
  | cons x xs => simp
/-- [e for x, y in zip(list, list) if t] -/
theorem el_lcZip {xs ys : List V} {ta : TA} {j l : Nat} {vs : List Nat} (f : Nat → Bool) (v : Nat → V) (h : EvAP ta σ H (fun vs H1 => ∃ a b, vs = [.ref a, .ref b] ∧ SqL K H1 a xs ∧ SqL K H1 b ys)) (hz : xs.length ≤ 40000)
    (hw : ∀ x y, wipe (((wipe σ vs).set j (some x)).set l (some y)) vs = wipe σ vs)
    (ht : ∀ (i : Nat) (x y : V) H1, Ex H H1 → xs[i]? = some x → ys[i]? = some y → EvT t (((wipe σ vs).set j (some x)).set l (some y)) H1 (f i)) (he : ∀ (i : Nat) (x y : V) H1, Ex H H1 → xs[i]? = some x → ys[i]? = some y → f i = true → Ev te (((wipe σ vs).set j (some x)).set l (some y)) H1 (v i)) :
    EvL (tLc (iZip K ta) (gTup K 2 (gCons (gName j) (gCons (gName l) gNil))) t te vs) σ H (given (min xs.length ys.length) f v) := fun H0 e Q q => h H0 e _ fun us H1 e1 ⟨a, b, hv, hx, hy⟩ => ⟨a, b, xs, ys, hv, hx, hy, fun Dl hD =>
  lc_it (walk_zip rfl) (Cw H1 f v Dl) ⟨hD, Ex.new hD, upd_same⟩ (fun i H' _ p => ⟨ex_l p.2.1 hx, ex_l p.2.1 hy⟩) (fun i x H' H'' hi p y => by
    obtain ⟨T, y1, y2, rfl, hT, rfl, h3, h4⟩ := y
    have eT : Ex H' (upd H' T (.tup [y1, y2])) := Ex.new hT
    refine ⟨T, [y1, y2], rfl, st_of upd_same, rfl, y1, [y2], rfl, y2, [], rfl, rfl, hw _ _, ?_⟩
    have p' : Cw H1 f v Dl i (upd H' T (.tup [y1, y2])) := ⟨p.1, p.2.1.trans eT, eT _ _ p.2.2⟩
    exact cw_turn p' (by omega) (ht i y1 y2 H1 (e.trans e1) h3 h4) (fun hf => he i y1 y2 H1 (e.trans e1) h3 h4 hf))
    (fun H' p => q Dl H' (fresh_back e1 p.1) (e1.trans p.2.1) p.2.2)⟩
theorem ev_strM {z : Str} {g : Str → Bool} (h : Ev to σ H (.str z)) : Ev (tM0 (fun x xs H Q => ∃ a, x = .str a ∧ xs = [] ∧ True ∧ Q (.bl (g a)) H) to) σ H (.bl (g z)) := fun H1 e Q q => h H1 e _ fun H2 e2 => ⟨⟨z, rfl⟩, z, rfl, rfl, trivial, q H2 e2⟩
theorem rc_lenS {z : Str} (h : z.length ≤ 100000) : RC (fun xs H Q => ∃ z, xs = [V.str z] ∧ z.length ≤ sizeLine ∧ Q (.int z.length) H) [.str z] H (.int z.length) := fun H1 _ _ q => ⟨z, rfl, sz_of h, q H1 (Ex.refl H1)⟩
theorem et_yes : EvT tYes σ H true := fun H4 e4 Q' q' => q' H4 (Ex.refl H4)
end
end Wo
set_option Elab.async false
set_option linter.all false
set_option maxRecDepth 100000
set_option maxHeartbeats 4000000
namespace Wo
open PySem PySem.Spec PyProof.Rows L2 Evl Vr En
theorem op_eqDK {X : Cx} {K : PySem.W.Frag} {A0 : Around} (hu : A0.units + 64 < cLine) (hA : X.A = A0) (hK : X.K = K) : OpR X (compareOp .Eq) (rEqD K) := by subst hA hK; exact op_eqD hu
theorem op_neDK {X : Cx} {K : PySem.W.Frag} {A0 : Around} (hu : A0.units + 64 < cLine) (hA : X.A = A0) (hK : X.K = K) : OpR X (compareOp .NotEq) (rNeD K) := by subst hA hK; exact op_neD hu
section
variable {σ : L2.St} {H H' : Hp} {te ta tb tc tn to tl tk tv td ty tx : TE} {t : TT} {tr ts : TA} {tz tu : TS} {D : Ends} {K : PySem.W.Frag} {w : World} {x y z v : V} {g : TG} {a C dx p : Addr} {fs : List (Str × V)} {f : Str}
/-- o.f = value, the object as it was ahead but for this -/
theorem s_fld (hv : Ev tv σ H y) (ha : Ev ta σ H (.ref a)) (ho : H a = some (.ins C dx fs)) (c : Cls K C) (n : NoAttr K C f) (hl : fs.length < 1000) (k : ∀ H1, Ex H H1 → D.nx σ (upd H1 a (.ins C dx (putF f y fs)))) : sFld K ta tv f D σ H :=
  hv H (Ex.refl H) _ fun H1 e1 => ha H1 e1 _ fun H2 e2 => ⟨a, C, dx, fs, rfl, (e1.trans e2) _ _ ho, c, n, hl, k H2 (e1.trans e2)⟩
theorem q_fld (hv : Ev tv σ H y) (ha : Ev ta σ H (.ref a)) (ho : H a = some (.ins C dx fs)) (c : Cls K C) (n : NoAttr K C f) (hl : fs.length < 1000) (k : ∀ H1, Ex H H1 → tz D σ (upd H1 a (.ins C dx (putF f y fs)))) : tSeq (sFld K ta tv f) tz D σ H :=
  s_fld (D := { D with nx := tz D }) hv ha ho c n hl k
theorem q_fldU {xs : List V} (hv : EvU tv σ H xs) (ha : ∀ H1, Ev ta σ H1 (.ref a)) (ho : H a = some (.ins C dx fs)) (c : Cls K C) (n : NoAttr K C f) (hl : fs.length < 1000) (k : ∀ r H1, H r = none → Ex H H1 → H1 r = some (.tup xs) → tz D σ (upd H1 a (.ins C dx (putF f (.ref r) fs)))) : tSeq (sFld K ta tv f) tz D σ H :=
  hv H (Ex.refl H) _ fun r H1 hr e1 h1 => ha H1 H1 (Ex.refl H1) _ fun H2 e2 => ⟨a, C, dx, fs, rfl, (e1.trans e2) _ _ ho, c, n, hl, k r H2 hr (e1.trans e2) (e2 _ _ h1)⟩
theorem s_fldK {kvs : List (Key × V)} (hv : EvK tv σ H kvs) (ha : ∀ H1, Ev ta σ H1 (.ref a)) (ho : H a = some (.ins C dx fs)) (c : Cls K C) (n : NoAttr K C f) (hl : fs.length < 1000) (k : ∀ r H1, H r = none → Ex H H1 → H1 r = some (.dK kvs) → D.nx σ (upd H1 a (.ins C dx (putF f (.ref r) fs)))) : sFld K ta tv f D σ H :=
  hv H (Ex.refl H) _ fun r H1 hr e1 h1 => ha H1 H1 (Ex.refl H1) _ fun H2 e2 => ⟨a, C, dx, fs, rfl, (e1.trans e2) _ _ ho, c, n, hl, k r H2 hr (e1.trans e2) (e2 _ _ h1)⟩
/-- what stands at p is an instance: a tuple told of is another -/
theorem _root_.Vr.Exd.ti {b : Addr} {xs : List V} (e : Exd p H H') (hp : H p = some (.ins C dx fs)) (h : SqT K H b xs) : SqT K H' b xs := by
  rcases h with (h | ⟨o, h⟩) | h
  · exact .inl (.inl (e _ _ (fun z => by rw [z, hp] at h; cases h) h))
  · exact .inl (.inr ⟨o, e _ _ (fun z => by rw [z, hp] at h; cases h) h⟩)
  · exact .inr h
theorem eu_tupL {xs : List V} (h : EvL te σ H xs) : EvU (tCB (rTupL K) (tCons te tNil)) σ H xs := fun H1 e Q q => h H1 e _ fun p H2 hp e2 h2 => ⟨p, xs, rfl, sq_of h2, fun l hl => q l _ (fresh_back e2 hl) (e2.trans (Ex.new hl)) upd_same⟩
/-- {k: v for x in tuple}: the keys all new -/
theorem ek_dcT {xs : List V} {j : Nat} {vs : List Nat} (kvs : Nat → List (Key × V)) (h0 : kvs 0 = []) (h : Ev tl σ H (.ref a)) (hx : SqT K H a xs) (hz : ∀ i, i ≤ xs.length → (kvs i).length ≤ 1000) (hw : ∀ x, wipe ((wipe σ vs).set j (some x)) vs = wipe σ vs)
    (hs : ∀ (i : Nat) (x : V) H1, Ex H H1 → xs[i]? = some x → ∃ k v, Ev tk ((wipe σ vs).set j (some x)) H1 (kV k) ∧ (∀ H2, Ex H1 H2 → Ev tv ((wipe σ vs).set j (some x)) H2 v) ∧ putK (kvs i) k v = kvs (i + 1)) :
    EvK (tDc (iTup K tl) (gName j) tYes tk tv vs) σ H (kvs xs.length) := fun H0 e Q q => h H0 e _ fun H1 e1 => ⟨a, rfl, ⟨xs, ex_t (e.trans e1) hx⟩, fun Dl hD => by
  refine dc_tup (xs := xs) (fun i H' => H1 Dl = none ∧ Ex H1 H' ∧ H' Dl = some (.dK (kvs i))) ⟨hD, Ex.new hD, by rw [h0]; exact upd_same⟩ (fun i H' _ p => ex_t ((e.trans e1).trans p.2.1) hx) (fun i x H' hi p => ⟨hw x, ?_⟩) (fun H' p => q Dl H' (fresh_back e1 p.1) (e1.trans p.2.1) p.2.2)
  obtain ⟨p1, p2, p3⟩ := p
  have hil : i ≤ xs.length := by have := (List.getElem?_eq_some_iff.mp hi).1; omega
  obtain ⟨k, v, hk, hv, hp⟩ := hs i x H' ((e.trans e1).trans p2) hi
  unfold tYes
  dsimp only
  rw [if_pos rfl]
  refine hk H' (Ex.refl H') _ fun H2 e2 => hv H2 e2 H2 (Ex.refl H2) _ fun H3 e3 => ⟨kvs i, k, rfl, (e2.trans e3) _ _ p3, sz_lt (by have := hz i hil; omega), p1, Ex.mut ((p2.trans e2).trans e3) p1, ?_⟩
  rw [hp]
  exact upd_same⟩
theorem ev_dget {d : Addr} {kvs : List (Key × V)} {k : Key} (h1 : Ev td σ H (.ref d)) (h2 : Ev ty σ H (kV k)) (hd : H d = some (.dK kvs)) (hv : valV kvs k = some v) : Ev (tDGet td ty) σ H v := fun H1 e Q q =>
  h1 H1 e _ fun H2 e2 => h2 H2 (e.trans e2) _ fun H3 e3 => ⟨d, v, rfl, by rw [← hv]; exact DGet.k (((e.trans e2).trans e3) _ _ hd), q H3 (e2.trans e3)⟩
theorem ev_din {d : Addr} {kvs : List (Key × V)} {k : Key} (h1 : Ev ty σ H (kV k)) (h2 : Ev td σ H (.ref d)) (hd : H d = some (.dK kvs)) : Ev (tDIn ty td) σ H (.bl (valV kvs k).isSome) := fun H1 e Q q =>
  h1 H1 e _ fun H2 e2 => h2 H2 (e.trans e2) _ fun H3 e3 => ⟨d, _, rfl, DGet.k (((e.trans e2).trans e3) _ _ hd), q H3 (e2.trans e3)⟩
/-- a method that answers None, called for what it does: the object at p is made anew -/
theorem s_dropM {m : Str} {sp : Sp} {E : XK} {vs : List V} (h : Ev to σ H (.ref a)) (ho : H a = some (.ins C dx fs)) (hl : fs.lookup m = none) (ha : ∀ H1, Ex H H1 → EvA ts σ H1 vs) (k : ∀ H1, Ex H H1 → sp (.ref a :: vs) H1 (fun _ H2 => D.nx σ H2) E) : tDrop (tMeth C m sp [] E to ts) D σ H :=
  h H (Ex.refl H) _ fun H2 e2 => ⟨a, dx, fs, rfl, e2 _ _ ho, hl, ha H2 e2 H2 (Ex.refl H2) _ fun H3 e3 => by
    rw [List.append_nil]
    exact k H3 (e2.trans e3)⟩
theorem q_dropM {m : Str} {sp : Sp} {E : XK} {vs : List V} (h : Ev to σ H (.ref a)) (ho : H a = some (.ins C dx fs)) (hl : fs.lookup m = none) (ha : ∀ H1, Ex H H1 → EvA ts σ H1 vs) (k : ∀ H1, Ex H H1 → sp (.ref a :: vs) H1 (fun _ H2 => tz D σ H2) E) : tSeq (tDrop (tMeth C m sp [] E to ts)) tz D σ H :=
  s_dropM (D := { D with nx := tz D }) h ho hl ha k
end
end Wo
set_option Elab.async false
set_option linter.all false
set_option maxRecDepth 100000
set_option maxHeartbeats 4000000
namespace Wo
open PySem PySem.Spec PyProof.Rows L2 Evl Vr En
theorem c_listS {X : Cx} : CallR X (.type "list") (rListS X.K) := call_list_of
section
variable {σ : L2.St} {H H' : Hp} {te ta tb tc tn to tl tk tv td ty tx : TE} {t : TT} {tr ts : TA} {tz tu : TS} {D : Ends} {K : PySem.W.Frag} {w : World} {x y z v : V} {g : TG} {a C dx p : Addr} {fs : List (Str × V)} {f : Str}
theorem _root_.Vr.Exd.tlst {b : Addr} {xs ys : List V} (e : Exd p H H') (hp : H p = some (.lst ys)) (h : SqT K H b xs) : SqT K H' b xs := by
  rcases h with (h | ⟨o, h⟩) | h
  · exact .inl (.inl (e _ _ (fun z => by rw [z, hp] at h; cases h) h))
  · exact .inl (.inr ⟨o, e _ _ (fun z => by rw [z, hp] at h; cases h) h⟩)
  · exact .inr h
theorem el_listT {xs : List V} (ha : Ev ta σ H (.ref p)) (h : SqT K H p xs) : EvL (tCB (rListS K) (tCons ta tNil)) σ H xs := fun H1 e Q q =>
  ha H1 e _ fun H2 e2 => ⟨p, xs, rfl, .inr (ex_t (e.trans e2) h), fun l hl => q l _ (fresh_back e2 hl) (e2.trans (Ex.new hl)) upd_same⟩
/-- [new object for .. in tuple] -/
theorem lcT_new {xs : List V} {vs : List Nat} {Q : VK} (Pr : Nat → Addr → Hp → Prop) (hP : ∀ i r H H' Dl acc, H Dl = some (.lst acc) → Exd Dl H H' → Pr i r H → Pr i r H') (h : Ev tl σ H (.ref a)) (hx : SqT K H a xs) (hz : xs.length ≤ 40000)
    (hs : ∀ (i : Nat) (x : V) (H1 : Hp) (R : VK), Ex H H1 → xs[i]? = some x → (∀ r H2, Ex H1 H2 → Pr i r H2 → R (.ref r) H2) → g x (wipe σ vs) H1 fun σ2 H2 => wipe σ2 vs = wipe σ vs ∧ te σ2 H2 R)
    (k : ∀ l (rs : List Addr) H', H l = none → Ex H H' → H' l = some (.lst (rs.map V.ref)) → rs.length = xs.length → (∀ (i : Nat) r, rs[i]? = some r → Pr i r H') → Q (.ref l) H') : tLc (iTup K tl) g tYes te vs σ H Q := h H (Ex.refl H) _ fun H1 e1 => ⟨a, rfl, ⟨xs, ex_t e1 hx⟩, fun Dl hD => by
  refine lc_tup (xs := xs) (fun i H' => Ex H1 H' ∧ ∃ rs : List Addr, H' Dl = some (.lst (rs.map V.ref)) ∧ rs.length = i ∧ ∀ (j : Nat) r, rs[j]? = some r → Pr j r H') ⟨Ex.new hD, [], upd_same, rfl, fun j r h => by cases h⟩ (fun i H' _ p => ex_t (e1.trans p.1) hx) (fun i x H' hi p => ?_) (fun H' ⟨p1, rs, p2, p3, p4⟩ => k Dl rs H' (fresh_back e1 hD) (e1.trans p1) p2 p3 p4)
  obtain ⟨p1, rs, p2, p3, p4⟩ := p
  have hil : i < xs.length := (List.getElem?_eq_some_iff.mp hi).1
  refine hs i x H' _ (e1.trans p1) hi fun r H4 e4 hr => ?_
  have hD4 := e4 _ _ p2
  have xd : Exd Dl H4 (upd H4 Dl (.lst (rs.map V.ref ++ [.ref r]))) := Exd.upd
  refine ⟨rs.map V.ref, hD4, sz_lt (by rw [List.length_map]; omega), Ex.mut (p1.trans e4) hD, rs ++ [r], ?_, by rw [List.length_append, p3]; rfl, fun j r' hj => ?_⟩
  · rw [upd_same, List.map_append]
    rfl
  · refine hP j r' H4 _ Dl _ hD4 xd ?_
    by_cases hjl : j < i
    · rw [List.getElem?_append_left (by omega)] at hj
      exact hP j r' H' H4 Dl _ p2 (Exd.of e4) (p4 j r' hj)
    · have hj2 : j = i := by
        have := (List.getElem?_eq_some_iff.mp hj).1
        rw [List.length_append, p3, List.length_singleton] at this
        omega
      subst hj2
      rw [List.getElem?_append_right (by omega), p3, Nat.sub_self] at hj
      cases hj
      exact hr⟩
theorem ap_starT {P : List V → Hp → Prop} {xs : List V} (h : Ev te σ H (.ref p)) (hx : SqT K H p xs) (hr : EvAP tr σ H P) : EvAP (StX.tStar K te tr) σ H (fun vs H' => ∃ ws, vs = xs ++ ws ∧ P ws H') := fun H1 e Q q =>
  h H1 e _ fun H2 e2 => ⟨p, xs, rfl, .inl (ex_t (e.trans e2) hx), hr H2 (e.trans e2) _ fun ws H3 e3 pw => q (xs ++ ws) H3 (e2.trans e3) ⟨ws, rfl, pw⟩⟩
theorem q_asgTP {i : Nat} {P : List V → Hp → Prop} (h : EvAP ts σ H P) (hl : ∀ vs H1, P vs H1 → vs.length ≤ 100000) (k : ∀ r vs H2, Ex H H2 → P vs H2 → H2 r = none → tz D (σ.set i (some (.ref r))) (upd H2 r (.tup vs))) : tSeq (tAsg (tTup ts) (gName i)) tz D σ H :=
  h H (Ex.refl H) _ fun vs H2 e2 pv => ⟨sz_of (hl vs H2 pv), fun r hr => k r vs H2 e2 pv hr⟩
theorem s_retTP {P : List V → Hp → Prop} (h : EvAP ts σ H P) (hl : ∀ vs H1, P vs H1 → vs.length ≤ 100000) (k : ∀ r vs H2, Ex H H2 → P vs H2 → H2 r = none → D.rt (.ref r) (upd H2 r (.tup vs))) : tRet (tTup ts) D σ H :=
  h H (Ex.refl H) _ fun vs H2 e2 pv => ⟨sz_of (hl vs H2 pv), fun r hr => k r vs H2 e2 pv hr⟩
theorem eu_tupV {xs : List V} (h : Ev te σ H (.ref p)) (hx : SqL K H p xs) : EvU (tCB (rTupL K) (tCons te tNil)) σ H xs := fun H1 e Q q => h H1 e _ fun H2 e2 => ⟨p, xs, rfl, ex_l (e.trans e2) hx, fun l hl => q l _ (fresh_back e2 hl) (e2.trans (Ex.new hl)) upd_same⟩
/-- {k: new tuple} -/
def EvK1 (te : TE) (σ : L2.St) (H : Hp) (k : Key) (xs : List V) : Prop := ∀ H1, Ex H H1 → ∀ Q : VK, (∀ d r H2, Ex H1 H2 → H2 d = some (.dK [(k, .ref r)]) → H2 r = some (.tup xs) → Q (.ref d) H2) → te σ H1 Q
theorem ek1_disp {k : Key} {xs : List V} (hk : ∀ H1, Ex H H1 → Ev ta σ H1 (kV k)) (hv : ∀ H1, Ex H H1 → EvU tb σ H1 xs) : EvK1 (tDisp [(ta, tb)]) σ H k xs := fun H1 e Q q d hd => by
  have e1 : Ex H1 (upd H1 d (.dK [])) := Ex.new hd
  refine hk _ (e.trans e1) _ (Ex.refl _) _ fun H2 e2 => hv H2 ((e.trans e1).trans e2) H2 (Ex.refl H2) _ fun r H3 hr e3 h3 => ?_
  have hd3 := e3 _ _ (e2 _ _ (upd_same (H := H1) (a := d) (o := .dK [])))
  have hrd : r ≠ d := fun z => by rw [z, hd3] at h3; cases h3
  refine ⟨hd3, [(k, .ref r)], rfl, by show 1 ≤ 15; decide, ?_⟩
  refine q d r _ (Ex.mut ((e1.trans e2).trans e3) hd) upd_same (by rw [upd_ne hrd]; exact h3)
end
end Wo
set_option Elab.async false
set_option linter.all false
set_option maxRecDepth 100000
set_option maxHeartbeats 4000000
namespace Wo
open PySem PySem.Spec PyProof.Rows L2 Evl Vr En PySem.W
theorem ne_bind (v : Value) : bindSpecial (.builtin "object.__ne__") v = pure (.builtin "object.__ne__", [v]) := PySem.F.cmp_object.ne.bind v
section
variable {prog : Program} {w : PySem.World} {A : Around} {E : Value → Shared → Prop} {s : Shared} {K : Frag} {x C L f : Addr} {h₀ : Heap} {m : Str → Option Value} {ox : Obj} {od : Option Obj} {b tb : Value}
/-- a special name that stands for a built-in -/
theorem bound_b {M : Model} {i : String} {nm : Str} {as : List Value} {Q : Option Value → Shared → Prop} (X : K.In s.heap) (J : InstAt s.heap x ox C od) (hf : findIn K (.ref C) nm = some (some (.builtin i))) (hb : ∀ v, bindSpecial (.builtin i) v = pure (.builtin i, [v]))
    (k : wpAny M A (call (.builtin i) (.ref x :: as)) (fun v => Q (some v)) E s) : wpAny M A (callSpecialIfBound? (.ref x) nm as) Q E s := by
  have go : wpAny M A (call (.builtin i) ([.ref x] ++ as) >>= fun v => pure (some v)) Q E s := wpAny_bind (wpAny_mono k (fun _ _ z => wpAny_pure z) fun _ _ z => z)
  simp only [callSpecialIfBound?, bindSpecialIfBound?]
  refine wpAny_holding (wpAny_bind (wpAny_bind (wpAny_bind (J.type.here ((looks_findIn X hf).here ?_)))))
  simp only [hb]
  refine wpAny_bind (wpAny_askSetting (wpAny_ite ?_))
  split
  · exact wpAny_bind (wpAny_pure (wpAny_pure (by exact go)))
  · exact wpAny_tryCatch (wpAny_bind (wpAny_pure (wpAny_pure (by exact go))))
/-- a comparison that the left one answers -/
theorem cmp_left {op : CmpOp} {Q : Value → Shared → Prop} (hu : A.units < cLine) (X : K.In s.heap) (J : InstAt s.heap x ox C od) (hb : Looks (model prog w) s.heap (typeOf b) tb) (hn : notFirst K C tb = true)
    (one : wpAny (model prog w) A (tryCompare (.ref x) (cmpInfo op).2.1 b) (fun r s' => ∃ v, r = some v ∧ Q v s') E s) : wpAny (model prog w) A (richCompare op (.ref x) b) Q E s := by
  unfold richCompare
  simp only [oneThing_ref]
  refine wpAny_holding (wpAny_bind (wpAny_cRoomFor hu (wpAny_bind (J.type.here (wpAny_bind (hb.here ?_))))))
  by_cases e : tb = .ref C
  · subst e
    rw [show (Value.ref C != Value.ref C) = false from by simp]
    refine wpAny_bind (wpAny_pure ?_)
    rw [if_neg Bool.false_ne_true]
    exact wpAny_bind (wpAny_mono one (fun r s' ⟨v, hv, q⟩ => by subst hv; exact wpAny_pure q) fun _ _ z => z)
  · have e1 : (Value.ref C != tb) = true := by simpa using Ne.symm e
    have e2 : subIn K tb (.ref C) = some false := by
      unfold notFirst at hn
      simp only [Bool.or_eq_true, beq_iff_eq] at hn
      exact hn.resolve_left e
    rw [e1, if_pos rfl]
    refine wpAny_bind ((looks_subIn X e2).here ?_)
    rw [if_neg Bool.false_ne_true]
    exact wpAny_bind (wpAny_mono one (fun r s' ⟨v, hv, q⟩ => by subst hv; exact wpAny_pure q) fun _ _ z => z)
/-- != of what has its own == alone -/
theorem ne_left {Q : Value → Shared → Prop} (hu : A.units + 1 < cLine) (X : K.In s.heap) (J : InstAt s.heap x ox C od) (hb : Looks (model prog w) s.heap (typeOf b) tb) (hn : notFirst K C tb = true)
    (hne : findIn K (.ref C) "__ne__" = some (some (.builtin "object.__ne__"))) (hob : subIn K (.ref C) (.type "object") = some true) (hs : findIn K (.ref C) "__eq__" = some (some (.ref f))) (hf : isFn K (.ref f) = true)
    (k : wpAny (model prog w) A.in1 (call (.ref f) [.ref x, b]) (fun v s' => ∃ z, v = .bool z ∧ Q (.bool (!z)) s') E s) : wpAny (model prog w) A (richCompare .NotEq (.ref x) b) Q E s := by
  refine cmp_left (by omega) X J hb hn ?_
  unfold tryCompare
  refine wpAny_bind (bound_b X J hne ne_bind (wpAny_call (codeAny_call_builtin PySem.F.cmp_object.ne.plain PySem.F.cmpEntry_ne (check_slot PySem.F.cmpKind_ne PySem.F.cmpSplit_ne (J.type.andThen (looks_subIn X hob)) (PySem.F.cmpArgs_ne _ _) ?_))))
  unfold Builtin.«object.__ne__»
  refine wpAny_bind (wpAny_pure ?_)
  refine wpAny_bind (wpAny_cRoomFor (by show A.units + 1 < cLine; exact hu) ?_)
  refine wpAny_bind (m := callSpecialIfBound? _ _ _) (ifBound_K X J hs hf (wpAny_mono k (fun v s' ⟨z, hz, q⟩ => ?_) fun _ _ z => z))
  subst hz
  refine wpAny_bind (wpAny_truthy_bool ?_)
  exact wpAny_pure (wpAny_pure ⟨_, rfl, q⟩)
end
section
variable {X : Cx} {CX : CXT} {n f C : Addr} {fd : FuncData} {ps : List Str} {sp : Sp} {E : XK} {k : Nat}
/-- o == y, o's class with its own __eq__ -/
def rEqO (K : PySem.W.Frag) (C : Addr) (sp : Sp) (E : XK) : R2 := fun x y H Q => ∃ a dx fs tb, x = .ref a ∧ H a = some (.ins C dx fs) ∧ TyX K H y tb ∧ notFirst K C tb = true ∧ sp [.ref a, y] H (backB Q) E
def rNeO (K : PySem.W.Frag) (C : Addr) (sp : Sp) (E : XK) : R2 := fun x y H Q => ∃ a dx fs tb, x = .ref a ∧ H a = some (.ins C dx fs) ∧ TyX K H y tb ∧ notFirst K C tb = true ∧ sp [.ref a, y] H (backN Q) E
theorem op_eqO (F : FnOk X.prog X.w X.K X.mg X.base CX k f fd ps sp) (hr : Room k X.A) (M : Meth X.K C "__eq__" f) (hb : Binds X.K fd ps []) (hx : Passes CX X E) : OpR X (compareOp .Eq) (rEqO X.K C sp E) := by
  intro pins s σ H x y v u Q I rx ry h
  obtain ⟨a, dx, fs, tb, rfl, ha, ty, hn, h⟩ := h
  cases rx
  obtain ⟨mA, J, _⟩ := ins_get I.hok ha
  obtain ⟨od, J, _⟩ := J.look
  obtain ⟨m, hF⟩ := I.fr
  obtain ⟨P, Z, p, _⟩ := kit_of I ry ty
  refine cmp_K (op := .Eq) (tb := tb) hr.units0 hF I.ok.mod.kin J (Z.ty _ _ I.kIn p) hn M.at_ M.fn ?_
  refine wpAny_mono (call_sub (vs := [.ref a, y]) ⟨hr, rfl⟩ F hb hx I (.cons rfl (.cons ry .nil)) h) (fun r s' z => ?_) fun _ _ z => z
  obtain ⟨w, H', I', rw', b, rfl, q⟩ := z
  cases rw'
  exact ⟨.bl b, H', I', rfl, q⟩
theorem op_neO (F : FnOk X.prog X.w X.K X.mg X.base CX k f fd ps sp) (hr : Room (k + 1) X.A) (M : Meth X.K C "__eq__" f) (hne : findIn X.K (.ref C) "__ne__" = some (some (.builtin "object.__ne__"))) (hob : subIn X.K (.ref C) (.type "object") = some true) (hb : Binds X.K fd ps []) (hx : Passes CX X E) : OpR X (compareOp .NotEq) (rNeO X.K C sp E) := by
  intro pins s σ H x y v u Q I rx ry h
  obtain ⟨a, dx, fs, tb, rfl, ha, ty, hn, h⟩ := h
  cases rx
  obtain ⟨mA, J, _⟩ := ins_get I.hok ha
  obtain ⟨od, J, _⟩ := J.look
  obtain ⟨P, Z, p, _⟩ := kit_of I ry ty
  refine ne_left hr.in1.units0 I.kIn J (Z.ty _ _ I.kIn p) hn hne hob M.at_ M.fn ?_
  have sb : Sub X k X.A.in1 := Sub.in1 ⟨hr, rfl⟩
  refine wpAny_mono (call_sub (vs := [.ref a, y]) sb F hb hx I (.cons rfl (.cons ry .nil)) h) (fun r s' z => ?_) fun _ _ z => z
  obtain ⟨w, H', I', rw', b, rfl, q⟩ := z
  cases rw'
  exact ⟨b, rfl, .bl (!b), H', I', rfl, q⟩
end
section
variable {H : Hp} {K : PySem.W.Frag} {a C dx : Addr} {fs : List (Str × V)} {y : V} {E : XK} {ok : List V → Hp → V → Prop} {b : Bool} {tb : Value}
theorem rv_eqO (ho : H a = some (.ins C dx fs)) (ht : ∀ H1, Ex H H1 → TyX K H1 y tb) (hn : notFirst K C tb = true) (hok : ∀ H1, Ex H H1 → ok [.ref a, y] H1 (.bl b)) : RV (rEqO K C (Pure ok) E) (.ref a) y H (.bl b) := fun H1 e Q q =>
  ⟨a, dx, fs, tb, rfl, e _ _ ho, ht H1 e, hn, .bl b, hok H1 e, fun H2 e2 => ⟨b, rfl, q H2 e2⟩⟩
theorem rv_neO (ho : H a = some (.ins C dx fs)) (ht : ∀ H1, Ex H H1 → TyX K H1 y tb) (hn : notFirst K C tb = true) (hok : ∀ H1, Ex H H1 → ok [.ref a, y] H1 (.bl b)) : RV (rNeO K C (Pure ok) E) (.ref a) y H (.bl (!b)) := fun H1 e Q q =>
  ⟨a, dx, fs, tb, rfl, e _ _ ho, ht H1 e, hn, .bl b, hok H1 e, fun H2 e2 => ⟨b, rfl, q H2 e2⟩⟩
end
end Wo
set_option Elab.async false
set_option linter.all false
set_option maxRecDepth 100000
set_option maxHeartbeats 4000000
namespace Wo
open PySem PySem.Spec PyProof.Rows L2 Evl Vr En PySem.W
section
variable {prog : Program} {w : PySem.World} {A : Around} {E : Value → Shared → Prop} {s : Shared}
/-- a built-in type called, its __new__ followed in this very program -/
theorem ty_call {T i : String} {as : List Value} {Q : Value → Shared → Prop} (ft : TypeCalled T i "object.__init__") (hne : (some i != some "object.__new__") = true) (hct : checkTypeCall T ⟨as, []⟩ = pure ()) (hok : ∀ o, argsOk "object.__init__" ⟨o :: as, []⟩)
    (g : codeAny (model prog w) A.in1 (.call (.builtin i) ⟨.type T :: as, []⟩) (wants (fun o s1 => s1.TypeIs o T ∧ Q o s1) E) s) : wpAny (model prog w) A (call (.type T) as) Q E s := by
  obtain ⟨c, tl, k1⟩ := ft.mro
  have k2 := ft.made
  have k3 := ft.sub
  have k4 := ft.notType
  have k5 := ft.canCreate
  refine wpAny_call (codeAny_of_tree ?_)
  show wpAny (model prog w) A.in1 (callAny (.type T) ⟨as, []⟩) _ _ s
  refine wpAny_pure ⟨Code.quiet_builtin _ (by decide +kernel), codeAny_builtin PySem.F.entry_type_call ?_⟩
  rw [Around.under_plain (weight_type_call_type T as []) (units_type_call_type T as [])]
  repeat (any_goals (first | assumption | wp_step))
  refine codeAny_mono g fun r s1 hr => ?_
  cases r with
  | error e => exact hr
  | ok fl =>
    cases fl with
    | ret o =>
      obtain ⟨hT, hq⟩ := hr
      have k6 := ft.init.lookup
      have k7 := ft.init.bind o
      repeat (any_goals (first | assumption | wp_step))
      refine codeAny_mono (codeAny_call_builtin ft.init.plain PySem.F.entry_object_init (ft.init.check _ _ _ _ _ _ _ _ hT (hok o) (object_init_meets ft.init.lookup ft.made hne prog w A.in1 (wants (fun r s2 => r = .none ∧ Q o s2) E) s1 ⟨hT, rfl, hq⟩))) fun r2 s2 h2 => ?_
      cases r2 with
      | error e => exact h2
      | ok f2 =>
        cases f2 with
        | ret r =>
          obtain ⟨rfl, hq⟩ := h2
          repeat (any_goals (first | assumption | wp_step))
        | _ => exact h2.elim
    | _ => exact hr.elim
theorem str_call {v : Value} {Q : Value → Shared → Prop} (k : wpAny (model prog w) A.in1.in1 (Builtin.Str.strOf v) (fun r s1 => s1.TypeIs r "str" ∧ Q r s1) E s) : wpAny (model prog w) A (call (.type "str") [v]) Q E s := by
  refine ty_call PySem.F.called_str (by decide) (PySem.F.typeCall_str_1 _) (fun o => PySem.F.args_object_init_2 o _) (codeAny_call_builtin PySem.F.called_str.plain PySem.F.entry_str_new (wpAny_of_eq (PySem.F.newCall_str_1 _) ?_))
  rw [str_new_tree v]
  refine wpAny_bind (wpAny_pure ?_)
  refine wpAny_bind (wpAny_of_eq isSubtype_str_str ?_)
  exact wpAny_bind (wpAny_mono k (fun r s' h' => wpAny_pure h') fun _ _ e => e)
end
section
variable {X : Cx} {CX : CXT} {k f C : Addr} {fd : FuncData} {ps : List Str} {sp : Sp} {E : XK} {n : Nat}
/-- str(o), o's class with its own __str__ -/
def rStrO (C : Addr) (sp : Sp) (E : XK) : List V → Hp → VK → Prop := fun xs H Q => ∃ a dx fs, xs = [.ref a] ∧ H a = some (.ins C dx fs) ∧ sp [.ref a] H (fun v H' => ∃ z, v = .str z ∧ Q (.str z) H') E
theorem c_strO (F : FnOk X.prog X.w X.K X.mg X.base CX n f fd ps sp) (hr : Room (n + 2) X.A) (M : Meth X.K C "__str__" f) (hb : Binds X.K fd ps []) (hx : Passes CX X E) : CallR X (.type "str") (rStrO C sp E) := by
  intro pins s σ H xs us Q I r h
  obtain ⟨a, dx, fs, rfl, ha, h⟩ := h
  rw [Vals.ref1 r]
  obtain ⟨mA, J, _⟩ := ins_get I.hok ha
  obtain ⟨od, J, _⟩ := J.look
  refine str_call ?_
  unfold Builtin.Str.strOf
  rw [if_neg (show ¬ (Builtin.Str.isExactStr (Value.ref a) = true) from fun z => nomatch z)]
  have hs : Sub X n X.A.in1.in1 := Sub.in1 (Sub.in1 ⟨hr, rfl⟩)
  refine wpAny_bind (wpAny_cRoomFor hs.room.units0 ?_)
  refine wpAny_bind (m := callSpecial? (.ref a) (Str.ofString "__str__")) (special_fn I.kIn J M.at_ (beq_iff_eq.mp M.fn) (wpAny_mono (call_sub (vs := [.ref a]) hs F hb hx I (.cons rfl .nil) h) (fun v s' z => ?_) fun _ _ e => e))
  obtain ⟨w, H', I', rw', x, rfl, q⟩ := z
  obtain ⟨t, rfl⟩ := rw'
  exact wpAny_pure ⟨typeIs_str _ _ _, .str x, H', I', ⟨t, rfl⟩, q⟩
end
end Wo
set_option Elab.async false
set_option linter.all false
set_option maxRecDepth 100000
set_option maxHeartbeats 4000000
namespace Wo
open PySem PySem.Spec PyProof.Rows L2 Evl Vr En PySem.W
abbrev tiObj (t : Addr) (i : Nat) : Obj := { cls := .type "tuple_iterator", data := .fields #[.ref t, .int i 0] }
/-- an iterator over the tuple at t -/
def TiO (t it : Addr) (i : Nat) : HO := .ext fun h => h.get? it = some (tiObj t i)
section
variable {prog : Program} {w : PySem.World} {A : Around} {E : Value → Shared → Prop} {s : Shared} {it t : Addr} {i : Nat} {its : Array Value}
theorem ti_call {Q : Value → Shared → Prop} (ht : s.heap.IsTuple t its) (k : Q (.ref s.heap.objs.size) { s with heap := s.heap.push (tiObj t 0) }) : wpAny (model prog w) A (call (.builtin "iter") [.ref t]) Q E s := by
  refine Calls.call_function_entry (by decide +kernel) (by decide +kernel) kdk_entry_iter (kdk_args_iter _) ?_
  unfold Builtin.«iter»
  refine wpAny_bind (m := someArgs "iter" 1 2 _) (wpAny_of_eq (a := [Value.ref t]) (by first | rfl | kernel_rfl!) (wpAny_bind (m := pyIter (.ref t)) (wpAny_pyIter_tuple ht (wpAny_pure ⟨_, rfl, k⟩))))
theorem ti_next {x : Value} {Q : Option Value → Shared → Prop} (ho : s.heap.get? it = some (tiObj t i)) (ht : s.heap.IsTuple t its) (hx : its[i]? = some x)
    (k : Q (some x) { s with heap := s.heap.update it (Obj.mapFields (·.setIfInBounds 1 (rawInt ((i : Int) + 1)))) }) : wpAny (model prog w) A (pyNext (.ref it)) Q E s := by
  obtain ⟨ot, hot, _, nt, hdt⟩ := ht
  have hT : s.TypeIs (.ref it) "tuple_iterator" := ⟨_, ho, rfl⟩
  unfold pyNext
  refine wpAny_bind (wpAny_attempt (wpAny_callSpecial?_slot (name := Str.ofString "__next__") hT PySem.F.slot_tuple_iterator_next (wpAny_call_entry PySem.F.slot_tuple_iterator_next hT PySem.F.entry_tuple_iterator_next ?_ (PySem.F.args_tuple_iterator_next_1 _))))
  show wpAny (model prog w) A.in1 (field (.ref it) 0 >>= _) _ _ s
  refine wpAny_bind (wpAny_field ho rfl (x := .ref t) rfl ?_)
  rw [if_neg (show ¬ ((Value.ref t == Value.none) = true) from fun z => nomatch z)]
  refine wpAny_bind (m := field (.ref it) 1) (wpAny_field ho rfl (x := .int i 0) rfl ?_)
  refine wpAny_bind (m := seqItems? (.ref t)) (wpAny_seqItems hot hdt ?_)
  simp only [Int.toNat_natCast, hx]
  exact wpAny_bind (wpAny_setField ho rfl (by simp) (wpAny_pure ⟨x, rfl, wpAny_pure k⟩))
theorem ti_stop {Q : Option Value → Shared → Prop} (hh : A.handled = none) (ho : s.heap.get? it = some (tiObj t i)) (ht : s.heap.IsTuple t its) (hx : its[i]? = none)
    (k : ∀ h', (∀ b o, b ≠ it → s.heap.get? b = some o → h'.get? b = some o) → (∃ o, h'.get? it = some o) → Q none { s with heap := h' }) : wpAny (model prog w) A (pyNext (.ref it)) Q E s := by
  obtain ⟨ot, hot, _, nt, hdt⟩ := ht
  have hT : s.TypeIs (.ref it) "tuple_iterator" := ⟨_, ho, rfl⟩
  unfold pyNext
  refine wpAny_bind (wpAny_attempt (wpAny_callSpecial?_slot (name := Str.ofString "__next__") hT PySem.F.slot_tuple_iterator_next (wpAny_call_entry PySem.F.slot_tuple_iterator_next hT PySem.F.entry_tuple_iterator_next ?_ (PySem.F.args_tuple_iterator_next_1 _))))
  show wpAny (model prog w) A.in1 (field (.ref it) 0 >>= _) _ _ s
  refine wpAny_bind (wpAny_field ho rfl (x := .ref t) rfl ?_)
  rw [if_neg (show ¬ ((Value.ref t == Value.none) = true) from fun z => nomatch z)]
  refine wpAny_bind (m := field (.ref it) 1) (wpAny_field ho rfl (x := .int i 0) rfl ?_)
  refine wpAny_bind (m := seqItems? (.ref t)) (wpAny_seqItems hot hdt ?_)
  simp only [Int.toNat_natCast, hx]
  refine wpAny_bind (wpAny_rule (wpAny_bind (wpAny_setField ho rfl (by simp) ?_)))
  have e0 := Heap.get?_update_self (Obj.mapFields (·.setIfInBounds 0 Value.none)) ho (Obj.isFreed_of_fields (Obj.data_mapFields (o := tiObj t i) rfl _))
  show wpAny (model prog w) A.in1 (newExc (.type "StopIteration") [] >>= _) _ _ _
  refine wpAny_bind ?_
  simp only [newExc, newTuple]
  refine wpAny_bind (wpAny_newObj_type (wpAny_bind (m := firstArgMember _ _) (wpAny_of_eq (a := Value.none) (by first | rfl | (simp only [firstArgMember]; rfl)) (wpAny_newObj_type ?_ (by size_fits)))) (by size_fits))
  simp only [raiseNew]
  refine wpAny_bind (wpAny_handled ?_)
  rw [show A.in1.handled = none from hh]
  refine wpAny_bind (wpAny_pure (wpAny_throw ?_))
  refine wpAny_bind (wpAny_isInstance (T := "StopIteration") (b := true) ⟨_, Heap.get?_push_size _ rfl, rfl⟩ isSubtype_stop ?_)
  rw [if_pos rfl]
  refine wpAny_pure (k _ (fun b o hb e => ?_) ?_)
  · exact Heap.get?_push_of_some _ (Heap.get?_push_of_some _ ((Heap.get?_update_other s.heap _ (Ne.symm hb)).trans e))
  · exact ⟨_, Heap.get?_push_of_some _ (Heap.get?_push_of_some _ e0)⟩
end
section
variable {X : Cx} {pins : List (Addr × Obj)} {σ : L2.St} {H : Hp} {s : Shared} {it t q : Addr} {i : Nat}
theorem ti_ok {P : Program} {w : PySem.World} {H : Hp} {h : Heap} (e : h.get? it = some (tiObj t i)) : ObjOk P w H h it (TiO t it i) := ⟨e, ⟨_, e⟩, fun h1 h2 q k => k _ q⟩
theorem ti_get (I : Inv X pins σ H s) (e : H it = some (TiO t it i)) : s.heap.get? it = some (tiObj t i) := (I.hok it _ e).1
/-- iter(t), t a tuple -/
def rIterT (K : PySem.W.Frag) : List V → Hp → VK → Prop := fun xs H Q => ∃ (t : Addr) (zs : List V), xs = [.ref t] ∧ SqT K H t zs ∧ ∀ it, H it = none → Q (.ref it) (upd H it (TiO t it 0))
theorem c_iterT : CallR X (.builtin "iter") (rIterT X.K) := by
  intro pins s σ H xs us Q I r h
  obtain ⟨t, zs, rfl, ht, q⟩ := h
  rw [Vals.ref1 r]
  obtain ⟨its, rv, hT, _⟩ := I.tuple ht
  obtain ⟨o, h1, h2, h3⟩ := hT
  refine ti_call ⟨o, h1, h2, h3⟩ ?_
  exact ⟨.ref s.heap.objs.size, _, I.laid (t' := s.toks) (fun b u e => Heap.get?_push_of_some _ e) (Nat.le_refl _) (ti_ok (Heap.get?_push_size _ rfl)), rfl, q _ (I.hok.fresh (Nat.le_refl _))⟩
theorem ti_step (I : Inv X pins σ H s) (e : H it = some (TiO t it i)) : Inv X pins σ (upd H it (TiO t it (i + 1))) { s with heap := s.heap.update it (Obj.mapFields (·.setIfInBounds 1 (rawInt ((i : Int) + 1)))) } := by
  have ho := ti_get I e
  have hn := Heap.get?_update_self (Obj.mapFields (·.setIfInBounds 1 (rawInt ((i : Int) + 1)))) ho (Obj.isFreed_of_fields (Obj.data_mapFields (o := tiObj t i) rfl _))
  have hf : Obj.mapFields (·.setIfInBounds 1 (rawInt ((i : Int) + 1))) (tiObj t i) = tiObj t (i + 1) := by simp [Obj.mapFields, rawInt]
  rw [hf] at hn
  exact I.write (x := it) (e := it) (t' := s.toks) (by rw [e]; exact trivial) (.inl rfl) (fun b u hb hu => (Heap.get?_update_other s.heap _ (Ne.symm hb)).trans hu) ⟨_, hn⟩ (ti_ok hn)
/-- an iterator that is done -/
def TiX (it : Addr) : HO := .ext fun h => ∃ o, h.get? it = some o
theorem tx_ok {P : Program} {w : PySem.World} {H : Hp} {h : Heap} (e : ∃ o, h.get? it = some o) : ObjOk P w H h it (TiX it) := ⟨e, e, fun h1 h2 q k => let ⟨o, ho⟩ := q; ⟨o, k _ ho⟩⟩
theorem hint_split : splitId "tuple_iterator.__length_hint__" = some ("tuple_iterator", "__length_hint__") := by decide +kernel
theorem ti_hint {M : Model} {A : Around} {E : Value → Shared → Prop} {Q : Bool → Shared → Prop} (ho : s.heap.get? it = some (tiObj t i)) (h : Q false s) : wpAny M A (Builtin.List.listLengthHint (.ref it)) Q E s := by
  have hT : s.TypeIs (.ref it) "tuple_iterator" := ⟨_, ho, rfl⟩
  unfold Builtin.List.listLengthHint
  refine wpAny_bind (wpAny_specialOf hT PySem.F.nolen_tu ?_)
  show wpAny M A (specialOf (Value.ref it) (Str.ofString "__length_hint__") >>= _) _ _ _
  refine wpAny_bind (wpAny_specialOf hT PySem.F.hint_tu ?_)
  generalize hd : ("tuple_iterator.__length_hint__" : String) = d
  wp_delta
  rw [show splitId d = some ("tuple_iterator", "__length_hint__") from by rw [← hd]; exact hint_split]
  subst hd
  refine wpAny_bind (wpAny_isInstance (b := true) hT (by rw [isSubtype_type]; kernel_rfl) ?_)
  exact wpAny_pure h
theorem ti_loop {Rs : Result → Shared → Prop} {A1 : Around} {xs : List V} (hh : A1.handled = none) (hz : xs.length ≤ 40000) (hqi : q ≠ it) (hti : ∀ H', (∀ b, b ≠ q → b ≠ it → H' b = H b) → SqT X.K H' t xs)
    (hdone : ∀ H' s', Inv X pins σ H' s' → (∀ b, b ≠ q → b ≠ it → H' b = H b) → H' q = some (.lst xs) → Rs (.ok (.ret .none)) s') :
    ∀ (m i : Nat) (H' : Hp) (s : Shared), xs.length - i = m → i ≤ xs.length → Inv X pins σ H' s → (∀ b, b ≠ q → b ≠ it → H' b = H b) → H' q = some (.lst (xs.take i)) → H' it = some (TiO t it i) → codeAny (model X.prog X.w) A1 (.builtin "list.extend.loop" ⟨[.ref q, .ref it, .none], []⟩) Rs s := by
  intro m
  induction m with
  | zero =>
    intro i H' s hm hi I hO hq hit
    have hi' : i = xs.length := by omega
    subst hi'
    refine codeAny_builtin PySem.F.entry_extend_loop ?_
    rw [Around.under_plainId PySem.F.plain_extend_loop _]
    show wpAny (model X.prog X.w) A1.in1 (pyNext (.ref it) >>= _) _ _ s
    obtain ⟨its, rv, ⟨o, h1, h2, h3⟩, _⟩ := I.tuple (hti H' hO)
    refine wpAny_bind (ti_stop hh (ti_get I hit) ⟨o, h1, h2, h3⟩ (by simp [← rv.length]) fun h' k1 k2 => wpAny_pure ?_)
    refine hdone (upd H' it (TiX it)) _ (I.write (x := it) (e := it) (t' := s.toks) (by rw [hit]; exact trivial) (.inl rfl) k1 k2 (tx_ok k2)) (fun b hb hb2 => by rw [upd_ne hb2]; exact hO b hb hb2) ?_
    rw [upd_ne hqi, hq, List.take_of_length_le (Nat.le_refl _)]
  | succ m ih =>
    intro i H' s hm hi I hO hq hit
    have hlt : i < xs.length := by omega
    refine codeAny_builtin PySem.F.entry_extend_loop ?_
    rw [Around.under_plainId PySem.F.plain_extend_loop _]
    show wpAny (model X.prog X.w) A1.in1 (pyNext (.ref it) >>= _) _ _ s
    obtain ⟨its, rv, ⟨o, h1, h2, h3⟩, _⟩ := I.tuple (hti H' hO)
    obtain ⟨u, hu, ru⟩ := rv.get (List.getElem?_eq_getElem hlt)
    refine wpAny_bind (ti_next (ti_get I hit) ⟨o, h1, h2, h3⟩ (x := u) (by simpa using hu) ?_)
    have I1 := ti_step I hit
    have hq1 : upd H' it (TiO t it (i + 1)) q = some (.lst (xs.take i)) := by rw [upd_ne hqi]; exact hq
    obtain ⟨z, il, k, r2, hl, e⟩ := I1.lstM hq1
    have hll : il.length = i := by rw [← r2.length, List.length_take]; omega
    show wpAny (model X.prog X.w) A1.in1 (updateSeq q (·.push u) >>= _) _ _ _
    refine wpAny_bind (wpAny_updateSeq e rfl (wpAny_pure ⟨plainId_quiet PySem.F.plain_extend_loop _, ?_⟩) (by rw [List.size_toArray, hll, sizeLine_eq]; omega) (by show (il.toArray.push u).size ≤ sizeLine + 1; rw [Array.size_push, List.size_toArray, hll, sizeLine_eq]; omega))
    refine ih (i + 1) _ _ (by omega) hlt (I1.lset (its' := il ++ [u]) (ys := xs.take (i + 1)) (t' := s.toks) hq1 e (by simp) (by rw [List.take_succ_eq_append_getElem hlt]; exact r2.append (.cons ru .nil)) (by rw [List.length_take, sizeLine_eq]; omega)) (fun b hb hb2 => by rw [upd_ne hb, upd_ne hb2]; exact hO b hb hb2) upd_same (by rw [upd_ne (Ne.symm hqi)]; exact upd_same)
end
end Wo
set_option Elab.async false
set_option linter.all false
set_option maxRecDepth 100000
set_option maxHeartbeats 4000000
namespace Wo
open PySem PySem.Spec PyProof.Rows L2 Evl Vr En PySem.W
section
variable {X : Cx} {pins : List (Addr × Obj)} {σ : L2.St} {H : Hp} {s : Shared} {f f2 C a q : Addr} {fd fd2 : FuncData} {ps ps2 : List Str} {sp sp2 : Sp} {E : XK} {k n : Nat}
/-- a def that raises nothing, called anywhere -/
theorem call_sub0 {A : Around} {us : List Value} {vs : List V} {Q : VK} {Er : Value → Shared → Prop} (sb : Sub X k A) (F : FnOk X.prog X.w X.K X.mg X.base CX0 k f fd ps sp) (hb : Binds X.K fd ps []) (I : Inv X pins σ H s) (r : Vals vs us) (h : sp vs H Q E) :
    wpAny (model X.prog X.w) A (call (.ref f) us) (EP X pins σ Q) Er s := by
  have e := I.env0
  have z0 : Env0 X.prog X.w X.K X.mg X.base A X.stack s H := ⟨by rw [sb.fr]; exact e.frames, e.mod, e.bs, e.bsz, e.funs, e.frf, e.hok, e.bare⟩
  have z1 : BindsTo s fd ⟨us, []⟩ (ps.zip us) := by simpa using hb s us I.kIn (by rw [List.append_nil, ← r.length]; exact F.len _ _ _ _ h)
  refine wpAny_call (codeAny_mono (F.run A X.stack s H ⟨us, []⟩ us vs Q E sb.room z0 z1 r h) fun r s' hq => ?_)
  cases r with
  | error e => exact False.elim hq
  | ok fl => cases fl with
    | ret u => exact I.after hq
    | _ => exact False.elim hq
/-- what the own __iter__ gives: an iterator over a tuple, and then the list q of its things -/
def AftI (K : PySem.W.Frag) (a q : Addr) (sp2 : Sp) (E : XK) (Q : VK) : VK := fun v H' => ∃ (it t : Addr) (xs : List V), v = .ref it ∧ it ≠ q ∧ xs.length ≤ 40000 ∧ H' it = some (TiO t it 0) ∧
  sp2 [.ref a] H' (fun u H1 => ∃ m : Int, u = .int m ∧ 0 ≤ m ∧ m ≤ 40000 ∧ H1 it = some (TiO t it 0) ∧ H1 q = some (.lst []) ∧ (∀ H2, (∀ b, b ≠ q → b ≠ it → H2 b = H1 b) → SqT K H2 t xs) ∧ ∀ H2, (∀ b, b ≠ q → b ≠ it → H2 b = H1 b) → H2 q = some (.lst xs) → Q (.ref q) H2) E
/-- list(o), o's class with its own __iter__ and __len__ -/
def rListO (K : PySem.W.Frag) (C : Addr) (sp sp2 : Sp) (E : XK) : List V → Hp → VK → Prop := fun xs H Q => ∃ a dx fs, xs = [.ref a] ∧ H a = some (.ins C dx fs) ∧ ∀ q, H q = none → sp [.ref a] (upd H q (.lst [])) (fun v H' => H' a = some (.ins C dx fs) ∧ AftI K a q sp2 E Q v H') E
theorem long_no {m : Int} (h0 : 0 ≤ m) (h1 : m ≤ 40000) : Builtin.List.listTooLong m.toNat = false := by
  unfold Builtin.List.listTooLong
  have : m.toNat ≤ 40000 := by omega
  simp only [decide_eq_false_iff_not, sizeLine_eq]
  omega
theorem ol_hint {A : Around} {Q : Bool → Shared → Prop} {Er : Value → Shared → Prop} {dx : Addr} {fs : List (Str × V)} {R : Int → Hp → Prop} (sb : Sub X k A.in1) (F : FnOk X.prog X.w X.K X.mg X.base CX0 k f fd ps sp) (hs : findIn X.K (.ref C) "__len__" = some (some (.ref f))) (hf : isFn X.K (.ref f) = true) (hb : Binds X.K fd ps [])
    (I : Inv X pins σ H s) (ha : H a = some (.ins C dx fs)) (h : sp [.ref a] H (fun u H1 => ∃ m : Int, u = .int m ∧ 0 ≤ m ∧ m ≤ 40000 ∧ R m H1) E) (hq : ∀ b m H1 s1, Inv X pins σ H1 s1 → R m H1 → Q b s1) : wpAny (model X.prog X.w) A (Builtin.List.listLengthHint (.ref a)) Q Er s := by
  obtain ⟨mA, J, _⟩ := ins_get I.hok ha
  obtain ⟨od, J, _⟩ := J.look
  obtain ⟨m0, hF⟩ := I.fr
  unfold Builtin.List.listLengthHint
  refine wpAny_bind (wpAny_bind (J.type.here ((looks_findIn I.kIn hs).here ?_)))
  refine KFB.if_not rfl ?_
  rw [if_pos (by rfl)]
  refine wpAny_bind (wpAny_rule (wpAny_bind (wpAny_attempt (len_K hF I.ok.mod.kin J hs hf (wpAny_mono (call_sub0 (vs := [.ref a]) sb F hb I (.cons rfl .nil) h) (fun r s' z => ?_) fun _ _ z => z)))))
  obtain ⟨v, H', I', rv, m, rfl, h0, h1, hR⟩ := z
  obtain ⟨t, rfl⟩ := rv
  refine ⟨⟨h0, by omega⟩, ?_⟩
  refine wpAny_bind (m := asInt? _) (wpAny_pure ?_)
  dsimp only
  rw [if_neg (by rw [long_no h0 h1]; exact fun z => nomatch z)]
  exact wpAny_pure (hq _ m H' _ (I'.tok _) hR)
theorem oe_run {Q : VK} {A1 : Around} {dx : Addr} {fs : List (Str × V)} (hh : A1.handled = none) (sb : Sub X n A1.in1) (sb2 : Sub X k A1.in1.in1) (F : FnOk X.prog X.w X.K X.mg X.base CX0 n f fd ps sp) (M : Meth X.K C "__iter__" f) (hb : Binds X.K fd ps [])
    (F2 : FnOk X.prog X.w X.K X.mg X.base CX0 k f2 fd2 ps2 sp2) (M2 : Meth X.K C "__len__" f2) (hb2 : Binds X.K fd2 ps2 [])
    (I : Inv X pins σ H s) (ha : H a = some (.ins C dx fs)) (hq : H q = some (.lst [])) (h : sp [.ref a] H (fun v H' => H' a = some (.ins C dx fs) ∧ AftI X.K a q sp2 E Q v H') E) :
    wpAny (model X.prog X.w) A1.in1 (Builtin.List.listExtendWith (.ref q) (.ref a) .none) (fun fin s' => match fin with
      | .done g => wants (fun r s2 => r = .none ∧ EP X pins σ Q (.ref q) s2) X.xe (.ok g) s'
      | .again c' => c'.quiet = true ∧ codeAny (model X.prog X.w) A1 c' (wants (fun r s2 => r = .none ∧ EP X pins σ Q (.ref q) s2) X.xe) s') X.xe s := by
  have hne : q ≠ a := ne_of hq ha (fun z => nomatch z)
  obtain ⟨mA, J, _⟩ := ins_get I.hok ha
  obtain ⟨od, J, _⟩ := J.look
  obtain ⟨m0, hF⟩ := I.fr
  unfold Builtin.List.listExtendWith
  refine wpAny_bind (J.type.here ?_)
  rw [if_neg (by
    have z1 : Builtin.List.listSameRef (.ref q) (.ref a) = false := by simp [Builtin.List.listSameRef, hne]
    rw [z1]
    exact fun z => nomatch z)]
  refine wpAny_bind (owit_iter hF I.ok.mod.kin J M.at_ M.fn (wpAny_mono (call_sub0 (vs := [.ref a]) sb F hb I (.cons rfl .nil) h) (fun u s2 z => ?_) fun _ _ z => z))
  obtain ⟨v, H', I', rv, ha', it, t, xs, rfl, hiq, hz, hi0, h2⟩ := z
  cases rv
  have hT : s2.TypeIs (.ref it) "tuple_iterator" := ⟨_, ti_get I' hi0, rfl⟩
  unfold OwitIt
  refine wpAny_specialOf hT PySem.F.slot_tuple_iterator_next.lookup ?_
  refine wpAny_bind (wpAny_holding (ol_hint sb2 F2 M2.at_ M2.fn hb2 I' ha' h2 fun b m H1 s3 I1 ⟨hit, hq1, hti, hQ⟩ => ?_))
  have go : ∀ s4 : Shared, Inv X pins σ H1 s4 → codeAny (model X.prog X.w) A1 (.builtin "list.extend.loop" ⟨[.ref q, .ref it, .none], []⟩) (wants (fun r s2 => r = .none ∧ EP X pins σ Q (.ref q) s2) X.xe) s4 := fun s4 I4 =>
    ti_loop (t := t) (H := H1) (xs := xs) hh hz (Ne.symm hiq) hti (fun H2 s3 I2 o1 o2 => ⟨rfl, .ref q, H2, I2, rfl, hQ H2 o1 o2⟩) xs.length 0 H1 s4 rfl (Nat.zero_le _) I4 (fun _ _ _ => rfl) (by rw [List.take_zero]; exact hq1) hit
  refine wpAny_ite_split (fun _ => ?_) (fun _ => wpAny_pure ⟨plainId_quiet PySem.F.plain_extend_loop _, go _ I1⟩)
  refine wpAny_bind (wpAny_rule (wpAny_bind ?_))
  obtain ⟨z, il, c, r3, hl3, e3⟩ := I1.lstM hq1
  cases r3
  show wpAny (model X.prog X.w) _ (updateSeq q (·.push .none) >>= fun _ => updateSeq q (·.pop)) _ _ _
  refine wpAny_bind (wpAny_updateSeq e3 rfl ?_)
  have I2 := I1.lset (f := (·.push Value.none)) (its' := [Value.none]) (ys := [.non]) (t' := s3.toks) hq1 e3 (by simp) (.cons rfl .nil) (by rw [List.length_singleton, sizeLine_eq]; decide)
  obtain ⟨z4, il4, c4, r4, hl4, e4⟩ := I2.lstM upd_same
  obtain ⟨u4, rfl, ru4⟩ := r4.one
  refine wpAny_updateSeq e4 rfl ?_ (by show 1 ≤ sizeLine; rw [sizeLine_eq]; decide) (by show 0 ≤ sizeLine + 1; exact Nat.zero_le _)
  have I3 := I2.lset (f := (·.pop)) (its := [u4]) (its' := []) (ys := []) (t' := s3.toks) upd_same e4 (by rfl) .nil (Nat.zero_le _)
  rw [upd_upd] at I3
  have hH : upd H1 q (.lst []) = H1 := by
    funext b
    by_cases hb : b = q
    · rw [hb, upd_same, hq1]
    · exact upd_ne hb
  rw [hH] at I3
  exact wpAny_pure ⟨plainId_quiet PySem.F.plain_extend_loop _, go _ I3⟩
theorem c_listO (hc : X.calm = true) (F : FnOk X.prog X.w X.K X.mg X.base CX0 n f fd ps sp) (hr : Room (n + 2) X.A) (M : Meth X.K C "__iter__" f) (hb : Binds X.K fd ps []) (F2 : FnOk X.prog X.w X.K X.mg X.base CX0 k f2 fd2 ps2 sp2) (hr2 : Room (k + 3) X.A) (M2 : Meth X.K C "__len__" f2) (hb2 : Binds X.K fd2 ps2 []) (hx : Passes CX0 X E) : CallR X (.type "list") (rListO X.K C sp sp2 E) := by
  intro pins s σ H xs us Q I r h
  obtain ⟨a, dx, fs, rfl, ha, h⟩ := h
  rw [Vals.ref1 r]
  have sb : Sub X n X.A.in1.in1 := Sub.in1 (Sub.in1 ⟨hr, rfl⟩)
  have sb2 : Sub X k X.A.in1.in1.in1 := Sub.in1 (Sub.in1 (Sub.in1 ⟨hr2, rfl⟩))
  have fr : H s.heap.objs.size = none := I.hok.fresh (Nat.le_refl _)
  refine callType_codes (Q₁ := fun o s1 => o = .ref s.heap.objs.size ∧ s1 = { s with heap := s.heap.push { cls := .type "list", data := .seq #[] } }) PySem.F.called_list (PySem.F.typeCall_list_1 _) PySem.F.entry_list_init (code_list_new _ ⟨rfl, rfl⟩) fun o s1 h1 => ?_
  obtain ⟨rfl, rfl⟩ := h1
  have hS : (s.heap.push { cls := .type "list", data := .seq #[] }).get? s.heap.objs.size = some { cls := .type "list", data := .seq #[] } := Heap.get?_push_size _ rfl
  refine ⟨⟨_, hS, rfl⟩, PySem.F.args_list_init_2 _ _, ?_⟩
  have I1 : Inv X pins σ (upd H s.heap.objs.size (.lst [])) { s with heap := s.heap.push { cls := .type "list", data := .seq #[] } } := I.lnew (its := []) (t' := s.toks) .nil (Nat.zero_le _)
  show wpAny (model X.prog X.w) _ (Builtin.List.listItems (.ref s.heap.objs.size) >>= fun old => Builtin.List.listUpdate (.ref s.heap.objs.size) (fun _ => #[]) >>= fun _ => letGo old.toList.reverse >>= fun _ => Builtin.List.listExtendWith (.ref s.heap.objs.size) (.ref a) .none) _ _ _
  refine wpAny_bind ?_
  unfold Builtin.List.listItems
  refine wpAny_bind (wpAny_seqItems hS rfl (wpAny_pure ?_))
  show wpAny (model X.prog X.w) _ (updateSeq s.heap.objs.size (fun _ => #[]) >>= fun _ => letGo (#[] : Array Value).toList.reverse >>= fun _ => Builtin.List.listExtendWith (.ref s.heap.objs.size) (.ref a) .none) _ _ _
  refine wpAny_bind (wpAny_updateSeq hS rfl ?_)
  have I2 := I1.lset (f := fun _ => #[]) (its := []) (its' := []) (ys := []) (t' := s.toks) upd_same hS rfl .nil (Nat.zero_le _)
  rw [upd_upd] at I2
  refine wpAny_bind (wpAny_letGo ?_)
  exact oe_run (A1 := X.A.in1) (I.ok.hd hc) sb sb2 F M hb F2 M2 hb2 I2 (by rw [upd_ne (ne_of_none ha fr)]; exact ha) upd_same (h _ fr)
end
section
variable {X : Cx} {CX : CXT} {f C : Addr} {fd : FuncData} {ps : List Str} {sp : Sp} {E : XK} {k : Nat} {K : PySem.W.Frag}
theorem op_eqOK (hK : X.K = K) (F : FnOk X.prog X.w X.K X.mg X.base CX k f fd ps sp) (hr : Room k X.A) (M : Meth X.K C "__eq__" f) (hb : Binds X.K fd ps []) (hx : Passes CX X E) : OpR X (compareOp .Eq) (rEqO K C sp E) := by subst hK; exact op_eqO F hr M hb hx
theorem op_neOK (hK : X.K = K) (F : FnOk X.prog X.w X.K X.mg X.base CX k f fd ps sp) (hr : Room (k + 1) X.A) (M : Meth X.K C "__eq__" f) (hne : findIn X.K (.ref C) "__ne__" = some (some (.builtin "object.__ne__"))) (hob : subIn X.K (.ref C) (.type "object") = some true) (hb : Binds X.K fd ps []) (hx : Passes CX X E) : OpR X (compareOp .NotEq) (rNeO K C sp E) := by subst hK; exact op_neO F hr M hne hob hb hx
end
end Wo
set_option Elab.async false
set_option linter.all false
set_option maxRecDepth 100000
set_option maxHeartbeats 4000000
namespace Wo
open PySem PySem.Spec PyProof.Rows L2 Evl Vr En
/-- != of two tuples of the very same objects -/
def rNeS (K : PySem.W.Frag) : R2 := fun x y H Q => ∃ a b xs, x = .ref a ∧ y = .ref b ∧ SqT K H a xs ∧ SqT K H b xs ∧ (∀ v ∈ xs, v = .non ∨ ∃ r, v = .ref r) ∧ Q (.bl false) H
theorem same_val {v : V} {u u' : Value} (h : v = .non ∨ ∃ r, v = .ref r) (r : RelV v u) (r' : RelV v u') : u = u' := by
  rcases h with rfl | ⟨a, rfl⟩
  · cases r; cases r'; rfl
  · cases r; cases r'; rfl
theorem op_neS {X : Cx} (hu : X.A.units < cLine) : OpR X (compareOp .NotEq) (rNeS X.K) := by
  intro pins s σ H x y v u Q I rx ry h
  obtain ⟨a, b, xs, rfl, rfl, ha, hb, hs, q⟩ := h
  cases rx
  cases ry
  obtain ⟨its, rv, h1, _⟩ := I.tuple ha
  obtain ⟨its2, rv2, h2, _⟩ := I.tuple hb
  have t1 : s.heap.IsTuple a its.toArray := by obtain ⟨o, p1, p2, p3⟩ := h1; exact ⟨o, p1, p2, p3⟩
  have t2 : s.heap.IsTuple b its2.toArray := by obtain ⟨o, p1, p2, p3⟩ := h2; exact ⟨o, p1, p2, p3⟩
  have hsz : its.toArray.size = its2.toArray.size := by rw [List.size_toArray, List.size_toArray, ← rv.length, ← rv2.length]
  have hc := SeqAt.RcNeAt.tuples (A := X.A) (s := s) (e := fun _ => true) t1 t2 hu fun j g1 g2 => by
    have k1 : j < xs.length := by rw [rv.length]; simpa using g1
    obtain ⟨w1, e1, r1⟩ := rv.get (List.getElem?_eq_getElem k1)
    obtain ⟨w2, e2, r2⟩ := rv2.get (List.getElem?_eq_getElem k1)
    have f1 : its.toArray[j] = w1 := by
      have g1' : j < its.length := by simpa using g1
      rw [List.getElem?_eq_getElem g1'] at e1
      simpa using Option.some.inj e1
    have f2 : its2.toArray[j] = w2 := by
      have g2' : j < its2.length := by simpa using g2
      rw [List.getElem?_eq_getElem g2'] at e2
      simpa using Option.some.inj e2
    rw [f1, f2, same_val (hs _ (List.getElem_mem k1)) r1 r2]
    exact SeqAt.EqAt.same _
  have h3 : ((List.range (min its.toArray.size its2.toArray.size)).all fun _ => true) = true := List.all_eq_true.mpr fun _ _ => rfl
  have h4 : (!(((List.range (min its.toArray.size its2.toArray.size)).all fun _ => true) && its.toArray.size == its2.toArray.size)) = false := by
    rw [h3, hsz, beq_self_eq_true]
    rfl
  rw [h4] at hc
  exact hc X.prog X.w X.xe _ ⟨.bl false, H, I, rfl, q⟩
theorem op_neSK {X : Cx} {K : PySem.W.Frag} (hK : X.K = K) (hu : X.A.units < cLine) : OpR X (compareOp .NotEq) (rNeS K) := by subst hK; exact op_neS hu
end Wo
set_option Elab.async false
set_option linter.all false
set_option maxRecDepth 100000
set_option maxHeartbeats 4000000
namespace Sl
open PySem PySem.Spec PyProof.Rows L2
section
variable {P : Program} {w : World} {A : Around} {E : Value → Shared → Prop} {s : Shared}
/-- the object that set() begins with -/
abbrev blank (w : World) : Obj := { cls := .type "set", dict := none, data := .set #[] 0 (.fresh 0 0 (!w.params.followText "set-order")) }
/-- the new set is filled from a list of ints -/
theorem fill {l : Addr} {items : Array Value} {ns : List Int} (calm : A.handled = none) (isL : s.heap.IsList l items) (whole : IntsAre items.toList ns) (few : ns.length + 1 < scanBound) {R : Value → Shared → Prop}
    (k : ∀ (h2 : Heap) (tk c : Nat), SetR w h2 s.heap.objs.size (fun j => decide (j ∈ ns)) c → c ≤ ns.length → (∀ b o, s.heap.get? b = some o → h2.get? b = some o) → R .none { s with heap := h2, toks := tk }) :
    codeAny (model P w) A (.call (.builtin "set.__init__") ⟨[.ref s.heap.objs.size, .ref l], []⟩) (wants R E) { s with heap := s.heap.push (blank w) } := by
  have sz : items.size = ns.length := by have z := IntsAre.length whole; simpa only [Array.length_toList] using z
  have at0 : (s.heap.push (blank w)).get? s.heap.objs.size = some (blank w) := Heap.get?_push_size _ rfl
  have ty : Shared.TypeIs { s with heap := s.heap.push (blank w) } (.ref s.heap.objs.size) "set" := ⟨_, at0, rfl⟩
  have isL1 : (s.heap.push (blank w)).IsList l items := isL.push _
  have hl : l < s.heap.objs.size := by obtain ⟨o, e, _⟩ := isL; exact Heap.lt_size e
  refine codeAny_call_builtin F.called_set.init.plain F.entry_set_init (check_set_init_1 ty ?_)
  obtain ⟨ol, eol, cl, nl, dl⟩ := isL1
  obtain ⟨c0, d0, x0, s0⟩ := ol
  simp only at cl dl; subst cl dl
  have f1 := F.sub_list_set; have f2 := F.sub_list_frozenset
  have f3 : (Value.type "list" == Value.type "dict") = false := by decide
  have again : (s.heap.push (blank w)).IsList l items := ⟨_, eol, rfl, nl, rfl⟩
  unfold Builtin.«set.__init__» noKeywords Builtin.Frozenset.updateFrom
  generalize hI : pyIter = I0
  wp_walk
  subst hI
  refine wpAny_pyIter_list again (wpAny_bind (wpAny_runValue ?_))
  have c3 : A.in1.in1.in1.handled = none := by simp [calm]
  have s1 : (s.heap.push (blank w)).objs.size = s.heap.objs.size + 1 := Heap.size_push ..
  have nI : l ≠ (s.heap.push (blank w)).objs.size := fun z => absurd (z.trans s1) (Nat.ne_of_lt (Nat.lt_succ_of_lt hl))
  have nS : s.heap.objs.size ∉ [(s.heap.push (blank w)).objs.size, l] := by
    intro z; rcases List.mem_cons.mp z with z | z
    · exact absurd (z.trans s1) (Nat.ne_of_lt (Nat.lt_succ_self _))
    · exact absurd (List.mem_singleton.mp z) (Nat.ne_of_gt hl)
  have each : ∀ (i : Nat) (v : Value), items[i]? = some v → ∃ k t, ns[i]? = some k ∧ v = .int k t := fun i v hv => by
    have hi : i < ns.length := by have := (Array.getElem?_eq_some_iff.mp hv).1; omega
    obtain ⟨t, e⟩ := IntsAre.int_at whole i v (by rw [Array.getElem?_toList]; exact hv)
    exact ⟨ns[i], t, List.getElem?_eq_getElem hi, by rw [e, List.getD_eq_getElem?_getD, List.getElem?_eq_getElem hi]; rfl⟩
  have W := (Walks.list (prog := P) (w := w) (A := A.in1.in1) c3 (s.heap.push (blank w)).objs.size l nI items).toS
  refine set_update_ints W s.heap.objs.size nS ns sz few each (items.size - 0) 0 _ rfl (Nat.zero_le _) ⟨⟨_, Heap.get?_push_size _ rfl, rfl, rfl⟩, again.push _⟩ ⟨0, Nat.le_refl 0, ?_⟩ ?_
  · exact setR_new_at (Heap.get?_push_of_some _ at0)
  · rintro ⟨h2, g2, d2, t2, o2⟩ c mv hc hs
    have e1 : g2 = s.gens := mv.gens
    have e2 : d2 = s.drawn := mv.drawn
    have e3 : o2 = s.os := mv.os
    subst e1 e2 e3
    refine wpAny_pure (wpAny_pure ?_)
    rw [sz] at hc
    refine k h2 t2 c hs hc fun b o e => ?_
    have hb : b < s.heap.objs.size := Heap.lt_size e
    refine mv.heap b o (fun z => ?_) (Heap.get?_push_of_some _ (Heap.get?_push_of_some _ e))
    rcases List.mem_cons.mp z with z | z
    · exact absurd z (Nat.ne_of_lt hb)
    · exact absurd ((List.mem_singleton.mp z).trans s1) (Nat.ne_of_lt (Nat.lt_succ_of_lt hb))
theorem made {l : Addr} {items : Array Value} {ns : List Int} {Q : Value → Shared → Prop} (calm : A.handled = none) (isL : s.heap.IsList l items) (whole : IntsAre items.toList ns) (few : ns.length + 1 < scanBound)
    (k : ∀ (h2 : Heap) (tk c : Nat), SetR w h2 s.heap.objs.size (fun j => decide (j ∈ ns)) c → c ≤ ns.length → (∀ b o, s.heap.get? b = some o → h2.get? b = some o) → Q (.ref s.heap.objs.size) { s with heap := h2, toks := tk }) :
    wpAny (model P w) A (call (.type "set") [.ref l]) Q E s := by
  obtain ⟨c, tl, m0⟩ := F.called_set.mro
  have m1 := F.called_set.made; have m2 := F.called_set.sub
  refine wpAny_call (codeAny_of_tree (show wpAny _ _ (callAny (.type "set") _) _ _ _ from wpAny_pure ⟨Code.quiet_builtin _ (by decide +kernel), codeAny_builtin F.entry_type_call ?_⟩))
  rw [Around.under_plain (weight_type_call_type "set" [.ref l] []) rfl]
  have m3 := F.called_set.notType; have m4 := F.called_set.canCreate; have m5 := F.typeCall_set_1 (.ref l)
  repeat (any_goals (first | assumption | wp_step))
  refine codeAny_mono (code_set_led1 (Q₁ := fun v s1 => v = .ref s.heap.objs.size ∧ s1 = { s with heap := s.heap.push (blank w) }) (.ref l) (E := E) ⟨rfl, rfl⟩) fun r s1 hr => ?_
  match r, hr with
  | .error e, hr => exact hr
  | .ok .next, hr => exact hr.elim
  | .ok .brk, hr => exact hr.elim
  | .ok .cont, hr => exact hr.elim
  | .ok (.ret v), hr =>
    obtain ⟨rfl, rfl⟩ := hr
    have ty : Shared.TypeIs { s with heap := s.heap.push (blank w) } (.ref s.heap.objs.size) "set" := ⟨_, Heap.get?_push_size _ rfl, rfl⟩
    have i1 := F.called_set.init.lookup; have i2 := F.called_set.init.bind (.ref s.heap.objs.size)
    repeat (any_goals (first | assumption | wp_step))
    refine codeAny_mono (fill (R := fun v s2 => v = .none ∧ ∃ h2 tk c, s2 = { s with heap := h2, toks := tk } ∧ SetR w h2 s.heap.objs.size (fun j => decide (j ∈ ns)) c ∧ c ≤ ns.length ∧ ∀ b o, s.heap.get? b = some o → h2.get? b = some o) (E := E) (A := A.in1) (by simp [calm]) isL whole few fun h2 tk c x y z => ⟨rfl, h2, tk, c, rfl, x, y, z⟩) fun r s2 hr => ?_
    match r, hr with
    | .error e, hr => exact hr
    | .ok .next, hr => exact hr.elim
    | .ok .brk, hr => exact hr.elim
    | .ok .cont, hr => exact hr.elim
    | .ok (.ret v), hr =>
      obtain ⟨rfl, h2, tk, c, rfl, x, y, z⟩ := hr
      repeat (any_goals (first | assumption | wp_step))
      exact k _ _ _ x y z
end
/-- set(xs) of a list of ints, as a rule -/
def rSetL (K : PySem.W.Frag) (w : World) : List V → Hp → VK → Prop := fun xs H Q => ∃ (l : Addr) (ns : List Int), xs = [.ref l] ∧ SqL K H l (ns.map V.int) ∧ ns.length ≤ 1000 ∧ ∀ a c, H a = none → (∀ ms : List Int, (∀ k ∈ ns, k ∈ ms) → c ≤ ms.length) → Q (.ref a) (upd H a (SetO w a (fun j => decide (j ∈ ns)) c))
theorem ints_of : ∀ {ns : List Int} {us : List Value}, Vals (ns.map V.int) us → IntsAre us ns
  | [], _, .nil => .nil
  | n :: ns, _, .cons r t => by
    obtain ⟨k, rfl⟩ := r
    exact .cons n k (ints_of t)
theorem c_setL {X : Cx} (hc : X.calm = true) : CallR X (.type "set") (rSetL X.K X.w) := by
  intro pins s σ H xs us Q I r h
  obtain ⟨l, ns, rfl, hq, hl, q⟩ := h
  rw [Vals.ref1 r]
  obtain ⟨its, rv, pl, hz⟩ := I.list hq
  refine made (I.ok.hd hc) pl.isList (by simpa using ints_of rv) (by unfold scanBound; omega) fun h2 tk c hs hc2 hk => ?_
  have hn : H s.heap.objs.size = none := I.hok.fresh (Nat.le_refl _)
  have J : Inv X pins σ (upd H s.heap.objs.size (SetO X.w s.heap.objs.size (fun j => decide (j ∈ ns)) c)) { s with heap := h2, toks := tk } :=
    I.call (ch := []) (Un.laid hk (Nat.le_refl _) hn) (I.hok.laid hk (Nat.le_refl _) (setO_new hs)) I.bare (fun _ z => nomatch z)
  refine ⟨.ref s.heap.objs.size, _, J, rfl, q _ _ hn fun ms hm => ?_⟩
  obtain ⟨o, es, ep, t, _, _, _, _, nd, mem, _, _, sz, _⟩ := hs
  have z := nd.length_le_of_subset (l₂ := ms) fun k hk' => hm k (by simpa using (mem k).mpr hk')
  rw [List.length_map, Array.length_toList] at z
  omega
theorem sorted_one : ∀ {as bs : List Int}, as.Pairwise (· < ·) → bs.Pairwise (· < ·) → (∀ k, k ∈ as ↔ k ∈ bs) → as = bs
  | [], [], _, _, _ => rfl
  | [], b :: bs, _, _, h => nomatch (h b).mpr (List.mem_cons_self ..)
  | a :: as, [], _, _, h => nomatch (h a).mp (List.mem_cons_self ..)
  | a :: as, b :: bs, ha, hb, h => by
    rw [List.pairwise_cons] at ha hb
    have e : a = b := by
      rcases List.mem_cons.mp ((h a).mp (List.mem_cons_self ..)) with x | x
      · exact x
      · rcases List.mem_cons.mp ((h b).mpr (List.mem_cons_self ..)) with y | y
        · exact y.symm
        · have := hb.1 _ x; have := ha.1 _ y; omega
    subst e
    congr 1
    refine sorted_one ha.2 hb.2 fun k => ⟨fun x => ?_, fun x => ?_⟩
    · rcases List.mem_cons.mp ((h k).mp (List.mem_cons_of_mem _ x)) with y | y
      · have := ha.1 _ x; omega
      · exact y
    · rcases List.mem_cons.mp ((h k).mpr (List.mem_cons_of_mem _ x)) with y | y
      · have := hb.1 _ x; omega
      · exact y
end Sl
set_option Elab.async false
set_option linter.all false
set_option maxRecDepth 100000
set_option maxHeartbeats 4000000
namespace Wo
open PySem PySem.Spec PyProof.Rows L2 Evl Vr En
/-- set(xs), xs a list of ints: as many as they are, if no one stands twice -/
def rSetN (K : PySem.W.Frag) (w : World) : List V → Hp → VK → Prop := fun xs H Q => ∃ (l : Addr) (ns : List Int), xs = [.ref l] ∧ SqL K H l (ns.map V.int) ∧ ns.length ≤ 1000 ∧ ns.Nodup ∧ ∀ a, H a = none → Q (.ref a) (upd H a (SetO w a (fun j => decide (j ∈ ns)) ns.length))
theorem c_setN {X : Cx} (hc : X.calm = true) : CallR X (.type "set") (rSetN X.K X.w) := by
  intro pins s σ H xs us Q I r h
  obtain ⟨l, ns, rfl, hq, hl, hnd, q⟩ := h
  rw [Vals.ref1 r]
  obtain ⟨its, rv, pl, hz⟩ := I.list hq
  refine Sl.made (I.ok.hd hc) pl.isList (by simpa using Sl.ints_of rv) (by unfold scanBound; omega) fun h2 tk c hs hc2 hk => ?_
  have hn : H s.heap.objs.size = none := I.hok.fresh (Nat.le_refl _)
  have hc3 : c = ns.length := by
    obtain ⟨o, es, ep, t, _, _, _, _, nd, mem, _, _, sz, _⟩ := id hs
    have z : ns.length ≤ es.size := by
      have z0 := hnd.length_le_of_subset (l₂ := es.toList.map keyOf) fun k hk' => (mem k).mp (decide_eq_true hk')
      simpa using z0
    omega
  subst hc3
  have J : Inv X pins σ (upd H s.heap.objs.size (SetO X.w s.heap.objs.size (fun j => decide (j ∈ ns)) ns.length)) { s with heap := h2, toks := tk } :=
    I.call (ch := []) (Un.laid hk (Nat.le_refl _) hn) (I.hok.laid hk (Nat.le_refl _) (setO_new hs)) I.bare (fun _ z => nomatch z)
  exact ⟨.ref s.heap.objs.size, _, J, rfl, q _ hn⟩
/-- len of such a set -/
def rLenN (w : World) : List V → Hp → VK → Prop := fun xs H Q => ∃ (a : Addr) (S : Int → Bool) (n : Nat), xs = [.ref a] ∧ H a = some (SetO w a S n) ∧ Q (.int n) H
theorem c_lenN {X : Cx} : CallR X (.builtin "len") (rLenN X.w) := by
  intro pins s σ H xs us Q I r h
  obtain ⟨a, S, n, rfl, ha, q⟩ := h
  rw [Vals.ref1 r]
  obtain ⟨o, es, ep, t, ho, ex, hd, _, _, _, hlt, hf, sz, _⟩ := setO_get I ha
  subst sz
  exact call_len_set (o := o) (es := es) (ep := ep) (t := t) ho ex hd hf (by unfold scanBound at hlt; omega) ⟨.int es.size, H, I.tok _, ⟨_, rfl⟩, q⟩
end Wo
set_option Elab.async false
set_option linter.all false
set_option maxRecDepth 100000
set_option maxHeartbeats 4000000
namespace Tx
open PySem PySem.Spec PyProof.Rows L2 Evl Vr En Wo
/-- list(text) -/
def rListStr : List V → Hp → VK → Prop := fun xs H Q => ∃ z, xs = [.str z] ∧ z.length ≤ sizeLine ∧ ∀ p, H p = none → Q (.ref p) (upd H p (.lst (z.cps.toList.map fun c => V.str (S [c]))))
theorem vals_of : ∀ (xs : List V) (us : List Value), xs.length = us.length → (∀ (i : Nat) (x : V) (u : Value), xs[i]? = some x → us[i]? = some u → RelV x u) → Vals xs us
  | [], [], _, _ => .nil
  | [], _ :: _, h, _ => by cases h
  | _ :: _, [], h, _ => by cases h
  | x :: xs, u :: us, h, k => .cons (k 0 x u rfl rfl) (vals_of xs us (by simpa using h) fun i y v a b => k (i + 1) y v a b)
theorem c_listStr {X : Cx} (hc : X.calm = true) : CallR X (.type "list") rListStr := by
  intro pins s σ H xs us Q I r h
  obtain ⟨z, rfl, hz, q⟩ := h
  obtain ⟨u, rfl, t, rfl⟩ := vals1 r
  refine call_list_str (hn := hz) (I.ok.hd hc) z t fun h' tk acc' c' kp e hi => ?_
  have hv : Vals (z.cps.toList.map fun c => V.str (S [c])) acc'.toList := by
    refine vals_of _ _ (by rw [List.length_map, Array.length_toList, Array.length_toList]; exact hi.1.symm) fun i x u hx hu => ?_
    rw [List.getElem?_map] at hx
    rw [Array.getElem?_toList] at hu
    obtain ⟨c, w, h1, rfl⟩ := hi.2 i u hu
    rw [Array.getElem?_toList, h1] at hx
    cases hx
    exact ⟨w, rfl⟩
  exact ⟨.ref s.heap.objs.size, _, I.laid (t' := tk) kp (Nat.le_refl _) (show ObjOk X.prog X.w _ h' _ (.lst (z.cps.toList.map fun c => V.str (S [c]))) from ⟨by rw [List.length_map, Array.length_toList]; exact hz, acc'.toList, c', hv, by rw [e]⟩), rfl, q _ (I.hok.fresh (Nat.le_refl _))⟩
abbrev vS (l : List Nat) : V := .str (S l)
section
variable {σ : L2.St} {H H' : Hp} {te ta tb tc tn to tl tk tv td ty tx : TE} {t : TT} {tr ts : TA} {tz tu : TS} {D : Ends} {K : PySem.W.Frag} {w : World} {x y z v : V} {g : TG} {l m : List Nat}
theorem el_split {c : Nat} (hc : c < 256) (h : Ev to σ H (vS l)) (h2 : ∀ H1, Ex H H1 → Ev te σ H1 (vS [c])) (hl : l.length ≤ 100000) : EvL (tM1 (fun x xs H Q => ∃ a b, x = .str a ∧ xs = [.str b] ∧ (b.length == 0) = false ∧ a.length + 2 ≤ sizeLine ∧ rNewStrs (Txt.split a b) H Q) to te) σ H ((splitL c l).map vS) := fun H1 e Q q =>
  h H1 e _ fun H2 e2 => ⟨⟨_, rfl⟩, h2 H2 (e.trans e2) H2 (Ex.refl H2) _ fun H3 e3 => ⟨_, _, rfl, rfl, rfl, by rw [S_len]; exact Nat.le_trans (Nat.add_le_add_right hl 2) (by decide), fun p hp => by
    have e4 : (Txt.split (S l) (S [c])).map V.str = (splitL c l).map vS := by rw [split_S hc, List.map_map]; rfl
    rw [e4]
    exact q p _ (fresh_back (e2.trans e3) hp) ((e2.trans e3).trans (Ex.new hp)) upd_same⟩⟩
def lenAll (ps : List (List Nat)) : Nat := (ps.map List.length).sum + ps.length
theorem joinL_le (c : Nat) : ∀ ps : List (List Nat), (joinL c ps).length ≤ lenAll ps
  | [] => Nat.le_refl _
  | [p] => by simp [joinL, lenAll]
  | p :: q :: r => by
    have := joinL_le c (q :: r)
    show (p ++ c :: joinL c (q :: r)).length ≤ _
    simp only [lenAll, List.map_cons, List.sum_cons, List.length_cons, List.length_append] at this ⊢
    omega
theorem sum_len (ps : List (List Nat)) : ((ps.map S).map (·.length)).sum = (ps.map List.length).sum := by
  rw [List.map_map]
  exact congrArg List.sum (List.map_congr_left fun p _ => S_len p)
/-- sep.join(a new list) -/
theorem ev_joinN {c : Nat} {ps : List (List Nat)} (h : Ev to σ H (vS [c])) (h2 : ∀ H1, Ex H H1 → EvL te σ H1 (ps.map vS)) (hl : lenAll ps ≤ 100000) : Ev (tM1 (fun x xs H Q => ∃ a p, ∃ ys : List Str, x = .str a ∧ xs = [.ref p] ∧ (SqL K H p (ys.map V.str) ∨ SqT K H p (ys.map V.str)) ∧ (ys.map (·.length)).sum + ys.length * a.length ≤ 16777216 ∧ Q (.str (Txt.join a ys)) H) to te) σ H (vS (joinL c ps)) := fun H1 e Q q =>
  h H1 e _ fun H2 e2 => ⟨⟨_, rfl⟩, h2 H2 (e.trans e2) H2 (Ex.refl H2) _ fun p H3 hp e3 h3 => ⟨_, p, ps.map S, rfl, rfl, .inl (sq_of (by rw [List.map_map]; exact h3)), by
    rw [sum_len, List.length_map, S_len]
    unfold lenAll at hl
    show _ + ps.length * 1 ≤ _
    omega, by rw [join_S]; exact q H3 (e2.trans e3)⟩⟩
theorem ev_joinV {c : Nat} {ps : List (List Nat)} {p : Addr} (h : Ev to σ H (vS [c])) (h2 : ∀ H1, Ex H H1 → Ev te σ H1 (.ref p)) (hp : SqL K H p (ps.map vS)) (hl : lenAll ps ≤ 100000) : Ev (tM1 (fun x xs H Q => ∃ a p, ∃ ys : List Str, x = .str a ∧ xs = [.ref p] ∧ (SqL K H p (ys.map V.str) ∨ SqT K H p (ys.map V.str)) ∧ (ys.map (·.length)).sum + ys.length * a.length ≤ 16777216 ∧ Q (.str (Txt.join a ys)) H) to te) σ H (vS (joinL c ps)) := fun H1 e Q q =>
  h H1 e _ fun H2 e2 => ⟨⟨_, rfl⟩, h2 H2 (e.trans e2) H2 (Ex.refl H2) _ fun H3 e3 => ⟨_, p, ps.map S, rfl, rfl, .inl (by rw [List.map_map]; exact ex_l ((e.trans e2).trans e3) hp), by
    rw [sum_len, List.length_map, S_len]
    unfold lenAll at hl
    show _ + ps.length * 1 ≤ _
    omega, by rw [join_S]; exact q H3 (e2.trans e3)⟩⟩
theorem ev_m1 {r : V → List V → Hp → VK → Prop} {a b : Str} (h : Ev to σ H (.str a)) (h2 : ∀ H1, Ex H H1 → Ev te σ H1 (.str b)) (hr : ∀ H1 Q, Q z H1 → r (.str a) [.str b] H1 Q) : Ev (tM1 r to te) σ H z := fun H1 e Q q =>
  h H1 e _ fun H2 e2 => ⟨⟨_, rfl⟩, h2 H2 (e.trans e2) H2 (Ex.refl H2) _ fun H3 e3 => hr H3 Q (q H3 (e2.trans e3))⟩
theorem ev_m0 {r : V → List V → Hp → VK → Prop} {a : Str} (h : Ev to σ H (.str a)) (hr : ∀ H1 Q, Q z H1 → r (.str a) [] H1 Q) : Ev (tM0 r to) σ H z := fun H1 e Q q =>
  h H1 e _ fun H2 e2 => ⟨⟨_, rfl⟩, hr H2 Q (q H2 e2)⟩
def rIntS : List V → Hp → VK → Prop := fun xs H Q => ∃ a n, xs = [.str a] ∧ PySem.intText? a = some n ∧ a.length ≤ 640 ∧ Q (.int n) H
theorem c_intS {X : Cx} : CallR X (.type "int") rIntS := call_int_str
theorem rc_intS {n : Int} (h : PySem.intText? (S l) = some n) (hl : l.length ≤ 640) : RC rIntS [vS l] H (.int n) := fun H1 _ _ q => ⟨_, n, rfl, h, by rw [S_len]; exact hl, q H1 (Ex.refl H1)⟩
def rStrI : List V → Hp → VK → Prop := fun xs H Q => ∃ i, xs = [.int i] ∧ i.natAbs.log2 < 1920 ∧ Q (.str (toString i)) H
theorem c_strI {X : Cx} : CallR X (.type "str") rStrI := call_str_int
theorem rc_strI {i : Int} (h : i.natAbs.log2 < 1920) : RC rStrI [.int i] H (.str (toString i)) := fun H1 _ _ q => ⟨i, rfl, h, q H1 (Ex.refl H1)⟩
theorem ev_slS {lo hi : Option Int} {t1 t2 : TO} (h : Ev te σ H (vS l)) (h1 : ∀ H1, Ex H H1 → EvO t1 σ H1 lo) (h2 : ∀ H1, Ex H H1 → EvO t2 σ H1 hi) (hl : l.length ≤ 100000) : Ev (L2.tSl rSlS te t1 t2) σ H (vS ((l.drop (HT.sIx l.length 0 lo)).take (HT.sIx l.length l.length hi - HT.sIx l.length 0 lo))) := fun H1 e Q q =>
  h H1 e _ fun H2 e2 => h1 H2 (e.trans e2) H2 (Ex.refl H2) _ fun H3 e3 => h2 H3 ((e.trans e2).trans e3) H3 (Ex.refl H3) _ fun H4 e4 => ⟨S l, rfl, by rw [S_len]; exact sz_of hl, by
    have e5 : cutS (S l) lo hi = S ((l.drop (HT.sIx l.length 0 lo)).take (HT.sIx l.length l.length hi - HT.sIx l.length 0 lo)) := by
      unfold cutS
      rw [S_len]
    rw [e5]
    exact q H4 ((e2.trans e3).trans e4)⟩
/-- [e for sign in text if t] -/
theorem el_lcS {j : Nat} {vs : List Nat} (f : Nat → Bool) (v : Nat → V) (h : Ev tl σ H (vS l)) (hz : l.length ≤ 40000) (hw : ∀ x, wipe ((wipe σ vs).set j (some x)) vs = wipe σ vs)
    (ht : ∀ (i c : Nat) H1, Ex H H1 → l[i]? = some c → EvT t ((wipe σ vs).set j (some (vS [c]))) H1 (f i)) (he : ∀ (i c : Nat) H1, Ex H H1 → l[i]? = some c → f i = true → Ev te ((wipe σ vs).set j (some (vS [c]))) H1 (v i)) :
    EvL (tLc (iStr tl) (gName j) t te vs) σ H (given l.length f v) := fun H0 e Q q => h H0 e _ fun H1 e1 => ⟨S l, rfl, fun Dl hD =>
  lc_it (n := l.length) (by have := walk_str (z := S l); simpa using this) (Cw H1 f v Dl) ⟨hD, Ex.new hD, upd_same⟩ (fun i H' _ p => trivial) (fun i x H' H'' hi p y => by
    obtain ⟨rfl, c, hc, rfl⟩ := y
    have hc' : l[i]? = some c := by simpa using hc
    exact ⟨hw _, cw_turn p (by omega) (ht i c H1 (e.trans e1) hc') (fun hf => he i c H1 (e.trans e1) hc' hf)⟩)
    (fun H' p => q Dl H' (fresh_back e1 p.1) (e1.trans p.2.1) p.2.2)⟩
theorem el_listS (h : Ev te σ H (vS l)) (hl : l.length ≤ 100000) : EvL (tCB rListStr (tCons te tNil)) σ H (l.map fun c => vS [c]) := fun H1 e Q q =>
  h H1 e _ fun H2 e2 => ⟨_, rfl, by rw [S_len]; exact sz_of hl, fun p hp => q p _ (fresh_back e2 hp) (e2.trans (Ex.new hp)) upd_same⟩
theorem ev_maxN {ns : List Int} {m : Int} (ha : EvL ta σ H (ns.map V.int)) (hm : m ∈ ns) (hl : ∀ y ∈ ns, y ≤ m) : Ev (tCB (rMax K) (tCons ta tNil)) σ H (.int m) := fun H1 e Q q =>
  ha H1 e _ fun p H2 _ e2 h2 => ⟨p, ns, rfl, sq_of h2, List.length_pos_of_mem hm, fun m' h1 h3 => by
    have e4 : m' = m := Int.le_antisymm (hl m' h1) (h3 m hm)
    rw [e4]
    exact q H2 e2⟩
theorem el_rev {xs : List V} (h : EvL te σ H xs) : EvL (tRevL K te) σ H xs.reverse := fun H1 e Q q =>
  h H1 e _ fun p H2 hp e2 h2 => ⟨p, xs, rfl, sq_of h2, fun r hr => q r _ (fresh_back e2 hr) (e2.trans (Ex.new hr)) upd_same⟩
theorem rv_cat {a b : Str} (h : (a ++ b).length ≤ sizeLine) {r : R2} (hr : ∀ H1 Q, Q (.str (a ++ b)) H1 → r (.str a) (.str b) H1 Q) : RV r (.str a) (.str b) H (.str (a ++ b)) := fun H1 _ Q q => hr H1 Q (q H1 (Ex.refl H1))
end
end Tx
set_option Elab.async false
set_option linter.all false
set_option maxRecDepth 100000
set_option maxHeartbeats 4000000
set_option exponentiation.threshold 500
namespace Kz
open PySem PySem.Spec PyProof.Rows L2 Evl Vr
def top (i : Nat) : Stmt := PySem.Challenge.pw_settledplay_k43_whole_bags_and_handings.main.body.getD i (.Pass ⟨0, 0, 0, 0⟩)
abbrev s_InvalidNumber___init__ : Stmt := inClass (top 4) 0
theorem sc_InvalidNumber___init__ : FnScope ["self", "given"] ["self", "given"] (defScope s_InvalidNumber___init__) := ⟨rfl, rfl, rfl, by decide +kernel, rfl, by decide +kernel, by decide +kernel⟩
abbrev s_is_integer : Stmt := top 6
theorem sc_is_integer : FnScope ["value"] ["value"] (defScope s_is_integer) := ⟨rfl, rfl, rfl, by decide +kernel, rfl, by decide +kernel, by decide +kernel⟩
abbrev s_is_within : Stmt := top 7
theorem sc_is_within : FnScope ["value", "low", "high"] ["value", "low", "high"] (defScope s_is_within) := ⟨rfl, rfl, rfl, by decide +kernel, rfl, by decide +kernel, by decide +kernel⟩
abbrev s_is_whole : Stmt := top 8
theorem sc_is_whole : FnScope ["value"] ["value"] (defScope s_is_whole) := ⟨rfl, rfl, rfl, by decide +kernel, rfl, by decide +kernel, by decide +kernel⟩
abbrev s_has_signs : Stmt := top 10
theorem sc_has_signs : FnScope ["value", "least", "most"] ["value", "least", "most"] (defScope s_has_signs) := ⟨rfl, rfl, rfl, by decide +kernel, rfl, by decide +kernel, by decide +kernel⟩
abbrev s_is_entry_of_seat : Stmt := top 14
theorem sc_is_entry_of_seat : FnScope ["value"] ["value"] (defScope s_is_entry_of_seat) := ⟨rfl, rfl, rfl, by decide +kernel, rfl, by decide +kernel, by decide +kernel⟩
abbrev s_is_joint_of_some : Stmt := top 15
theorem sc_is_joint_of_some : FnScope ["value", "entry"] ["value"] (defScope s_is_joint_of_some) := ⟨rfl, rfl, rfl, by decide +kernel, rfl, by decide +kernel, by decide +kernel⟩
abbrev s_is_print : Stmt := top 18
theorem sc_is_print : FnScope ["value"] ["value"] (defScope s_is_print) := ⟨rfl, rfl, rfl, by decide +kernel, rfl, by decide +kernel, by decide +kernel⟩
abbrev s_is_word : Stmt := top 21
theorem sc_is_word : FnScope ["value"] ["value"] (defScope s_is_word) := ⟨rfl, rfl, rfl, by decide +kernel, rfl, by decide +kernel, by decide +kernel⟩
abbrev s_is_keys_letter : Stmt := top 31
theorem sc_is_keys_letter : FnScope ["value", "_", "first", "words", "print_of_world", "word"] ["value"] (defScope s_is_keys_letter) := ⟨rfl, rfl, rfl, by decide +kernel, rfl, by decide +kernel, by decide +kernel⟩
abbrev s_is_rows_letter : Stmt := top 32
theorem sc_is_rows_letter : FnScope ["value", "_", "first", "entries", "joint"] ["value"] (defScope s_is_rows_letter) := ⟨rfl, rfl, rfl, by decide +kernel, rfl, by decide +kernel, by decide +kernel⟩
abbrev s_is_piece_letter : Stmt := top 33
theorem sc_is_piece_letter : FnScope ["value", "_", "tick", "index", "many", "text"] ["value"] (defScope s_is_piece_letter) := ⟨rfl, rfl, rfl, by decide +kernel, rfl, by decide +kernel, by decide +kernel⟩
abbrev s_is_word_letter : Stmt := top 34
theorem sc_is_word_letter : FnScope ["value"] ["value"] (defScope s_is_word_letter) := ⟨rfl, rfl, rfl, by decide +kernel, rfl, by decide +kernel, by decide +kernel⟩
abbrev s_is_letter : Stmt := top 36
theorem sc_is_letter : FnScope ["value", "action"] ["value"] (defScope s_is_letter) := ⟨rfl, rfl, rfl, by decide +kernel, rfl, by decide +kernel, by decide +kernel⟩
abbrev s_need_letter : Stmt := top 37
theorem sc_need_letter : FnScope ["value"] ["value"] (defScope s_need_letter) := ⟨rfl, rfl, rfl, by decide +kernel, rfl, by decide +kernel, by decide +kernel⟩
abbrev s_goal_of : Stmt := top 38
theorem sc_goal_of : FnScope ["letter"] ["letter"] (defScope s_goal_of) := ⟨rfl, rfl, rfl, by decide +kernel, rfl, by decide +kernel, by decide +kernel⟩
abbrev s_Bag___init__ : Stmt := inClass (top 40) 0
theorem sc_Bag___init__ : FnScope ["self", "letters"] ["self", "letters"] (defScope s_Bag___init__) := ⟨rfl, rfl, rfl, by decide +kernel, rfl, by decide +kernel, by decide +kernel⟩
abbrev s_Bag__fill : Stmt := inClass (top 40) 1
theorem sc_Bag__fill : FnScope ["self", "letters"] ["self", "letters"] (defScope s_Bag__fill) := ⟨rfl, rfl, rfl, by decide +kernel, rfl, by decide +kernel, by decide +kernel⟩
abbrev s_Bag_sent : Stmt := inClass (top 40) 2
theorem sc_Bag_sent : FnScope ["self", "letter"] ["self", "letter"] (defScope s_Bag_sent) := ⟨rfl, rfl, rfl, by decide +kernel, rfl, by decide +kernel, by decide +kernel⟩
abbrev s_Bag_sent_all : Stmt := inClass (top 40) 3
theorem sc_Bag_sent_all : FnScope ["self", "letters"] ["self", "letters"] (defScope s_Bag_sent_all) := ⟨rfl, rfl, rfl, by decide +kernel, rfl, by decide +kernel, by decide +kernel⟩
abbrev s_Bag_letter : Stmt := inClass (top 40) 4
theorem sc_Bag_letter : FnScope ["self", "number"] ["self", "number"] (defScope s_Bag_letter) := ⟨rfl, rfl, rfl, by decide +kernel, rfl, by decide +kernel, by decide +kernel⟩
abbrev s_Bag_to : Stmt := inClass (top 40) 5
theorem sc_Bag_to : FnScope ["self", "goal", "number", "letter"] ["self", "goal"] (defScope s_Bag_to) := ⟨rfl, rfl, rfl, by decide +kernel, rfl, by decide +kernel, by decide +kernel⟩
abbrev s_Bag___len__ : Stmt := inClass (top 40) 6
theorem sc_Bag___len__ : FnScope ["self"] ["self"] (defScope s_Bag___len__) := ⟨rfl, rfl, rfl, by decide +kernel, rfl, by decide +kernel, by decide +kernel⟩
abbrev s_Bag___eq__ : Stmt := inClass (top 40) 7
theorem sc_Bag___eq__ : FnScope ["self", "other"] ["self", "other"] (defScope s_Bag___eq__) := ⟨rfl, rfl, rfl, by decide +kernel, rfl, by decide +kernel, by decide +kernel⟩
abbrev s_Bag___str__ : Stmt := inClass (top 40) 8
theorem sc_Bag___str__ : FnScope ["self"] ["self"] (defScope s_Bag___str__) := ⟨rfl, rfl, rfl, by decide +kernel, rfl, by decide +kernel, by decide +kernel⟩
abbrev s_bag_of : Stmt := top 41
theorem sc_bag_of : FnScope ["letters", "bag"] ["letters"] (defScope s_bag_of) := ⟨rfl, rfl, rfl, by decide +kernel, rfl, by decide +kernel, by decide +kernel⟩
abbrev s_need_letters : Stmt := top 42
theorem sc_need_letters : FnScope ["value", "letter"] ["value"] (defScope s_need_letters) := ⟨rfl, rfl, rfl, by decide +kernel, rfl, by decide +kernel, by decide +kernel⟩
abbrev s_is_number_of : Stmt := top 43
theorem sc_is_number_of : FnScope ["bag", "value"] ["bag", "value"] (defScope s_is_number_of) := ⟨rfl, rfl, rfl, by decide +kernel, rfl, by decide +kernel, by decide +kernel⟩
abbrev s_judged_handing : Stmt := top 44
theorem sc_judged_handing : FnScope ["bag", "handing", "number", "times", "greatest", "overtaken", "goal", "lost", "doubled", "_", "count"] ["bag", "handing"] (defScope s_judged_handing) := ⟨rfl, rfl, rfl, by decide +kernel, rfl, by decide +kernel, by decide +kernel⟩
abbrev s_law_dice : Stmt := top 46
theorem sc_law_dice : FnScope ["script", "spot", "cell", "left"] ["script", "spot"] (defScope s_law_dice) := ⟨rfl, rfl, rfl, by decide +kernel, rfl, by decide +kernel, by decide +kernel⟩
abbrev s_law_roll : Stmt := top 47
theorem sc_law_roll : FnScope ["dice", "total", "found", "one", "two"] ["dice", "total"] (defScope s_law_roll) := ⟨rfl, rfl, rfl, by decide +kernel, rfl, by decide +kernel, by decide +kernel⟩
abbrev s_law_pick : Stmt := top 48
theorem sc_law_pick : FnScope ["dice", "items"] ["dice", "items"] (defScope s_law_pick) := ⟨rfl, rfl, rfl, by decide +kernel, rfl, by decide +kernel, by decide +kernel⟩
abbrev s_law_shuffled : Stmt := top 49
theorem sc_law_shuffled : FnScope ["dice", "items", "left", "found", "turn"] ["dice", "items"] (defScope s_law_shuffled) := ⟨rfl, rfl, rfl, by decide +kernel, rfl, by decide +kernel, by decide +kernel⟩
abbrev s_law_lt_goal : Stmt := top 50
theorem sc_law_lt_goal : FnScope ["letter"] ["letter"] (defScope s_law_lt_goal) := ⟨rfl, rfl, rfl, by decide +kernel, rfl, by decide +kernel, by decide +kernel⟩
abbrev s_law_lt_drawn : Stmt := top 51
theorem sc_law_lt_drawn : FnScope ["dice", "way", "seat", "tick", "many", "text", "size", "words", "turn", "at"] ["dice"] (defScope s_law_lt_drawn) := ⟨rfl, rfl, rfl, by decide +kernel, rfl, by decide +kernel, by decide +kernel⟩
abbrev s_law_bag_right : Stmt := top 52
theorem sc_law_bag_right : FnScope ["dice", "letters", "bag", "at", "letter", "later", "whole", "number", "goal"] ["dice", "letters"] (defScope s_law_bag_right) := ⟨rfl, rfl, rfl, by decide +kernel, rfl, by decide +kernel, by decide +kernel⟩
abbrev s_law_judged : Stmt := top 53
theorem sc_law_judged : FnScope ["letters", "handing", "goals", "found", "number", "lost", "doubled", "at", "ahead", "letter", "other", "one"] ["letters", "handing"] (defScope s_law_judged) := ⟨rfl, rfl, rfl, by decide +kernel, rfl, by decide +kernel, by decide +kernel⟩
abbrev s_law_handing_drawn : Stmt := top 54
theorem sc_law_handing_drawn : FnScope ["dice", "many", "way", "found", "turn", "number"] ["dice", "many"] (defScope s_law_handing_drawn) := ⟨rfl, rfl, rfl, by decide +kernel, rfl, by decide +kernel, by decide +kernel⟩
abbrev s_law_woven : Stmt := top 55
theorem sc_law_woven : FnScope ["dice", "letters", "left", "number", "letter", "found", "turn", "goal", "one"] ["dice", "letters"] (defScope s_law_woven) := ⟨rfl, rfl, rfl, by decide +kernel, rfl, by decide +kernel, by decide +kernel⟩
abbrev s_law_right : Stmt := top 56
theorem sc_law_right : FnScope ["dice", "turn", "letters", "bag", "handing", "woven", "goal", "number"] ["dice"] (defScope s_law_right) := ⟨rfl, rfl, rfl, by decide +kernel, rfl, by decide +kernel, by decide +kernel⟩
abbrev s_law : Stmt := top 57
theorem sc_law : FnScope ["script", "spot", "dice", "turn", "keys", "rows", "bag", "told"] ["script"] (defScope s_law) := ⟨rfl, rfl, rfl, by decide +kernel, rfl, by decide +kernel, by decide +kernel⟩
structure Txt (K : PySem.W.Frag) (mg : Str → Option Value) (w : World) where
  C_Bag : Addr
  cl_Bag : Cls K C_Bag
  g_Bag : mg "Bag" = some (.ref C_Bag)
  n_Bag_letters : NoAttr K C_Bag "letters"
  a_is_integer : Addr
  fd_is_integer : FuncData
  F_is_integer : Fun K "is_integer" "is_integer" s_is_integer a_is_integer fd_is_integer
  g_is_integer : mg "is_integer" = some (.ref a_is_integer)
  b_is_integer : Binds K fd_is_integer ["value"] []
  a_is_within : Addr
  fd_is_within : FuncData
  F_is_within : Fun K "is_within" "is_within" s_is_within a_is_within fd_is_within
  g_is_within : mg "is_within" = some (.ref a_is_within)
  b_is_within : Binds K fd_is_within ["value", "low", "high"] []
  a_is_whole : Addr
  fd_is_whole : FuncData
  F_is_whole : Fun K "is_whole" "is_whole" s_is_whole a_is_whole fd_is_whole
  g_is_whole : mg "is_whole" = some (.ref a_is_whole)
  b_is_whole : Binds K fd_is_whole ["value"] []
  a_has_signs : Addr
  fd_has_signs : FuncData
  F_has_signs : Fun K "has_signs" "has_signs" s_has_signs a_has_signs fd_has_signs
  g_has_signs : mg "has_signs" = some (.ref a_has_signs)
  b_has_signs : Binds K fd_has_signs ["value", "least", "most"] []
  a_is_entry_of_seat : Addr
  fd_is_entry_of_seat : FuncData
  F_is_entry_of_seat : Fun K "is_entry_of_seat" "is_entry_of_seat" s_is_entry_of_seat a_is_entry_of_seat fd_is_entry_of_seat
  g_is_entry_of_seat : mg "is_entry_of_seat" = some (.ref a_is_entry_of_seat)
  b_is_entry_of_seat : Binds K fd_is_entry_of_seat ["value"] []
  a_is_joint_of_some : Addr
  fd_is_joint_of_some : FuncData
  F_is_joint_of_some : Fun K "is_joint_of_some" "is_joint_of_some" s_is_joint_of_some a_is_joint_of_some fd_is_joint_of_some
  g_is_joint_of_some : mg "is_joint_of_some" = some (.ref a_is_joint_of_some)
  b_is_joint_of_some : Binds K fd_is_joint_of_some ["value"] []
  a_is_print : Addr
  fd_is_print : FuncData
  F_is_print : Fun K "is_print" "is_print" s_is_print a_is_print fd_is_print
  g_is_print : mg "is_print" = some (.ref a_is_print)
  b_is_print : Binds K fd_is_print ["value"] []
  a_is_word : Addr
  fd_is_word : FuncData
  F_is_word : Fun K "is_word" "is_word" s_is_word a_is_word fd_is_word
  g_is_word : mg "is_word" = some (.ref a_is_word)
  b_is_word : Binds K fd_is_word ["value"] []
  a_is_keys_letter : Addr
  fd_is_keys_letter : FuncData
  F_is_keys_letter : Fun K "is_keys_letter" "is_keys_letter" s_is_keys_letter a_is_keys_letter fd_is_keys_letter
  g_is_keys_letter : mg "is_keys_letter" = some (.ref a_is_keys_letter)
  b_is_keys_letter : Binds K fd_is_keys_letter ["value"] []
  a_is_rows_letter : Addr
  fd_is_rows_letter : FuncData
  F_is_rows_letter : Fun K "is_rows_letter" "is_rows_letter" s_is_rows_letter a_is_rows_letter fd_is_rows_letter
  g_is_rows_letter : mg "is_rows_letter" = some (.ref a_is_rows_letter)
  b_is_rows_letter : Binds K fd_is_rows_letter ["value"] []
  a_is_piece_letter : Addr
  fd_is_piece_letter : FuncData
  F_is_piece_letter : Fun K "is_piece_letter" "is_piece_letter" s_is_piece_letter a_is_piece_letter fd_is_piece_letter
  g_is_piece_letter : mg "is_piece_letter" = some (.ref a_is_piece_letter)
  b_is_piece_letter : Binds K fd_is_piece_letter ["value"] []
  a_is_word_letter : Addr
  fd_is_word_letter : FuncData
  F_is_word_letter : Fun K "is_word_letter" "is_word_letter" s_is_word_letter a_is_word_letter fd_is_word_letter
  g_is_word_letter : mg "is_word_letter" = some (.ref a_is_word_letter)
  b_is_word_letter : Binds K fd_is_word_letter ["value"] []
  a_is_letter : Addr
  fd_is_letter : FuncData
  F_is_letter : Fun K "is_letter" "is_letter" s_is_letter a_is_letter fd_is_letter
  g_is_letter : mg "is_letter" = some (.ref a_is_letter)
  b_is_letter : Binds K fd_is_letter ["value"] []
  a_need_letter : Addr
  fd_need_letter : FuncData
  F_need_letter : Fun K "need_letter" "need_letter" s_need_letter a_need_letter fd_need_letter
  g_need_letter : mg "need_letter" = some (.ref a_need_letter)
  b_need_letter : Binds K fd_need_letter ["value"] []
  a_goal_of : Addr
  fd_goal_of : FuncData
  F_goal_of : Fun K "goal_of" "goal_of" s_goal_of a_goal_of fd_goal_of
  g_goal_of : mg "goal_of" = some (.ref a_goal_of)
  b_goal_of : Binds K fd_goal_of ["letter"] []
  a_Bag___init__ : Addr
  fd_Bag___init__ : FuncData
  e_Bag___init__ : Addr
  oe_Bag___init__ : ∀ H, SqT K H e_Bag___init__ []
  F_Bag___init__ : FunD K "__init__" "Bag.__init__" (defArgs s_Bag___init__) (defBody s_Bag___init__) (defScope s_Bag___init__) [V.ref e_Bag___init__] [] a_Bag___init__ fd_Bag___init__
  bd_Bag___init__ : Binds K fd_Bag___init__ ["self", "letters"] [Value.ref e_Bag___init__]
  m_Bag___init__ : Meth K C_Bag "__init__" a_Bag___init__
  b_Bag___init__ : Binds K fd_Bag___init__ ["self", "letters"] []
  a_Bag__fill : Addr
  fd_Bag__fill : FuncData
  F_Bag__fill : Fun K "_fill" "Bag._fill" s_Bag__fill a_Bag__fill fd_Bag__fill
  m_Bag__fill : Meth K C_Bag "_fill" a_Bag__fill
  b_Bag__fill : Binds K fd_Bag__fill ["self", "letters"] []
  a_Bag_sent : Addr
  fd_Bag_sent : FuncData
  F_Bag_sent : Fun K "sent" "Bag.sent" s_Bag_sent a_Bag_sent fd_Bag_sent
  m_Bag_sent : Meth K C_Bag "sent" a_Bag_sent
  b_Bag_sent : Binds K fd_Bag_sent ["self", "letter"] []
  a_Bag_sent_all : Addr
  fd_Bag_sent_all : FuncData
  F_Bag_sent_all : Fun K "sent_all" "Bag.sent_all" s_Bag_sent_all a_Bag_sent_all fd_Bag_sent_all
  m_Bag_sent_all : Meth K C_Bag "sent_all" a_Bag_sent_all
  b_Bag_sent_all : Binds K fd_Bag_sent_all ["self", "letters"] []
  a_Bag_letter : Addr
  fd_Bag_letter : FuncData
  F_Bag_letter : Fun K "letter" "Bag.letter" s_Bag_letter a_Bag_letter fd_Bag_letter
  m_Bag_letter : Meth K C_Bag "letter" a_Bag_letter
  b_Bag_letter : Binds K fd_Bag_letter ["self", "number"] []
  a_Bag_to : Addr
  fd_Bag_to : FuncData
  F_Bag_to : Fun K "to" "Bag.to" s_Bag_to a_Bag_to fd_Bag_to
  m_Bag_to : Meth K C_Bag "to" a_Bag_to
  b_Bag_to : Binds K fd_Bag_to ["self", "goal"] []
  a_Bag___len__ : Addr
  fd_Bag___len__ : FuncData
  F_Bag___len__ : Fun K "__len__" "Bag.__len__" s_Bag___len__ a_Bag___len__ fd_Bag___len__
  m_Bag___len__ : Meth K C_Bag "__len__" a_Bag___len__
  b_Bag___len__ : Binds K fd_Bag___len__ ["self"] []
  a_Bag___eq__ : Addr
  fd_Bag___eq__ : FuncData
  F_Bag___eq__ : Fun K "__eq__" "Bag.__eq__" s_Bag___eq__ a_Bag___eq__ fd_Bag___eq__
  m_Bag___eq__ : Meth K C_Bag "__eq__" a_Bag___eq__
  b_Bag___eq__ : Binds K fd_Bag___eq__ ["self", "other"] []
  a_Bag___str__ : Addr
  fd_Bag___str__ : FuncData
  F_Bag___str__ : Fun K "__str__" "Bag.__str__" s_Bag___str__ a_Bag___str__ fd_Bag___str__
  m_Bag___str__ : Meth K C_Bag "__str__" a_Bag___str__
  b_Bag___str__ : Binds K fd_Bag___str__ ["self"] []
  a_bag_of : Addr
  fd_bag_of : FuncData
  F_bag_of : Fun K "bag_of" "bag_of" s_bag_of a_bag_of fd_bag_of
  g_bag_of : mg "bag_of" = some (.ref a_bag_of)
  b_bag_of : Binds K fd_bag_of ["letters"] []
  a_need_letters : Addr
  fd_need_letters : FuncData
  F_need_letters : Fun K "need_letters" "need_letters" s_need_letters a_need_letters fd_need_letters
  g_need_letters : mg "need_letters" = some (.ref a_need_letters)
  b_need_letters : Binds K fd_need_letters ["value"] []
  a_is_number_of : Addr
  fd_is_number_of : FuncData
  F_is_number_of : Fun K "is_number_of" "is_number_of" s_is_number_of a_is_number_of fd_is_number_of
  g_is_number_of : mg "is_number_of" = some (.ref a_is_number_of)
  b_is_number_of : Binds K fd_is_number_of ["bag", "value"] []
  a_judged_handing : Addr
  fd_judged_handing : FuncData
  F_judged_handing : Fun K "judged_handing" "judged_handing" s_judged_handing a_judged_handing fd_judged_handing
  g_judged_handing : mg "judged_handing" = some (.ref a_judged_handing)
  b_judged_handing : Binds K fd_judged_handing ["bag", "handing"] []
  a_law_dice : Addr
  fd_law_dice : FuncData
  F_law_dice : Fun K "_law_dice" "_law_dice" s_law_dice a_law_dice fd_law_dice
  g_law_dice : mg "_law_dice" = some (.ref a_law_dice)
  b_law_dice : Binds K fd_law_dice ["script", "spot"] []
  a_law_roll : Addr
  fd_law_roll : FuncData
  F_law_roll : Fun K "_law_roll" "_law_roll" s_law_roll a_law_roll fd_law_roll
  g_law_roll : mg "_law_roll" = some (.ref a_law_roll)
  b_law_roll : Binds K fd_law_roll ["dice", "total"] []
  a_law_pick : Addr
  fd_law_pick : FuncData
  F_law_pick : Fun K "_law_pick" "_law_pick" s_law_pick a_law_pick fd_law_pick
  g_law_pick : mg "_law_pick" = some (.ref a_law_pick)
  b_law_pick : Binds K fd_law_pick ["dice", "items"] []
  a_law_shuffled : Addr
  fd_law_shuffled : FuncData
  F_law_shuffled : Fun K "_law_shuffled" "_law_shuffled" s_law_shuffled a_law_shuffled fd_law_shuffled
  g_law_shuffled : mg "_law_shuffled" = some (.ref a_law_shuffled)
  b_law_shuffled : Binds K fd_law_shuffled ["dice", "items"] []
  a_law_lt_goal : Addr
  fd_law_lt_goal : FuncData
  F_law_lt_goal : Fun K "_law_lt_goal" "_law_lt_goal" s_law_lt_goal a_law_lt_goal fd_law_lt_goal
  g_law_lt_goal : mg "_law_lt_goal" = some (.ref a_law_lt_goal)
  b_law_lt_goal : Binds K fd_law_lt_goal ["letter"] []
  a_law_lt_drawn : Addr
  fd_law_lt_drawn : FuncData
  F_law_lt_drawn : Fun K "_law_lt_drawn" "_law_lt_drawn" s_law_lt_drawn a_law_lt_drawn fd_law_lt_drawn
  g_law_lt_drawn : mg "_law_lt_drawn" = some (.ref a_law_lt_drawn)
  b_law_lt_drawn : Binds K fd_law_lt_drawn ["dice"] []
  a_law_bag_right : Addr
  fd_law_bag_right : FuncData
  F_law_bag_right : Fun K "_law_bag_right" "_law_bag_right" s_law_bag_right a_law_bag_right fd_law_bag_right
  g_law_bag_right : mg "_law_bag_right" = some (.ref a_law_bag_right)
  b_law_bag_right : Binds K fd_law_bag_right ["dice", "letters"] []
  a_law_judged : Addr
  fd_law_judged : FuncData
  F_law_judged : Fun K "_law_judged" "_law_judged" s_law_judged a_law_judged fd_law_judged
  g_law_judged : mg "_law_judged" = some (.ref a_law_judged)
  b_law_judged : Binds K fd_law_judged ["letters", "handing"] []
  a_law_handing_drawn : Addr
  fd_law_handing_drawn : FuncData
  F_law_handing_drawn : Fun K "_law_handing_drawn" "_law_handing_drawn" s_law_handing_drawn a_law_handing_drawn fd_law_handing_drawn
  g_law_handing_drawn : mg "_law_handing_drawn" = some (.ref a_law_handing_drawn)
  b_law_handing_drawn : Binds K fd_law_handing_drawn ["dice", "many"] []
  a_law_woven : Addr
  fd_law_woven : FuncData
  F_law_woven : Fun K "_law_woven" "_law_woven" s_law_woven a_law_woven fd_law_woven
  g_law_woven : mg "_law_woven" = some (.ref a_law_woven)
  b_law_woven : Binds K fd_law_woven ["dice", "letters"] []
  a_law_right : Addr
  fd_law_right : FuncData
  F_law_right : Fun K "_law_right" "_law_right" s_law_right a_law_right fd_law_right
  g_law_right : mg "_law_right" = some (.ref a_law_right)
  b_law_right : Binds K fd_law_right ["dice"] []
  mk_Bag : Mk K C_Bag a_Bag___init__
  z_abs : mg "abs" = none
  z_max : mg "max" = none
  z_min : mg "min" = none
  z_int : mg "int" = none
  z_len : mg "len" = none
  z_range : mg "range" = none
  z_isinstance : mg "isinstance" = none
  z_sorted : mg "sorted" = none
  z_str : mg "str" = none
  z_bool : mg "bool" = none
  z_tuple : mg "tuple" = none
  z_list : mg "list" = none
  z_all : mg "all" = none
  z_enumerate : mg "enumerate" = none
  t_MAX_SEATS : Tok
  g_MAX_SEATS : mg "MAX_SEATS" = some (.int 4 t_MAX_SEATS)
  t_MOST_ENTRY : Tok
  g_MOST_ENTRY : mg "MOST_ENTRY" = some (.int 127 t_MOST_ENTRY)
  t_PRINT_MODULUS : Tok
  g_PRINT_MODULUS : mg "PRINT_MODULUS" = some (.int 999999937 t_PRINT_MODULUS)
  t_MOST_WORD : Tok
  g_MOST_WORD : mg "MOST_WORD" = some (.int 63 t_MOST_WORD)
  t_HOST : Tok
  g_HOST : mg "HOST" = some (.int (-1) t_HOST)
  t_MOST_SEAT : Tok
  g_MOST_SEAT : mg "MOST_SEAT" = some (.int 5 t_MOST_SEAT)
  t_MOST_WORDS : Tok
  g_MOST_WORDS : mg "MOST_WORDS" = some (.int 20 t_MOST_WORDS)
  t_MOST_STRETCH : Tok
  g_MOST_STRETCH : mg "MOST_STRETCH" = some (.int 32 t_MOST_STRETCH)
  t_MOST_PIECES : Tok
  g_MOST_PIECES : mg "MOST_PIECES" = some (.int 100 t_MOST_PIECES)
  t_MOST_PIECE : Tok
  g_MOST_PIECE : mg "MOST_PIECE" = some (.int 200 t_MOST_PIECE)
  a_FORMS : Addr
  g_FORMS : mg "FORMS" = some (.ref a_FORMS)
  es_FORMS : Array DictEntry
  n_FORMS : Nat
  d_FORMS : KDict K w a_FORMS es_FORMS n_FORMS
  k_keys : PySem.W.nsIn K a_FORMS "keys" = some (some (.ref a_is_keys_letter))
  k_rows : PySem.W.nsIn K a_FORMS "rows" = some (some (.ref a_is_rows_letter))
  k_piece : PySem.W.nsIn K a_FORMS "piece" = some (some (.ref a_is_piece_letter))
  k_word : PySem.W.nsIn K a_FORMS "word" = some (some (.ref a_is_word_letter))
  a_TO_HOST : Addr
  g_TO_HOST : mg "TO_HOST" = some (.ref a_TO_HOST)
  o_TO_HOST : ∀ H, SqT K H a_TO_HOST [.str "keys", .str "word"]
  a_WISHES : Addr
  g_WISHES : mg "WISHES" = some (.ref a_WISHES)
  o_WISHES : ∀ H, SqT K H a_WISHES [.str "come", .str "go"]
  ha_Bag : PySem.W.findIn K (.ref C_Bag) "__class__" = some (some (.builtin "object.__class__"))
  hn_Bag : PySem.W.specialIn K (.builtin "object.__class__") "__get__" = some (some (.builtin "getset_descriptor.__get__"))
  ht_Bag : PySem.W.takesIn K (.builtin "object.__class__") = some true
  hm_Bag : PySem.W.mroIn K C_Bag (.type "object") = some true
  hc_Bag : (PySem.W.clsIn K C_Bag).isSome = true
  hy_Bag : PySem.W.typeIn K (.ref C_Bag) = some (.type "type")
  hs_Bag_tuple : PySem.W.subIn K (.type "tuple") (.ref C_Bag) = some false
  ne_Bag : PySem.W.findIn K (.ref C_Bag) "__ne__" = some (some (.builtin "object.__ne__"))
  ob_Bag : PySem.W.subIn K (.ref C_Bag) (.type "object") = some true
end Kz
set_option Elab.async false
set_option linter.all false
set_option maxRecDepth 100000
set_option maxHeartbeats 4000000
set_option exponentiation.threshold 500
namespace Kz
open PySem PySem.Spec PyProof.Rows L2 Evl Vr
local macro_rules | `(tactic| walk_at "sc") => `(tactic| first | (with_reducible assumption) | (with_reducible exact sc_mul (by omega)) | (with_reducible exact sc_mulr (by omega)) | (with_reducible exact sc_div (by omega) (by decide)) | (show (0 : Int) < _; omega) | (show _ ≠ (0 : Int); omega) | (with_reducible rfl) | decide)
local macro_rules | `(tactic| walk_at "sq") => `(tactic| first | assumption | exact sq_of (by assumption) | exact st_of (by assumption))
local macro_rules | `(tactic| walk_at "pl") => `(tactic| first | assumption | exact pl_int | exact pl_bl | exact pl_str | exact pl_non | exact pl_lst (by assumption) | exact pl_tup (by assumption) | exact pl_dK (by assumption))
local macro_rules | `(tactic| walk_at "rv") => `(tactic| first
  | with_reducible exact rv_I0
  | with_reducible exact ru_neg
  | ((with_reducible apply rv_I); walk_at "sc")
  | ((with_reducible apply rv_ixL); walk_at "sq"; first | rfl | assumption)
  | ((with_reducible apply rv_ixT); walk_at "sq"; first | rfl | assumption)
  | ((with_reducible apply rv_eq); rfl) | ((with_reducible apply rv_ne); rfl))
local macro_rules | `(tactic| walk_at "rc") => `(tactic| first
  | with_reducible exact rc_I1 | with_reducible exact rc_B1 | with_reducible exact rc_I2 | ((with_reducible apply rc_repr); walk_at "sc") | ((with_reducible apply rc_lenL); walk_at "sq")
  | ((with_reducible apply rc_isiInt); walk_at "pl") | ((with_reducible apply rc_isiBool); walk_at "pl"))
local macro_rules | `(tactic| walk_at "ea") => `(tactic| first
  | with_reducible exact ea_nil | ((with_reducible apply ea_cons); walk_at "ev"; walk_at "ea"))
local macro_rules | `(tactic| walk_at "pow") => `(tactic| first
  | with_reducible exact ev_pow (a := 10) (b := 9) (c := 1000000000) (by decide +kernel) (by decide +kernel)
  | with_reducible exact ev_pow (a := 10) (b := 10) (c := 10000000000) (by decide +kernel) (by decide +kernel)
  | with_reducible exact ev_pow (a := 10) (b := 12) (c := 1000000000000) (by decide +kernel) (by decide +kernel)
  | with_reducible exact ev_pow (a := 10) (b := 17) (c := 100000000000000000) (by decide +kernel) (by decide +kernel)
  | with_reducible exact ev_pow (a := 10) (b := 20) (c := 100000000000000000000) (by decide +kernel) (by decide +kernel)
  | with_reducible exact ev_pow (a := 10) (b := 29) (c := 100000000000000000000000000000) (by decide +kernel) (by decide +kernel)
  | with_reducible exact ev_pow (a := 10) (b := 30) (c := 1000000000000000000000000000000) (by decide +kernel) (by decide +kernel)
  | with_reducible exact ev_pow (a := 10) (b := 40) (c := 10000000000000000000000000000000000000000) (by decide +kernel) (by decide +kernel)
  | with_reducible exact ev_pow (a := 10) (b := 57) (c := 1000000000000000000000000000000000000000000000000000000000) (by decide +kernel) (by decide +kernel)
  | with_reducible exact ev_pow (a := 10) (b := 58) (c := 10000000000000000000000000000000000000000000000000000000000) (by decide +kernel) (by decide +kernel)
  | with_reducible exact ev_pow (a := 10) (b := 59) (c := 100000000000000000000000000000000000000000000000000000000000) (by decide +kernel) (by decide +kernel)
  | with_reducible exact ev_pow (a := 10) (b := 60) (c := 1000000000000000000000000000000000000000000000000000000000000) (by decide +kernel) (by decide +kernel))
local macro_rules | `(tactic| walk_at "call") => `(tactic| (intro H9 e9; first | exact ⟨_, rfl, rfl⟩ | exact ⟨_, _, rfl, rfl⟩ | exact ⟨_, _, _, rfl, rfl⟩ | exact ⟨_, rfl, by walk_at "pl", rfl⟩ | (refine ⟨_, _, _, rfl, ?_, rfl⟩; first | exact Plain.ex e9 (by assumption) | walk_at "pl") | (refine ⟨_, rfl, ?_, rfl⟩; first | exact Plain.ex e9 (by assumption) | walk_at "pl")))
local macro_rules | `(tactic| walk_at "ev") => `(tactic| first
  | with_reducible exact ev_c
  | exact ev_var rfl
  | walk_at "pow"
  | ((with_reducible apply ev_op); walk_at "ev"; walk_at "ev"; walk_at "rv")
  | ((with_reducible apply ev_un); walk_at "ev"; walk_at "rv")
  | ((with_reducible apply ev_cb); walk_at "ea"; walk_at "rc")
  | ((with_reducible apply ev_callP); walk_at "ea"; walk_at "call")
  | ((with_reducible apply ev_chain); walk_at "ev"; walk_at "ev"; walk_at "rv"; walk_at "ev"; walk_at "rv")
  | ((with_reducible apply ev_andV); walk_at "ev"; intro _; walk_at "ev")
  | ((with_reducible apply ev_orV); walk_at "ev"; intro _; walk_at "ev")
  | ((with_reducible apply ev_ite); walk_at "et"; intro _; walk_at "ev"; intro _; walk_at "ev")
  | ((with_reducible apply ev_notV); walk_at "ev"))
local macro_rules | `(tactic| walk_at "et") => `(tactic| first
  | ((with_reducible apply et_test); walk_at "ev")
  | ((with_reducible apply et_B); walk_at "ev")
  | ((with_reducible apply et_and); walk_at "et"; intro _; walk_at "et")
  | ((with_reducible apply et_or); walk_at "et"; intro _; walk_at "et")
  | ((with_reducible apply et_not); walk_at "et"))
section
variable {P : Program} {w : World} {K : PySem.W.Frag} {mg : Str → Option Value} {base : Heap}
def kIsInteger (K : PySem.W.Frag) (vs : List V) (H : Hp) (z : V) : Prop := ∃ x, vs = [x] ∧ Plain K H x ∧ z = .bl (isIntV x)
theorem ok_is_integer (T : Txt K mg w) : FnOk P w K mg base CX0 1 T.a_is_integer T.fd_is_integer ["value"] (Pure (kIsInteger K)) := by
  refine T.F_is_integer.ok sc_is_integer (fun vs H Q E h => ?_) (fun cdv A outer s H vs Q E hr h => ?_)
  · obtain ⟨_, ⟨a, rfl, _⟩, _⟩ := h; rfl
  · obtain ⟨_, ⟨x, rfl, hp, rfl⟩, q⟩ := h
    refine ⟨_, (pss_one (ps_ret (pe_and (pe_callB call_isi (by rfl) T.z_isinstance (by decide +kernel) (pa_cons (pv 0) (pa_cons (pe_bltn (v := .ty "int") (by rfl) T.z_int (by decide +kernel) rfl) pa_nil))) (pe_and (pe_not (pe_callB call_isi (by rfl) T.z_isinstance (by decide +kernel) (pa_cons (pv 0) (pa_cons (pe_bltn (v := .ty "bool") (by rfl) T.z_bool (by decide +kernel) rfl) pa_nil)))) (pe_one (pe_chain op_lt op_lt (pe_un un_neg (pe_op op_pow pe_int pe_int)) (pv 0) (pe_op op_pow pe_int pe_int))))))), ?_⟩
    refine s_ret (v := .bl (isIntV x)) ?_ q
    cases x with
    | int i =>
      apply ev_is
      walk_at "ev"
      show V.bl (true && (!false && (decide (-1000000000000000000000000000000000000000000000000000000000000 < i) && decide (i < 1000000000000000000000000000000000000000000000000000000000000)))) = _
      rfl
    | bl b =>
      refine ev_andV (a := true) (b := false) (by apply ev_is; walk_at "ev"; rfl) fun _ => ?_
      exact ev_andV (a := false) (b := false) (by apply ev_is; walk_at "ev"; rfl) (fun h => by cases h)
    | non => exact ev_andV (a := false) (b := false) (by apply ev_is; walk_at "ev"; rfl) (fun h => by cases h)
    | str _ => exact ev_andV (a := false) (b := false) (by apply ev_is; walk_at "ev"; rfl) (fun h => by cases h)
    | byt _ => exact ev_andV (a := false) (b := false) (by apply ev_is; walk_at "ev"; rfl) (fun h => by cases h)
    | flt _ => exact ev_andV (a := false) (b := false) (by apply ev_is; walk_at "ev"; rfl) (fun h => by cases h)
    | ref _ => exact ev_andV (a := false) (b := false) (by apply ev_is; walk_at "ev"; rfl) (fun h => by cases h)
    | ty _ => exact ev_andV (a := false) (b := false) (by apply ev_is; walk_at "ev"; rfl) (fun h => by cases h)
def kIsWithin (K : PySem.W.Frag) (vs : List V) (H : Hp) (z : V) : Prop := ∃ x lo hi, vs = [x, .int lo, .int hi] ∧ Plain K H x ∧ z = .bl (isWithin lo hi x)
theorem ok_is_within (T : Txt K mg w) : FnOk P w K mg base CX0 2 T.a_is_within T.fd_is_within ["value", "low", "high"] (Pure (kIsWithin K)) := by
  have G_is_integer := ok_is_integer (P := P) (w := w) (base := base) T
  refine T.F_is_within.ok sc_is_within (fun vs H Q E h => ?_) (fun cdv A outer s H vs Q E hr h => ?_)
  · obtain ⟨_, ⟨a, _, _, rfl, _⟩, _⟩ := h; rfl
  · obtain ⟨_, ⟨x, lo, hi, rfl, hp, rfl⟩, q⟩ := h
    refine ⟨_, (pss_one (ps_ret (pe_and (pe_call G_is_integer (hr.mono (by decide)) (by rfl) T.g_is_integer T.F_is_integer.kp T.b_is_integer .nil pass0 (pa_cons (pv 0) pa_nil)) (pe_one (pe_chain op_le op_le (pv 1) (pv 0) (pv 2)))))), ?_⟩
    refine s_ret (v := .bl (isWithin lo hi x)) ?_ q
    cases x with
    | int i => apply ev_is; walk_at "ev"; rfl
    | bl b => exact ev_andV (a := false) (b := false) (by apply ev_is; walk_at "ev"; rfl) (fun h => by cases h)
    | non => exact ev_andV (a := false) (b := false) (by apply ev_is; walk_at "ev"; rfl) (fun h => by cases h)
    | str _ => exact ev_andV (a := false) (b := false) (by apply ev_is; walk_at "ev"; rfl) (fun h => by cases h)
    | byt _ => exact ev_andV (a := false) (b := false) (by apply ev_is; walk_at "ev"; rfl) (fun h => by cases h)
    | flt _ => exact ev_andV (a := false) (b := false) (by apply ev_is; walk_at "ev"; rfl) (fun h => by cases h)
    | ref _ => exact ev_andV (a := false) (b := false) (by apply ev_is; walk_at "ev"; rfl) (fun h => by cases h)
    | ty _ => exact ev_andV (a := false) (b := false) (by apply ev_is; walk_at "ev"; rfl) (fun h => by cases h)
def kRoll (vs : List V) (_ : Hp) (p : Addr) (R : V → Prop) : Prop := ∃ t : Int, vs = [.ref p, .int t] ∧ 0 < t ∧ t.natAbs < 2 ^ 400 ∧ R = fun v => ∃ r : Int, v = .int r ∧ 0 ≤ r ∧ r < t
theorem ok_roll (T : Txt K mg w) : FnOk P w K mg base CX0 1 T.a_law_roll T.fd_law_roll ["dice", "total"] (Draws kRoll) := by
  refine T.F_law_roll.ok sc_law_roll (fun vs H Q E h => ?_) (fun cdv A outer s H vs Q E hr h => ?_)
  · obtain ⟨p, _, ⟨t, rfl, _⟩, _⟩ := h; rfl
  · obtain ⟨p, _, ⟨t, rfl, h0, h1, rfl⟩, ⟨a, b, c, hp⟩, q0⟩ := h
    have q : ∀ (r : Int) H', 0 ≤ r → r < t → Exd p H H' → Dice p H' → Q (.int r) H' := fun r H' a b => q0 _ H' ⟨r, rfl, a, b⟩
    refine ⟨_, (pss_cons (ps_if (pt_cmpR op_gt (pe_ix ix_list (pv 0) pe_int (fun _ _ => rfl)) pe_int (nomark _)) (pss_cons (ps_set (i := 2) sc_law_roll.nd rfl (.inl rfl) (pe_op op_mod (pe_callTy c_int (by rfl) T.z_int (by decide +kernel) (pa_cons (pe_ix ix_list (pv 0) pe_int (fun _ _ => rfl)) pa_nil)) (pv 1)))
  (pss_cons (ps_asg (pe_op op_fdivW (pe_ix ix_list (pv 0) pe_int (fun _ _ => rfl)) (pv 1)) (pg_sub (pv 0) pe_int set_list))
  (pss_one (ps_ret (pv 2))))) pss_nil)
  (pss_cons (ps_asg (pe_op op_add (pe_ix ix_list (pv 0) pe_int (fun _ _ => rfl)) pe_int) (pg_sub (pv 0) pe_int set_list))
  (pss_cons (ps_set (i := 3) sc_law_roll.nd rfl (.inl rfl) (pe_op op_mod (pe_callTy c_int (by rfl) T.z_int (by decide +kernel) (pa_cons (pe_op op_add (pe_ix ix_list (pv 0) pe_int (fun _ _ => rfl)) (pe_op op_mul pe_int (pe_ix ix_list (pv 0) pe_int (fun _ _ => rfl)))) pa_nil)) pe_int))
  (pss_cons (ps_set (i := 4) sc_law_roll.nd rfl (.inl rfl) (pe_op op_add (pe_op op_mul (pe_op op_mod (pe_callTy c_int (by rfl) T.z_int (by decide +kernel) (pa_cons (pe_op op_add (pe_op op_mul (pv 3) (pv 3)) (pe_op op_mul pe_int (pe_ix ix_list (pv 0) pe_int (fun _ _ => rfl)))) pa_nil)) pe_int) pe_int) (pv 3)))
  (pss_one (ps_ret (pe_op op_mod (pe_callTy c_int (by rfl) T.z_int (by decide +kernel) (pa_cons (pe_op op_fdivW (pv 4) pe_int) pa_nil)) (pv 1)))))))), ?_⟩
    have cd : CDivW a t := wide_div h0 h1 (by decide) (by decide)
    apply q_when
    case h => walk_at "et"
    · intro hb H1 e1
      have hp := e1 _ _ hp
      apply q_asg
      case h => walk_at "ev"
      intro H2 e2
      have hp := e2 _ _ hp
      refine q_setL (j := 0) hp (v := .int (a / t)) (by walk_at "ev") (ev_var rfl) ev_c (by show 0 < 3; decide) fun H3 e3 => ?_
      refine ⟨_, rfl, q _ _ (Int.emod_nonneg _ (by omega)) (Int.emod_lt_of_pos _ h0) ?_ ⟨_, _, _, upd_same⟩⟩
      exact (Exd.of (e1.trans (e2.trans e3))).trans Exd.upd
    · intro hb H1 e1
      have hp := e1 _ _ hp
      refine q_setL (j := 2) hp (v := .int (c + 1)) (by walk_at "ev") (ev_var rfl) ev_c (by show 2 < 3; decide) fun H3 e3 => ?_
      have hq : (upd H3 p (.lst ([.int a, .int b, .int c].set 2 (.int (c + 1))))) p = some (.lst [.int a, .int b, .int (c + 1)]) := upd_same
      have ex := (Exd.of (e1.trans e3)).trans (Exd.upd (p := p) (o := .lst ([.int a, .int b, .int c].set 2 (.int (c + 1)))))
      generalize upd H3 p (.lst ([.int a, .int b, .int c].set 2 (.int (c + 1)))) = H4 at hq ex
      apply q_asg
      case h => walk_at "ev"
      intro H5 e5
      have hq := e5 _ _ hq
      generalize ho : (b + 67867979 * (c + 1)) % 2305843009213693723 = one
      have ho1 : 0 ≤ one := by rw [← ho]; exact Int.emod_nonneg _ (by omega)
      have ho2 : one < 2305843009213693723 := by rw [← ho]; exact Int.emod_lt_of_pos _ (by omega)
      have cm : CMul one one := .inl (by constructor <;> omega)
      apply q_asg
      case h => walk_at "ev"
      intro H6 e6
      have hq := e6 _ _ hq
      apply s_ret
      case h => walk_at "ev"
      intro H7 e7
      exact q _ _ (Int.emod_nonneg _ (by omega)) (Int.emod_lt_of_pos _ h0) (ex.trans (Exd.of (e5.trans (e6.trans e7)))) ⟨_, _, _, e7 _ _ hq⟩
def spDice (K : PySem.W.Frag) : Sp := fun vs H Q _ => ∃ (a : Addr) (ns : List Int) (sp : Nat), vs = [.ref a, .int sp] ∧ SqL K H a (ns.map V.int) ∧ ∀ p H', H p = none → Ex H H' → Dice p H' → Q (.ref p) H'
theorem ok_dice (T : Txt K mg w) : FnOk P w K mg base CX0 1 T.a_law_dice T.fd_law_dice ["script", "spot"] (spDice K) := by
  refine T.F_law_dice.ok sc_law_dice (fun vs H Q E h => ?_) (fun cdv A outer s H vs Q E hr h => ?_)
  · obtain ⟨_, _, _, rfl, _⟩ := h; rfl
  · obtain ⟨a, ns, sp, rfl, hS, q⟩ := h
    refine ⟨_, (pss_cons (ps_set (i := 2) sc_law_dice.nd rfl (.inl rfl) (pe_ifExp (pt_cmpR op_lt (pv 1) (pe_callB c_len (by rfl) T.z_len PySem.boot_len (pa_cons (pv 0) pa_nil)) (nomark _)) (pe_callTy c_int (by rfl) T.z_int (by decide +kernel) (pa_cons (pe_ix ix_list (pv 0) (pv 1) (fun _ _ => rfl)) pa_nil)) (pe_op op_add (pe_op op_mul pe_int (pv 1)) pe_int)))
  (pss_cons (ps_set (i := 3) sc_law_dice.nd rfl (.inl rfl) (pe_op op_mod (pe_callB (c_max rfl) (by rfl) T.z_max (by decide +kernel) (pa_cons pe_int (pa_cons (pe_op op_sub (pe_callB c_abs (by rfl) T.z_abs (by decide +kernel) (pa_cons (pv 2) pa_nil)) (pe_op op_pow pe_int pe_int)) pa_nil))) (pe_op op_mulW (pe_op op_pow pe_int pe_int) (pe_op op_pow pe_int pe_int))))
  (pss_one (ps_ret (pe_lst (pa_cons (pv 3) (pa_cons (pe_op op_add (pe_op op_add (pe_op op_add (pe_op op_mul (pe_op op_mod (pe_callB c_abs (by rfl) T.z_abs (by decide +kernel) (pa_cons (pv 2) pa_nil)) pe_int) pe_int) (pe_op op_mul pe_int (pv 1))) (pe_op op_mul pe_int (pe_callTy c_intB (by rfl) T.z_int (by decide +kernel) (pa_cons (pe_cmpR op_lt (pv 2) pe_int (nomark _)) pa_nil)))) pe_int) (pa_cons pe_int pa_nil)))))))), ?_⟩
    refine q_asgI ?_ fun cell H1 e1 => ?_
    · by_cases hs : sp < ns.length
      · have hx : (ns.map V.int)[sp]? = some (.int ns[sp]) := by rw [List.getElem?_map, List.getElem?_eq_getElem hs]; rfl
        have hi : atI (ns.map V.int) (sp : Int) = some (.int ns[sp]) := atI_nat hx
        refine ⟨ns[sp], ev_if (b := true) ?_ (fun _ => by walk_at "ev") (fun h => by cases h)⟩
        apply et_is
        walk_at "et"
        rw [List.length_map]
        exact decide_eq_true (by omega)
      · refine ⟨_, ev_if (b := false) ?_ (fun h => by cases h) (fun _ => by walk_at "ev")⟩
        apply et_is
        walk_at "et"
        rw [List.length_map]
        exact decide_eq_false (by omega)
    refine q_asgI ⟨_, ev_op (y := .int 1000000000000000000000000000000000000000000000000000000000000000000000000000000000000000000000000000000000000000000000) (by walk_at "ev") (ev_is (ev_op (by walk_at "pow") (by walk_at "pow") (rv_I (by unfold CMulW; decide +kernel))) (by decide +kernel)) (rv_I (by decide))⟩ fun left H2 e2 => ?_
    have hm : ∀ n : Int, CMul (n % 1152921504606846817) 83 := fun n => .inr (by omega)
    have hm2 := hm (if cell < 0 then -cell else cell)
    refine s_retL (el_lst (by walk_at "ea") (by show 3 ≤ 100000; decide)) fun p H3 hp e3 h3 => ?_
    exact q p H3 (fresh_back (e1.trans e2) hp) ((e1.trans e2).trans e3) ⟨_, _, _, h3⟩
def kPick (K : PySem.W.Frag) (vs : List V) (H : Hp) (p : Addr) (R : V → Prop) : Prop := ∃ (a : Addr) (xs : List V), vs = [.ref p, .ref a] ∧ a ≠ p ∧ SqL K H a xs ∧ 0 < xs.length ∧ xs.length < 1000000 ∧ R = fun v => v ∈ xs
theorem ok_pick (T : Txt K mg w) : FnOk P w K mg base CX0 2 T.a_law_pick T.fd_law_pick ["dice", "items"] (Draws (kPick K)) := by
  have G_law_roll := ok_roll (P := P) (w := w) (base := base) T
  refine T.F_law_pick.ok sc_law_pick (fun vs H Q E h => ?_) (fun cdv A outer s H vs Q E hr h => ?_)
  · obtain ⟨p, _, ⟨_, _, rfl, _⟩, _⟩ := h; rfl
  · obtain ⟨p, _, ⟨a, xs, rfl, hne, hS, hl, hl2, rfl⟩, hd, q⟩ := h
    refine ⟨_, (pss_one (ps_ret (pe_ix ix_list (pv 1) (pe_call G_law_roll (hr.mono (by decide)) (by rfl) T.g_law_roll T.F_law_roll.kp T.b_law_roll .nil pass0 (pa_cons (pv 0) (pa_cons (pe_callB c_len (by rfl) T.z_len PySem.boot_len (pa_cons (pv 1) pa_nil)) pa_nil))) (fun _ _ => rfl)))), ?_⟩
    refine ⟨.ref a, rfl, ?_⟩
    refine goA (vs := [.ref p, .int xs.length]) (by walk_at "ea") fun H1 e1 => ?_
    refine ⟨p, _, ⟨(xs.length : Int), rfl, by omega, by rw [Int.natAbs_natCast]; exact Nat.lt_trans hl2 (by decide), rfl⟩, hd.ex e1, ?_⟩
    rintro v H2 ⟨r, rfl, hr0, hr1⟩ e2 d2
    obtain ⟨n, rfl⟩ := Int.eq_ofNat_of_zero_le hr0
    have hn : n < xs.length := by omega
    refine ⟨a, xs, n, xs[n], rfl, rfl, e2.l hne (ex_l e1 hS), atI_nat (List.getElem?_eq_getElem hn), ?_⟩
    exact q _ H2 (List.getElem_mem hn) ((Exd.of e1).trans e2) d2
end
end Kz
set_option Elab.async false
set_option linter.all false
set_option maxRecDepth 100000
set_option maxHeartbeats 4000000
set_option exponentiation.threshold 500
namespace Kz
open PySem PySem.Spec PyProof.Rows L2 Evl Vr
local macro_rules | `(tactic| walk_at "sc") => `(tactic| first | (with_reducible assumption) | (with_reducible exact sc_mul (by omega)) | (with_reducible exact sc_mulr (by omega)) | (with_reducible exact sc_div (by omega) (by decide)) | (show (0 : Int) < _; omega) | (show _ ≠ (0 : Int); omega) | (with_reducible rfl) | decide)
local macro_rules | `(tactic| walk_at "sq") => `(tactic| first | assumption | exact sq_of (by assumption) | exact st_of (by assumption))
local macro_rules | `(tactic| walk_at "pl") => `(tactic| first | assumption | exact pl_int | exact pl_bl | exact pl_str | exact pl_non | exact pl_lst (by assumption) | exact pl_tup (by assumption) | exact pl_dK (by assumption))
local macro_rules | `(tactic| walk_at "rv") => `(tactic| first
  | with_reducible exact rv_I0
  | with_reducible exact ru_neg
  | ((with_reducible apply rv_I); walk_at "sc")
  | ((with_reducible apply rv_ixL); walk_at "sq"; first | rfl | assumption)
  | ((with_reducible apply rv_ixT); walk_at "sq"; first | rfl | assumption)
  | ((with_reducible apply rv_eq); rfl) | ((with_reducible apply rv_ne); rfl))
local macro_rules | `(tactic| walk_at "rc") => `(tactic| first
  | with_reducible exact rc_I1 | with_reducible exact rc_B1 | with_reducible exact rc_I2 | ((with_reducible apply rc_repr); walk_at "sc") | ((with_reducible apply rc_lenL); walk_at "sq")
  | ((with_reducible apply rc_isiInt); walk_at "pl") | ((with_reducible apply rc_isiBool); walk_at "pl"))
local macro_rules | `(tactic| walk_at "ea") => `(tactic| first
  | with_reducible exact ea_nil | ((with_reducible apply ea_cons); walk_at "ev"; walk_at "ea"))
local macro_rules | `(tactic| walk_at "pow") => `(tactic| first
  | with_reducible exact ev_pow (a := 10) (b := 9) (c := 1000000000) (by decide +kernel) (by decide +kernel)
  | with_reducible exact ev_pow (a := 10) (b := 10) (c := 10000000000) (by decide +kernel) (by decide +kernel)
  | with_reducible exact ev_pow (a := 10) (b := 12) (c := 1000000000000) (by decide +kernel) (by decide +kernel)
  | with_reducible exact ev_pow (a := 10) (b := 17) (c := 100000000000000000) (by decide +kernel) (by decide +kernel)
  | with_reducible exact ev_pow (a := 10) (b := 20) (c := 100000000000000000000) (by decide +kernel) (by decide +kernel)
  | with_reducible exact ev_pow (a := 10) (b := 29) (c := 100000000000000000000000000000) (by decide +kernel) (by decide +kernel)
  | with_reducible exact ev_pow (a := 10) (b := 30) (c := 1000000000000000000000000000000) (by decide +kernel) (by decide +kernel)
  | with_reducible exact ev_pow (a := 10) (b := 40) (c := 10000000000000000000000000000000000000000) (by decide +kernel) (by decide +kernel)
  | with_reducible exact ev_pow (a := 10) (b := 57) (c := 1000000000000000000000000000000000000000000000000000000000) (by decide +kernel) (by decide +kernel)
  | with_reducible exact ev_pow (a := 10) (b := 58) (c := 10000000000000000000000000000000000000000000000000000000000) (by decide +kernel) (by decide +kernel)
  | with_reducible exact ev_pow (a := 10) (b := 59) (c := 100000000000000000000000000000000000000000000000000000000000) (by decide +kernel) (by decide +kernel)
  | with_reducible exact ev_pow (a := 10) (b := 60) (c := 1000000000000000000000000000000000000000000000000000000000000) (by decide +kernel) (by decide +kernel))
local macro_rules | `(tactic| walk_at "call") => `(tactic| (intro H9 e9; first | exact ⟨_, rfl, rfl⟩ | exact ⟨_, _, rfl, rfl⟩ | exact ⟨_, _, _, rfl, rfl⟩ | exact ⟨_, rfl, by walk_at "pl", rfl⟩ | (refine ⟨_, _, _, rfl, ?_, rfl⟩; first | exact Plain.ex e9 (by assumption) | walk_at "pl") | (refine ⟨_, rfl, ?_, rfl⟩; first | exact Plain.ex e9 (by assumption) | walk_at "pl")))
local macro_rules | `(tactic| walk_at "ev") => `(tactic| first
  | with_reducible exact ev_c
  | exact ev_var rfl
  | walk_at "pow"
  | ((with_reducible apply ev_op); walk_at "ev"; walk_at "ev"; walk_at "rv")
  | ((with_reducible apply ev_un); walk_at "ev"; walk_at "rv")
  | ((with_reducible apply ev_cb); walk_at "ea"; walk_at "rc")
  | ((with_reducible apply ev_callP); walk_at "ea"; walk_at "call")
  | ((with_reducible apply ev_chain); walk_at "ev"; walk_at "ev"; walk_at "rv"; walk_at "ev"; walk_at "rv")
  | ((with_reducible apply ev_andV); walk_at "ev"; intro _; walk_at "ev")
  | ((with_reducible apply ev_orV); walk_at "ev"; intro _; walk_at "ev")
  | ((with_reducible apply ev_ite); walk_at "et"; intro _; walk_at "ev"; intro _; walk_at "ev")
  | ((with_reducible apply ev_notV); walk_at "ev"))
local macro_rules | `(tactic| walk_at "et") => `(tactic| first
  | ((with_reducible apply et_test); walk_at "ev")
  | ((with_reducible apply et_B); walk_at "ev")
  | ((with_reducible apply et_and); walk_at "et"; intro _; walk_at "et")
  | ((with_reducible apply et_or); walk_at "et"; intro _; walk_at "et")
  | ((with_reducible apply et_not); walk_at "et"))
open En Wo
theorem c_lenK {X : Cx} {K : PySem.W.Frag} (h : X.K = K) : CallR X (.builtin "len") (rLenS K) := by
  subst h
  exact c_len
theorem pi_tupK {X : Cx} {K : PySem.W.Frag} {tg l : Expr} {tl : TE} (h : X.K = K) (hl : PE X l tl) : PI X tg l (iTup K tl) := by
  subst h
  exact pi_tup hl
theorem pi_listK {X : Cx} {K : PySem.W.Frag} {tg l : Expr} {tl : TE} (h : X.K = K) (hl : PE X l tl) : PI X tg l (iList K tl) := by
  subst h
  exact pi_list hl
theorem op_in_seqK {X : Cx} {K : PySem.W.Frag} (h : X.K = K) : OpR X (compareOp .In) (rIn K false) := by
  subst h
  exact op_in_seq
theorem op_notIn_seqK {X : Cx} {K : PySem.W.Frag} (h : X.K = K) : OpR X (compareOp .NotIn) (rIn K true) := by
  subst h
  exact op_notIn_seq
/-- a letter -/
inductive Lt where
  | keys (s t : Int) (ws : List Int) (pr : Int)
  | rows (s t : Int) (es : List (List Int))
  | piece (s t i m : Int) (z : Str)
  | word (s : Int) (z : Str)
  deriving DecidableEq
def intsD (ns : List Int) : PyData := .tuple (ns.map PyData.int)
def Lt.name : Lt → Str
  | .keys .. => "keys"
  | .rows .. => "rows"
  | .piece .. => "piece"
  | .word .. => "word"
def Lt.seat : Lt → Int
  | .keys s .. => s
  | .rows s .. => s
  | .piece s .. => s
  | .word s _ => s
def Lt.rest : Lt → List PyData
  | .keys _ t ws pr => [.int t, intsD ws, .int pr]
  | .rows _ t es => [.int t, .tuple (es.map intsD)]
  | .piece _ t i m z => [.int t, .int i, .int m, .str z]
  | .word _ z => [.str z]
def Lt.dat (l : Lt) : PyData := .tuple (.str l.name :: .int l.seat :: l.rest)
def Lt.goal : Lt → Int
  | .keys .. => -1
  | .rows s .. => s
  | .piece s .. => s
  | .word .. => -1
def LtAt (K : PySem.W.Frag) (H : Hp) (r : Addr) (l : Lt) : Prop := Dp K H (.ref r) l.dat
def whole (n : Int) : Prop := 0 ≤ n ∧ n < 1000000000000000000000000000000000000000000000000000000000000
def rowOk (n : Nat) (ns : List Int) : Prop := ns.length = n ∧ 1 ≤ n ∧ n ≤ 4 ∧ ∀ k ∈ ns, -1 ≤ k ∧ k ≤ 127
def textOk (z : Str) : Prop := 1 ≤ z.length ∧ z.length ≤ 200 ∧ Txt.isascii z = true ∧ Txt.isprintable z = true
def Lt.fine : Lt → Prop
  | .keys _ t ws pr => whole t ∧ ws.length ≤ 20 ∧ (∀ n ∈ ws, 0 ≤ n ∧ n ≤ 63) ∧ 0 ≤ pr ∧ pr ≤ 999999936
  | .rows _ t es => whole t ∧ es.length ≤ 32 ∧ ∃ n, ∀ e ∈ es, rowOk n e
  | .piece _ t i m z => whole t ∧ 1 ≤ m ∧ m ≤ 100 ∧ 0 ≤ i ∧ i ≤ m - 1 ∧ textOk z
  | .word _ z => z = "come" ∨ z = "go"
def Lt.ok (l : Lt) : Prop := 1 ≤ l.seat ∧ l.seat ≤ 5 ∧ l.fine
theorem whole_is {n : Int} (h : whole n) : isIntV (.int n) = true := by
  obtain ⟨h0, h1⟩ := h
  unfold isIntV
  simp only [Bool.and_eq_true, decide_eq_true_eq]
  omega
section
variable {H H' : Hp} {K : PySem.W.Frag} {r : Addr} {l : Lt}
theorem LtAt.ex (e : Ex H H') (h : LtAt K H r l) : LtAt K H' r l := dp_ex e h
theorem dpa_ints_inv : ∀ {ns : List Int} {xs : List V}, DpAll K H xs (ns.map PyData.int) → xs = ns.map V.int
  | [], xs, h => by
    cases h
    rfl
  | n :: ns, xs, h => by
    cases h with
    | cons h1 h2 =>
      cases h1
      rw [dpa_ints_inv h2]
      rfl
theorem dp_ints_inv {ns : List Int} {v : V} (h : Dp K H v (intsD ns)) : ∃ a, v = .ref a ∧ SqT K H a (ns.map V.int) := by
  cases h with
  | tup h1 h2 => exact ⟨_, rfl, by rw [← dpa_ints_inv h2]; exact h1⟩
/-- refs of rows -/
def RwsAt (K : PySem.W.Frag) (H : Hp) (rs : List Addr) (es : List (List Int)) : Prop := rs.length = es.length ∧ ∀ (i : Nat) (r : Addr) (e : List Int), rs[i]? = some r → es[i]? = some e → SqT K H r (e.map V.int)
theorem RwsAt.ex {rs : List Addr} {es : List (List Int)} (e : Ex H H') (h : RwsAt K H rs es) : RwsAt K H' rs es := ⟨h.1, fun i r x a b => ex_t e (h.2 i r x a b)⟩
theorem dpa_rows_inv : ∀ {es : List (List Int)} {xs : List V}, DpAll K H xs (es.map intsD) → ∃ rs : List Addr, xs = rs.map V.ref ∧ RwsAt K H rs es
  | [], xs, h => by
    cases h
    exact ⟨[], rfl, rfl, fun i r e a => by cases a⟩
  | e :: es, xs, h => by
    cases h with
    | cons h1 h2 =>
      obtain ⟨a, rfl, h3⟩ := dp_ints_inv h1
      obtain ⟨rs, rfl, h4⟩ := dpa_rows_inv h2
      exact ⟨a :: rs, rfl, by rw [List.length_cons, List.length_cons, h4.1], fun i r x y z => by
        cases i with
        | zero => cases y; cases z; exact h3
        | succ i => exact h4.2 i r x y z⟩
theorem LtAt.head (h : LtAt K H r l) : ∃ xs, SqT K H r (.str l.name :: .int l.seat :: xs) ∧ DpAll K H xs l.rest := by
  cases h with
  | tup h1 h2 =>
    cases h2 with
    | cons h3 h2 =>
      cases h2 with
      | cons h4 h2 =>
        cases h3
        cases h4
        exact ⟨_, h1, h2⟩
theorem LtAt.keys {s t pr : Int} {ws : List Int} (h : LtAt K H r (.keys s t ws pr)) : ∃ a, SqT K H r [.str "keys", .int s, .int t, .ref a, .int pr] ∧ SqT K H a (ws.map V.int) := by
  obtain ⟨xs, h1, h2⟩ := h.head
  cases h2 with
  | cons h3 h2 =>
    cases h2 with
    | cons h4 h2 =>
      cases h2 with
      | cons h5 h2 =>
        cases h2
        cases h3
        cases h5
        obtain ⟨a, rfl, h6⟩ := dp_ints_inv h4
        exact ⟨a, h1, h6⟩
theorem LtAt.rows {s t : Int} {es : List (List Int)} (h : LtAt K H r (.rows s t es)) : ∃ a rs, SqT K H r [.str "rows", .int s, .int t, .ref a] ∧ SqT K H a (rs.map V.ref) ∧ RwsAt K H rs es := by
  obtain ⟨xs, h1, h2⟩ := h.head
  cases h2 with
  | cons h3 h2 =>
    cases h2 with
    | cons h4 h2 =>
      cases h2
      cases h3
      cases h4 with
      | tup h5 h6 =>
        obtain ⟨rs, rfl, h7⟩ := dpa_rows_inv h6
        exact ⟨_, rs, h1, h5, h7⟩
theorem LtAt.piece {s t i m : Int} {z : Str} (h : LtAt K H r (.piece s t i m z)) : SqT K H r [.str "piece", .int s, .int t, .int i, .int m, .str z] := by
  obtain ⟨xs, h1, h2⟩ := h.head
  cases h2 with
  | cons h3 h2 =>
    cases h2 with
    | cons h4 h2 =>
      cases h2 with
      | cons h5 h2 =>
        cases h2 with
        | cons h6 h2 =>
          cases h2
          cases h3
          cases h4
          cases h5
          cases h6
          exact h1
theorem LtAt.word {s : Int} {z : Str} (h : LtAt K H r (.word s z)) : SqT K H r [.str "word", .int s, .str z] := by
  obtain ⟨xs, h1, h2⟩ := h.head
  cases h2 with
  | cons h3 h2 =>
    cases h2
    cases h3
    exact h1
end
section
variable {H : Hp} {K : PySem.W.Frag} {z : Str}
theorem isi_str : RC (rIsi K) [.str z, .ty "str"] H (.bl true) := fun H1 e Q q => ⟨.str z, .ty "str", .type "str", .type "str", true, rfl, .ty _, .base (.str z), kit_ty (r := true) (by decide +kernel), q H1 (Ex.refl H1)⟩
end
end Kz
set_option Elab.async false
set_option linter.all false
set_option maxRecDepth 100000
set_option maxHeartbeats 4000000
set_option exponentiation.threshold 500
namespace Kz
open PySem PySem.Spec PyProof.Rows L2 Evl Vr
local macro_rules | `(tactic| walk_at "sc") => `(tactic| first | (with_reducible assumption) | (with_reducible exact sc_mul (by omega)) | (with_reducible exact sc_mulr (by omega)) | (with_reducible exact sc_div (by omega) (by decide)) | (show (0 : Int) < _; omega) | (show _ ≠ (0 : Int); omega) | (with_reducible rfl) | decide)
local macro_rules | `(tactic| walk_at "sq") => `(tactic| first | assumption | exact sq_of (by assumption) | exact st_of (by assumption))
local macro_rules | `(tactic| walk_at "pl") => `(tactic| first | assumption | exact pl_int | exact pl_bl | exact pl_str | exact pl_non | exact pl_lst (by assumption) | exact pl_tup (by assumption) | exact pl_dK (by assumption))
local macro_rules | `(tactic| walk_at "rv") => `(tactic| first
  | with_reducible exact rv_I0
  | with_reducible exact ru_neg
  | ((with_reducible apply rv_I); walk_at "sc")
  | ((with_reducible apply rv_ixL); walk_at "sq"; first | rfl | assumption)
  | ((with_reducible apply rv_ixT); walk_at "sq"; first | rfl | assumption)
  | ((with_reducible apply rv_eq); rfl) | ((with_reducible apply rv_ne); rfl))
local macro_rules | `(tactic| walk_at "rc") => `(tactic| first
  | with_reducible exact rc_I1 | with_reducible exact rc_B1 | with_reducible exact rc_I2 | ((with_reducible apply rc_repr); walk_at "sc") | ((with_reducible apply rc_lenL); walk_at "sq")
  | ((with_reducible apply rc_isiInt); walk_at "pl") | ((with_reducible apply rc_isiBool); walk_at "pl"))
local macro_rules | `(tactic| walk_at "ea") => `(tactic| first
  | with_reducible exact ea_nil | ((with_reducible apply ea_cons); walk_at "ev"; walk_at "ea"))
local macro_rules | `(tactic| walk_at "pow") => `(tactic| first
  | with_reducible exact ev_pow (a := 10) (b := 9) (c := 1000000000) (by decide +kernel) (by decide +kernel)
  | with_reducible exact ev_pow (a := 10) (b := 10) (c := 10000000000) (by decide +kernel) (by decide +kernel)
  | with_reducible exact ev_pow (a := 10) (b := 12) (c := 1000000000000) (by decide +kernel) (by decide +kernel)
  | with_reducible exact ev_pow (a := 10) (b := 17) (c := 100000000000000000) (by decide +kernel) (by decide +kernel)
  | with_reducible exact ev_pow (a := 10) (b := 20) (c := 100000000000000000000) (by decide +kernel) (by decide +kernel)
  | with_reducible exact ev_pow (a := 10) (b := 29) (c := 100000000000000000000000000000) (by decide +kernel) (by decide +kernel)
  | with_reducible exact ev_pow (a := 10) (b := 30) (c := 1000000000000000000000000000000) (by decide +kernel) (by decide +kernel)
  | with_reducible exact ev_pow (a := 10) (b := 40) (c := 10000000000000000000000000000000000000000) (by decide +kernel) (by decide +kernel)
  | with_reducible exact ev_pow (a := 10) (b := 57) (c := 1000000000000000000000000000000000000000000000000000000000) (by decide +kernel) (by decide +kernel)
  | with_reducible exact ev_pow (a := 10) (b := 58) (c := 10000000000000000000000000000000000000000000000000000000000) (by decide +kernel) (by decide +kernel)
  | with_reducible exact ev_pow (a := 10) (b := 59) (c := 100000000000000000000000000000000000000000000000000000000000) (by decide +kernel) (by decide +kernel)
  | with_reducible exact ev_pow (a := 10) (b := 60) (c := 1000000000000000000000000000000000000000000000000000000000000) (by decide +kernel) (by decide +kernel))
local macro_rules | `(tactic| walk_at "call") => `(tactic| (intro H9 e9; first | exact ⟨_, rfl, rfl⟩ | exact ⟨_, _, rfl, rfl⟩ | exact ⟨_, _, _, rfl, rfl⟩ | exact ⟨_, rfl, by walk_at "pl", rfl⟩ | (refine ⟨_, _, _, rfl, ?_, rfl⟩; first | exact Plain.ex e9 (by assumption) | walk_at "pl") | (refine ⟨_, rfl, ?_, rfl⟩; first | exact Plain.ex e9 (by assumption) | walk_at "pl")))
local macro_rules | `(tactic| walk_at "ev") => `(tactic| first
  | with_reducible exact ev_c
  | exact ev_var rfl
  | walk_at "pow"
  | ((with_reducible apply ev_op); walk_at "ev"; walk_at "ev"; walk_at "rv")
  | ((with_reducible apply ev_un); walk_at "ev"; walk_at "rv")
  | ((with_reducible apply ev_cb); walk_at "ea"; walk_at "rc")
  | ((with_reducible apply ev_callP); walk_at "ea"; walk_at "call")
  | ((with_reducible apply ev_chain); walk_at "ev"; walk_at "ev"; walk_at "rv"; walk_at "ev"; walk_at "rv")
  | ((with_reducible apply ev_andV); walk_at "ev"; intro _; walk_at "ev")
  | ((with_reducible apply ev_orV); walk_at "ev"; intro _; walk_at "ev")
  | ((with_reducible apply ev_ite); walk_at "et"; intro _; walk_at "ev"; intro _; walk_at "ev")
  | ((with_reducible apply ev_notV); walk_at "ev"))
local macro_rules | `(tactic| walk_at "et") => `(tactic| first
  | ((with_reducible apply et_test); walk_at "ev")
  | ((with_reducible apply et_B); walk_at "ev")
  | ((with_reducible apply et_and); walk_at "et"; intro _; walk_at "et")
  | ((with_reducible apply et_or); walk_at "et"; intro _; walk_at "et")
  | ((with_reducible apply et_not); walk_at "et"))
open En Wo
section
variable {σ : L2.St} {H : Hp} {te tl : TE} {K : PySem.W.Frag} {tz : TS} {D : Ends} {p : Addr}
theorem q_asg5T {i1 i2 i3 i4 i5 : Nat} {v1 v2 v3 v4 v5 : V} (h : Ev te σ H (.ref p)) (hT : SqT K H p [v1, v2, v3, v4, v5]) (k : ∀ H1, Ex H H1 → tz D (((((σ.set i1 (some v1)).set i2 (some v2)).set i3 (some v3)).set i4 (some v4)).set i5 (some v5)) H1) : tSeq (tAsg te (gTup K 5 (gCons (gName i1) (gCons (gName i2) (gCons (gName i3) (gCons (gName i4) (gCons (gName i5) gNil))))))) tz D σ H :=
  h H (Ex.refl H) _ fun H1 e1 => ⟨p, _, rfl, ex_t e1 hT, rfl, _, _, rfl, _, _, rfl, _, _, rfl, _, _, rfl, _, _, rfl, rfl, k H1 e1⟩
theorem q_asg6T {i1 i2 i3 i4 i5 i6 : Nat} {v1 v2 v3 v4 v5 v6 : V} (h : Ev te σ H (.ref p)) (hT : SqT K H p [v1, v2, v3, v4, v5, v6]) (k : ∀ H1, Ex H H1 → tz D ((((((σ.set i1 (some v1)).set i2 (some v2)).set i3 (some v3)).set i4 (some v4)).set i5 (some v5)).set i6 (some v6)) H1) : tSeq (tAsg te (gTup K 6 (gCons (gName i1) (gCons (gName i2) (gCons (gName i3) (gCons (gName i4) (gCons (gName i5) (gCons (gName i6) gNil)))))))) tz D σ H :=
  h H (Ex.refl H) _ fun H1 e1 => ⟨p, _, rfl, ex_t e1 hT, rfl, _, _, rfl, _, _, rfl, _, _, rfl, _, _, rfl, _, _, rfl, _, _, rfl, rfl, k H1 e1⟩
/-- [g(n) for n in tuple of ints] -/
theorem el_lcTI {ns : List Int} {j : Nat} {vs : List Nat} (g : Int → V) (h : Ev tl σ H (.ref p)) (hT : SqT K H p (ns.map V.int)) (hz : ns.length ≤ 40000) (hw : ∀ x, wipe ((wipe σ vs).set j (some x)) vs = wipe σ vs)
    (he : ∀ (n : Int) H1, Ex H H1 → n ∈ ns → Ev te ((wipe σ vs).set j (some (.int n))) H1 (g n)) : EvL (tLc (iTup K tl) (gName j) tYes te vs) σ H (ns.map g) := by
  have e : given (ns.map V.int).length (fun _ => true) (fun i => g (ns.getD i 0)) = ns.map g := by
    rw [List.length_map, given_yes_map ns 0 g]
  rw [← e]
  refine el_lcT (fun _ => true) _ h hT (by rw [List.length_map]; exact hz) hw (fun i x H1 e1 hx => et_yes) fun i x H1 e1 hx _ => ?_
  rw [List.getElem?_map] at hx
  cases h : ns[i]? with
  | none => rw [h] at hx; cases hx
  | some n =>
    rw [h] at hx
    obtain rfl : x = .int n := (Option.some.inj hx).symm
    have hd : ns.getD i 0 = n := by rw [List.getD_eq_getElem?_getD, h]; rfl
    rw [hd]
    exact he n H1 e1 (List.mem_of_getElem? h)
/-- all([.. for n in tuple of ints]), all of them True -/
theorem ev_allTI {ns : List Int} {j : Nat} {vs : List Nat} (h : Ev tl σ H (.ref p)) (hT : SqT K H p (ns.map V.int)) (hz : ns.length ≤ 40000) (hw : ∀ x, wipe ((wipe σ vs).set j (some x)) vs = wipe σ vs)
    (he : ∀ (n : Int) H1, Ex H H1 → n ∈ ns → Ev te ((wipe σ vs).set j (some (.int n))) H1 (.bl true)) : Ev (tCB (rAll K) (tCons (tLc (iTup K tl) (gName j) tYes te vs) tNil)) σ H (.bl true) := by
  refine ev_is (ev_allN (bs := ns.map fun _ => true) ?_) ?_
  · rw [List.map_map]
    exact el_lcTI (fun _ => V.bl true) h hT hz hw he
  · refine congrArg V.bl ?_
    simp
end
theorem within_is {lo hi n : Int} (h : lo ≤ n ∧ n ≤ hi) (hn : isIntV (.int n) = true) : isWithin lo hi (.int n) = true := by
  show (isIntV (.int n) && (decide (lo ≤ n) && decide (n ≤ hi))) = true
  rw [hn, decide_eq_true h.1, decide_eq_true h.2]
  rfl
theorem int_is {n : Int} (h : -1000000000 ≤ n ∧ n ≤ 1000000000) : isIntV (.int n) = true := by
  unfold isIntV
  simp only [Bool.and_eq_true, decide_eq_true_eq]
  omega
section
variable {P : Program} {w : World} {K : PySem.W.Frag} {mg : Str → Option Value} {base : Heap}
theorem ok_is_whole (T : Txt K mg w) : FnOk P w K mg base CX0 2 T.a_is_whole T.fd_is_whole ["value"] (Pure fun vs _ z => ∃ n : Int, vs = [.int n] ∧ whole n ∧ z = .bl true) := by
  have G_is_integer := ok_is_integer (P := P) (w := w) (base := base) T
  refine T.F_is_whole.ok sc_is_whole (fun vs H Q E h => ?_) (fun cdv A outer s H vs Q E hr h => ?_)
  · obtain ⟨_, ⟨_, rfl, _⟩, _⟩ := h; rfl
  · obtain ⟨_, ⟨n, rfl, hn, rfl⟩, q⟩ := h
    refine ⟨_, (pss_one (ps_ret (pe_and (pe_call G_is_integer (hr.mono (by decide)) (by rfl) T.g_is_integer T.F_is_integer.kp T.b_is_integer .nil pass0 (pa_cons (pv 0) pa_nil)) (pe_one (pe_cmpR op_ge (pv 0) pe_int (nomark _)))))), ?_⟩
    exact s_ret (v := .bl true) (ev_is (ev_andV (a := true) (b := true) (ev_callP (vs := [.int n]) (by walk_at "ea") fun H1 e1 => ⟨_, rfl, pl_int, by rw [whole_is hn]⟩) fun _ => ev_is (ev_op (ev_var rfl) ev_c rv_I0) (congrArg V.bl (decide_eq_true hn.1))) rfl) q
theorem ok_is_word (T : Txt K mg w) : FnOk P w K mg base CX0 3 T.a_is_word T.fd_is_word ["value"] (Pure fun vs _ z => ∃ n : Int, vs = [.int n] ∧ 0 ≤ n ∧ n ≤ 63 ∧ z = .bl true) := by
  have G_is_within := ok_is_within (P := P) (w := w) (base := base) T
  refine T.F_is_word.ok sc_is_word (fun vs H Q E h => ?_) (fun cdv A outer s H vs Q E hr h => ?_)
  · obtain ⟨_, ⟨_, rfl, _⟩, _⟩ := h; rfl
  · obtain ⟨_, ⟨n, rfl, h0, h1, rfl⟩, q⟩ := h
    refine ⟨_, (pss_one (ps_ret (pe_call G_is_within (hr.mono (by decide)) (by rfl) T.g_is_within T.F_is_within.kp T.b_is_within .nil pass0 (pa_cons (pv 0) (pa_cons pe_int (pa_cons (pe_glob (v := .int (63)) rfl T.g_MOST_WORD ⟨_, rfl⟩) pa_nil)))))), ?_⟩
    exact s_ret (v := .bl true) (ev_callP (vs := [.int n, .int 0, .int 63]) (by walk_at "ea") fun H1 e1 => ⟨.int n, _, _, rfl, pl_int, by rw [within_is ⟨h0, h1⟩ (int_is (by omega))]⟩) q
theorem ok_is_print (T : Txt K mg w) : FnOk P w K mg base CX0 3 T.a_is_print T.fd_is_print ["value"] (Pure fun vs _ z => ∃ n : Int, vs = [.int n] ∧ 0 ≤ n ∧ n ≤ 999999936 ∧ z = .bl true) := by
  have G_is_within := ok_is_within (P := P) (w := w) (base := base) T
  refine T.F_is_print.ok sc_is_print (fun vs H Q E h => ?_) (fun cdv A outer s H vs Q E hr h => ?_)
  · obtain ⟨_, ⟨_, rfl, _⟩, _⟩ := h; rfl
  · obtain ⟨_, ⟨n, rfl, h0, h1, rfl⟩, q⟩ := h
    refine ⟨_, (pss_one (ps_ret (pe_call G_is_within (hr.mono (by decide)) (by rfl) T.g_is_within T.F_is_within.kp T.b_is_within .nil pass0 (pa_cons (pv 0) (pa_cons pe_int (pa_cons (pe_op op_sub (pe_glob (v := .int (999999937)) rfl T.g_PRINT_MODULUS ⟨_, rfl⟩) pe_int) pa_nil)))))), ?_⟩
    exact s_ret (v := .bl true) (ev_callP (vs := [.int n, .int 0, .int (999999937 - 1)]) (by walk_at "ea") fun H1 e1 => ⟨.int n, _, _, rfl, pl_int, by rw [within_is ⟨h0, by omega⟩ (int_is (by omega))]⟩) q
theorem ok_is_entry (T : Txt K mg w) : FnOk P w K mg base CX0 3 T.a_is_entry_of_seat T.fd_is_entry_of_seat ["value"] (Pure fun vs _ z => ∃ n : Int, vs = [.int n] ∧ -1 ≤ n ∧ n ≤ 127 ∧ z = .bl true) := by
  have G_is_within := ok_is_within (P := P) (w := w) (base := base) T
  refine T.F_is_entry_of_seat.ok sc_is_entry_of_seat (fun vs H Q E h => ?_) (fun cdv A outer s H vs Q E hr h => ?_)
  · obtain ⟨_, ⟨_, rfl, _⟩, _⟩ := h; rfl
  · obtain ⟨_, ⟨n, rfl, h0, h1, rfl⟩, q⟩ := h
    refine ⟨_, (pss_one (ps_ret (pe_call G_is_within (hr.mono (by decide)) (by rfl) T.g_is_within T.F_is_within.kp T.b_is_within .nil pass0 (pa_cons (pv 0) (pa_cons (pe_un un_neg pe_int) (pa_cons (pe_glob (v := .int (127)) rfl T.g_MOST_ENTRY ⟨_, rfl⟩) pa_nil)))))), ?_⟩
    exact s_ret (v := .bl true) (ev_callP (vs := [.int n, .int (-1), .int 127]) (by walk_at "ea") fun H1 e1 => ⟨.int n, _, _, rfl, pl_int, by rw [within_is ⟨h0, h1⟩ (int_is (by omega))]⟩) q
theorem ok_is_joint (T : Txt K mg w) : FnOk P w K mg base CX0 4 T.a_is_joint_of_some T.fd_is_joint_of_some ["value"] (Pure fun vs H z => ∃ (r : Addr) (ns : List Int) (n : Nat), vs = [.ref r] ∧ SqT K H r (ns.map V.int) ∧ rowOk n ns ∧ z = .bl true) := by
  have G_is_entry_of_seat := ok_is_entry (P := P) (w := w) (base := base) T
  refine T.F_is_joint_of_some.ok sc_is_joint_of_some (fun vs H Q E h => ?_) (fun cdv A outer s H vs Q E hr h => ?_)
  · obtain ⟨_, ⟨_, _, _, rfl, _⟩, _⟩ := h; rfl
  · obtain ⟨_, ⟨r, ns, n, rfl, hT, ⟨h1, h2, h3, h4⟩, rfl⟩, q⟩ := h
    refine ⟨_, (pss_cons (ps_if (PW.pt (pw_or (pt_not (pt_val (pe_callB call_isi (by rfl) T.z_isinstance (by decide +kernel) (pa_cons (pv 0) (pa_cons (pe_bltn (v := .ty "tuple") (by rfl) T.z_tuple (by decide +kernel) rfl) pa_nil))))) (pw_or1 (pt_not (pt_chain op_le op_le pe_int (pe_callB c_len (by rfl) T.z_len PySem.boot_len (pa_cons (pv 0) pa_nil)) (pe_glob (v := .int (4)) rfl T.g_MAX_SEATS ⟨_, rfl⟩)))))) (pss_one (ps_ret pe_bl)) pss_nil)
  (pss_one (ps_ret (pe_callB (cr_all rfl) (by rfl) T.z_all (by decide +kernel) (pa_cons (pe_lc (own := [("entry", 1)]) (g := gName 1) (by rfl) sc_is_joint_of_some.nd (pi_tup (pv 0)) (blkOk_by (own := [("entry", 1)]) (N := ["value", "entry"]) (sc := defScope s_is_joint_of_some) (by decide +kernel)) (fun _ _ _ _ _ => pg_name (i := 1) sc_is_joint_of_some.nd rfl (by first | exact Or.inl rfl | exact Or.inr rfl)) (fun _ _ _ _ _ => pts_nil) (fun _ _ _ _ _ => (pe_call G_is_entry_of_seat (hr.mono (by decide)) (by rfl) T.g_is_entry_of_seat T.F_is_entry_of_seat.kp T.b_is_entry_of_seat .nil pass0 (pa_cons (pv 1) pa_nil)))) pa_nil))))), ?_⟩
    have hlen : (ns.map V.int).length = n := by rw [List.length_map, h1]
    have hl := rc_lenT (H := H) hT
    rw [hlen] at hl
    refine q_when (b := false) (et_is (et_or (a := false) (b := false) (et_is (et_not (et_B (b := true) (ev_cb (vs := [.ref r, .ty "tuple"]) (by walk_at "ea") (rc_isiTup hT)))) rfl) fun _ => et_is (et_not (et_test (ev_chain ev_c (ev_cb (vs := [.ref r]) (by walk_at "ea") hl) rv_I0 ev_c rv_I0))) (by rw [decide_eq_true (by omega), decide_eq_true (by omega)]; rfl)) rfl) (fun h => by cases h) fun _ H1 e1 => ?_
    exact s_ret (v := .bl true) (ev_allTI (ev_var rfl) (ex_t e1 hT) (by omega) (fun _ => rfl) fun k H2 e2 hk => ev_callP (vs := [.int k]) (by walk_at "ea") fun H3 _ => ⟨k, rfl, (h4 k hk).1, (h4 k hk).2, rfl⟩) fun H2 e2 => q H2 (e1.trans e2)
theorem ok_has_signs (T : Txt K mg w) : FnOk P w K mg base CX0 1 T.a_has_signs T.fd_has_signs ["value", "least", "most"] (Pure fun vs _ z => ∃ s : Str, vs = [.str s, .int 1, .int 200] ∧ textOk s ∧ z = .bl true) := by
  refine T.F_has_signs.ok sc_has_signs (fun vs H Q E h => ?_) (fun cdv A outer s H vs Q E hr h => ?_)
  · obtain ⟨_, ⟨_, rfl, _⟩, _⟩ := h; rfl
  · obtain ⟨_, ⟨z, rfl, ⟨h1, h2, h3, h4⟩, rfl⟩, q⟩ := h
    refine ⟨_, (pss_one (ps_ret (pe_and (pe_callB call_isi (by rfl) T.z_isinstance (by decide +kernel) (pa_cons (pv 0) (pa_cons (pe_bltn (v := .ty "str") (by rfl) T.z_str (by decide +kernel) rfl) pa_nil))) (pe_and (pe_chain op_le op_le (pv 1) (pe_callB call_len_str (by rfl) T.z_len PySem.boot_len (pa_cons (pv 0) pa_nil)) (pv 2)) (pe_and (pe_m0 PySem.F.slot_str_isascii PySem.F.type_str_isascii mt_isascii (pv 0)) (pe_one (pe_m0 PySem.F.slot_str_isprintable PySem.F.type_str_isprintable mt_isprintable (pv 0)))))))), ?_⟩
    refine s_ret (v := .bl true) (ev_is (ev_andV (a := true) (b := true) (ev_cb (vs := [.str z, .ty "str"]) (by walk_at "ea") isi_str) fun _ => ev_andV (a := true) (b := true) (ev_is (ev_chain (ev_var rfl) (ev_cb (vs := [.str z]) (by walk_at "ea") (rc_lenS (by omega))) rv_I0 (ev_var rfl) rv_I0) (by rw [decide_eq_true (show (1 : Int) ≤ (z.length : Int) by omega), decide_eq_true (show (z.length : Int) ≤ 200 by omega)]; rfl)) fun _ => ev_is (ev_andV (ev_strM (ev_var rfl)) fun _ => ev_strM (ev_var rfl)) (by rw [h3, h4]; rfl)) rfl) q
theorem ok_keys_letter (T : Txt K mg w) : FnOk P w K mg base CX0 4 T.a_is_keys_letter T.fd_is_keys_letter ["value"] (Pure fun vs H z => ∃ (r : Addr) (s t : Int) (ws : List Int) (pr : Int), vs = [.ref r] ∧ LtAt K H r (.keys s t ws pr) ∧ (Lt.keys s t ws pr).ok ∧ z = .bl true) := by
  have G_is_whole := ok_is_whole (P := P) (w := w) (base := base) T
  have G_is_print := ok_is_print (P := P) (w := w) (base := base) T
  have G_is_word := ok_is_word (P := P) (w := w) (base := base) T
  refine T.F_is_keys_letter.ok sc_is_keys_letter (fun vs H Q E h => ?_) (fun cdv A outer s H vs Q E hr h => ?_)
  · obtain ⟨_, ⟨_, _, _, _, _, rfl, _⟩, _⟩ := h; rfl
  · obtain ⟨_, ⟨r, s, t, ws, pr, rfl, hl, ⟨s1, s5, ht, hw, hws, p0, p1⟩, rfl⟩, q⟩ := h
    refine ⟨_, (pss_cons (ps_if (pt_cmpR op_ne (pe_callB c_len (by rfl) T.z_len PySem.boot_len (pa_cons (pv 0) pa_nil)) pe_int (nomark _)) (pss_one (ps_ret pe_bl)) pss_nil)
  (pss_cons (ps_asg (pv 0) (pg_tup rfl (pgs_cons (pg_name (i := 1) sc_is_keys_letter.nd rfl (.inl rfl)) (pgs_cons (pg_name (i := 1) sc_is_keys_letter.nd rfl (.inl rfl)) (pgs_cons (pg_name (i := 2) sc_is_keys_letter.nd rfl (.inl rfl)) (pgs_cons (pg_name (i := 3) sc_is_keys_letter.nd rfl (.inl rfl)) (pgs_cons (pg_name (i := 4) sc_is_keys_letter.nd rfl (.inl rfl)) pgs_nil)))))))
  (pss_cons (ps_if (PW.pt (pw_or (pt_not (pt_val (pe_call G_is_whole (hr.mono (by decide)) (by rfl) T.g_is_whole T.F_is_whole.kp T.b_is_whole .nil pass0 (pa_cons (pv 2) pa_nil)))) (pw_or1 (pt_not (pt_val (pe_call G_is_print (hr.mono (by decide)) (by rfl) T.g_is_print T.F_is_print.kp T.b_is_print .nil pass0 (pa_cons (pv 4) pa_nil))))))) (pss_one (ps_ret pe_bl)) pss_nil)
  (pss_one (ps_ret (pe_and (pe_callB call_isi (by rfl) T.z_isinstance (by decide +kernel) (pa_cons (pv 3) (pa_cons (pe_bltn (v := .ty "tuple") (by rfl) T.z_tuple (by decide +kernel) rfl) pa_nil))) (pe_and (pe_cmpR op_le (pe_callB c_len (by rfl) T.z_len PySem.boot_len (pa_cons (pv 3) pa_nil)) (pe_glob (v := .int (20)) rfl T.g_MOST_WORDS ⟨_, rfl⟩) (nomark _)) (pe_one (pe_callB (cr_all rfl) (by rfl) T.z_all (by decide +kernel) (pa_cons (pe_lc (own := [("word", 5)]) (g := gName 5) (by rfl) sc_is_keys_letter.nd (pi_tup (pv 3)) (blkOk_by (own := [("word", 5)]) (N := ["value", "_", "first", "words", "print_of_world", "word"]) (sc := defScope s_is_keys_letter) (by decide +kernel)) (fun _ _ _ _ _ => pg_name (i := 5) sc_is_keys_letter.nd rfl (by first | exact Or.inl rfl | exact Or.inr rfl)) (fun _ _ _ _ _ => pts_nil) (fun _ _ _ _ _ => (pe_call G_is_word (hr.mono (by decide)) (by rfl) T.g_is_word T.F_is_word.kp T.b_is_word .nil pass0 (pa_cons (pv 5) pa_nil)))) pa_nil)))))))))), ?_⟩
    obtain ⟨a, hT, hA⟩ := hl.keys
    refine q_when (b := false) (et_is (et_test (ev_op (ev_cb (vs := [.ref r]) (by walk_at "ea") (rc_lenT hT)) ev_c (rv_ne rfl))) (by simp)) (fun h => by cases h) fun _ H1 e1 => ?_
    refine q_asg5T (ev_var rfl) (ex_t e1 hT) fun H2 e2 => ?_
    refine q_when (b := false) (et_is (et_or (a := false) (b := false) (et_is (et_not (et_B (b := true) (ev_callP (vs := [.int t]) (by walk_at "ea") fun H3 _ => ⟨t, rfl, ht, rfl⟩))) rfl) fun _ => et_is (et_not (et_B (b := true) (ev_callP (vs := [.int pr]) (by walk_at "ea") fun H3 _ => ⟨pr, rfl, p0, p1, rfl⟩))) rfl) rfl) (fun h => by cases h) fun _ H3 e3 => ?_
    have e13 := (e1.trans e2).trans e3
    have hA3 := ex_t e13 hA
    have hl := rc_lenT (H := H3) hA3
    rw [List.length_map] at hl
    exact s_ret (v := .bl true) (ev_is (ev_andV (a := true) (b := true) (ev_cb (vs := [.ref a, .ty "tuple"]) (by walk_at "ea") (rc_isiTup hA3)) fun _ => ev_andV (a := true) (b := true) (ev_is (ev_op (ev_cb (vs := [.ref a]) (by walk_at "ea") hl) ev_c rv_I0) (congrArg V.bl (decide_eq_true (by omega)))) fun _ => ev_allTI (ev_var rfl) hA3 (by omega) (fun _ => rfl) fun k H4 e4 hk => ev_callP (vs := [.int k]) (by walk_at "ea") fun H5 _ => ⟨k, rfl, (hws k hk).1, (hws k hk).2, rfl⟩) rfl) fun H4 e4 => q H4 (e13.trans e4)
theorem ok_rows_letter (T : Txt K mg w) : FnOk P w K mg base CX0 5 T.a_is_rows_letter T.fd_is_rows_letter ["value"] (Pure fun vs H z => ∃ (r : Addr) (s t : Int) (es : List (List Int)), vs = [.ref r] ∧ LtAt K H r (.rows s t es) ∧ (Lt.rows s t es).ok ∧ z = .bl true) := by
  have G_is_whole := ok_is_whole (P := P) (w := w) (base := base) T
  have G_is_joint_of_some := ok_is_joint (P := P) (w := w) (base := base) T
  refine T.F_is_rows_letter.ok sc_is_rows_letter (fun vs H Q E h => ?_) (fun cdv A outer s H vs Q E hr h => ?_)
  · obtain ⟨_, ⟨_, _, _, _, rfl, _⟩, _⟩ := h; rfl
  · obtain ⟨_, ⟨r, s, t, es, rfl, hl, ⟨s1, s5, ht, hes, n, hn⟩, rfl⟩, q⟩ := h
    refine ⟨_, (pss_cons (ps_if (pt_cmpR op_ne (pe_callB c_len (by rfl) T.z_len PySem.boot_len (pa_cons (pv 0) pa_nil)) pe_int (nomark _)) (pss_one (ps_ret pe_bl)) pss_nil)
  (pss_cons (ps_asg (pv 0) (pg_tup rfl (pgs_cons (pg_name (i := 1) sc_is_rows_letter.nd rfl (.inl rfl)) (pgs_cons (pg_name (i := 1) sc_is_rows_letter.nd rfl (.inl rfl)) (pgs_cons (pg_name (i := 2) sc_is_rows_letter.nd rfl (.inl rfl)) (pgs_cons (pg_name (i := 3) sc_is_rows_letter.nd rfl (.inr rfl)) pgs_nil))))))
  (pss_cons (ps_if (PW.pt (pw_or (pt_not (pt_val (pe_call G_is_whole (hr.mono (by decide)) (by rfl) T.g_is_whole T.F_is_whole.kp T.b_is_whole .nil pass0 (pa_cons (pv 2) pa_nil)))) (pw_or (pt_not (pt_val (pe_callB call_isi (by rfl) T.z_isinstance (by decide +kernel) (pa_cons (pv 3) (pa_cons (pe_bltn (v := .ty "tuple") (by rfl) T.z_tuple (by decide +kernel) rfl) pa_nil))))) (pw_or1 (pt_cmpR op_gt (pe_callB c_len (by rfl) T.z_len PySem.boot_len (pa_cons (pv 3) pa_nil)) (pe_glob (v := .int (32)) rfl T.g_MOST_STRETCH ⟨_, rfl⟩) (nomark _)))))) (pss_one (ps_ret pe_bl)) pss_nil)
  (pss_cons (ps_if (pt_not (pt_val (pe_callB (cr_all rfl) (by rfl) T.z_all (by decide +kernel) (pa_cons (pe_lc (own := [("joint", 4)]) (g := gName 4) (by rfl) sc_is_rows_letter.nd (pi_tup (pv 3)) (blkOk_by (own := [("joint", 4)]) (N := ["value", "_", "first", "entries", "joint"]) (sc := defScope s_is_rows_letter) (by decide +kernel)) (fun _ _ _ _ _ => pg_name (i := 4) sc_is_rows_letter.nd rfl (by first | exact Or.inl rfl | exact Or.inr rfl)) (fun _ _ _ _ _ => pts_nil) (fun _ _ _ _ _ => (pe_call G_is_joint_of_some (hr.mono (by decide)) (by rfl) T.g_is_joint_of_some T.F_is_joint_of_some.kp T.b_is_joint_of_some .nil pass0 (pa_cons (pv 4) pa_nil)))) pa_nil)))) (pss_one (ps_ret pe_bl)) pss_nil)
  (pss_one (ps_ret (pe_callB (cr_all rfl) (by rfl) T.z_all (by decide +kernel) (pa_cons (pe_lc (own := [("joint", 4)]) (g := gName 4) (by rfl) sc_is_rows_letter.nd (pi_tup (pv 3)) (blkOk_by (own := [("joint", 4)]) (N := ["value", "_", "first", "entries", "joint"]) (sc := defScope s_is_rows_letter) (by decide +kernel)) (fun _ _ _ _ _ => pg_name (i := 4) sc_is_rows_letter.nd rfl (by first | exact Or.inl rfl | exact Or.inr rfl)) (fun _ _ _ _ _ => pts_nil) (fun _ _ _ _ _ => (pe_cmpR op_eq (pe_callB (c_lenK (K := K) rfl) (by rfl) T.z_len PySem.boot_len (pa_cons (pv 4) pa_nil)) (pe_callB (c_lenK (K := K) rfl) (by rfl) T.z_len PySem.boot_len (pa_cons (pe_ix (ix_tupK (K := K) rfl) (pv 3) pe_int (fun _ _ => rfl)) pa_nil)) (nomark _)))) pa_nil)))))))), ?_⟩
    obtain ⟨a, rs, hT, hA, hR⟩ := hl.rows
    have hll := rc_lenT (H := H) hA
    rw [List.length_map, hR.1] at hll
    refine q_when (b := false) (et_is (et_test (ev_op (ev_cb (vs := [.ref r]) (by walk_at "ea") (rc_lenT hT)) ev_c (rv_ne rfl))) (by simp)) (fun h => by cases h) fun _ H1 e1 => ?_
    refine q_asg4T (ev_var rfl) (ex_t e1 hT) fun H2 e2 => ?_
    have e12 := e1.trans e2
    have hA2 := ex_t e12 hA
    have hll := rc_lenT (H := H2) hA2
    rw [List.length_map, hR.1] at hll
    refine q_when (b := false) (et_is (et_or (a := false) (b := false) (et_is (et_not (et_B (b := true) (ev_callP (vs := [.int t]) (by walk_at "ea") fun H3 _ => ⟨t, rfl, ht, rfl⟩))) rfl) fun _ => et_or (a := false) (b := false) (et_is (et_not (et_B (b := true) (ev_cb (vs := [.ref a, .ty "tuple"]) (by walk_at "ea") (rc_isiTup hA2)))) rfl) fun _ => et_is (et_test (ev_op (ev_cb (vs := [.ref a]) (by walk_at "ea") hll) ev_c rv_I0)) (decide_eq_false (by omega))) rfl) (fun h => by cases h) fun _ H3 e3 => ?_
    have e13 := e12.trans e3
    have hA3 := ex_t e3 hA2
    have hR3 := hR.ex e13
    have e : given (rs.map V.ref).length (fun _ => true) (fun i => V.bl true) = (es.map fun _ => true).map V.bl := by
      rw [List.length_map, hR.1, given_yes_map es [] (fun _ => V.bl true), List.map_map]
      rfl
    refine q_when (b := false) (et_is (et_not (et_B (b := true) (ev_is (ev_allN (bs := es.map fun _ => true) ?_) (congrArg V.bl (by simp))))) rfl) (fun h => by cases h) fun _ H4 e4 => ?_
    · rw [← e]
      refine el_lcT (fun _ => true) _ (ev_var rfl) hA3 (by rw [List.length_map, hR.1]; omega) (fun _ => rfl) (fun i x H4 e4 hx => et_yes) fun i x H4 e4 hx _ => ?_
      rw [List.getElem?_map] at hx
      cases hq : rs[i]? with
      | none => rw [hq] at hx; cases hx
      | some r2 =>
        rw [hq] at hx
        obtain rfl : x = .ref r2 := (Option.some.inj hx).symm
        have hi : i < es.length := by have := (List.getElem?_eq_some_iff.mp hq).1; have := hR.1; omega
        have hT4 := ex_t e4 (hR3.2 i r2 _ hq (List.getElem?_eq_getElem hi))
        have ho := hn _ (List.getElem_mem hi)
        exact ev_callP (vs := [.ref r2]) (by walk_at "ea") fun H5 e5 => ⟨r2, es[i], n, rfl, ex_t e5 hT4, ho, rfl⟩
    have e14 := e13.trans e4
    have hA4 := ex_t e4 hA3
    have hR4 := hR3.ex e4
    refine s_ret (v := .bl true) (ev_is (ev_allN (bs := es.map fun _ => true) ?_) (congrArg V.bl (by simp))) fun H5 e5 => q H5 (e14.trans e5)
    rw [← e]
    refine el_lcT (fun _ => true) _ (ev_var rfl) hA4 (by rw [List.length_map, hR.1]; omega) (fun _ => rfl) (fun i x H5 e5 hx => et_yes) fun i x H5 e5 hx _ => ?_
    rw [List.getElem?_map] at hx
    cases hq : rs[i]? with
    | none => rw [hq] at hx; cases hx
    | some r2 =>
      rw [hq] at hx
      obtain rfl : x = .ref r2 := (Option.some.inj hx).symm
      have hi : i < es.length := by have := (List.getElem?_eq_some_iff.mp hq).1; have := hR.1; omega
      have hT4 := ex_t e5 (hR4.2 i r2 _ hq (List.getElem?_eq_getElem hi))
      have ho := hn _ (List.getElem_mem hi)
      have h0 : 0 < es.length := by omega
      have h0r : 0 < rs.length := by have := hR.1; omega
      have hT0 := ex_t e5 (hR4.2 0 _ _ (List.getElem?_eq_getElem h0r) (List.getElem?_eq_getElem h0))
      have ho0 := hn _ (List.getElem_mem h0)
      have l1 := rc_lenT (H := H5) hT4
      have l0 := rc_lenT (H := H5) hT0
      rw [List.length_map, ho.1] at l1
      rw [List.length_map, ho0.1] at l0
      have hx0 : (rs.map V.ref)[0]? = some (.ref (rs[0]'h0r)) := by rw [List.getElem?_map, List.getElem?_eq_getElem h0r]; rfl
      exact ev_is (ev_op (ev_cb (vs := [.ref r2]) (by walk_at "ea") l1) (ev_cb (vs := [.ref (rs[0]'h0r)]) (ea_cons (ev_op (ev_var rfl) ev_c (rv_ixT (ex_t e5 hA4) (atI_nat (j := 0) hx0))) ea_nil) l0) (rv_eq rfl)) (congrArg V.bl (decide_eq_true rfl))
theorem ok_piece_letter (T : Txt K mg w) : FnOk P w K mg base CX0 3 T.a_is_piece_letter T.fd_is_piece_letter ["value"] (Pure fun vs H z => ∃ (r : Addr) (s t i m : Int) (y : Str), vs = [.ref r] ∧ LtAt K H r (.piece s t i m y) ∧ (Lt.piece s t i m y).ok ∧ z = .bl true) := by
  have G_is_whole := ok_is_whole (P := P) (w := w) (base := base) T
  have G_is_within := ok_is_within (P := P) (w := w) (base := base) T
  have G_has_signs := ok_has_signs (P := P) (w := w) (base := base) T
  refine T.F_is_piece_letter.ok sc_is_piece_letter (fun vs H Q E h => ?_) (fun cdv A outer s H vs Q E hr h => ?_)
  · obtain ⟨_, ⟨_, _, _, _, _, _, rfl, _⟩, _⟩ := h; rfl
  · obtain ⟨_, ⟨r, s, t, i, m, y, rfl, hl, ⟨s1, s5, ht, m1, m2, i0, i1, hy⟩, rfl⟩, q⟩ := h
    refine ⟨_, (pss_cons (ps_if (pt_cmpR op_ne (pe_callB c_len (by rfl) T.z_len PySem.boot_len (pa_cons (pv 0) pa_nil)) pe_int (nomark _)) (pss_one (ps_ret pe_bl)) pss_nil)
  (pss_cons (ps_asg (pv 0) (pg_tup rfl (pgs_cons (pg_name (i := 1) sc_is_piece_letter.nd rfl (.inl rfl)) (pgs_cons (pg_name (i := 1) sc_is_piece_letter.nd rfl (.inl rfl)) (pgs_cons (pg_name (i := 2) sc_is_piece_letter.nd rfl (.inl rfl)) (pgs_cons (pg_name (i := 3) sc_is_piece_letter.nd rfl (.inl rfl)) (pgs_cons (pg_name (i := 4) sc_is_piece_letter.nd rfl (.inl rfl)) (pgs_cons (pg_name (i := 5) sc_is_piece_letter.nd rfl (.inl rfl)) pgs_nil))))))))
  (pss_cons (ps_if (PW.pt (pw_or (pt_not (pt_val (pe_call G_is_whole (hr.mono (by decide)) (by rfl) T.g_is_whole T.F_is_whole.kp T.b_is_whole .nil pass0 (pa_cons (pv 2) pa_nil)))) (pw_or (pt_not (pt_val (pe_call G_is_within (hr.mono (by decide)) (by rfl) T.g_is_within T.F_is_within.kp T.b_is_within .nil pass0 (pa_cons (pv 4) (pa_cons pe_int (pa_cons (pe_glob (v := .int (100)) rfl T.g_MOST_PIECES ⟨_, rfl⟩) pa_nil)))))) (pw_or1 (pt_not (pt_val (pe_call G_is_within (hr.mono (by decide)) (by rfl) T.g_is_within T.F_is_within.kp T.b_is_within .nil pass0 (pa_cons (pv 3) (pa_cons pe_int (pa_cons (pe_op op_sub (pv 4) pe_int) pa_nil)))))))))) (pss_one (ps_ret pe_bl)) pss_nil)
  (pss_one (ps_ret (pe_call G_has_signs (hr.mono (by decide)) (by rfl) T.g_has_signs T.F_has_signs.kp T.b_has_signs .nil pass0 (pa_cons (pv 5) (pa_cons pe_int (pa_cons (pe_glob (v := .int (200)) rfl T.g_MOST_PIECE ⟨_, rfl⟩) pa_nil))))))))), ?_⟩
    have hT := hl.piece
    refine q_when (b := false) (et_is (et_test (ev_op (ev_cb (vs := [.ref r]) (by walk_at "ea") (rc_lenT hT)) ev_c (rv_ne rfl))) (by simp)) (fun h => by cases h) fun _ H1 e1 => ?_
    refine q_asg6T (ev_var rfl) (ex_t e1 hT) fun H2 e2 => ?_
    refine q_when (b := false) (et_is (et_or (a := false) (b := false) (et_is (et_not (et_B (b := true) (ev_callP (vs := [.int t]) (by walk_at "ea") fun H3 _ => ⟨t, rfl, ht, rfl⟩))) rfl) fun _ => et_or (a := false) (b := false) (et_is (et_not (et_B (b := true) (ev_callP (vs := [.int m, .int 1, .int 100]) (by walk_at "ea") fun H3 _ => ⟨.int m, _, _, rfl, pl_int, by rw [within_is ⟨m1, m2⟩ (int_is (by omega))]⟩))) rfl) fun _ => et_is (et_not (et_B (b := true) (ev_callP (vs := [.int i, .int 0, .int (m - 1)]) (by walk_at "ea") fun H3 _ => ⟨.int i, _, _, rfl, pl_int, by rw [within_is ⟨i0, i1⟩ (int_is (by omega))]⟩))) rfl) rfl) (fun h => by cases h) fun _ H3 e3 => ?_
    exact s_ret (v := .bl true) (ev_callP (vs := [.str y, .int 1, .int 200]) (by walk_at "ea") fun H4 _ => ⟨y, rfl, hy, rfl⟩) fun H4 e4 => q H4 (((e1.trans e2).trans e3).trans e4)
theorem ok_word_letter (T : Txt K mg w) : FnOk P w K mg base CX0 1 T.a_is_word_letter T.fd_is_word_letter ["value"] (Pure fun vs H z => ∃ (r : Addr) (s : Int) (y : Str), vs = [.ref r] ∧ LtAt K H r (.word s y) ∧ (Lt.word s y).ok ∧ z = .bl true) := by
  refine T.F_is_word_letter.ok sc_is_word_letter (fun vs H Q E h => ?_) (fun cdv A outer s H vs Q E hr h => ?_)
  · obtain ⟨_, ⟨_, _, _, rfl, _⟩, _⟩ := h; rfl
  · obtain ⟨_, ⟨r, s, y, rfl, hl, ⟨s1, s5, hy⟩, rfl⟩, q⟩ := h
    refine ⟨_, (pss_one (ps_ret (pe_and (pe_cmpR op_eq (pe_callB c_len (by rfl) T.z_len PySem.boot_len (pa_cons (pv 0) pa_nil)) pe_int (nomark _)) (pe_and (pe_callB call_isi (by rfl) T.z_isinstance (by decide +kernel) (pa_cons (pe_ix ix_tup (pv 0) pe_int (fun _ _ => rfl)) (pa_cons (pe_bltn (v := .ty "str") (by rfl) T.z_str (by decide +kernel) rfl) pa_nil))) (pe_one (pe_cmpR op_in_seq (pe_ix ix_tup (pv 0) pe_int (fun _ _ => rfl)) (pe_glob (v := .ref _) rfl T.g_WISHES rfl) (by rfl))))))), ?_⟩
    have hT := hl.word
    have hin : inV (.str y) [V.str "come", V.str "go"] = true := by
      rcases hy with rfl | rfl <;> decide +kernel
    exact s_ret (v := .bl true) (ev_is (ev_andV (a := true) (b := true) (ev_is (ev_op (ev_cb (vs := [.ref r]) (by walk_at "ea") (rc_lenT hT)) ev_c (rv_eq rfl)) (by simp)) fun _ => ev_andV (a := true) (b := true) (ev_cb (vs := [.str y, .ty "str"]) (ea_cons (ev_op (ev_var rfl) ev_c (rv_ixT hT rfl)) (ea_cons ev_c ea_nil)) isi_str) fun _ => ev_is (ev_op (ev_op (ev_var rfl) ev_c (rv_ixT hT rfl)) ev_c (rv_isT (T.o_WISHES H) rfl (by decide))) (by rw [hin])) rfl) q
end
end Kz
set_option Elab.async false
set_option linter.all false
set_option maxRecDepth 100000
set_option maxHeartbeats 4000000
set_option exponentiation.threshold 500
namespace Kz
open PySem PySem.Spec PyProof.Rows L2 Evl Vr
local macro_rules | `(tactic| walk_at "sc") => `(tactic| first | (with_reducible assumption) | (with_reducible exact sc_mul (by omega)) | (with_reducible exact sc_mulr (by omega)) | (with_reducible exact sc_div (by omega) (by decide)) | (show (0 : Int) < _; omega) | (show _ ≠ (0 : Int); omega) | (with_reducible rfl) | decide)
local macro_rules | `(tactic| walk_at "sq") => `(tactic| first | assumption | exact sq_of (by assumption) | exact st_of (by assumption))
local macro_rules | `(tactic| walk_at "pl") => `(tactic| first | assumption | exact pl_int | exact pl_bl | exact pl_str | exact pl_non | exact pl_lst (by assumption) | exact pl_tup (by assumption) | exact pl_dK (by assumption))
local macro_rules | `(tactic| walk_at "rv") => `(tactic| first
  | with_reducible exact rv_I0
  | with_reducible exact ru_neg
  | ((with_reducible apply rv_I); walk_at "sc")
  | ((with_reducible apply rv_ixL); walk_at "sq"; first | rfl | assumption)
  | ((with_reducible apply rv_ixT); walk_at "sq"; first | rfl | assumption)
  | ((with_reducible apply rv_eq); rfl) | ((with_reducible apply rv_ne); rfl))
local macro_rules | `(tactic| walk_at "rc") => `(tactic| first
  | with_reducible exact rc_I1 | with_reducible exact rc_B1 | with_reducible exact rc_I2 | ((with_reducible apply rc_repr); walk_at "sc") | ((with_reducible apply rc_lenL); walk_at "sq")
  | ((with_reducible apply rc_isiInt); walk_at "pl") | ((with_reducible apply rc_isiBool); walk_at "pl"))
local macro_rules | `(tactic| walk_at "ea") => `(tactic| first
  | with_reducible exact ea_nil | ((with_reducible apply ea_cons); walk_at "ev"; walk_at "ea"))
local macro_rules | `(tactic| walk_at "pow") => `(tactic| first
  | with_reducible exact ev_pow (a := 10) (b := 9) (c := 1000000000) (by decide +kernel) (by decide +kernel)
  | with_reducible exact ev_pow (a := 10) (b := 10) (c := 10000000000) (by decide +kernel) (by decide +kernel)
  | with_reducible exact ev_pow (a := 10) (b := 12) (c := 1000000000000) (by decide +kernel) (by decide +kernel)
  | with_reducible exact ev_pow (a := 10) (b := 17) (c := 100000000000000000) (by decide +kernel) (by decide +kernel)
  | with_reducible exact ev_pow (a := 10) (b := 20) (c := 100000000000000000000) (by decide +kernel) (by decide +kernel)
  | with_reducible exact ev_pow (a := 10) (b := 29) (c := 100000000000000000000000000000) (by decide +kernel) (by decide +kernel)
  | with_reducible exact ev_pow (a := 10) (b := 30) (c := 1000000000000000000000000000000) (by decide +kernel) (by decide +kernel)
  | with_reducible exact ev_pow (a := 10) (b := 40) (c := 10000000000000000000000000000000000000000) (by decide +kernel) (by decide +kernel)
  | with_reducible exact ev_pow (a := 10) (b := 57) (c := 1000000000000000000000000000000000000000000000000000000000) (by decide +kernel) (by decide +kernel)
  | with_reducible exact ev_pow (a := 10) (b := 58) (c := 10000000000000000000000000000000000000000000000000000000000) (by decide +kernel) (by decide +kernel)
  | with_reducible exact ev_pow (a := 10) (b := 59) (c := 100000000000000000000000000000000000000000000000000000000000) (by decide +kernel) (by decide +kernel)
  | with_reducible exact ev_pow (a := 10) (b := 60) (c := 1000000000000000000000000000000000000000000000000000000000000) (by decide +kernel) (by decide +kernel))
local macro_rules | `(tactic| walk_at "call") => `(tactic| (intro H9 e9; first | exact ⟨_, rfl, rfl⟩ | exact ⟨_, _, rfl, rfl⟩ | exact ⟨_, _, _, rfl, rfl⟩ | exact ⟨_, rfl, by walk_at "pl", rfl⟩ | (refine ⟨_, _, _, rfl, ?_, rfl⟩; first | exact Plain.ex e9 (by assumption) | walk_at "pl") | (refine ⟨_, rfl, ?_, rfl⟩; first | exact Plain.ex e9 (by assumption) | walk_at "pl")))
local macro_rules | `(tactic| walk_at "ev") => `(tactic| first
  | with_reducible exact ev_c
  | exact ev_var rfl
  | walk_at "pow"
  | ((with_reducible apply ev_op); walk_at "ev"; walk_at "ev"; walk_at "rv")
  | ((with_reducible apply ev_un); walk_at "ev"; walk_at "rv")
  | ((with_reducible apply ev_cb); walk_at "ea"; walk_at "rc")
  | ((with_reducible apply ev_callP); walk_at "ea"; walk_at "call")
  | ((with_reducible apply ev_chain); walk_at "ev"; walk_at "ev"; walk_at "rv"; walk_at "ev"; walk_at "rv")
  | ((with_reducible apply ev_andV); walk_at "ev"; intro _; walk_at "ev")
  | ((with_reducible apply ev_orV); walk_at "ev"; intro _; walk_at "ev")
  | ((with_reducible apply ev_ite); walk_at "et"; intro _; walk_at "ev"; intro _; walk_at "ev")
  | ((with_reducible apply ev_notV); walk_at "ev"))
local macro_rules | `(tactic| walk_at "et") => `(tactic| first
  | ((with_reducible apply et_test); walk_at "ev")
  | ((with_reducible apply et_B); walk_at "ev")
  | ((with_reducible apply et_and); walk_at "et"; intro _; walk_at "et")
  | ((with_reducible apply et_or); walk_at "et"; intro _; walk_at "et")
  | ((with_reducible apply et_not); walk_at "et"))
open En Wo
theorem ev_callLP {σ : L2.St} {H : Hp} {z : V} {i : Nat} {f : Addr} {ok : List V → Hp → V → Prop} {E : XK} {ts : TA} {vs : List V} (hs : σ[i]? = some (some (.ref f))) (h : EvA ts σ H vs) (ho : ∀ H1, Ex H H1 → ok vs H1 z) : Ev (tCallL i f (Pure ok) [] E ts) σ H z := fun H1 e Q q => ⟨hs, h H1 e _ fun H2 e2 => by
  show Pure ok (vs ++ []) H2 Q E
  rw [List.append_nil]
  exact ⟨z, ho H2 (e.trans e2), fun H3 e3 => q H3 (e2.trans e3)⟩⟩
theorem ev_inU {K : PySem.W.Frag} {σ : L2.St} {H : Hp} {ta tb : TE} {x : V} {xs : List V} (h1 : Ev ta σ H x) (h2 : EvU tb σ H xs) (hx : flatV x = true) (ha : xs.all flatV = true) : Ev (tOp (rIn K false) ta tb) σ H (.bl (inV x xs)) := fun H1 e Q q =>
  h1 H1 e _ fun H2 e2 => h2 H2 (e.trans e2) _ fun p H3 hp e3 h3 => rv_isT (st_of h3) hx ha H3 (Ex.refl H3) Q fun H4 e4 => q H4 ((e2.trans e3).trans e4)
theorem name_in (l : Lt) : inV (.str l.name) [V.str "keys", V.str "word"] = (match l with | .keys .. => true | .word .. => true | _ => false) := by
  cases l <;> simp only [Lt.name] <;> decide +kernel
section
variable {P : Program} {w : World} {K : PySem.W.Frag} {mg : Str → Option Value} {base : Heap}
def kLetter (K : PySem.W.Frag) (vs : List V) (H : Hp) (z : V) : Prop := ∃ (r : Addr) (l : Lt), vs = [.ref r] ∧ LtAt K H r l ∧ l.ok ∧ z = .bl true
theorem ok_is_letter (T : Txt K mg w) : FnOk P w K mg base CX0 6 T.a_is_letter T.fd_is_letter ["value"] (Pure (kLetter K)) := by
  have G_is_within := ok_is_within (P := P) (w := w) (base := base) T
  have G_is_keys_letter := ok_keys_letter (P := P) (w := w) (base := base) T
  have G_is_rows_letter := ok_rows_letter (P := P) (w := w) (base := base) T
  have G_is_piece_letter := ok_piece_letter (P := P) (w := w) (base := base) T
  have G_is_word_letter := ok_word_letter (P := P) (w := w) (base := base) T
  refine T.F_is_letter.ok sc_is_letter (fun vs H Q E h => ?_) (fun cdv A outer s H vs Q E hr h => ?_)
  · obtain ⟨_, ⟨_, _, rfl, _⟩, _⟩ := h; rfl
  · obtain ⟨_, ⟨r, l, rfl, hl, ho, rfl⟩, q⟩ := h
    rcases l with ⟨s, t, ws, pr⟩ | ⟨s, t, es⟩ | ⟨s, t, i, m, y⟩ | ⟨s, y⟩
    · refine ⟨_, (pss_cons (ps_if (PW.pt (pw_or (pt_not (pt_val (pe_callB call_isi (by rfl) T.z_isinstance (by decide +kernel) (pa_cons (pv 0) (pa_cons (pe_bltn (v := .ty "tuple") (by rfl) T.z_tuple (by decide +kernel) rfl) pa_nil))))) (pw_or (pt_cmpR op_lt (pe_callB c_len (by rfl) T.z_len PySem.boot_len (pa_cons (pv 0) pa_nil)) pe_int (nomark _)) (pw_or1 (pt_not (pt_val (pe_callB call_isi (by rfl) T.z_isinstance (by decide +kernel) (pa_cons (pe_ix ix_tup (pv 0) pe_int (fun _ _ => rfl)) (pa_cons (pe_bltn (v := .ty "str") (by rfl) T.z_str (by decide +kernel) rfl) pa_nil))))))))) (pss_one (ps_ret pe_bl)) pss_nil)
  (pss_cons (ps_if (PW.pt (pw_or (pt_cmpR (op_notIn_kd T.d_FORMS) (pe_ix ix_tup (pv 0) pe_int (fun _ _ => rfl)) (pe_glob (v := .ref _) rfl T.g_FORMS rfl) (by rfl)) (pw_or1 (pt_not (pt_val (pe_call G_is_within (hr.mono (by decide)) (by rfl) T.g_is_within T.F_is_within.kp T.b_is_within .nil pass0 (pa_cons (pe_ix ix_tup (pv 0) pe_int (fun _ _ => rfl)) (pa_cons pe_int (pa_cons (pe_glob (v := .int (5)) rfl T.g_MOST_SEAT ⟨_, rfl⟩) pa_nil))))))))) (pss_one (ps_ret pe_bl)) pss_nil)
  (pss_cons (ps_set (i := 1) sc_is_letter.nd rfl (.inl rfl) (pe_ix ix_kdict (pe_glob (v := .ref _) rfl T.g_FORMS rfl) (pe_ix ix_tup (pv 0) pe_int (fun _ _ => rfl)) (fun _ _ => rfl)))
  (pss_one (ps_ret (pe_callL (i := 1) G_is_keys_letter (hr.mono (by decide)) rfl (Or.inl rfl) T.F_is_keys_letter.kp T.b_is_keys_letter .nil pass0 (pa_cons (pv 0) pa_nil))))))), ?_⟩
      obtain ⟨_, hT, _⟩ := hl.keys
      refine q_when (b := false) (et_is (et_or (a := false) (b := false) (et_is (et_not (et_B (b := true) (ev_cb (vs := [.ref r, .ty "tuple"]) (by walk_at "ea") (rc_isiTup hT)))) rfl) fun _ => et_or (a := false) (b := false) (et_is (et_test (ev_op (ev_cb (vs := [.ref r]) (by walk_at "ea") (rc_lenT hT)) ev_c rv_I0)) (by simp)) fun _ => et_is (et_not (et_B (b := true) (ev_cb (vs := [.str "keys", .ty "str"]) (ea_cons (ev_op (ev_var rfl) ev_c (rv_ixT hT rfl)) (ea_cons ev_c ea_nil)) isi_str))) rfl) rfl) (fun h => by cases h) fun _ H1 e1 => ?_
      have hT1 := ex_t e1 hT
      have hs : 1 ≤ s ∧ s ≤ 5 := ⟨ho.1, ho.2.1⟩
      refine q_when (b := false) (et_is (et_or (a := false) (b := false) (et_test (ev_op (ev_op (ev_var rfl) ev_c (rv_ixT hT1 rfl)) ev_c fun H2 e2 Q2 q2 => ⟨_, _, rfl, rfl, T.k_keys, q2 H2 (Ex.refl H2)⟩)) fun _ => et_is (et_not (et_B (b := true) (ev_callP (vs := [.int s, .int 1, .int 5]) (ea_cons (ev_op (ev_var rfl) ev_c (rv_ixT hT1 rfl)) (ea_cons ev_c (ea_cons ev_c ea_nil))) fun H2 _ => ⟨.int s, _, _, rfl, pl_int, by rw [within_is hs (int_is ⟨by omega, by omega⟩)]⟩))) rfl) rfl) (fun h => by cases h) fun _ H2 e2 => ?_
      refine q_asg (v := .ref T.a_is_keys_letter) (ev_op ev_c (ev_op (ev_var rfl) ev_c (rv_ixT (ex_t e2 hT1) rfl)) fun H3 e3 Q3 q3 => ⟨_, _, V.ref T.a_is_keys_letter, rfl, rfl, ⟨_, _, _, T.d_FORMS.at_, T.d_FORMS.lit, T.k_keys, rfl⟩, q3 H3 (Ex.refl H3)⟩) fun H3 e3 => ?_
      have e13 := (e1.trans e2).trans e3
      exact s_ret (v := .bl true) (ev_callLP (vs := [.ref r]) rfl (by walk_at "ea") fun H4 e4 => ⟨r, s, t, ws, pr, rfl, (hl.ex e13).ex e4, ho, rfl⟩) fun H4 e4 => q H4 (e13.trans e4)
    · refine ⟨_, (pss_cons (ps_if (PW.pt (pw_or (pt_not (pt_val (pe_callB call_isi (by rfl) T.z_isinstance (by decide +kernel) (pa_cons (pv 0) (pa_cons (pe_bltn (v := .ty "tuple") (by rfl) T.z_tuple (by decide +kernel) rfl) pa_nil))))) (pw_or (pt_cmpR op_lt (pe_callB c_len (by rfl) T.z_len PySem.boot_len (pa_cons (pv 0) pa_nil)) pe_int (nomark _)) (pw_or1 (pt_not (pt_val (pe_callB call_isi (by rfl) T.z_isinstance (by decide +kernel) (pa_cons (pe_ix ix_tup (pv 0) pe_int (fun _ _ => rfl)) (pa_cons (pe_bltn (v := .ty "str") (by rfl) T.z_str (by decide +kernel) rfl) pa_nil))))))))) (pss_one (ps_ret pe_bl)) pss_nil)
  (pss_cons (ps_if (PW.pt (pw_or (pt_cmpR (op_notIn_kd T.d_FORMS) (pe_ix ix_tup (pv 0) pe_int (fun _ _ => rfl)) (pe_glob (v := .ref _) rfl T.g_FORMS rfl) (by rfl)) (pw_or1 (pt_not (pt_val (pe_call G_is_within (hr.mono (by decide)) (by rfl) T.g_is_within T.F_is_within.kp T.b_is_within .nil pass0 (pa_cons (pe_ix ix_tup (pv 0) pe_int (fun _ _ => rfl)) (pa_cons pe_int (pa_cons (pe_glob (v := .int (5)) rfl T.g_MOST_SEAT ⟨_, rfl⟩) pa_nil))))))))) (pss_one (ps_ret pe_bl)) pss_nil)
  (pss_cons (ps_set (i := 1) sc_is_letter.nd rfl (.inl rfl) (pe_ix ix_kdict (pe_glob (v := .ref _) rfl T.g_FORMS rfl) (pe_ix ix_tup (pv 0) pe_int (fun _ _ => rfl)) (fun _ _ => rfl)))
  (pss_one (ps_ret (pe_callL (i := 1) G_is_rows_letter (hr.mono (by decide)) rfl (Or.inl rfl) T.F_is_rows_letter.kp T.b_is_rows_letter .nil pass0 (pa_cons (pv 0) pa_nil))))))), ?_⟩
      obtain ⟨_, _, hT, _⟩ := hl.rows
      refine q_when (b := false) (et_is (et_or (a := false) (b := false) (et_is (et_not (et_B (b := true) (ev_cb (vs := [.ref r, .ty "tuple"]) (by walk_at "ea") (rc_isiTup hT)))) rfl) fun _ => et_or (a := false) (b := false) (et_is (et_test (ev_op (ev_cb (vs := [.ref r]) (by walk_at "ea") (rc_lenT hT)) ev_c rv_I0)) (by simp)) fun _ => et_is (et_not (et_B (b := true) (ev_cb (vs := [.str "rows", .ty "str"]) (ea_cons (ev_op (ev_var rfl) ev_c (rv_ixT hT rfl)) (ea_cons ev_c ea_nil)) isi_str))) rfl) rfl) (fun h => by cases h) fun _ H1 e1 => ?_
      have hT1 := ex_t e1 hT
      have hs : 1 ≤ s ∧ s ≤ 5 := ⟨ho.1, ho.2.1⟩
      refine q_when (b := false) (et_is (et_or (a := false) (b := false) (et_test (ev_op (ev_op (ev_var rfl) ev_c (rv_ixT hT1 rfl)) ev_c fun H2 e2 Q2 q2 => ⟨_, _, rfl, rfl, T.k_rows, q2 H2 (Ex.refl H2)⟩)) fun _ => et_is (et_not (et_B (b := true) (ev_callP (vs := [.int s, .int 1, .int 5]) (ea_cons (ev_op (ev_var rfl) ev_c (rv_ixT hT1 rfl)) (ea_cons ev_c (ea_cons ev_c ea_nil))) fun H2 _ => ⟨.int s, _, _, rfl, pl_int, by rw [within_is hs (int_is ⟨by omega, by omega⟩)]⟩))) rfl) rfl) (fun h => by cases h) fun _ H2 e2 => ?_
      refine q_asg (v := .ref T.a_is_rows_letter) (ev_op ev_c (ev_op (ev_var rfl) ev_c (rv_ixT (ex_t e2 hT1) rfl)) fun H3 e3 Q3 q3 => ⟨_, _, V.ref T.a_is_rows_letter, rfl, rfl, ⟨_, _, _, T.d_FORMS.at_, T.d_FORMS.lit, T.k_rows, rfl⟩, q3 H3 (Ex.refl H3)⟩) fun H3 e3 => ?_
      have e13 := (e1.trans e2).trans e3
      exact s_ret (v := .bl true) (ev_callLP (vs := [.ref r]) rfl (by walk_at "ea") fun H4 e4 => ⟨r, s, t, es, rfl, (hl.ex e13).ex e4, ho, rfl⟩) fun H4 e4 => q H4 (e13.trans e4)
    · refine ⟨_, (pss_cons (ps_if (PW.pt (pw_or (pt_not (pt_val (pe_callB call_isi (by rfl) T.z_isinstance (by decide +kernel) (pa_cons (pv 0) (pa_cons (pe_bltn (v := .ty "tuple") (by rfl) T.z_tuple (by decide +kernel) rfl) pa_nil))))) (pw_or (pt_cmpR op_lt (pe_callB c_len (by rfl) T.z_len PySem.boot_len (pa_cons (pv 0) pa_nil)) pe_int (nomark _)) (pw_or1 (pt_not (pt_val (pe_callB call_isi (by rfl) T.z_isinstance (by decide +kernel) (pa_cons (pe_ix ix_tup (pv 0) pe_int (fun _ _ => rfl)) (pa_cons (pe_bltn (v := .ty "str") (by rfl) T.z_str (by decide +kernel) rfl) pa_nil))))))))) (pss_one (ps_ret pe_bl)) pss_nil)
  (pss_cons (ps_if (PW.pt (pw_or (pt_cmpR (op_notIn_kd T.d_FORMS) (pe_ix ix_tup (pv 0) pe_int (fun _ _ => rfl)) (pe_glob (v := .ref _) rfl T.g_FORMS rfl) (by rfl)) (pw_or1 (pt_not (pt_val (pe_call G_is_within (hr.mono (by decide)) (by rfl) T.g_is_within T.F_is_within.kp T.b_is_within .nil pass0 (pa_cons (pe_ix ix_tup (pv 0) pe_int (fun _ _ => rfl)) (pa_cons pe_int (pa_cons (pe_glob (v := .int (5)) rfl T.g_MOST_SEAT ⟨_, rfl⟩) pa_nil))))))))) (pss_one (ps_ret pe_bl)) pss_nil)
  (pss_cons (ps_set (i := 1) sc_is_letter.nd rfl (.inl rfl) (pe_ix ix_kdict (pe_glob (v := .ref _) rfl T.g_FORMS rfl) (pe_ix ix_tup (pv 0) pe_int (fun _ _ => rfl)) (fun _ _ => rfl)))
  (pss_one (ps_ret (pe_callL (i := 1) G_is_piece_letter (hr.mono (by decide)) rfl (Or.inl rfl) T.F_is_piece_letter.kp T.b_is_piece_letter .nil pass0 (pa_cons (pv 0) pa_nil))))))), ?_⟩
      have hT := hl.piece
      refine q_when (b := false) (et_is (et_or (a := false) (b := false) (et_is (et_not (et_B (b := true) (ev_cb (vs := [.ref r, .ty "tuple"]) (by walk_at "ea") (rc_isiTup hT)))) rfl) fun _ => et_or (a := false) (b := false) (et_is (et_test (ev_op (ev_cb (vs := [.ref r]) (by walk_at "ea") (rc_lenT hT)) ev_c rv_I0)) (by simp)) fun _ => et_is (et_not (et_B (b := true) (ev_cb (vs := [.str "piece", .ty "str"]) (ea_cons (ev_op (ev_var rfl) ev_c (rv_ixT hT rfl)) (ea_cons ev_c ea_nil)) isi_str))) rfl) rfl) (fun h => by cases h) fun _ H1 e1 => ?_
      have hT1 := ex_t e1 hT
      have hs : 1 ≤ s ∧ s ≤ 5 := ⟨ho.1, ho.2.1⟩
      refine q_when (b := false) (et_is (et_or (a := false) (b := false) (et_test (ev_op (ev_op (ev_var rfl) ev_c (rv_ixT hT1 rfl)) ev_c fun H2 e2 Q2 q2 => ⟨_, _, rfl, rfl, T.k_piece, q2 H2 (Ex.refl H2)⟩)) fun _ => et_is (et_not (et_B (b := true) (ev_callP (vs := [.int s, .int 1, .int 5]) (ea_cons (ev_op (ev_var rfl) ev_c (rv_ixT hT1 rfl)) (ea_cons ev_c (ea_cons ev_c ea_nil))) fun H2 _ => ⟨.int s, _, _, rfl, pl_int, by rw [within_is hs (int_is ⟨by omega, by omega⟩)]⟩))) rfl) rfl) (fun h => by cases h) fun _ H2 e2 => ?_
      refine q_asg (v := .ref T.a_is_piece_letter) (ev_op ev_c (ev_op (ev_var rfl) ev_c (rv_ixT (ex_t e2 hT1) rfl)) fun H3 e3 Q3 q3 => ⟨_, _, V.ref T.a_is_piece_letter, rfl, rfl, ⟨_, _, _, T.d_FORMS.at_, T.d_FORMS.lit, T.k_piece, rfl⟩, q3 H3 (Ex.refl H3)⟩) fun H3 e3 => ?_
      have e13 := (e1.trans e2).trans e3
      exact s_ret (v := .bl true) (ev_callLP (vs := [.ref r]) rfl (by walk_at "ea") fun H4 e4 => ⟨r, s, t, i, m, y, rfl, (hl.ex e13).ex e4, ho, rfl⟩) fun H4 e4 => q H4 (e13.trans e4)
    · refine ⟨_, (pss_cons (ps_if (PW.pt (pw_or (pt_not (pt_val (pe_callB call_isi (by rfl) T.z_isinstance (by decide +kernel) (pa_cons (pv 0) (pa_cons (pe_bltn (v := .ty "tuple") (by rfl) T.z_tuple (by decide +kernel) rfl) pa_nil))))) (pw_or (pt_cmpR op_lt (pe_callB c_len (by rfl) T.z_len PySem.boot_len (pa_cons (pv 0) pa_nil)) pe_int (nomark _)) (pw_or1 (pt_not (pt_val (pe_callB call_isi (by rfl) T.z_isinstance (by decide +kernel) (pa_cons (pe_ix ix_tup (pv 0) pe_int (fun _ _ => rfl)) (pa_cons (pe_bltn (v := .ty "str") (by rfl) T.z_str (by decide +kernel) rfl) pa_nil))))))))) (pss_one (ps_ret pe_bl)) pss_nil)
  (pss_cons (ps_if (PW.pt (pw_or (pt_cmpR (op_notIn_kd T.d_FORMS) (pe_ix ix_tup (pv 0) pe_int (fun _ _ => rfl)) (pe_glob (v := .ref _) rfl T.g_FORMS rfl) (by rfl)) (pw_or1 (pt_not (pt_val (pe_call G_is_within (hr.mono (by decide)) (by rfl) T.g_is_within T.F_is_within.kp T.b_is_within .nil pass0 (pa_cons (pe_ix ix_tup (pv 0) pe_int (fun _ _ => rfl)) (pa_cons pe_int (pa_cons (pe_glob (v := .int (5)) rfl T.g_MOST_SEAT ⟨_, rfl⟩) pa_nil))))))))) (pss_one (ps_ret pe_bl)) pss_nil)
  (pss_cons (ps_set (i := 1) sc_is_letter.nd rfl (.inl rfl) (pe_ix ix_kdict (pe_glob (v := .ref _) rfl T.g_FORMS rfl) (pe_ix ix_tup (pv 0) pe_int (fun _ _ => rfl)) (fun _ _ => rfl)))
  (pss_one (ps_ret (pe_callL (i := 1) G_is_word_letter (hr.mono (by decide)) rfl (Or.inl rfl) T.F_is_word_letter.kp T.b_is_word_letter .nil pass0 (pa_cons (pv 0) pa_nil))))))), ?_⟩
      have hT := hl.word
      refine q_when (b := false) (et_is (et_or (a := false) (b := false) (et_is (et_not (et_B (b := true) (ev_cb (vs := [.ref r, .ty "tuple"]) (by walk_at "ea") (rc_isiTup hT)))) rfl) fun _ => et_or (a := false) (b := false) (et_is (et_test (ev_op (ev_cb (vs := [.ref r]) (by walk_at "ea") (rc_lenT hT)) ev_c rv_I0)) (by simp)) fun _ => et_is (et_not (et_B (b := true) (ev_cb (vs := [.str "word", .ty "str"]) (ea_cons (ev_op (ev_var rfl) ev_c (rv_ixT hT rfl)) (ea_cons ev_c ea_nil)) isi_str))) rfl) rfl) (fun h => by cases h) fun _ H1 e1 => ?_
      have hT1 := ex_t e1 hT
      have hs : 1 ≤ s ∧ s ≤ 5 := ⟨ho.1, ho.2.1⟩
      refine q_when (b := false) (et_is (et_or (a := false) (b := false) (et_test (ev_op (ev_op (ev_var rfl) ev_c (rv_ixT hT1 rfl)) ev_c fun H2 e2 Q2 q2 => ⟨_, _, rfl, rfl, T.k_word, q2 H2 (Ex.refl H2)⟩)) fun _ => et_is (et_not (et_B (b := true) (ev_callP (vs := [.int s, .int 1, .int 5]) (ea_cons (ev_op (ev_var rfl) ev_c (rv_ixT hT1 rfl)) (ea_cons ev_c (ea_cons ev_c ea_nil))) fun H2 _ => ⟨.int s, _, _, rfl, pl_int, by rw [within_is hs (int_is ⟨by omega, by omega⟩)]⟩))) rfl) rfl) (fun h => by cases h) fun _ H2 e2 => ?_
      refine q_asg (v := .ref T.a_is_word_letter) (ev_op ev_c (ev_op (ev_var rfl) ev_c (rv_ixT (ex_t e2 hT1) rfl)) fun H3 e3 Q3 q3 => ⟨_, _, V.ref T.a_is_word_letter, rfl, rfl, ⟨_, _, _, T.d_FORMS.at_, T.d_FORMS.lit, T.k_word, rfl⟩, q3 H3 (Ex.refl H3)⟩) fun H3 e3 => ?_
      have e13 := (e1.trans e2).trans e3
      exact s_ret (v := .bl true) (ev_callLP (vs := [.ref r]) rfl (by walk_at "ea") fun H4 e4 => ⟨r, s, y, rfl, (hl.ex e13).ex e4, ho, rfl⟩) fun H4 e4 => q H4 (e13.trans e4)
theorem ok_need_letter (T : Txt K mg w) : FnOk P w K mg base CX0 7 T.a_need_letter T.fd_need_letter ["value"] (Pure fun vs H z => ∃ (r : Addr) (l : Lt), vs = [.ref r] ∧ LtAt K H r l ∧ l.ok ∧ z = .non) := by
  have G_is_letter := ok_is_letter (P := P) (w := w) (base := base) T
  refine T.F_need_letter.ok sc_need_letter (fun vs H Q E h => ?_) (fun cdv A outer s H vs Q E hr h => ?_)
  · obtain ⟨_, ⟨_, _, rfl, _⟩, _⟩ := h; rfl
  · obtain ⟨_, ⟨r, l, rfl, hl, ho, rfl⟩, q⟩ := h
    refine ⟨_, (pss_one (ps_if (pt_not (pt_val (pe_call G_is_letter (hr.mono (by decide)) (by rfl) T.g_is_letter T.F_is_letter.kp T.b_is_letter .nil pass0 (pa_cons (pv 0) pa_nil)))) (pss_one ps_never) pss_nil)), ?_⟩
    exact s_when (b := false) (et_is (et_not (et_B (b := true) (ev_callP (vs := [.ref r]) (by walk_at "ea") fun H1 e1 => ⟨r, l, rfl, hl.ex e1, ho, rfl⟩))) rfl) (fun h => by cases h) (fun _ H1 e1 => q H1 e1)
def kGoal (K : PySem.W.Frag) (vs : List V) (H : Hp) (z : V) : Prop := ∃ (r : Addr) (l : Lt), vs = [.ref r] ∧ LtAt K H r l ∧ z = .int l.goal
theorem ok_goal_of (T : Txt K mg w) : FnOk P w K mg base CX0 1 T.a_goal_of T.fd_goal_of ["letter"] (Pure (kGoal K)) := by
  refine T.F_goal_of.ok sc_goal_of (fun vs H Q E h => ?_) (fun cdv A outer s H vs Q E hr h => ?_)
  · obtain ⟨_, ⟨_, _, rfl, _⟩, _⟩ := h; rfl
  · obtain ⟨_, ⟨r, l, rfl, hl, rfl⟩, q⟩ := h
    refine ⟨_, (pss_one (ps_ret (pe_ifExp (pt_cmpR op_in_seq (pe_ix ix_tup (pv 0) pe_int (fun _ _ => rfl)) (pe_glob (v := .ref _) rfl T.g_TO_HOST rfl) (by rfl)) (pe_glob (v := .int (-1)) rfl T.g_HOST ⟨_, rfl⟩) (pe_ix ix_tup (pv 0) pe_int (fun _ _ => rfl))))), ?_⟩
    obtain ⟨xs, hT, _⟩ := hl.head
    refine s_ret (v := .int l.goal) (ev_if (et_test (ev_op (ev_op (ev_var rfl) ev_c (rv_ixT hT (atI_nat (j := 0) rfl))) ev_c (rv_isT (x := .str l.name) (T.o_TO_HOST H) rfl (by decide)))) (fun h => ?_) fun h => ?_) q
    · rw [name_in] at h
      cases l <;> first | exact ev_c | cases h
    · rw [name_in] at h
      cases l <;> first | exact ev_op (ev_var rfl) ev_c (rv_ixT hT (atI_nat (j := 1) rfl)) | cases h
theorem ok_law_lt_goal (T : Txt K mg w) : FnOk P w K mg base CX0 1 T.a_law_lt_goal T.fd_law_lt_goal ["letter"] (Pure (kGoal K)) := by
  refine T.F_law_lt_goal.ok sc_law_lt_goal (fun vs H Q E h => ?_) (fun cdv A outer s H vs Q E hr h => ?_)
  · obtain ⟨_, ⟨_, _, rfl, _⟩, _⟩ := h; rfl
  · obtain ⟨_, ⟨r, l, rfl, hl, rfl⟩, q⟩ := h
    refine ⟨_, (pss_one (ps_ret (pe_ifExp (pt_cmpR op_in_seq (pe_ix ix_tup (pv 0) pe_int (fun _ _ => rfl)) (pe_tup (pa_cons pe_str (pa_cons pe_str pa_nil))) (by rfl)) (pe_un un_neg pe_int) (pe_ix ix_tup (pv 0) pe_int (fun _ _ => rfl))))), ?_⟩
    obtain ⟨xs, hT, _⟩ := hl.head
    refine s_ret (v := .int l.goal) (ev_if (et_test (ev_inU (x := .str l.name) (ev_op (ev_var rfl) ev_c (rv_ixT hT (atI_nat (j := 0) rfl))) (eu_tup (ea_cons ev_c (ea_cons ev_c ea_nil)) (by show 2 ≤ 100000; decide)) rfl (by decide))) (fun h => ?_) fun h => ?_) q
    · rw [name_in] at h
      cases l <;> first | exact ev_un ev_c ru_neg | cases h
    · rw [name_in] at h
      cases l <;> first | exact ev_op (ev_var rfl) ev_c (rv_ixT hT (atI_nat (j := 1) rfl)) | cases h
end
end Kz
set_option Elab.async false
set_option linter.all false
set_option maxRecDepth 100000
set_option maxHeartbeats 4000000
set_option exponentiation.threshold 500
namespace Kz
open PySem PySem.Spec PyProof.Rows L2 Evl Vr
local macro_rules | `(tactic| walk_at "sc") => `(tactic| first | (with_reducible assumption) | (with_reducible exact sc_mul (by omega)) | (with_reducible exact sc_mulr (by omega)) | (with_reducible exact sc_div (by omega) (by decide)) | (show (0 : Int) < _; omega) | (show _ ≠ (0 : Int); omega) | (with_reducible rfl) | decide)
local macro_rules | `(tactic| walk_at "sq") => `(tactic| first | assumption | exact sq_of (by assumption) | exact st_of (by assumption))
local macro_rules | `(tactic| walk_at "pl") => `(tactic| first | assumption | exact pl_int | exact pl_bl | exact pl_str | exact pl_non | exact pl_lst (by assumption) | exact pl_tup (by assumption) | exact pl_dK (by assumption))
local macro_rules | `(tactic| walk_at "rv") => `(tactic| first
  | with_reducible exact rv_I0
  | with_reducible exact ru_neg
  | ((with_reducible apply rv_I); walk_at "sc")
  | ((with_reducible apply rv_ixL); walk_at "sq"; first | rfl | assumption)
  | ((with_reducible apply rv_ixT); walk_at "sq"; first | rfl | assumption)
  | ((with_reducible apply rv_eq); rfl) | ((with_reducible apply rv_ne); rfl))
local macro_rules | `(tactic| walk_at "rc") => `(tactic| first
  | with_reducible exact rc_I1 | with_reducible exact rc_B1 | with_reducible exact rc_I2 | ((with_reducible apply rc_repr); walk_at "sc") | ((with_reducible apply rc_lenL); walk_at "sq")
  | ((with_reducible apply rc_isiInt); walk_at "pl") | ((with_reducible apply rc_isiBool); walk_at "pl"))
local macro_rules | `(tactic| walk_at "ea") => `(tactic| first
  | with_reducible exact ea_nil | ((with_reducible apply ea_cons); walk_at "ev"; walk_at "ea"))
local macro_rules | `(tactic| walk_at "pow") => `(tactic| first
  | with_reducible exact ev_pow (a := 10) (b := 9) (c := 1000000000) (by decide +kernel) (by decide +kernel)
  | with_reducible exact ev_pow (a := 10) (b := 10) (c := 10000000000) (by decide +kernel) (by decide +kernel)
  | with_reducible exact ev_pow (a := 10) (b := 12) (c := 1000000000000) (by decide +kernel) (by decide +kernel)
  | with_reducible exact ev_pow (a := 10) (b := 17) (c := 100000000000000000) (by decide +kernel) (by decide +kernel)
  | with_reducible exact ev_pow (a := 10) (b := 20) (c := 100000000000000000000) (by decide +kernel) (by decide +kernel)
  | with_reducible exact ev_pow (a := 10) (b := 29) (c := 100000000000000000000000000000) (by decide +kernel) (by decide +kernel)
  | with_reducible exact ev_pow (a := 10) (b := 30) (c := 1000000000000000000000000000000) (by decide +kernel) (by decide +kernel)
  | with_reducible exact ev_pow (a := 10) (b := 40) (c := 10000000000000000000000000000000000000000) (by decide +kernel) (by decide +kernel)
  | with_reducible exact ev_pow (a := 10) (b := 57) (c := 1000000000000000000000000000000000000000000000000000000000) (by decide +kernel) (by decide +kernel)
  | with_reducible exact ev_pow (a := 10) (b := 58) (c := 10000000000000000000000000000000000000000000000000000000000) (by decide +kernel) (by decide +kernel)
  | with_reducible exact ev_pow (a := 10) (b := 59) (c := 100000000000000000000000000000000000000000000000000000000000) (by decide +kernel) (by decide +kernel)
  | with_reducible exact ev_pow (a := 10) (b := 60) (c := 1000000000000000000000000000000000000000000000000000000000000) (by decide +kernel) (by decide +kernel))
local macro_rules | `(tactic| walk_at "call") => `(tactic| (intro H9 e9; first | exact ⟨_, rfl, rfl⟩ | exact ⟨_, _, rfl, rfl⟩ | exact ⟨_, _, _, rfl, rfl⟩ | exact ⟨_, rfl, by walk_at "pl", rfl⟩ | (refine ⟨_, _, _, rfl, ?_, rfl⟩; first | exact Plain.ex e9 (by assumption) | walk_at "pl") | (refine ⟨_, rfl, ?_, rfl⟩; first | exact Plain.ex e9 (by assumption) | walk_at "pl")))
local macro_rules | `(tactic| walk_at "ev") => `(tactic| first
  | with_reducible exact ev_c
  | exact ev_var rfl
  | walk_at "pow"
  | ((with_reducible apply ev_op); walk_at "ev"; walk_at "ev"; walk_at "rv")
  | ((with_reducible apply ev_un); walk_at "ev"; walk_at "rv")
  | ((with_reducible apply ev_cb); walk_at "ea"; walk_at "rc")
  | ((with_reducible apply ev_callP); walk_at "ea"; walk_at "call")
  | ((with_reducible apply ev_chain); walk_at "ev"; walk_at "ev"; walk_at "rv"; walk_at "ev"; walk_at "rv")
  | ((with_reducible apply ev_andV); walk_at "ev"; intro _; walk_at "ev")
  | ((with_reducible apply ev_orV); walk_at "ev"; intro _; walk_at "ev")
  | ((with_reducible apply ev_ite); walk_at "et"; intro _; walk_at "ev"; intro _; walk_at "ev")
  | ((with_reducible apply ev_notV); walk_at "ev"))
local macro_rules | `(tactic| walk_at "et") => `(tactic| first
  | ((with_reducible apply et_test); walk_at "ev")
  | ((with_reducible apply et_B); walk_at "ev")
  | ((with_reducible apply et_and); walk_at "et"; intro _; walk_at "et")
  | ((with_reducible apply et_or); walk_at "et"; intro _; walk_at "et")
  | ((with_reducible apply et_not); walk_at "et"))
open En Wo
theorem take_succ {α : Type} {l : List α} {i : Nat} {x : α} (h : l[i]? = some x) : l.take (i + 1) = l.take i ++ [x] := by
  obtain ⟨h1, h2⟩ := List.getElem?_eq_some_iff.mp h
  rw [← List.take_append_getElem h1, h2]
section
variable {H H' : Hp} {K : PySem.W.Frag} {r : Addr}
theorem dpa_rows : ∀ {rs : List Addr} {es : List (List Int)}, RwsAt K H rs es → DpAll K H (rs.map V.ref) (es.map intsD)
  | [], [], _ => .nil
  | [], _ :: _, h => by cases h.1
  | _ :: _, [], h => by cases h.1
  | r :: rs, e :: es, h => .cons (.tup (h.2 0 r e rfl rfl) (dpa_ints e)) (dpa_rows ⟨by have := h.1; simpa using this, fun i r' e' a b => h.2 (i + 1) r' e' a b⟩)
theorem lt_keys {s t pr : Int} {ws : List Int} {a : Addr} (h1 : SqT K H r [.str "keys", .int s, .int t, .ref a, .int pr]) (h2 : SqT K H a (ws.map V.int)) : LtAt K H r (.keys s t ws pr) := .tup h1 (.cons (.str _) (.cons (.int _) (.cons (.int _) (.cons (.tup h2 (dpa_ints ws)) (.cons (.int _) .nil)))))
theorem lt_rows {s t : Int} {es : List (List Int)} {a : Addr} {rs : List Addr} (h1 : SqT K H r [.str "rows", .int s, .int t, .ref a]) (h2 : SqT K H a (rs.map V.ref)) (h3 : RwsAt K H rs es) : LtAt K H r (.rows s t es) := .tup h1 (.cons (.str _) (.cons (.int _) (.cons (.int _) (.cons (.tup h2 (dpa_rows h3)) .nil))))
theorem lt_piece {s t i m : Int} {z : Str} (h1 : SqT K H r [.str "piece", .int s, .int t, .int i, .int m, .str z]) : LtAt K H r (.piece s t i m z) := .tup h1 (.cons (.str _) (.cons (.int _) (.cons (.int _) (.cons (.int _) (.cons (.int _) (.cons (.str _) .nil))))))
theorem lt_word {s : Int} {z : Str} (h1 : SqT K H r [.str "word", .int s, .str z]) : LtAt K H r (.word s z) := .tup h1 (.cons (.str _) (.cons (.int _) (.cons (.str _) .nil)))
/-- a letter stands where its tuples stand -/
theorem LtAt.st {l : Lt} (hs : ∀ b xs, SqT K H b xs → SqT K H' b xs) (h : LtAt K H r l) : LtAt K H' r l := by
  rcases l with ⟨s, t, ws, pr⟩ | ⟨s, t, es⟩ | ⟨s, t, i, m, y⟩ | ⟨s, y⟩
  · obtain ⟨a, h1, h2⟩ := h.keys
    exact lt_keys (hs _ _ h1) (hs _ _ h2)
  · obtain ⟨a, rs, h1, h2, h3⟩ := h.rows
    exact lt_rows (hs _ _ h1) (hs _ _ h2) ⟨h3.1, fun i r e x y => hs _ _ (h3.2 i r e x y)⟩
  · exact lt_piece (hs _ _ h.piece)
  · exact lt_word (hs _ _ h.word)
/-- the letters ls at rs -/
def LrsAt (K : PySem.W.Frag) (H : Hp) (rs : List Addr) (ls : List Lt) : Prop := rs.length = ls.length ∧ ∀ (i : Nat) (r : Addr) (l : Lt), rs[i]? = some r → ls[i]? = some l → LtAt K H r l
def LsAt (K : PySem.W.Frag) (H : Hp) (a : Addr) (ls : List Lt) : Prop := ∃ rs, SqT K H a (rs.map V.ref) ∧ LrsAt K H rs ls
theorem LrsAt.st {rs : List Addr} {ls : List Lt} (hs : ∀ b xs, SqT K H b xs → SqT K H' b xs) (h : LrsAt K H rs ls) : LrsAt K H' rs ls := ⟨h.1, fun i r l a b => (h.2 i r l a b).st hs⟩
theorem LrsAt.ex {rs : List Addr} {ls : List Lt} (e : Ex H H') (h : LrsAt K H rs ls) : LrsAt K H' rs ls := h.st fun _ _ => ex_t e
theorem LsAt.st {a : Addr} {ls : List Lt} (hs : ∀ b xs, SqT K H b xs → SqT K H' b xs) (h : LsAt K H a ls) : LsAt K H' a ls := by
  obtain ⟨rs, h1, h2⟩ := h
  exact ⟨rs, hs _ _ h1, h2.st hs⟩
theorem LsAt.ex {a : Addr} {ls : List Lt} (e : Ex H H') (h : LsAt K H a ls) : LsAt K H' a ls := h.st fun _ _ => ex_t e
theorem LrsAt.at {rs : List Addr} {ls : List Lt} (h : LrsAt K H rs ls) {i : Nat} {x : V} (hx : (rs.map V.ref)[i]? = some x) : ∃ r l, x = .ref r ∧ rs[i]? = some r ∧ ls[i]? = some l ∧ LtAt K H r l := by
  rw [List.getElem?_map] at hx
  cases h1 : rs[i]? with
  | none => rw [h1] at hx; cases hx
  | some r =>
    rw [h1] at hx
    have hi : i < ls.length := by have := (List.getElem?_eq_some_iff.mp h1).1; have := h.1; omega
    exact ⟨r, ls[i], (Option.some.inj hx).symm, rfl, List.getElem?_eq_getElem hi, h.2 i r _ h1 (List.getElem?_eq_getElem hi)⟩
theorem LrsAt.app {rs us : List Addr} {ls ms : List Lt} (h1 : LrsAt K H rs ls) (h2 : LrsAt K H us ms) : LrsAt K H (rs ++ us) (ls ++ ms) := ⟨by rw [List.length_append, List.length_append, h1.1, h2.1], fun i r l a b => by
  by_cases hi : i < ls.length
  · rw [List.getElem?_append_left (by rw [h1.1]; exact hi)] at a
    rw [List.getElem?_append_left hi] at b
    exact h1.2 i r l a b
  · rw [List.getElem?_append_right (by rw [h1.1]; omega), h1.1] at a
    rw [List.getElem?_append_right (by omega)] at b
    exact h2.2 _ r l a b⟩
theorem LrsAt.dpa : ∀ {rs : List Addr} {ls : List Lt}, LrsAt K H rs ls → DpAll K H (rs.map V.ref) (ls.map Lt.dat)
  | [], [], _ => .nil
  | [], _ :: _, h => by cases h.1
  | _ :: _, [], h => by cases h.1
  | r :: rs, l :: ls, h => .cons (h.2 0 r l rfl rfl) (LrsAt.dpa ⟨by have := h.1; simpa using this, fun i r' e' a b => h.2 (i + 1) r' e' a b⟩)
def lsDat (ls : List Lt) : PyData := .tuple (ls.map Lt.dat)
theorem LsAt.dp {a : Addr} {ls : List Lt} (h : LsAt K H a ls) : Dp K H (.ref a) (lsDat ls) := by
  obtain ⟨rs, h1, h2⟩ := h
  exact .tup h1 h2.dpa
abbrev bfs (a : Addr) : List (Str × V) := [("letters", V.ref a)]
/-- a bag -/
def BgAt (K : PySem.W.Frag) (C : Addr) (H : Hp) (p : Addr) (ls : List Lt) : Prop := ∃ dx a, H p = some (.ins C dx (bfs a)) ∧ LsAt K H a ls
theorem BgAt.ex {C p : Addr} {ls : List Lt} (e : Ex H H') (h : BgAt K C H p ls) : BgAt K C H' p ls := by
  obtain ⟨dx, a, h1, h2⟩ := h
  exact ⟨dx, a, e _ _ h1, h2.ex e⟩
def EvB (K : PySem.W.Frag) (C : Addr) (te : TE) (σ : L2.St) (H : Hp) (ls : List Lt) : Prop := ∀ H1, Ex H H1 → ∀ Q : VK, (∀ p H2, H1 p = none → Ex H1 H2 → BgAt K C H2 p ls → Q (.ref p) H2) → te σ H1 Q
def Bnew (K : PySem.W.Frag) (C : Addr) (ok : List V → Hp → List Lt → Prop) : Sp := fun vs H Q _ => ∃ ls, ok vs H ls ∧ ∀ p H', H p = none → Ex H H' → BgAt K C H' p ls → Q (.ref p) H'
def LsOk (ls : List Lt) : Prop := ls.length ≤ 100 ∧ ∀ l ∈ ls, l.ok
def spInit (K : PySem.W.Frag) (C : Addr) : Sp := fun vs H Q _ => ∃ (p a dx : Addr) (ls : List Lt), vs = [.ref p, .ref a] ∧ H p = some (.ins C dx []) ∧ LsOk ls ∧ LsAt K H a ls ∧ ∀ H', Exd p H H' → BgAt K C H' p ls → Q .non H'
def spFill (K : PySem.W.Frag) (C : Addr) : Sp := fun vs H Q _ => ∃ (p a dx : Addr) (ls : List Lt) (fs : List (Str × V)), vs = [.ref p, .ref a] ∧ H p = some (.ins C dx fs) ∧ (fs = [] ∨ ∃ b, fs = bfs b) ∧ LsAt K H a ls ∧ ∀ H', Exd p H H' → BgAt K C H' p ls → Q .non H'
end
section
variable {σ : L2.St} {H : Hp} {te : TE} {ts : TA} {D : Ends} {K : PySem.W.Frag} {C : Addr} {tz : TS} {ls : List Lt} {E : XK}
theorem eb_make {dvs : List V} (h : EvAP ts σ H (fun vs H' => ∃ a, vs ++ dvs = [.ref a] ∧ LsAt K H' a ls)) (ok : LsOk ls) : EvB K C (tMake C (spInit K C) dvs E ts) σ H ls := fun H1 e Q q => h H1 e _ fun vs H2 e2 ⟨a, hv, hL⟩ x dx hx hdx hne => by
  have hn : (upd H2 dx (.own x)) x = none := by rw [upd_ne (Ne.symm hne)]; exact hx
  have eN : Ex H2 (upd (upd H2 dx (.own x)) x (.ins C dx [])) := (Ex.new hdx).trans (Ex.new hn)
  rw [hv]
  exact ⟨x, a, dx, ls, rfl, upd_same, ok, hL.ex eN, fun H' xd hW => ⟨rfl, q x H' (fresh_back e2 hx) (xd.out (e2.trans eN) (fresh_back e2 hx)) hW⟩⟩
theorem eb_call {ok : List V → Hp → List Lt → Prop} {P : List V → Hp → Prop} (h : EvAP ts σ H P) (ho : ∀ vs H1, Ex H H1 → P vs H1 → ok vs H1 ls) : EvB K C (tCall (Bnew K C ok) [] E ts) σ H ls := fun H1 e Q q => h H1 e _ fun vs H2 e2 hp => by
  show Bnew K C ok (vs ++ []) H2 Q E
  rw [List.append_nil]
  exact ⟨ls, ho vs H2 (e.trans e2) hp, fun p H3 hp e3 h3 => q p H3 (fresh_back e2 hp) (e2.trans e3) h3⟩
theorem ap_of {vs : List V} (h : EvA ts σ H vs) : EvAP ts σ H (fun us _ => us = vs) := fun H1 e Q q => h H1 e Q fun H2 e2 => q vs H2 e2 rfl
theorem q_asgB {i : Nat} (h : EvB K C te σ H ls) (k : ∀ p H1, H p = none → Ex H H1 → BgAt K C H1 p ls → tz D (σ.set i (some (.ref p))) H1) : tSeq (tAsg te (gName i)) tz D σ H := h H (Ex.refl H) _ fun p H1 hp e hW => k p H1 hp e hW
theorem s_retB (h : EvB K C te σ H ls) (k : ∀ p H1, H p = none → Ex H H1 → BgAt K C H1 p ls → D.rt (.ref p) H1) : tRet te D σ H := h H (Ex.refl H) _ fun p H1 hp e hW => k p H1 hp e hW
end
section
variable {P : Program} {w : World} {K : PySem.W.Frag} {mg : Str → Option Value} {base : Heap}
theorem ok_need_letters (T : Txt K mg w) : FnOk P w K mg base CX0 7 T.a_need_letters T.fd_need_letters ["value"] (Pure fun vs H z => ∃ (a : Addr) (ls : List Lt), vs = [.ref a] ∧ LsAt K H a ls ∧ LsOk ls ∧ z = .non) := by
  have G_is_letter := ok_is_letter (P := P) (w := w) (base := base) T
  refine T.F_need_letters.ok sc_need_letters (fun vs H Q E h => ?_) (fun cdv A outer s H vs Q E hr h => ?_)
  · obtain ⟨_, ⟨_, _, rfl, _⟩, _⟩ := h; rfl
  · obtain ⟨_, ⟨a, ls, rfl, ⟨rs, hT, hR⟩, ho, rfl⟩, q⟩ := h
    refine ⟨_, (pss_one (ps_if (PW.pt (pw_or (pt_not (pt_val (pe_callB call_isi (by rfl) T.z_isinstance (by decide +kernel) (pa_cons (pv 0) (pa_cons (pe_bltn (v := .ty "tuple") (by rfl) T.z_tuple (by decide +kernel) rfl) pa_nil))))) (pw_or1 (pt_not (pt_val (pe_callB (cr_all rfl) (by rfl) T.z_all (by decide +kernel) (pa_cons (pe_lc (own := [("letter", 1)]) (g := gName 1) (by rfl) sc_need_letters.nd (pi_tup (pv 0)) (blkOk_by (own := [("letter", 1)]) (N := ["value", "letter"]) (sc := defScope s_need_letters) (by decide +kernel)) (fun _ _ _ _ _ => pg_name (i := 1) sc_need_letters.nd rfl (by first | exact Or.inl rfl | exact Or.inr rfl)) (fun _ _ _ _ _ => pts_nil) (fun _ _ _ _ _ => (pe_call G_is_letter (hr.mono (by decide)) (by rfl) T.g_is_letter T.F_is_letter.kp T.b_is_letter .nil pass0 (pa_cons (pv 1) pa_nil)))) pa_nil))))))) (pss_one ps_never) pss_nil)), ?_⟩
    refine s_when (b := false) (et_is (et_or (a := false) (b := false) (et_is (et_not (et_B (b := true) (ev_cb (vs := [.ref a, .ty "tuple"]) (by walk_at "ea") (rc_isiTup hT)))) rfl) fun _ => et_is (et_not (et_B (b := true) (ev_is (ev_allN (bs := ls.map fun _ => true) ?_) (congrArg V.bl (by simp))))) rfl) rfl) (fun h => by cases h) (fun _ H1 e1 => q H1 e1)
    have e : given (rs.map V.ref).length (fun _ => true) (fun i => V.bl true) = (ls.map fun _ => true).map V.bl := by
      rw [List.length_map, hR.1, given_yes_map ls (.word 0 "") (fun _ => V.bl true), List.map_map]
      rfl
    rw [← e]
    refine el_lcT (fun _ => true) _ (ev_var rfl) hT (by rw [List.length_map, hR.1]; have := ho.1; omega) (fun _ => rfl) (fun i x H4 e4 hx => et_yes) fun i x H4 e4 hx _ => ?_
    obtain ⟨r, l, rfl, h1, h2, h3⟩ := hR.at hx
    exact ev_callP (vs := [.ref r]) (by walk_at "ea") fun H5 e5 => ⟨r, l, rfl, (h3.ex e4).ex e5, ho.2 l (List.mem_of_getElem? h2), rfl⟩
theorem ok_fill (T : Txt K mg w) : FnOk P w K mg base CX0 1 T.a_Bag__fill T.fd_Bag__fill ["self", "letters"] (spFill K T.C_Bag) := by
  refine T.F_Bag__fill.ok sc_Bag__fill (fun vs H Q E h => ?_) (fun cdv A outer s H vs Q E hr h => ?_)
  · obtain ⟨_, _, _, _, _, rfl, _⟩ := h; rfl
  · obtain ⟨p, a, dx, ls, fs, rfl, hp, hf, hL, q⟩ := h
    refine ⟨_, (pss_one (ps_fld (pv 0) (pv 1) rfl)), ?_⟩
    refine s_fld (ev_var rfl) (ev_var rfl) hp T.cl_Bag T.n_Bag_letters (by rcases hf with rfl | ⟨b, rfl⟩ <;> simp) fun H1 e1 => ?_
    have hput : putF "letters" (.ref a) fs = bfs a := by
      rcases hf with rfl | ⟨b, rfl⟩
      · rfl
      · show (if ("letters" : Str) = "letters" then _ else _) = _
        rw [if_pos rfl]
    rw [hput]
    have x1 := (Exd.of (p := p) e1).trans (Exd.upd (p := p) (o := .ins T.C_Bag dx (bfs a)))
    exact q _ x1 ⟨dx, a, upd_same, hL.st fun b xs h => x1.ti hp h⟩
theorem ok_init (T : Txt K mg w) : FnOk P w K mg base CX0 8 T.a_Bag___init__ T.fd_Bag___init__ ["self", "letters"] (spInit K T.C_Bag) := by
  have G_need_letters := ok_need_letters (P := P) (w := w) (base := base) T
  have G_Bag__fill := ok_fill (P := P) (w := w) (base := base) T
  refine T.F_Bag___init__.ok sc_Bag___init__ (fun vs H Q E h => ?_) (fun cdv A outer s H vs Q E hr h => ?_)
  · obtain ⟨_, _, _, _, rfl, _⟩ := h; rfl
  · obtain ⟨p, a, dx, ls, rfl, hp, ho, hL, q⟩ := h
    refine ⟨_, (pss_cons (ps_expr (pe_call G_need_letters (hr.mono (by decide)) (by rfl) T.g_need_letters T.F_need_letters.kp T.b_need_letters .nil pass0 (pa_cons (pv 1) pa_nil)))
  (pss_one (ps_expr (pe_meth (pv 0) T.cl_Bag T.m_Bag__fill G_Bag__fill (hr.mono (by decide)) T.b_Bag__fill .nil pass0 (pa_cons (pv 1) pa_nil))))), ?_⟩
    refine q_drop (v := .non) (ev_callP (vs := [.ref a]) (by walk_at "ea") fun H1 e1 => ⟨a, ls, rfl, hL.ex e1, ho, rfl⟩) fun H1 e1 => ?_
    exact s_dropM (ev_var rfl) (e1 _ _ hp) rfl (fun H3 e3 => by walk_at "ea") fun H3 e3 => ⟨p, a, dx, ls, [], rfl, (e1.trans e3) _ _ hp, .inl rfl, hL.ex (e1.trans e3), fun H4 x4 h4 => q H4 ((Exd.of (e1.trans e3)).trans x4) h4⟩
def kBagOf (K : PySem.W.Frag) (vs : List V) (H : Hp) (ls : List Lt) : Prop := ∃ a, vs = [.ref a] ∧ LsAt K H a ls
theorem ok_bag_of (T : Txt K mg w) : FnOk P w K mg base CX0 10 T.a_bag_of T.fd_bag_of ["letters"] (Bnew K T.C_Bag (kBagOf K)) := by
  have G_Bag___init__ := ok_init (P := P) (w := w) (base := base) T
  have G_Bag__fill := ok_fill (P := P) (w := w) (base := base) T
  refine T.F_bag_of.ok sc_bag_of (fun vs H Q E h => ?_) (fun cdv A outer s H vs Q E hr h => ?_)
  · obtain ⟨_, ⟨_, rfl, _⟩, _⟩ := h; rfl
  · obtain ⟨ls, ⟨a, rfl, hL⟩, q⟩ := h
    refine ⟨_, (pss_cons (ps_set (i := 1) sc_bag_of.nd rfl (.inl rfl) (pe_make0 T.mk_Bag G_Bag___init__ (hr.mono (by decide)) (by rfl) T.g_Bag T.bd_Bag___init__ (.cons (a := V.ref T.e_Bag___init__) rfl .nil) pass0))
  (pss_cons (ps_expr (pe_meth (pv 1) T.cl_Bag T.m_Bag__fill G_Bag__fill (hr.mono (by decide)) T.b_Bag__fill .nil pass0 (pa_cons (pv 0) pa_nil)))
  (pss_one (ps_ret (pv 1))))), ?_⟩
    refine q_asgB (ls := []) (eb_make (ap_nil.mono fun vs H1 h1 => ⟨T.e_Bag___init__, by rw [h1]; rfl, [], T.oe_Bag___init__ H1, rfl, fun i r l h => by cases h⟩) ⟨by decide, fun _ h => by cases h⟩) fun p H1 hp e1 hB => ?_
    obtain ⟨dx, b, hob, _⟩ := hB
    refine q_dropM (ev_var rfl) hob rfl (fun H3 e3 => by walk_at "ea") fun H3 e3 => ⟨p, a, dx, ls, _, rfl, e3 _ _ hob, .inr ⟨b, rfl⟩, hL.ex (e1.trans e3), fun H4 x4 h4 => ?_⟩
    exact s_ret (ev_var rfl) fun H5 e5 => q p H5 hp ((x4.out (e1.trans e3) hp).trans e5) (h4.ex e5)
end
end Kz
set_option Elab.async false
set_option linter.all false
set_option maxRecDepth 100000
set_option maxHeartbeats 4000000
set_option exponentiation.threshold 500
namespace Kz
open PySem PySem.Spec PyProof.Rows L2 Evl Vr
local macro_rules | `(tactic| walk_at "sc") => `(tactic| first | (with_reducible assumption) | (with_reducible exact sc_mul (by omega)) | (with_reducible exact sc_mulr (by omega)) | (with_reducible exact sc_div (by omega) (by decide)) | (show (0 : Int) < _; omega) | (show _ ≠ (0 : Int); omega) | (with_reducible rfl) | decide)
local macro_rules | `(tactic| walk_at "sq") => `(tactic| first | assumption | exact sq_of (by assumption) | exact st_of (by assumption))
local macro_rules | `(tactic| walk_at "pl") => `(tactic| first | assumption | exact pl_int | exact pl_bl | exact pl_str | exact pl_non | exact pl_lst (by assumption) | exact pl_tup (by assumption) | exact pl_dK (by assumption))
local macro_rules | `(tactic| walk_at "rv") => `(tactic| first
  | with_reducible exact rv_I0
  | with_reducible exact ru_neg
  | ((with_reducible apply rv_I); walk_at "sc")
  | ((with_reducible apply rv_ixL); walk_at "sq"; first | rfl | assumption)
  | ((with_reducible apply rv_ixT); walk_at "sq"; first | rfl | assumption)
  | ((with_reducible apply rv_eq); rfl) | ((with_reducible apply rv_ne); rfl))
local macro_rules | `(tactic| walk_at "rc") => `(tactic| first
  | with_reducible exact rc_I1 | with_reducible exact rc_B1 | with_reducible exact rc_I2 | ((with_reducible apply rc_repr); walk_at "sc") | ((with_reducible apply rc_lenL); walk_at "sq")
  | ((with_reducible apply rc_isiInt); walk_at "pl") | ((with_reducible apply rc_isiBool); walk_at "pl"))
local macro_rules | `(tactic| walk_at "ea") => `(tactic| first
  | with_reducible exact ea_nil | ((with_reducible apply ea_cons); walk_at "ev"; walk_at "ea"))
local macro_rules | `(tactic| walk_at "pow") => `(tactic| first
  | with_reducible exact ev_pow (a := 10) (b := 9) (c := 1000000000) (by decide +kernel) (by decide +kernel)
  | with_reducible exact ev_pow (a := 10) (b := 10) (c := 10000000000) (by decide +kernel) (by decide +kernel)
  | with_reducible exact ev_pow (a := 10) (b := 12) (c := 1000000000000) (by decide +kernel) (by decide +kernel)
  | with_reducible exact ev_pow (a := 10) (b := 17) (c := 100000000000000000) (by decide +kernel) (by decide +kernel)
  | with_reducible exact ev_pow (a := 10) (b := 20) (c := 100000000000000000000) (by decide +kernel) (by decide +kernel)
  | with_reducible exact ev_pow (a := 10) (b := 29) (c := 100000000000000000000000000000) (by decide +kernel) (by decide +kernel)
  | with_reducible exact ev_pow (a := 10) (b := 30) (c := 1000000000000000000000000000000) (by decide +kernel) (by decide +kernel)
  | with_reducible exact ev_pow (a := 10) (b := 40) (c := 10000000000000000000000000000000000000000) (by decide +kernel) (by decide +kernel)
  | with_reducible exact ev_pow (a := 10) (b := 57) (c := 1000000000000000000000000000000000000000000000000000000000) (by decide +kernel) (by decide +kernel)
  | with_reducible exact ev_pow (a := 10) (b := 58) (c := 10000000000000000000000000000000000000000000000000000000000) (by decide +kernel) (by decide +kernel)
  | with_reducible exact ev_pow (a := 10) (b := 59) (c := 100000000000000000000000000000000000000000000000000000000000) (by decide +kernel) (by decide +kernel)
  | with_reducible exact ev_pow (a := 10) (b := 60) (c := 1000000000000000000000000000000000000000000000000000000000000) (by decide +kernel) (by decide +kernel))
local macro_rules | `(tactic| walk_at "call") => `(tactic| (intro H9 e9; first | exact ⟨_, rfl, rfl⟩ | exact ⟨_, _, rfl, rfl⟩ | exact ⟨_, _, _, rfl, rfl⟩ | exact ⟨_, rfl, by walk_at "pl", rfl⟩ | (refine ⟨_, _, _, rfl, ?_, rfl⟩; first | exact Plain.ex e9 (by assumption) | walk_at "pl") | (refine ⟨_, rfl, ?_, rfl⟩; first | exact Plain.ex e9 (by assumption) | walk_at "pl")))
local macro_rules | `(tactic| walk_at "ev") => `(tactic| first
  | with_reducible exact ev_c
  | exact ev_var rfl
  | walk_at "pow"
  | ((with_reducible apply ev_op); walk_at "ev"; walk_at "ev"; walk_at "rv")
  | ((with_reducible apply ev_un); walk_at "ev"; walk_at "rv")
  | ((with_reducible apply ev_cb); walk_at "ea"; walk_at "rc")
  | ((with_reducible apply ev_callP); walk_at "ea"; walk_at "call")
  | ((with_reducible apply ev_chain); walk_at "ev"; walk_at "ev"; walk_at "rv"; walk_at "ev"; walk_at "rv")
  | ((with_reducible apply ev_andV); walk_at "ev"; intro _; walk_at "ev")
  | ((with_reducible apply ev_orV); walk_at "ev"; intro _; walk_at "ev")
  | ((with_reducible apply ev_ite); walk_at "et"; intro _; walk_at "ev"; intro _; walk_at "ev")
  | ((with_reducible apply ev_notV); walk_at "ev"))
local macro_rules | `(tactic| walk_at "et") => `(tactic| first
  | ((with_reducible apply et_test); walk_at "ev")
  | ((with_reducible apply et_B); walk_at "ev")
  | ((with_reducible apply et_and); walk_at "et"; intro _; walk_at "et")
  | ((with_reducible apply et_or); walk_at "et"; intro _; walk_at "et")
  | ((with_reducible apply et_not); walk_at "et"))
open En Wo
/-! ### letters as data -/
theorem eqvAll_map {α : Type} [DecidableEq α] (f : α → PyData) (hf : ∀ a b, PyData.eqv (f a) (f b) = decide (a = b)) : ∀ xs ys : List α, PyData.eqvAll (xs.map f) (ys.map f) = decide (xs = ys)
  | [], [] => rfl
  | [], _ :: _ => rfl
  | _ :: _, [] => rfl
  | x :: xs, y :: ys => by
    show (PyData.eqv (f x) (f y) && PyData.eqvAll (xs.map f) (ys.map f)) = _
    rw [hf, eqvAll_map f hf xs ys]
    by_cases h1 : x = y <;> by_cases h2 : xs = ys <;> simp [h1, h2]
theorem eqv_int (a b : Int) : PyData.eqv (.int a) (.int b) = decide (a = b) := by
  show (a == b) = _
  by_cases h : a = b <;> simp [h]
theorem eqv_str (a b : Str) : PyData.eqv (.str a) (.str b) = decide (a = b) := by
  show (a == b) = _
  by_cases h : a = b <;> simp [h]
theorem eqv_nsD (ns ms : List Int) : PyData.eqv (intsD ns) (intsD ms) = decide (ns = ms) := eqvAll_map PyData.int eqv_int ns ms
theorem eqv_rows (a b : List (List Int)) : PyData.eqv (.tuple (a.map intsD)) (.tuple (b.map intsD)) = decide (a = b) := eqvAll_map intsD eqv_nsD a b
theorem eqv_lt (a b : Lt) : PyData.eqv a.dat b.dat = decide (a = b) := by
  have hd : PyData.eqv a.dat b.dat = (PyData.eqv (.str a.name) (.str b.name) && (PyData.eqv (.int a.seat) (.int b.seat) && PyData.eqvAll a.rest b.rest)) := rfl
  rw [hd, eqv_str, eqv_int]
  have n1 : ("keys" : Str) ≠ "rows" := by decide +kernel
  have n2 : ("keys" : Str) ≠ "piece" := by decide +kernel
  have n3 : ("keys" : Str) ≠ "word" := by decide +kernel
  have n4 : ("rows" : Str) ≠ "piece" := by decide +kernel
  have n5 : ("rows" : Str) ≠ "word" := by decide +kernel
  have n6 : ("piece" : Str) ≠ "word" := by decide +kernel
  rcases a with ⟨s, t, ws, pr⟩ | ⟨s, t, es⟩ | ⟨s, t, i, m, y⟩ | ⟨s, y⟩ <;> rcases b with ⟨s', t', ws', pr'⟩ | ⟨s', t', es'⟩ | ⟨s', t', i', m', y'⟩ | ⟨s', y'⟩
  · show (decide (("keys" : Str) = "keys") && (decide (s = s') && (PyData.eqv (.int t) (.int t') && (PyData.eqv (intsD ws) (intsD ws') && (PyData.eqv (.int pr) (.int pr') && true))))) = _
    rw [eqv_int, eqv_nsD, eqv_int, Bool.eq_iff_iff]
    simp
  · simp [Lt.name, n1]
  · simp [Lt.name, n2]
  · simp [Lt.name, n3]
  · simp [Lt.name, n1.symm]
  · show (decide (("rows" : Str) = "rows") && (decide (s = s') && (PyData.eqv (.int t) (.int t') && (PyData.eqv (.tuple (es.map intsD)) (.tuple (es'.map intsD)) && true)))) = _
    rw [eqv_int, eqv_rows, Bool.eq_iff_iff]
    simp
  · simp [Lt.name, n4]
  · simp [Lt.name, n5]
  · simp [Lt.name, n2.symm]
  · simp [Lt.name, n4.symm]
  · show (decide (("piece" : Str) = "piece") && (decide (s = s') && (PyData.eqv (.int t) (.int t') && (PyData.eqv (.int i) (.int i') && (PyData.eqv (.int m) (.int m') && (PyData.eqv (.str y) (.str y') && true)))))) = _
    rw [eqv_int, eqv_int, eqv_int, eqv_str, Bool.eq_iff_iff]
    simp
  · simp [Lt.name, n6]
  · simp [Lt.name, n3.symm]
  · simp [Lt.name, n5.symm]
  · simp [Lt.name, n6.symm]
  · show (decide (("word" : Str) = "word") && (decide (s = s') && (PyData.eqv (.str y) (.str y') && true))) = _
    rw [eqv_str, Bool.eq_iff_iff]
    simp
theorem eqv_ls (a b : List Lt) : PyData.eqv (lsDat a) (lsDat b) = decide (a = b) := eqvAll_map Lt.dat eqv_lt a b
theorem lay_nsD (ns : List Int) : PyData.canLay0 (intsD ns) = true ∧ PyData.depth (intsD ns) ≤ 1 := by
  have h := lay_ints ns
  refine ⟨h.1, ?_⟩
  show PyData.depthAll (ns.map PyData.int) + 1 ≤ 1
  rw [h.2]
  decide
theorem layAll_map {α : Type} (f : α → PyData) (n : Nat) : ∀ {xs : List α}, (∀ x ∈ xs, PyData.canLay0 (f x) = true ∧ PyData.depth (f x) ≤ n) → PyData.canLayAll0 (xs.map f) = true ∧ PyData.depthAll (xs.map f) ≤ n
  | [], _ => ⟨rfl, Nat.zero_le _⟩
  | x :: xs, h => by
    have h1 := h x (List.mem_cons_self ..)
    have h2 := layAll_map f n (xs := xs) fun y hy => h y (List.mem_cons_of_mem _ hy)
    refine ⟨?_, ?_⟩
    · show (PyData.canLay0 (f x) && PyData.canLayAll0 (xs.map f)) = true
      rw [h1.1, h2.1]; rfl
    · show max (PyData.depth (f x)) (PyData.depthAll (xs.map f)) ≤ n
      have := h1.2
      have := h2.2
      omega
theorem ascii_ok {z : Str} (h : Txt.isascii z = true) : PyData.strOk z = true := by
  unfold Txt.isascii at h
  unfold PyData.strOk
  rw [← Array.all_toList, List.all_eq_true] at h ⊢
  intro c hc
  have := h c hc
  simp only [decide_eq_true_eq] at this
  exact decide_eq_true (by omega)
theorem lay_lt {l : Lt} (ho : l.ok) : PyData.canLay0 l.dat = true ∧ PyData.depth l.dat ≤ 3 := by
  have k1 : PyData.strOk "keys" = true := by decide +kernel
  have k2 : PyData.strOk "rows" = true := by decide +kernel
  have k3 : PyData.strOk "piece" = true := by decide +kernel
  have k4 : PyData.strOk "word" = true := by decide +kernel
  rcases l with ⟨s, t, ws, pr⟩ | ⟨s, t, es⟩ | ⟨s, t, i, m, y⟩ | ⟨s, y⟩
  · have h := lay_nsD ws
    refine ⟨?_, ?_⟩
    · show (PyData.strOk "keys" && (true && (true && (PyData.canLay0 (intsD ws) && (true && true))))) = true
      rw [k1, h.1]; rfl
    · show max 0 (max 0 (max 0 (max (PyData.depth (intsD ws)) (max 0 0)))) + 1 ≤ 3
      have := h.2
      omega
  · have h := layAll_map intsD 1 (xs := es) fun e _ => lay_nsD e
    refine ⟨?_, ?_⟩
    · show (PyData.strOk "rows" && (true && (true && (PyData.canLayAll0 (es.map intsD) && true)))) = true
      rw [k2, h.1]; rfl
    · show max 0 (max 0 (max 0 (max (PyData.depthAll (es.map intsD) + 1) 0))) + 1 ≤ 3
      have := h.2
      omega
  · have hy := ascii_ok ho.2.2.2.2.2.2.2.2.2.1
    refine ⟨?_, ?_⟩
    · show (PyData.strOk "piece" && (true && (true && (true && (true && (PyData.strOk y && true)))))) = true
      rw [k3, hy]; rfl
    · show max 0 (max 0 (max 0 (max 0 (max 0 (max 0 0))))) + 1 ≤ 3
      decide
  · have hy : PyData.strOk y = true := by
      rcases ho.2.2 with rfl | rfl <;> decide +kernel
    refine ⟨?_, ?_⟩
    · show (PyData.strOk "word" && (true && (PyData.strOk y && true))) = true
      rw [k4, hy]; rfl
    · show max 0 (max 0 (max 0 0)) + 1 ≤ 3
      decide
theorem shaped_of_le {d : PyData} {n : Nat} (h : PyData.canLay0 d = true ∧ PyData.depth d ≤ n) (hn : n ≤ 64) : SeqAt.shaped d = true := by
  unfold SeqAt.shaped
  rw [h.1, decide_eq_true (by omega)]
  rfl
theorem shaped_lt {l : Lt} (ho : l.ok) : SeqAt.shaped l.dat = true := shaped_of_le (lay_lt ho) (by decide)
theorem shaped_ls {ls : List Lt} (ho : ∀ l ∈ ls, l.ok) : SeqAt.shaped (lsDat ls) = true := by
  have h := layAll_map Lt.dat 3 (xs := ls) fun l hl => lay_lt (ho l hl)
  refine shaped_of_le (n := 4) ⟨h.1, ?_⟩ (by decide)
  show PyData.depthAll (ls.map Lt.dat) + 1 ≤ 4
  have := h.2
  omega
end Kz
set_option Elab.async false
set_option linter.all false
set_option maxRecDepth 100000
set_option maxHeartbeats 4000000
set_option exponentiation.threshold 500
namespace Kz
open PySem PySem.Spec PyProof.Rows L2 Evl Vr
local macro_rules | `(tactic| walk_at "sc") => `(tactic| first | (with_reducible assumption) | (with_reducible exact sc_mul (by omega)) | (with_reducible exact sc_mulr (by omega)) | (with_reducible exact sc_div (by omega) (by decide)) | (show (0 : Int) < _; omega) | (show _ ≠ (0 : Int); omega) | (with_reducible rfl) | decide)
local macro_rules | `(tactic| walk_at "sq") => `(tactic| first | assumption | exact sq_of (by assumption) | exact st_of (by assumption))
local macro_rules | `(tactic| walk_at "pl") => `(tactic| first | assumption | exact pl_int | exact pl_bl | exact pl_str | exact pl_non | exact pl_lst (by assumption) | exact pl_tup (by assumption) | exact pl_dK (by assumption))
local macro_rules | `(tactic| walk_at "rv") => `(tactic| first
  | with_reducible exact rv_I0
  | with_reducible exact ru_neg
  | ((with_reducible apply rv_I); walk_at "sc")
  | ((with_reducible apply rv_ixL); walk_at "sq"; first | rfl | assumption)
  | ((with_reducible apply rv_ixT); walk_at "sq"; first | rfl | assumption)
  | ((with_reducible apply rv_eq); rfl) | ((with_reducible apply rv_ne); rfl))
local macro_rules | `(tactic| walk_at "rc") => `(tactic| first
  | with_reducible exact rc_I1 | with_reducible exact rc_B1 | with_reducible exact rc_I2 | ((with_reducible apply rc_repr); walk_at "sc") | ((with_reducible apply rc_lenL); walk_at "sq")
  | ((with_reducible apply rc_isiInt); walk_at "pl") | ((with_reducible apply rc_isiBool); walk_at "pl"))
local macro_rules | `(tactic| walk_at "ea") => `(tactic| first
  | with_reducible exact ea_nil | ((with_reducible apply ea_cons); walk_at "ev"; walk_at "ea"))
local macro_rules | `(tactic| walk_at "pow") => `(tactic| first
  | with_reducible exact ev_pow (a := 10) (b := 9) (c := 1000000000) (by decide +kernel) (by decide +kernel)
  | with_reducible exact ev_pow (a := 10) (b := 10) (c := 10000000000) (by decide +kernel) (by decide +kernel)
  | with_reducible exact ev_pow (a := 10) (b := 12) (c := 1000000000000) (by decide +kernel) (by decide +kernel)
  | with_reducible exact ev_pow (a := 10) (b := 17) (c := 100000000000000000) (by decide +kernel) (by decide +kernel)
  | with_reducible exact ev_pow (a := 10) (b := 20) (c := 100000000000000000000) (by decide +kernel) (by decide +kernel)
  | with_reducible exact ev_pow (a := 10) (b := 29) (c := 100000000000000000000000000000) (by decide +kernel) (by decide +kernel)
  | with_reducible exact ev_pow (a := 10) (b := 30) (c := 1000000000000000000000000000000) (by decide +kernel) (by decide +kernel)
  | with_reducible exact ev_pow (a := 10) (b := 40) (c := 10000000000000000000000000000000000000000) (by decide +kernel) (by decide +kernel)
  | with_reducible exact ev_pow (a := 10) (b := 57) (c := 1000000000000000000000000000000000000000000000000000000000) (by decide +kernel) (by decide +kernel)
  | with_reducible exact ev_pow (a := 10) (b := 58) (c := 10000000000000000000000000000000000000000000000000000000000) (by decide +kernel) (by decide +kernel)
  | with_reducible exact ev_pow (a := 10) (b := 59) (c := 100000000000000000000000000000000000000000000000000000000000) (by decide +kernel) (by decide +kernel)
  | with_reducible exact ev_pow (a := 10) (b := 60) (c := 1000000000000000000000000000000000000000000000000000000000000) (by decide +kernel) (by decide +kernel))
local macro_rules | `(tactic| walk_at "call") => `(tactic| (intro H9 e9; first | exact ⟨_, rfl, rfl⟩ | exact ⟨_, _, rfl, rfl⟩ | exact ⟨_, _, _, rfl, rfl⟩ | exact ⟨_, rfl, by walk_at "pl", rfl⟩ | (refine ⟨_, _, _, rfl, ?_, rfl⟩; first | exact Plain.ex e9 (by assumption) | walk_at "pl") | (refine ⟨_, rfl, ?_, rfl⟩; first | exact Plain.ex e9 (by assumption) | walk_at "pl")))
local macro_rules | `(tactic| walk_at "ev") => `(tactic| first
  | with_reducible exact ev_c
  | exact ev_var rfl
  | walk_at "pow"
  | ((with_reducible apply ev_op); walk_at "ev"; walk_at "ev"; walk_at "rv")
  | ((with_reducible apply ev_un); walk_at "ev"; walk_at "rv")
  | ((with_reducible apply ev_cb); walk_at "ea"; walk_at "rc")
  | ((with_reducible apply ev_callP); walk_at "ea"; walk_at "call")
  | ((with_reducible apply ev_chain); walk_at "ev"; walk_at "ev"; walk_at "rv"; walk_at "ev"; walk_at "rv")
  | ((with_reducible apply ev_andV); walk_at "ev"; intro _; walk_at "ev")
  | ((with_reducible apply ev_orV); walk_at "ev"; intro _; walk_at "ev")
  | ((with_reducible apply ev_ite); walk_at "et"; intro _; walk_at "ev"; intro _; walk_at "ev")
  | ((with_reducible apply ev_notV); walk_at "ev"))
local macro_rules | `(tactic| walk_at "et") => `(tactic| first
  | ((with_reducible apply et_test); walk_at "ev")
  | ((with_reducible apply et_B); walk_at "ev")
  | ((with_reducible apply et_and); walk_at "et"; intro _; walk_at "et")
  | ((with_reducible apply et_or); walk_at "et"; intro _; walk_at "et")
  | ((with_reducible apply et_not); walk_at "et"))
open En Wo
section
variable {σ : L2.St} {H H' : Hp} {te ta tb : TE} {tl th : TO} {ts tr : TA} {tz : TS} {D : Ends} {K : PySem.W.Frag} {C p a : Addr} {xs ys : List V}
/-- a tuple, new or not -/
def EvTU (K : PySem.W.Frag) (te : TE) (σ : L2.St) (H : Hp) (xs : List V) : Prop := ∀ H1, Ex H H1 → ∀ Q : VK, (∀ b H2, Ex H1 H2 → SqT K H2 b xs → Q (.ref b) H2) → te σ H1 Q
theorem etu_U (h : EvU te σ H xs) : EvTU K te σ H xs := fun H1 e Q q => h H1 e Q fun b H2 _ e2 h2 => q b H2 e2 (st_of h2)
theorem etu_V (h : Ev te σ H (.ref a)) (hx : SqT K H a xs) : EvTU K te σ H xs := fun H1 e Q q => h H1 e Q fun H2 e2 => q a H2 e2 (ex_t (e.trans e2) hx)
theorem etu_cat (h1 : EvTU K ta σ H xs) (h2 : EvTU K tb σ H ys) (hl : xs.length + ys.length ≤ 100000) : EvTU K (tOp (rCatA K) ta tb) σ H (xs ++ ys) := fun H1 e Q q =>
  h1 H1 e _ fun a H2 e2 ha => h2 H2 (e.trans e2) _ fun b H3 e3 hb => ⟨a, b, xs, ys, rfl, rfl, ex_t e3 ha, hb, sz_of hl, fun z => by subst z; exact q b H3 (e2.trans e3) hb, fun _ z => by subst z; rw [List.append_nil] at q; exact q a H3 (e2.trans e3) (ex_t e3 ha), fun _ _ c hc => q c _ ((e2.trans e3).trans (Ex.new hc)) (st_of upd_same)⟩
theorem ap_consTU {P2 : List V → Hp → Prop} (h : EvTU K te σ H xs) (hr : EvAP tr σ H P2) : EvAP (tCons te tr) σ H (fun vs H' => ∃ b ws, vs = .ref b :: ws ∧ SqT K H' b xs ∧ P2 ws H') := fun H1 e Q q =>
  h H1 e _ fun b H2 e2 h2 => hr H2 (e.trans e2) _ fun ws H3 e3 h3 => q (.ref b :: ws) H3 (e2.trans e3) ⟨b, ws, rfl, ex_t e3 h2, h3⟩
theorem ea_starTV {ys : List V} (h : Ev te σ H (.ref p)) (hx : SqT K H p xs) (hr : ∀ H1, Ex H H1 → EvA tr σ H1 ys) : EvA (StX.tStar K te tr) σ H (xs ++ ys) := fun H1 e Q q =>
  h H1 e _ fun H2 e2 => ⟨p, xs, rfl, .inl (ex_t (e.trans e2) hx), hr H2 (e.trans e2) H2 (Ex.refl H2) _ fun H3 e3 => q H3 (e2.trans e3)⟩
end
theorem LrsAt.one {K : PySem.W.Frag} {H : Hp} {r : Addr} {l : Lt} (h : LtAt K H r l) : LrsAt K H [r] [l] := ⟨rfl, fun i r' l' a b => by
  cases i with
  | zero => cases a; cases b; exact h
  | succ i => cases a⟩
theorem kitF {K : PySem.W.Frag} {C : Addr} {n : String} (c : (PySem.W.clsIn K C).isSome = true) (y : PySem.W.typeIn K (.ref C) = some (.type "type")) (h : PySem.W.subIn K (.type n) (.ref C) = some false) : PySem.W.kitOne K (.type n) (.ref C) = some false := by
  unfold PySem.W.kitOne PySem.W.kitCls
  rw [if_neg (by simp)]
  show (if ((PySem.W.clsIn K C).isSome && PySem.W.typeIn K (.ref C) == some (.type "type")) = true then PySem.W.subIn K (.type n) (.ref C) else none) = some false
  rw [c, y, h]
  simp
section
variable {P : Program} {w : World} {K : PySem.W.Frag} {mg : Str → Option Value} {base : Heap}
def kSent (K : PySem.W.Frag) (C : Addr) (vs : List V) (H : Hp) (ms : List Lt) : Prop := ∃ (p r : Addr) (ls : List Lt) (l : Lt), vs = [.ref p, .ref r] ∧ BgAt K C H p ls ∧ ls.length ≤ 100 ∧ LtAt K H r l ∧ l.ok ∧ ms = ls ++ [l]
theorem ok_sent (T : Txt K mg w) : FnOk P w K mg base CX0 11 T.a_Bag_sent T.fd_Bag_sent ["self", "letter"] (Bnew K T.C_Bag (kSent K T.C_Bag)) := by
  have G_need_letter := ok_need_letter (P := P) (w := w) (base := base) T
  have G_bag_of := ok_bag_of (P := P) (w := w) (base := base) T
  refine T.F_Bag_sent.ok sc_Bag_sent (fun vs H Q E h => ?_) (fun cdv A outer s H vs Q E hr h => ?_)
  · obtain ⟨_, ⟨_, _, _, _, rfl, _⟩, _⟩ := h; rfl
  · obtain ⟨_, ⟨p, r, ls, l, rfl, hB, hln, hl, ho, rfl⟩, q⟩ := h
    refine ⟨_, (pss_cons (ps_expr (pe_call G_need_letter (hr.mono (by decide)) (by rfl) T.g_need_letter T.F_need_letter.kp T.b_need_letter .nil pass0 (pa_cons (pv 1) pa_nil)))
  (pss_one (ps_ret (pe_call G_bag_of (hr.mono (by decide)) (by rfl) T.g_bag_of T.F_bag_of.kp T.b_bag_of .nil pass0 (pa_cons (pe_tup (StX.pa_star (pe_fld (pv 0) rfl) (pa_cons (pv 1) pa_nil))) pa_nil))))), ?_⟩
    refine q_drop (v := .non) (ev_callP (vs := [.ref r]) (by walk_at "ea") fun H1 e1 => ⟨r, l, rfl, hl.ex e1, ho, rfl⟩) fun H1 e1 => ?_
    obtain ⟨dx, a, hob, rs, hT, hR⟩ := hB.ex e1
    have rl := hR.1
    refine s_retB (ls := ls ++ [l]) (eb_call (ok := kBagOf K) (ap_consU (eu_tup (ea_starTV (ev_fld (ev_var rfl) hob T.cl_Bag T.n_Bag_letters rfl) hT fun H2 e2 => ea_cons (ev_var rfl) ea_nil) (by rw [List.length_append, List.length_map]; show _ + 1 ≤ _; omega)) ap_nil) fun vs H2 e2 ⟨b, ws, hv, hb, hw⟩ => ⟨b, by rw [hv, hw], rs ++ [r], by rw [List.map_append]; exact st_of hb, (hR.ex e2).app (LrsAt.one (hl.ex (e1.trans e2)))⟩) fun p' H2 hp e2 h2 => q p' H2 (fresh_back e1 hp) (e1.trans e2) h2
def kSentAll (K : PySem.W.Frag) (C : Addr) (vs : List V) (H : Hp) (ms : List Lt) : Prop := ∃ (p a : Addr) (ls ks : List Lt), vs = [.ref p, .ref a] ∧ BgAt K C H p ls ∧ ls.length ≤ 100 ∧ LsAt K H a ks ∧ LsOk ks ∧ ms = ls ++ ks
theorem ok_sent_all (T : Txt K mg w) : FnOk P w K mg base CX0 11 T.a_Bag_sent_all T.fd_Bag_sent_all ["self", "letters"] (Bnew K T.C_Bag (kSentAll K T.C_Bag)) := by
  have G_need_letters := ok_need_letters (P := P) (w := w) (base := base) T
  have G_bag_of := ok_bag_of (P := P) (w := w) (base := base) T
  refine T.F_Bag_sent_all.ok sc_Bag_sent_all (fun vs H Q E h => ?_) (fun cdv A outer s H vs Q E hr h => ?_)
  · obtain ⟨_, ⟨_, _, _, _, rfl, _⟩, _⟩ := h; rfl
  · obtain ⟨_, ⟨p, b, ls, ks, rfl, hB, hln, hL, ho, rfl⟩, q⟩ := h
    refine ⟨_, (pss_cons (ps_expr (pe_call G_need_letters (hr.mono (by decide)) (by rfl) T.g_need_letters T.F_need_letters.kp T.b_need_letters .nil pass0 (pa_cons (pv 1) pa_nil)))
  (pss_one (ps_ret (pe_call G_bag_of (hr.mono (by decide)) (by rfl) T.g_bag_of T.F_bag_of.kp T.b_bag_of .nil pass0 (pa_cons (pe_op op_catA (pe_fld (pv 0) rfl) (pv 1)) pa_nil))))), ?_⟩
    refine q_drop (v := .non) (ev_callP (vs := [.ref b]) (by walk_at "ea") fun H1 e1 => ⟨b, ks, rfl, hL.ex e1, ho, rfl⟩) fun H1 e1 => ?_
    obtain ⟨dx, a, hob, rs, hT, hR⟩ := hB.ex e1
    obtain ⟨us, hU, hV⟩ := hL.ex e1
    have rl := hR.1
    have ul := hV.1
    have o1 := ho.1
    refine s_retB (ls := ls ++ ks) (eb_call (ok := kBagOf K) (ap_consTU (etu_cat (etu_V (ev_fld (ev_var rfl) hob T.cl_Bag T.n_Bag_letters rfl) hT) (etu_V (ev_var rfl) hU) (by rw [List.length_map, List.length_map]; omega)) ap_nil) fun vs H2 e2 ⟨c, ws, hv, hc, hw⟩ => ⟨c, by rw [hv, hw], rs ++ us, by rw [List.map_append]; exact hc, (hR.ex e2).app (hV.ex e2)⟩) fun p' H2 hp e2 h2 => q p' H2 (fresh_back e1 hp) (e1.trans e2) h2
def kNumOf (K : PySem.W.Frag) (C : Addr) (vs : List V) (H : Hp) (z : V) : Prop := ∃ (p : Addr) (i : Int) (ls : List Lt), vs = [.ref p, .int i] ∧ BgAt K C H p ls ∧ ls.length ≤ 100 ∧ 0 ≤ i ∧ i < ls.length ∧ z = .bl true
theorem ok_is_number_of (T : Txt K mg w) : FnOk P w K mg base CX0 3 T.a_is_number_of T.fd_is_number_of ["bag", "value"] (Pure (kNumOf K T.C_Bag)) := by
  have G_is_within := ok_is_within (P := P) (w := w) (base := base) T
  refine T.F_is_number_of.ok sc_is_number_of (fun vs H Q E h => ?_) (fun cdv A outer s H vs Q E hr h => ?_)
  · obtain ⟨_, ⟨_, _, _, rfl, _⟩, _⟩ := h; rfl
  · obtain ⟨_, ⟨p, i, ls, rfl, ⟨dx, a, hob, rs, hT, hR⟩, hl, i0, i1, rfl⟩, q⟩ := h
    refine ⟨_, (pss_one (ps_ret (pe_call G_is_within (hr.mono (by decide)) (by rfl) T.g_is_within T.F_is_within.kp T.b_is_within .nil pass0 (pa_cons (pv 1) (pa_cons pe_int (pa_cons (pe_op op_sub (pe_callB c_len (by rfl) T.z_len PySem.boot_len (pa_cons (pe_fld (pv 0) rfl) pa_nil)) pe_int) pa_nil)))))), ?_⟩
    have hll := rc_lenT (H := H) hT
    rw [List.length_map, hR.1] at hll
    exact s_ret (v := .bl true) (ev_callP (vs := [.int i, .int 0, .int ((ls.length : Int) - 1)]) (ea_cons (ev_var rfl) (ea_cons ev_c (ea_cons (ev_op (ev_cb (vs := [.ref a]) (ea_cons (ev_fld (ev_var rfl) hob T.cl_Bag T.n_Bag_letters rfl) ea_nil) hll) ev_c rv_I0) ea_nil))) fun H1 e1 => ⟨.int i, _, _, rfl, pl_int, by rw [within_is ⟨i0, by omega⟩ (int_is (by omega))]⟩) q
def spLetter (K : PySem.W.Frag) (C : Addr) : Sp := fun vs H Q _ => ∃ (p : Addr) (ls : List Lt) (i : Nat) (l : Lt), vs = [.ref p, .int i] ∧ BgAt K C H p ls ∧ ls.length ≤ 100 ∧ ls[i]? = some l ∧ ∀ r H', Ex H H' → LtAt K H' r l → Q (.ref r) H'
theorem ok_letter (T : Txt K mg w) : FnOk P w K mg base CX0 4 T.a_Bag_letter T.fd_Bag_letter ["self", "number"] (spLetter K T.C_Bag) := by
  have G_is_number_of := ok_is_number_of (P := P) (w := w) (base := base) T
  refine T.F_Bag_letter.ok sc_Bag_letter (fun vs H Q E h => ?_) (fun cdv A outer s H vs Q E hr h => ?_)
  · obtain ⟨_, _, _, _, rfl, _⟩ := h; rfl
  · obtain ⟨p, ls, i, l, rfl, hB, hl, hi, q⟩ := h
    refine ⟨_, (pss_cons (ps_if (pt_not (pt_val (pe_call G_is_number_of (hr.mono (by decide)) (by rfl) T.g_is_number_of T.F_is_number_of.kp T.b_is_number_of .nil pass0 (pa_cons (pv 0) (pa_cons (pv 1) pa_nil))))) (pss_one ps_never) pss_nil)
  (pss_one (ps_ret (pe_ix ix_tup (pe_fld (pv 0) rfl) (pv 1) (fun _ _ => rfl))))), ?_⟩
    have hil := (List.getElem?_eq_some_iff.mp hi).1
    refine q_when (b := false) (et_is (et_not (et_B (b := true) (ev_callP (vs := [.ref p, .int i]) (by walk_at "ea") fun H1 e1 => ⟨p, i, ls, rfl, hB.ex e1, hl, by omega, by omega, rfl⟩))) rfl) (fun h => by cases h) fun _ H1 e1 => ?_
    obtain ⟨dx, a, hob, rs, hT, hR⟩ := hB.ex e1
    have hri : i < rs.length := by have := hR.1; omega
    have hx : (rs.map V.ref)[i]? = some (.ref (rs[i]'hri)) := by rw [List.getElem?_map, List.getElem?_eq_getElem hri]; rfl
    exact s_ret (v := .ref (rs[i]'hri)) (ev_op (ev_fld (ev_var rfl) hob T.cl_Bag T.n_Bag_letters rfl) (ev_var rfl) (rv_ixT hT (atI_nat hx))) fun H2 e2 => q _ H2 (e1.trans e2) ((hR.2 i _ _ (List.getElem?_eq_getElem hri) hi).ex e2)
/-- the numbers of a goal's letters -/
def toV (ls : List Lt) (g : Int) : List V := given ls.length (fun i => decide ((ls.getD i (.word 0 "")).goal = g)) (fun i => .int (i : Nat))
def kTo (K : PySem.W.Frag) (C : Addr) (vs : List V) (H : Hp) (xs : List V) : Prop := ∃ (p : Addr) (g : Int) (ls : List Lt), vs = [.ref p, .int g] ∧ BgAt K C H p ls ∧ ls.length ≤ 100 ∧ -1 ≤ g ∧ g ≤ 5 ∧ xs = toV ls g
theorem ok_to (T : Txt K mg w) : FnOk P w K mg base CX0 3 T.a_Bag_to T.fd_Bag_to ["self", "goal"] (Tupd (kTo K T.C_Bag)) := by
  have G_is_within := ok_is_within (P := P) (w := w) (base := base) T
  have G_goal_of := ok_goal_of (P := P) (w := w) (base := base) T
  refine T.F_Bag_to.ok sc_Bag_to (fun vs H Q E h => ?_) (fun cdv A outer s H vs Q E hr h => ?_)
  · obtain ⟨_, ⟨_, _, _, rfl, _⟩, _⟩ := h; rfl
  · obtain ⟨_, ⟨p, g, ls, rfl, hB, hl, g0, g1, rfl⟩, q⟩ := h
    refine ⟨_, (pss_cons (ps_if (pt_not (pt_val (pe_call G_is_within (hr.mono (by decide)) (by rfl) T.g_is_within T.F_is_within.kp T.b_is_within .nil pass0 (pa_cons (pv 1) (pa_cons (pe_glob (v := .int (-1)) rfl T.g_HOST ⟨_, rfl⟩) (pa_cons (pe_glob (v := .int (5)) rfl T.g_MOST_SEAT ⟨_, rfl⟩) pa_nil)))))) (pss_one ps_never) pss_nil)
  (pss_one (ps_ret (pe_callTy c_tupL (by rfl) T.z_tuple (by decide +kernel) (pa_cons (pe_lc (own := [("number", 2), ("letter", 3)]) (g := gTup _ 2 (gCons (gName 2) (gCons (gName 3) gNil))) (by rfl) sc_Bag_to.nd (En.pi_enumT rfl T.z_enumerate (pa_cons (pe_fld (pv 0) rfl) pa_nil)) (blkOk_by (own := [("number", 2), ("letter", 3)]) (N := ["self", "goal", "number", "letter"]) (sc := defScope s_Bag_to) (by decide +kernel)) (fun _ _ _ _ _ => pg_tup rfl (pgs_cons (pg_name (i := 2) sc_Bag_to.nd rfl (by first | exact Or.inl rfl | exact Or.inr rfl)) (pgs_cons (pg_name (i := 3) sc_Bag_to.nd rfl (by first | exact Or.inl rfl | exact Or.inr rfl)) pgs_nil))) (fun _ _ _ _ _ => (pts_one (pt_cmpR op_eq (pe_call G_goal_of (hr.mono (by decide)) (by rfl) T.g_goal_of T.F_goal_of.kp T.b_goal_of .nil pass0 (pa_cons (pv 3) pa_nil)) (pv 1) (nomark _)))) (fun _ _ _ _ _ => (pv 2))) pa_nil))))), ?_⟩
    refine q_when (b := false) (et_is (et_not (et_B (b := true) (ev_callP (vs := [.int g, .int (-1), .int 5]) (by walk_at "ea") fun H1 e1 => ⟨.int g, _, _, rfl, pl_int, by rw [within_is ⟨g0, g1⟩ (int_is (by omega))]⟩))) rfl) (fun h => by cases h) fun _ H1 e1 => ?_
    obtain ⟨dx, a, hob, rs, hT, hR⟩ := hB.ex e1
    have hrl : (rs.map V.ref).length = ls.length := by rw [List.length_map, hR.1]
    refine s_retU (xs := toV ls g) (eu_tupL ?_) fun b H2 hb e2 h2 => q b H2 (fresh_back e1 hb) (e1.trans e2) h2
    unfold toV
    rw [← hrl]
    refine el_lcEnumT _ _ (ea_cons (ev_fld (ev_var rfl) hob T.cl_Bag T.n_Bag_letters rfl) ea_nil) hT (by rw [hrl]; omega) (fun _ _ => rfl) (fun i x H2 e2 hx => ?_) fun i x H2 e2 hx _ => ev_var rfl
    obtain ⟨r, l, rfl, h1, h2, h3⟩ := hR.at hx
    have hd : ls.getD i (.word 0 "") = l := by rw [List.getD_eq_getElem?_getD, h2]; rfl
    rw [hd]
    exact et_is (et_test (ev_op (ev_callP (vs := [.ref r]) (by walk_at "ea") fun H3 e3 => ⟨r, l, rfl, (h3.ex e2).ex e3, rfl⟩) (ev_var rfl) (rv_eq rfl))) (decide_eq_decide.mpr ⟨V.int.inj, fun h => by rw [h]⟩)
def kLen (K : PySem.W.Frag) (C : Addr) (vs : List V) (H : Hp) (z : V) : Prop := ∃ (p : Addr) (ls : List Lt), vs = [.ref p] ∧ BgAt K C H p ls ∧ z = .int ls.length
theorem ok_len (T : Txt K mg w) : FnOk P w K mg base CX0 1 T.a_Bag___len__ T.fd_Bag___len__ ["self"] (Pure (kLen K T.C_Bag)) := by
  refine T.F_Bag___len__.ok sc_Bag___len__ (fun vs H Q E h => ?_) (fun cdv A outer s H vs Q E hr h => ?_)
  · obtain ⟨_, ⟨_, _, rfl, _⟩, _⟩ := h; rfl
  · obtain ⟨_, ⟨p, ls, rfl, ⟨dx, a, hob, rs, hT, hR⟩, rfl⟩, q⟩ := h
    refine ⟨_, (pss_one (ps_ret (pe_callB c_len (by rfl) T.z_len PySem.boot_len (pa_cons (pe_fld (pv 0) rfl) pa_nil)))), ?_⟩
    have hll := rc_lenT (H := H) hT
    rw [List.length_map, hR.1] at hll
    exact s_ret (v := .int ls.length) (ev_cb (vs := [.ref a]) (ea_cons (ev_fld (ev_var rfl) hob T.cl_Bag T.n_Bag_letters rfl) ea_nil) hll) q
theorem rc_isiB (T : Txt K mg w) {H : Hp} {p dx : Addr} {fs : List (Str × V)} (h : H p = some (.ins T.C_Bag dx fs)) : RC (rIsi K) [.ref p, .ref T.C_Bag] H (.bl true) := fun H1 e Q q =>
  ⟨.ref p, .ref T.C_Bag, .ref T.C_Bag, .ref T.C_Bag, true, rfl, .own _, .base (.ins (e _ _ h) T.cl_Bag T.ha_Bag T.hn_Bag T.ht_Bag T.hm_Bag), by unfold PySem.W.kitOne; simp, q H1 (Ex.refl H1)⟩
theorem rc_isiN (T : Txt K mg w) {H : Hp} {a : Addr} {xs : List V} (hT : SqT K H a xs) : RC (rIsi K) [.ref a, .ref T.C_Bag] H (.bl false) := fun H1 e Q q => by
  rcases ex_t e hT with (h | ⟨o, h⟩) | h
  · exact ⟨.ref a, .ref T.C_Bag, .type "tuple", .ref T.C_Bag, false, rfl, .own _, .base (.tup h), kitF T.hc_Bag T.hy_Bag T.hs_Bag_tuple, q H1 (Ex.refl H1)⟩
  · exact ⟨.ref a, .ref T.C_Bag, .type "tuple", .ref T.C_Bag, false, rfl, .own _, .fTuple h, kitF T.hc_Bag T.hy_Bag T.hs_Bag_tuple, q H1 (Ex.refl H1)⟩
  · obtain ⟨o, its, n, h1, h2, _⟩ := h
    exact ⟨.ref a, .ref T.C_Bag, .type "tuple", .ref T.C_Bag, false, rfl, .own _, .kTuple h1 h2, kitF T.hc_Bag T.hy_Bag T.hs_Bag_tuple, q H1 (Ex.refl H1)⟩
def kEqB (K : PySem.W.Frag) (C : Addr) (vs : List V) (H : Hp) (z : V) : Prop := ∃ (p : Addr) (ls : List Lt) (x : V), vs = [.ref p, x] ∧ BgAt K C H p ls ∧ ((∃ p' ls', x = .ref p' ∧ BgAt K C H p' ls' ∧ (∀ l ∈ ls, l.ok) ∧ (∀ l ∈ ls', l.ok) ∧ z = .bl (decide (ls = ls'))) ∨ (∃ a xs, x = .ref a ∧ SqT K H a xs ∧ z = .bl false))
theorem ok_eq (T : Txt K mg w) : FnOk P w K mg base CX0 2 T.a_Bag___eq__ T.fd_Bag___eq__ ["self", "other"] (Pure (kEqB K T.C_Bag)) := by
  refine T.F_Bag___eq__.ok sc_Bag___eq__ (fun vs H Q E h => ?_) (fun cdv A outer s H vs Q E hr h => ?_)
  · obtain ⟨_, ⟨_, _, _, rfl, _⟩, _⟩ := h; rfl
  · obtain ⟨_, ⟨p, ls, x, rfl, hB, hx⟩, q⟩ := h
    refine ⟨_, (pss_one (ps_ret (pe_and (pe_callB call_isi (by rfl) T.z_isinstance (by decide +kernel) (pa_cons (pv 1) (pa_cons (pe_glob (v := .ref _) rfl T.g_Bag rfl) pa_nil))) (pe_one (pe_cmpR (op_eqD hr.units) (pe_fld (pv 0) rfl) (pe_fld (pv 1) rfl) (nomark _)))))), ?_⟩
    rcases hx with ⟨p', ls', rfl, hB', ho, ho', rfl⟩ | ⟨a, xs, rfl, hT, rfl⟩
    · obtain ⟨dx, a, hob, hL⟩ := hB
      obtain ⟨dx', a', hob', hL'⟩ := hB'
      exact s_ret (v := .bl (decide (ls = ls'))) (ev_is (ev_andV (a := true) (b := decide (ls = ls')) (ev_cb (vs := [.ref p', .ref T.C_Bag]) (by walk_at "ea") (rc_isiB T hob')) fun _ => ev_is (ev_eqD (evd_of (ev_fld (ev_var rfl) hob T.cl_Bag T.n_Bag_letters rfl) fun H1 e => (hL.ex e).dp) (evd_of (ev_fld (ev_var rfl) hob' T.cl_Bag T.n_Bag_letters rfl) fun H1 e => (hL'.ex e).dp) (shaped_ls ho) (shaped_ls ho')) (by rw [eqv_ls])) (by simp)) q
    · exact s_ret (v := .bl false) (ev_is (ev_andV (a := false) (b := false) (ev_cb (vs := [.ref a, .ref T.C_Bag]) (by walk_at "ea") (rc_isiN T hT)) fun h => by cases h) rfl) q
end
end Kz
set_option Elab.async false
set_option linter.all false
set_option maxRecDepth 100000
set_option maxHeartbeats 4000000
set_option exponentiation.threshold 500
namespace Kz
open PySem PySem.Spec PyProof.Rows L2 Evl Vr
local macro_rules | `(tactic| walk_at "sc") => `(tactic| first | (with_reducible assumption) | (with_reducible exact sc_mul (by omega)) | (with_reducible exact sc_mulr (by omega)) | (with_reducible exact sc_div (by omega) (by decide)) | (show (0 : Int) < _; omega) | (show _ ≠ (0 : Int); omega) | (with_reducible rfl) | decide)
local macro_rules | `(tactic| walk_at "sq") => `(tactic| first | assumption | exact sq_of (by assumption) | exact st_of (by assumption))
local macro_rules | `(tactic| walk_at "pl") => `(tactic| first | assumption | exact pl_int | exact pl_bl | exact pl_str | exact pl_non | exact pl_lst (by assumption) | exact pl_tup (by assumption) | exact pl_dK (by assumption))
local macro_rules | `(tactic| walk_at "rv") => `(tactic| first
  | with_reducible exact rv_I0
  | with_reducible exact ru_neg
  | ((with_reducible apply rv_I); walk_at "sc")
  | ((with_reducible apply rv_ixL); walk_at "sq"; first | rfl | assumption)
  | ((with_reducible apply rv_ixT); walk_at "sq"; first | rfl | assumption)
  | ((with_reducible apply rv_eq); rfl) | ((with_reducible apply rv_ne); rfl))
local macro_rules | `(tactic| walk_at "rc") => `(tactic| first
  | with_reducible exact rc_I1 | with_reducible exact rc_B1 | with_reducible exact rc_I2 | ((with_reducible apply rc_repr); walk_at "sc") | ((with_reducible apply rc_lenL); walk_at "sq")
  | ((with_reducible apply rc_isiInt); walk_at "pl") | ((with_reducible apply rc_isiBool); walk_at "pl"))
local macro_rules | `(tactic| walk_at "ea") => `(tactic| first
  | with_reducible exact ea_nil | ((with_reducible apply ea_cons); walk_at "ev"; walk_at "ea"))
local macro_rules | `(tactic| walk_at "pow") => `(tactic| first
  | with_reducible exact ev_pow (a := 10) (b := 9) (c := 1000000000) (by decide +kernel) (by decide +kernel)
  | with_reducible exact ev_pow (a := 10) (b := 10) (c := 10000000000) (by decide +kernel) (by decide +kernel)
  | with_reducible exact ev_pow (a := 10) (b := 12) (c := 1000000000000) (by decide +kernel) (by decide +kernel)
  | with_reducible exact ev_pow (a := 10) (b := 17) (c := 100000000000000000) (by decide +kernel) (by decide +kernel)
  | with_reducible exact ev_pow (a := 10) (b := 20) (c := 100000000000000000000) (by decide +kernel) (by decide +kernel)
  | with_reducible exact ev_pow (a := 10) (b := 29) (c := 100000000000000000000000000000) (by decide +kernel) (by decide +kernel)
  | with_reducible exact ev_pow (a := 10) (b := 30) (c := 1000000000000000000000000000000) (by decide +kernel) (by decide +kernel)
  | with_reducible exact ev_pow (a := 10) (b := 40) (c := 10000000000000000000000000000000000000000) (by decide +kernel) (by decide +kernel)
  | with_reducible exact ev_pow (a := 10) (b := 57) (c := 1000000000000000000000000000000000000000000000000000000000) (by decide +kernel) (by decide +kernel)
  | with_reducible exact ev_pow (a := 10) (b := 58) (c := 10000000000000000000000000000000000000000000000000000000000) (by decide +kernel) (by decide +kernel)
  | with_reducible exact ev_pow (a := 10) (b := 59) (c := 100000000000000000000000000000000000000000000000000000000000) (by decide +kernel) (by decide +kernel)
  | with_reducible exact ev_pow (a := 10) (b := 60) (c := 1000000000000000000000000000000000000000000000000000000000000) (by decide +kernel) (by decide +kernel))
local macro_rules | `(tactic| walk_at "call") => `(tactic| (intro H9 e9; first | exact ⟨_, rfl, rfl⟩ | exact ⟨_, _, rfl, rfl⟩ | exact ⟨_, _, _, rfl, rfl⟩ | exact ⟨_, rfl, by walk_at "pl", rfl⟩ | (refine ⟨_, _, _, rfl, ?_, rfl⟩; first | exact Plain.ex e9 (by assumption) | walk_at "pl") | (refine ⟨_, rfl, ?_, rfl⟩; first | exact Plain.ex e9 (by assumption) | walk_at "pl")))
local macro_rules | `(tactic| walk_at "ev") => `(tactic| first
  | with_reducible exact ev_c
  | exact ev_var rfl
  | walk_at "pow"
  | ((with_reducible apply ev_op); walk_at "ev"; walk_at "ev"; walk_at "rv")
  | ((with_reducible apply ev_un); walk_at "ev"; walk_at "rv")
  | ((with_reducible apply ev_cb); walk_at "ea"; walk_at "rc")
  | ((with_reducible apply ev_callP); walk_at "ea"; walk_at "call")
  | ((with_reducible apply ev_chain); walk_at "ev"; walk_at "ev"; walk_at "rv"; walk_at "ev"; walk_at "rv")
  | ((with_reducible apply ev_andV); walk_at "ev"; intro _; walk_at "ev")
  | ((with_reducible apply ev_orV); walk_at "ev"; intro _; walk_at "ev")
  | ((with_reducible apply ev_ite); walk_at "et"; intro _; walk_at "ev"; intro _; walk_at "ev")
  | ((with_reducible apply ev_notV); walk_at "ev"))
local macro_rules | `(tactic| walk_at "et") => `(tactic| first
  | ((with_reducible apply et_test); walk_at "ev")
  | ((with_reducible apply et_B); walk_at "ev")
  | ((with_reducible apply et_and); walk_at "et"; intro _; walk_at "et")
  | ((with_reducible apply et_or); walk_at "et"; intro _; walk_at "et")
  | ((with_reducible apply et_not); walk_at "et"))
open En Wo
/-! ### handings -/
section
variable (gl : Nat → Int)
def ahead (hs : List Nat) (x : Nat) : Bool := hs.any fun o => decide (x < o) && decide (gl o = gl x)
def over : List Nat → List Nat → List Nat
  | _, [] => []
  | done, x :: r => (if (!decide (x ∈ done) && ahead gl done x) = true then [x] else []) ++ over (done ++ [x]) r
def ovr (hs : List Nat) : List Nat := over gl [] hs
theorem over_snoc : ∀ (hs done : List Nat) (x : Nat), over gl done (hs ++ [x]) = over gl done hs ++ (if (!decide (x ∈ done ++ hs) && ahead gl (done ++ hs) x) = true then [x] else [])
  | [], done, x => by
    show (if _ then [x] else []) ++ [] = [] ++ _
    rw [List.append_nil, List.append_nil, List.nil_append]
  | y :: hs, done, x => by
    show (if _ then [y] else []) ++ over gl (done ++ [y]) (hs ++ [x]) = ((if _ then [y] else []) ++ over gl (done ++ [y]) hs) ++ _
    rw [over_snoc hs (done ++ [y]) x, List.append_assoc, List.append_assoc]
    rfl
theorem ovr_snoc (hs : List Nat) (x : Nat) : ovr gl (hs ++ [x]) = ovr gl hs ++ (if (!decide (x ∈ hs) && ahead gl hs x) = true then [x] else []) := over_snoc gl hs [] x
theorem over_mem : ∀ (hs done : List Nat), ∀ x ∈ over gl done hs, x ∈ hs
  | [], _, x, h => by cases h
  | y :: hs, done, x, h => by
    rcases List.mem_append.mp h with h | h
    · split at h
      · rw [List.mem_singleton.mp h]; exact List.mem_cons_self ..
      · cases h
    · exact List.mem_cons_of_mem _ (over_mem hs _ x h)
theorem over_len : ∀ (hs done : List Nat), (over gl done hs).length ≤ hs.length
  | [], _ => Nat.le_refl _
  | y :: hs, done => by
    show ((if _ then [y] else []) ++ over gl (done ++ [y]) hs).length ≤ _
    have := over_len hs (done ++ [y])
    rw [List.length_append, List.length_cons]
    split <;> simp <;> omega
/-- how great the numbers of a goal were -/
def Gr (done : List Nat) (g : Int) (m : Nat) : Prop := ∀ x : Nat, x < m ↔ ∃ o ∈ done, gl o = g ∧ x < o
theorem gr_ahead {done : List Nat} {x m : Nat} (h : Gr gl done (gl x) m) : decide ((x : Int) < (m : Int)) = ahead gl done x := by
  rw [Bool.eq_iff_iff, decide_eq_true_iff]
  unfold ahead
  rw [List.any_eq_true]
  have := h x
  constructor
  · intro h1
    obtain ⟨o, h2, h3, h4⟩ := this.mp (by omega)
    exact ⟨o, h2, by rw [decide_eq_true h4, decide_eq_true h3]; rfl⟩
  · rintro ⟨o, h2, h3⟩
    simp only [Bool.and_eq_true, decide_eq_true_eq] at h3
    have := this.mpr ⟨o, h2, h3.2, h3.1⟩
    omega
theorem gr_snoc {done : List Nat} {x m : Nat} {g : Int} (h : Gr gl done g m) : Gr gl (done ++ [x]) g (if gl x = g then max x m else m) := fun y => by
  have := h y
  by_cases hg : gl x = g
  · rw [if_pos hg]
    constructor
    · intro h1
      by_cases h2 : y < m
      · obtain ⟨o, h3, h4, h5⟩ := this.mp h2
        exact ⟨o, List.mem_append_left _ h3, h4, h5⟩
      · exact ⟨x, by simp, hg, by omega⟩
    · rintro ⟨o, h3, h4, h5⟩
      rcases List.mem_append.mp h3 with h3 | h3
      · have := this.mpr ⟨o, h3, h4, h5⟩
        omega
      · rw [List.mem_singleton.mp h3] at h5
        omega
  · rw [if_neg hg, this]
    constructor
    · rintro ⟨o, h3, h4, h5⟩
      exact ⟨o, List.mem_append_left _ h3, h4, h5⟩
    · rintro ⟨o, h3, h4, h5⟩
      rcases List.mem_append.mp h3 with h3 | h3
      · exact ⟨o, h3, h4, h5⟩
      · rw [List.mem_singleton.mp h3] at h4
        exact absurd h4 hg
end
theorem srt_uniq : ∀ {a b : List Int}, a.Perm b → a.Pairwise (· ≤ ·) → b.Pairwise (· ≤ ·) → a = b
  | [], b, h, _, _ => by rw [List.nil_perm.mp h]
  | x :: a, [], h, _, _ => by cases List.perm_nil.mp h
  | x :: a, y :: b, h, ha, hb => by
    rw [List.pairwise_cons] at ha hb
    have hx : x ∈ y :: b := h.subset (List.mem_cons_self ..)
    have hy : y ∈ x :: a := h.symm.subset (List.mem_cons_self ..)
    have hxy : x = y := by
      rcases List.mem_cons.mp hx with e | h1
      · exact e
      · rcases List.mem_cons.mp hy with e | h2
        · exact e.symm
        · have := hb.1 x h1
          have := ha.1 y h2
          omega
    subst hxy
    rw [srt_uniq ((List.perm_cons x).mp h) ha.2 hb.2]
/-- sorted -/
def srt (ns : List Int) : List Int := ns.mergeSort (fun a b => decide (a ≤ b))
theorem srt_is {ns ms : List Int} (h : ms.Perm ns) (hs : ms.Pairwise (· ≤ ·)) : ms = srt ns := by
  refine srt_uniq (h.trans (List.mergeSort_perm ..).symm) hs ?_
  have := List.pairwise_mergeSort (le := fun a b : Int => decide (a ≤ b)) (fun a b c h1 h2 => decide_eq_true (by have := of_decide_eq_true h1; have := of_decide_eq_true h2; omega)) (fun a b => by
    rw [Bool.or_eq_true, decide_eq_true_iff, decide_eq_true_iff]
    omega) ns
  exact this.imp fun h => of_decide_eq_true h
def natsI (ns : List Nat) : List Int := ns.map (fun n : Nat => (n : Int))
def lostL (n : Nat) (hs : List Nat) : List Nat := (List.range n).filter fun i => decide (hs.count i = 0)
def doubL (n : Nat) (hs : List Nat) : List Nat := (List.range n).filter fun i => decide (1 < hs.count i)
def judD (gl : Nat → Int) (n : Nat) (hs : List Nat) : PyData := .tuple [intsD (natsI (lostL n hs)), intsD (natsI (doubL n hs)), intsD (srt (natsI (ovr gl hs)))]
/-- answers told as data -/
def DatS (K : PySem.W.Frag) (ok : List V → Hp → PyData → Prop) : Sp := fun vs H Q _ => ∃ d, ok vs H d ∧ ∀ v H', Ex H H' → Dp K H' v d → Q v H'
def glOf (ls : List Lt) (i : Nat) : Int := (ls.getD i (.word 0 "")).goal
section
variable {σ : L2.St} {H : Hp} {K : PySem.W.Frag} {p : Addr} {td ty tx te tl : TE} {kvs : List (Key × V)} {k : Key} {x : V} {tz : TS} {D : Ends}
theorem ev_dget2 (h1 : Ev td σ H (.ref p)) (h2 : Ev ty σ H (kV k)) (h3 : Ev tx σ H x) (hd : H p = some (.dK kvs)) : Ev (tDGet2 td ty tx) σ H ((valV kvs k).getD x) := fun H1 e Q q =>
  h1 H1 e _ fun H2 e2 => ⟨p, rfl, .inl ⟨kvs, .inl ((e.trans e2) _ _ hd)⟩, h2 H2 (e.trans e2) _ fun H3 e3 => h3 H3 ((e.trans e2).trans e3) _ fun H4 e4 => ⟨_, DGet.k ((((e.trans e2).trans e3).trans e4) _ _ hd), q H4 ((e2.trans e3).trans e4)⟩⟩
theorem s_dput {v : V} (hd : H p = some (.dK kvs)) (h : Ev te σ H v) (ho : Ev td σ H (.ref p)) (hi : Ev ty σ H (kV k)) (hl : kvs.length < 100000) (kk : ∀ H1, Ex H H1 → D.nx σ (upd H1 p (.dK (putK kvs k v)))) : tAsg te (gSub td ty rSetD) D σ H :=
  h H (Ex.refl H) _ fun H1 e1 => ho H1 e1 _ fun H2 e2 => hi H2 (e1.trans e2) _ fun H3 e3 => ⟨p, _, rfl, DPut.k (((e1.trans e2).trans e3) _ _ hd) (sz_lt hl), kk H3 ((e1.trans e2).trans e3)⟩
theorem q_asgD {i : Nat} (kk : ∀ d H1, H d = none → Ex H H1 → H1 d = some (.dK []) → tz D (σ.set i (some (.ref d))) H1) : tSeq (tAsg tDNewK (gName i)) tz D σ H := fun d hd => kk d _ hd (Ex.new hd) upd_same
end
end Kz
set_option Elab.async false
set_option linter.all false
set_option maxRecDepth 100000
set_option maxHeartbeats 4000000
set_option exponentiation.threshold 500
namespace Kz
open PySem PySem.Spec PyProof.Rows L2 Evl Vr
local macro_rules | `(tactic| walk_at "sc") => `(tactic| first | (with_reducible assumption) | (with_reducible exact sc_mul (by omega)) | (with_reducible exact sc_mulr (by omega)) | (with_reducible exact sc_div (by omega) (by decide)) | (show (0 : Int) < _; omega) | (show _ ≠ (0 : Int); omega) | (with_reducible rfl) | decide)
local macro_rules | `(tactic| walk_at "sq") => `(tactic| first | assumption | exact sq_of (by assumption) | exact st_of (by assumption))
local macro_rules | `(tactic| walk_at "pl") => `(tactic| first | assumption | exact pl_int | exact pl_bl | exact pl_str | exact pl_non | exact pl_lst (by assumption) | exact pl_tup (by assumption) | exact pl_dK (by assumption))
local macro_rules | `(tactic| walk_at "rv") => `(tactic| first
  | with_reducible exact rv_I0
  | with_reducible exact ru_neg
  | ((with_reducible apply rv_I); walk_at "sc")
  | ((with_reducible apply rv_ixL); walk_at "sq"; first | rfl | assumption)
  | ((with_reducible apply rv_ixT); walk_at "sq"; first | rfl | assumption)
  | ((with_reducible apply rv_eq); rfl) | ((with_reducible apply rv_ne); rfl))
local macro_rules | `(tactic| walk_at "rc") => `(tactic| first
  | with_reducible exact rc_I1 | with_reducible exact rc_B1 | with_reducible exact rc_I2 | ((with_reducible apply rc_repr); walk_at "sc") | ((with_reducible apply rc_lenL); walk_at "sq")
  | ((with_reducible apply rc_isiInt); walk_at "pl") | ((with_reducible apply rc_isiBool); walk_at "pl"))
local macro_rules | `(tactic| walk_at "ea") => `(tactic| first
  | with_reducible exact ea_nil | ((with_reducible apply ea_cons); walk_at "ev"; walk_at "ea"))
local macro_rules | `(tactic| walk_at "pow") => `(tactic| first
  | with_reducible exact ev_pow (a := 10) (b := 9) (c := 1000000000) (by decide +kernel) (by decide +kernel)
  | with_reducible exact ev_pow (a := 10) (b := 10) (c := 10000000000) (by decide +kernel) (by decide +kernel)
  | with_reducible exact ev_pow (a := 10) (b := 12) (c := 1000000000000) (by decide +kernel) (by decide +kernel)
  | with_reducible exact ev_pow (a := 10) (b := 17) (c := 100000000000000000) (by decide +kernel) (by decide +kernel)
  | with_reducible exact ev_pow (a := 10) (b := 20) (c := 100000000000000000000) (by decide +kernel) (by decide +kernel)
  | with_reducible exact ev_pow (a := 10) (b := 29) (c := 100000000000000000000000000000) (by decide +kernel) (by decide +kernel)
  | with_reducible exact ev_pow (a := 10) (b := 30) (c := 1000000000000000000000000000000) (by decide +kernel) (by decide +kernel)
  | with_reducible exact ev_pow (a := 10) (b := 40) (c := 10000000000000000000000000000000000000000) (by decide +kernel) (by decide +kernel)
  | with_reducible exact ev_pow (a := 10) (b := 57) (c := 1000000000000000000000000000000000000000000000000000000000) (by decide +kernel) (by decide +kernel)
  | with_reducible exact ev_pow (a := 10) (b := 58) (c := 10000000000000000000000000000000000000000000000000000000000) (by decide +kernel) (by decide +kernel)
  | with_reducible exact ev_pow (a := 10) (b := 59) (c := 100000000000000000000000000000000000000000000000000000000000) (by decide +kernel) (by decide +kernel)
  | with_reducible exact ev_pow (a := 10) (b := 60) (c := 1000000000000000000000000000000000000000000000000000000000000) (by decide +kernel) (by decide +kernel))
local macro_rules | `(tactic| walk_at "call") => `(tactic| (intro H9 e9; first | exact ⟨_, rfl, rfl⟩ | exact ⟨_, _, rfl, rfl⟩ | exact ⟨_, _, _, rfl, rfl⟩ | exact ⟨_, rfl, by walk_at "pl", rfl⟩ | (refine ⟨_, _, _, rfl, ?_, rfl⟩; first | exact Plain.ex e9 (by assumption) | walk_at "pl") | (refine ⟨_, rfl, ?_, rfl⟩; first | exact Plain.ex e9 (by assumption) | walk_at "pl")))
local macro_rules | `(tactic| walk_at "ev") => `(tactic| first
  | with_reducible exact ev_c
  | exact ev_var rfl
  | walk_at "pow"
  | ((with_reducible apply ev_op); walk_at "ev"; walk_at "ev"; walk_at "rv")
  | ((with_reducible apply ev_un); walk_at "ev"; walk_at "rv")
  | ((with_reducible apply ev_cb); walk_at "ea"; walk_at "rc")
  | ((with_reducible apply ev_callP); walk_at "ea"; walk_at "call")
  | ((with_reducible apply ev_chain); walk_at "ev"; walk_at "ev"; walk_at "rv"; walk_at "ev"; walk_at "rv")
  | ((with_reducible apply ev_andV); walk_at "ev"; intro _; walk_at "ev")
  | ((with_reducible apply ev_orV); walk_at "ev"; intro _; walk_at "ev")
  | ((with_reducible apply ev_ite); walk_at "et"; intro _; walk_at "ev"; intro _; walk_at "ev")
  | ((with_reducible apply ev_notV); walk_at "ev"))
local macro_rules | `(tactic| walk_at "et") => `(tactic| first
  | ((with_reducible apply et_test); walk_at "ev")
  | ((with_reducible apply et_B); walk_at "ev")
  | ((with_reducible apply et_and); walk_at "et"; intro _; walk_at "et")
  | ((with_reducible apply et_or); walk_at "et"; intro _; walk_at "et")
  | ((with_reducible apply et_not); walk_at "et"))
open En Wo
section
variable {σ : L2.St} {H : Hp} {K : PySem.W.Frag} {p : Addr} {te : TE}
theorem el_sorted {ns : List Int} (h : Ev te σ H (.ref p)) (hp : SqL K H p (ns.map V.int)) (hl : ns.length < 64) : EvL (tCB (rSorted K) (tCons te tNil)) σ H ((srt ns).map V.int) := fun H1 e Q q =>
  h H1 e _ fun H2 e2 => ⟨p, ns, rfl, ex_l (e.trans e2) hp, hl, fun ms l h1 h2 hl => by
    rw [srt_is h1 h2]
    exact q l _ (fresh_back e2 hl) (e2.trans (Ex.new hl)) upd_same⟩
/-- [e for i, x in enumerate(list) if t] -/
theorem el_lcEnumL {t : TT} {a : Addr} {xs : List V} {ta : TA} {j l : Nat} {vs : List Nat} (f : Nat → Bool) (v : Nat → V) (h : EvA ta σ H [.ref a]) (hx : SqL K H a xs) (hz : xs.length ≤ 40000)
    (hw : ∀ x y, wipe (((wipe σ vs).set j (some x)).set l (some y)) vs = wipe σ vs)
    (ht : ∀ (i : Nat) (x : V) H1, Ex H H1 → xs[i]? = some x → EvT t (((wipe σ vs).set j (some (.int (i : Nat)))).set l (some x)) H1 (f i)) (he : ∀ (i : Nat) (x : V) H1, Ex H H1 → xs[i]? = some x → f i = true → Ev te (((wipe σ vs).set j (some (.int (i : Nat)))).set l (some x)) H1 (v i)) :
    EvL (tLc (iEnum K ta) (gTup K 2 (gCons (gName j) (gCons (gName l) gNil))) t te vs) σ H (given xs.length f v) := fun H0 e Q q => h H0 e _ fun H1 e1 => ⟨a, xs, rfl, ex_l (e.trans e1) hx, fun Dl hD =>
  lc_it walk_enum (Cw H1 f v Dl) ⟨hD, Ex.new hD, upd_same⟩ (fun i H' _ p => ex_l ((e.trans e1).trans p.2.1) hx) (fun i x H' H'' hi p y => by
    obtain ⟨T, y1, y2, rfl, hT, rfl, h3, h4⟩ := y
    have h3 : y1 = .int (i : Nat) := (Option.some.inj h3).symm
    subst h3
    have eT : Ex H' (upd H' T (.tup [.int (i : Nat), y2])) := Ex.new hT
    refine ⟨T, [.int (i : Nat), y2], rfl, st_of upd_same, rfl, .int (i : Nat), [y2], rfl, y2, [], rfl, rfl, hw _ _, ?_⟩
    have p' : Cw H1 f v Dl i (upd H' T (.tup [.int (i : Nat), y2])) := ⟨p.1, p.2.1.trans eT, eT _ _ p.2.2⟩
    exact cw_turn p' (by omega) (ht i y2 H1 (e.trans e1) h4) (fun hf => he i y2 H1 (e.trans e1) h4 hf))
    (fun H' p => q Dl H' (fresh_back e1 p.1) (e1.trans p.2.1) p.2.2)⟩
end
theorem given_all (n : Nat) (v : Nat → V) : given n (fun _ => true) v = (List.range n).map v := by
  unfold given
  rw [List.filter_eq_self.mpr (fun _ _ => rfl)]
theorem count_snoc (hs : List Nat) (x j : Nat) : (hs ++ [x]).count j = hs.count j + if x = j then 1 else 0 := by
  rw [List.count_append, List.count_singleton]
  congr 1
  by_cases h : x = j <;> simp [h]
theorem set_range (n x : Nat) (f : Nat → V) (v : V) (hx : x < n) : ((List.range n).map f).set x v = (List.range n).map fun j => if j = x then v else f j := by
  apply List.ext_getElem?
  intro i
  rw [List.getElem?_set, List.getElem?_map, List.getElem?_map]
  by_cases h : x = i
  · subst h
    rw [if_pos rfl, if_pos (by rw [List.length_map, List.length_range]; exact hx), List.getElem?_range hx]
    simp
  · rw [if_neg h]
    cases h2 : (List.range n)[i]? with
    | none => rfl
    | some k =>
      have hi : i < n := by have := (List.getElem?_eq_some_iff.mp h2).1; simpa using this
      rw [List.getElem?_range hi] at h2
      cases h2
      show some (f i) = some (if i = x then v else f i)
      rw [if_neg (Ne.symm h)]
theorem given_filt (n : Nat) (f : Nat → Bool) : given n f (fun i => V.int (i : Nat)) = (natsI ((List.range n).filter f)).map V.int := by
  unfold given natsI
  rw [List.map_map]
  rfl
theorem cnt_zero (hs : List Nat) (x : Nat) : decide (V.int ((hs.count x : Nat) : Int) = V.int 0) = !decide (x ∈ hs) := by
  rw [Bool.eq_iff_iff, Bool.not_eq_true', decide_eq_true_iff, decide_eq_false_iff_not]
  constructor
  · intro h hm
    have h1 : ((hs.count x : Nat) : Int) = 0 := V.int.inj h
    have := List.count_pos_iff.mpr hm
    omega
  · intro h
    rw [List.count_eq_zero.mpr h]
    rfl
section
variable {P : Program} {w : World} {K : PySem.W.Frag} {mg : Str → Option Value} {base : Heap}
def kJud (K : PySem.W.Frag) (C : Addr) (vs : List V) (H : Hp) (d : PyData) : Prop := ∃ (p b : Addr) (ls : List Lt) (hs : List Nat), vs = [.ref p, .ref b] ∧ BgAt K C H p ls ∧ ls.length ≤ 100 ∧ SqT K H b ((natsI hs).map V.int) ∧ (∀ x ∈ hs, x < ls.length) ∧ hs.length ≤ 60 ∧ d = judD (glOf ls) ls.length hs
theorem ok_judged_handing (T : Txt K mg w) : FnOk P w K mg base CX0 4 T.a_judged_handing T.fd_judged_handing ["bag", "handing"] (DatS K (kJud K T.C_Bag)) := by
  have G_is_number_of := ok_is_number_of (P := P) (w := w) (base := base) T
  have G_goal_of := ok_goal_of (P := P) (w := w) (base := base) T
  refine T.F_judged_handing.ok sc_judged_handing (fun vs H Q E h => ?_) (fun cdv A outer s H vs Q E hr h => ?_)
  · obtain ⟨_, ⟨_, _, _, _, rfl, _⟩, _⟩ := h; rfl
  · obtain ⟨_, ⟨p, b, ls, hs, rfl, hB, hln, hb, hx, hhl, rfl⟩, q⟩ := h
    refine ⟨_, (pss_cons (ps_if (pt_not (pt_val (pe_callB call_isi (by rfl) T.z_isinstance (by decide +kernel) (pa_cons (pv 0) (pa_cons (pe_glob (v := .ref _) rfl T.g_Bag rfl) pa_nil))))) (pss_one ps_never) pss_nil)
  (pss_cons (ps_if (PW.pt (pw_or (pt_not (pt_val (pe_callB call_isi (by rfl) T.z_isinstance (by decide +kernel) (pa_cons (pv 1) (pa_cons (pe_bltn (v := .ty "tuple") (by rfl) T.z_tuple (by decide +kernel) rfl) pa_nil))))) (pw_or1 (pt_not (pt_val (pe_callB (cr_all rfl) (by rfl) T.z_all (by decide +kernel) (pa_cons (pe_lc (own := [("number", 2)]) (g := gName 2) (by rfl) sc_judged_handing.nd (pi_tup (pv 1)) (blkOk_by (own := [("number", 2)]) (N := ["bag", "handing", "number", "times", "greatest", "overtaken", "goal", "lost", "doubled", "_", "count"]) (sc := defScope s_judged_handing) (by decide +kernel)) (fun _ _ _ _ _ => pg_name (i := 2) sc_judged_handing.nd rfl (by first | exact Or.inl rfl | exact Or.inr rfl)) (fun _ _ _ _ _ => pts_nil) (fun _ _ _ _ _ => (pe_call G_is_number_of (hr.mono (by decide)) (by rfl) T.g_is_number_of T.F_is_number_of.kp T.b_is_number_of .nil pass0 (pa_cons (pv 0) (pa_cons (pv 2) pa_nil))))) pa_nil))))))) (pss_one ps_never) pss_nil)
  (pss_cons (ps_setLc (i := 3) (own := [("_", 9)]) (g := gName 9) (by rfl) sc_judged_handing.nd rfl rfl (sw_true rfl rfl rfl (by decide +kernel)) (pi_tup (pe_fld (pv 0) rfl)) (blkOk_by (own := [("_", 9)]) (N := ["bag", "handing", "number", "times", "greatest", "overtaken", "goal", "lost", "doubled", "_", "count"]) (sc := defScope s_judged_handing) (by decide +kernel)) (fun _ _ _ _ _ => pg_name (i := 9) sc_judged_handing.nd rfl (by first | exact Or.inl rfl | exact Or.inr rfl)) (fun _ _ _ _ _ => pts_nil) (fun _ _ _ _ _ => pe_int))
  (pss_cons (ps_set (i := 4) sc_judged_handing.nd rfl (.inl rfl) pe_dnewK)
  (pss_cons (ps_set (i := 5) sc_judged_handing.nd rfl (.inl rfl) (pe_lst pa_nil))
  (pss_cons (ps_for PassesOwn.never rfl (pi_tup (pv 1)) (pg_name (i := 2) sc_judged_handing.nd rfl (.inl rfl)) (pss_cons (ps_set (i := 6) sc_judged_handing.nd rfl (.inl rfl) (pe_call G_goal_of (hr.mono (by decide)) (by rfl) T.g_goal_of T.F_goal_of.kp T.b_goal_of .nil pass0 (pa_cons (pe_ix ix_tup (pe_fld (pv 0) rfl) (pv 2) (fun _ _ => rfl)) pa_nil)))
  (pss_cons (ps_if (PW.pt (pw_and (pt_cmpR op_eq (pe_ix ix_list (pv 3) (pv 2) (fun _ _ => rfl)) pe_int (nomark _)) (pw_and1 (pt_cmpR op_lt (pv 2) (pe_dget2 (hu_of hr) (pv 4) (pv 6) pe_int ⟨rfl, rfl, rfl, rfl⟩) (nomark _))))) (pss_one (ps_expr (pe_bm PySem.F.plainAttrs_list PySem.F.slot_list_append PySem.F.type_list_append mt_append (pv 5) (pa_cons (pv 2) pa_nil)))) pss_nil)
  (pss_cons (ps_asg (pe_op op_add (pe_ix ix_list (pv 3) (pv 2) (fun _ _ => rfl)) pe_int) (pg_sub (pv 3) (pv 2) set_list))
  (pss_one (ps_asg (pe_callB (c_max rfl) (by rfl) T.z_max (by decide +kernel) (pa_cons (pv 2) (pa_cons (pe_dget2 (hu_of hr) (pv 4) (pv 6) pe_int ⟨rfl, rfl, rfl, rfl⟩) pa_nil))) (pg_sub (pv 4) (pv 6) (set_dict (hu_of hr)))))))))
  (pss_cons (ps_setLc (i := 7) (own := [("number", 2), ("count", 10)]) (g := gTup _ 2 (gCons (gName 2) (gCons (gName 10) gNil))) (by rfl) sc_judged_handing.nd rfl rfl (sw_true rfl rfl rfl (by decide +kernel)) (pi_enum rfl T.z_enumerate (pa_cons (pv 3) pa_nil)) (blkOk_by (own := [("number", 2), ("count", 10)]) (N := ["bag", "handing", "number", "times", "greatest", "overtaken", "goal", "lost", "doubled", "_", "count"]) (sc := defScope s_judged_handing) (by decide +kernel)) (fun _ _ _ _ _ => pg_tup rfl (pgs_cons (pg_name (i := 2) sc_judged_handing.nd rfl (by first | exact Or.inl rfl | exact Or.inr rfl)) (pgs_cons (pg_name (i := 10) sc_judged_handing.nd rfl (by first | exact Or.inl rfl | exact Or.inr rfl)) pgs_nil))) (fun _ _ _ _ _ => (pts_one (pt_cmpR op_eq (pv 10) pe_int (nomark _)))) (fun _ _ _ _ _ => (pv 2)))
  (pss_cons (ps_setLc (i := 8) (own := [("number", 2), ("count", 10)]) (g := gTup _ 2 (gCons (gName 2) (gCons (gName 10) gNil))) (by rfl) sc_judged_handing.nd rfl rfl (sw_true rfl rfl rfl (by decide +kernel)) (pi_enum rfl T.z_enumerate (pa_cons (pv 3) pa_nil)) (blkOk_by (own := [("number", 2), ("count", 10)]) (N := ["bag", "handing", "number", "times", "greatest", "overtaken", "goal", "lost", "doubled", "_", "count"]) (sc := defScope s_judged_handing) (by decide +kernel)) (fun _ _ _ _ _ => pg_tup rfl (pgs_cons (pg_name (i := 2) sc_judged_handing.nd rfl (by first | exact Or.inl rfl | exact Or.inr rfl)) (pgs_cons (pg_name (i := 10) sc_judged_handing.nd rfl (by first | exact Or.inl rfl | exact Or.inr rfl)) pgs_nil))) (fun _ _ _ _ _ => (pts_one (pt_cmpR op_gt (pv 10) pe_int (nomark _)))) (fun _ _ _ _ _ => (pv 2)))
  (pss_one (ps_ret (pe_tup (pa_cons (pe_callTy c_tupL (by rfl) T.z_tuple (by decide +kernel) (pa_cons (pv 7) pa_nil)) (pa_cons (pe_callTy c_tupL (by rfl) T.z_tuple (by decide +kernel) (pa_cons (pv 8) pa_nil)) (pa_cons (pe_callTy c_tupL (by rfl) T.z_tuple (by decide +kernel) (pa_cons (pe_callB cr_sorted (by rfl) T.z_sorted (by decide +kernel) (pa_cons (pv 5) pa_nil)) pa_nil)) pa_nil)))))))))))))), ?_⟩
    obtain ⟨dx0, a0, hob0, _⟩ := id hB
    refine q_when (b := false) (et_is (et_not (et_B (b := true) (ev_cb (vs := [.ref p, .ref T.C_Bag]) (by walk_at "ea") (rc_isiB T hob0)))) rfl) (fun h => by cases h) fun _ H1 e1 => ?_
    have hmem : ∀ k ∈ natsI hs, ∃ x ∈ hs, k = (x : Int) := fun k hk => by
      obtain ⟨x, h1, h2⟩ := List.mem_map.mp hk
      exact ⟨x, h1, h2.symm⟩
    have hnl : (natsI hs).length = hs.length := List.length_map ..
    refine q_when (b := false) (et_is (et_or (a := false) (b := false) (et_is (et_not (et_B (b := true) (ev_cb (vs := [.ref b, .ty "tuple"]) (by walk_at "ea") (rc_isiTup (ex_t e1 hb))))) rfl) fun _ => et_is (et_not (et_B (b := true) (ev_allTI (ev_var rfl) (ex_t e1 hb) (by omega) (fun _ => rfl) fun k H2 e2 hk => by
      obtain ⟨x, h1, rfl⟩ := hmem k hk
      exact ev_callP (vs := [.ref p, .int (x : Int)]) (by walk_at "ea") fun H3 e3 => ⟨p, (x : Int), ls, rfl, hB.ex ((e1.trans e2).trans e3), hln, by omega, by have := hx x h1; omega, rfl⟩))) rfl) rfl) (fun h => by cases h) fun _ H2 e2 => ?_
    have e12 := e1.trans e2
    obtain ⟨dx, a, hob, rs, hT, hR⟩ := hB.ex e12
    have hrl : (rs.map V.ref).length = ls.length := by rw [List.length_map, hR.1]
    let tm : List Nat → List V := fun done => (List.range ls.length).map fun j => V.int ((done.count j : Nat) : Int)
    refine q_asgL (xs := tm []) (by
      have e : given (rs.map V.ref).length (fun _ => true) (fun _ => V.int 0) = tm [] := by
        rw [given_all, hrl]
        rfl
      rw [← e]
      exact el_lcT (fun _ => true) _ (ev_fld (ev_var rfl) hob T.cl_Bag T.n_Bag_letters rfl) hT (by rw [hrl]; omega) (fun _ => rfl) (fun i x H4 e4 hx => et_yes) fun i x H4 e4 hx _ => ev_c) fun tl H3 htl e3 h3 => ?_
    refine q_asgD fun d H4 hd e4 h4 => ?_
    refine q_asgL (xs := []) (el_lst ea_nil (by decide)) fun ol H5 hol e5 h5 => ?_
    have hdt : d ≠ tl := fun y => by rw [y, h3] at hd; cases hd
    have hot : ol ≠ tl := fun y => by rw [y, e4 _ _ h3] at hol; cases hol
    have hod : ol ≠ d := fun y => by rw [y, h4] at hol; cases hol
    have hpt : p ≠ tl := fun y => by rw [← y, hob] at htl; cases htl
    have e25 := (e3.trans e4).trans e5
    have htl2 : H2 tl = none := htl
    have hd2 : H2 d = none := fresh_back e3 hd
    have hol2 : H2 ol = none := fresh_back (e3.trans e4) hol
    let gl := glOf ls
    let Pv : Nat → L2.St → Hp → Prop := fun i σ' H' => ∃ (kvs : List (Key × V)) (x2 x6 : Option V), σ' = [some (.ref p), some (.ref b), x2, some (.ref tl), some (.ref d), some (.ref ol), x6, none, none, none, none] ∧ Ex H2 H' ∧ H' tl = some (.lst (tm (hs.take i))) ∧ H' d = some (.dK kvs) ∧ H' ol = some (.lst ((natsI (ovr gl (hs.take i))).map V.int)) ∧ kvs.length ≤ i ∧ ∀ g : Int, ∃ m : Nat, (valV kvs (Sum.inl g)).getD (.int 0) = .int (m : Int) ∧ Gr gl (hs.take i) g m
    refine q_forT (ev_var rfl) (ex_t (e12.trans e25) hb) Pv (fun H6 e6 => ⟨[], none, none, rfl, e25.trans e6, e6 _ _ ((e4.trans e5) _ _ h3), e6 _ _ (e5 _ _ h4), e6 _ _ h5, Nat.le_refl _, fun g => ⟨0, rfl, fun x => ⟨fun h => absurd h (Nat.not_lt_zero _), fun ⟨o, h, _⟩ => by cases h⟩⟩⟩) (fun i σ' H' _ ⟨_, _, _, _, e6, _⟩ => ex_t (e12.trans e6) hb) (fun i x σ' H' hxi ⟨kvs, x2, x6, hσ, e6, htm, hkd, hov, hkl, hg⟩ => ?_) fun σ' H' ⟨kvs, x2, x6, hσ, e6, htm, hkd, hov, hkl, hg⟩ => ?_
    · subst hσ
      rw [List.getElem?_map] at hxi
      unfold natsI at hxi
      rw [List.getElem?_map] at hxi
      cases hq : hs[i]? with
      | none => rw [hq] at hxi; cases hxi
      | some y =>
        rw [hq] at hxi
        obtain rfl : x = .int (y : Int) := (Option.some.inj hxi).symm
        have hyl := hx y (List.mem_of_getElem? hq)
        have hil := (List.getElem?_eq_some_iff.mp hq).1
        have htk := take_succ hq
        generalize hdone : hs.take i = done at *
        have hyr : y < rs.length := by have := hR.1; omega
        have hyx : (rs.map V.ref)[y]? = some (.ref (rs[y]'hyr)) := by rw [List.getElem?_map, List.getElem?_eq_getElem hyr]; rfl
        have hl := hR.2 y _ _ (List.getElem?_eq_getElem hyr) (List.getElem?_eq_getElem hyl)
        have hgy : gl y = (ls[y]'hyl).goal := by
          show (ls.getD y (.word 0 "")).goal = _
          rw [List.getD_eq_getElem?_getD, List.getElem?_eq_getElem hyl]
          rfl
        refine q_asg (v := .int (gl y)) (ev_callP (vs := [.ref (rs[y]'hyr)]) (ea_cons (ev_op (ev_fld (ev_var rfl) (e6 _ _ hob) T.cl_Bag T.n_Bag_letters rfl) (ev_var rfl) (rv_ixT (ex_t e6 hT) (atI_nat hyx))) ea_nil) fun H7 e7 => ⟨_, _, rfl, (hl.ex e6).ex e7, by rw [hgy]⟩) fun H7 e7 => ?_
        obtain ⟨m, hm1, hm2⟩ := hg (gl y)
        have htx : (tm done)[y]? = some (.int ((done.count y : Nat) : Int)) := by
          show ((List.range ls.length).map fun j => V.int ((done.count j : Nat) : Int))[y]? = _
          rw [List.getElem?_map, List.getElem?_range hyl]
          rfl
        have hcond : (decide (V.int ((done.count y : Nat) : Int) = V.int 0) && decide ((y : Int) < (m : Int))) = (!decide (y ∈ done) && ahead gl done y) := by
          rw [cnt_zero, gr_ahead gl hm2]
        -- the two rows behind the if
        have rest : ∀ (D' : Ends), D'.nx = Pv (i + 1) → ∀ (H8 : Hp), Ex H2 H8 → H8 tl = some (.lst (tm done)) → H8 d = some (.dK kvs) → H8 ol = some (.lst ((natsI (ovr gl (done ++ [y]))).map V.int)) → tSeq (tAsg (tOp (rI0 fun i j => V.int (i + j)) (tOp (rIxL K) (tVar 3) (tVar 2)) (tC (.int 1))) (gSub (tVar 3) (tVar 2) rSetL)) (tAsg (tCB (rI2 fun i j => V.int (if j > i then j else i)) (tCons (tVar 2) (tCons (tDGet2 (tVar 4) (tVar 6) (tC (.int 0))) tNil))) (gSub (tVar 4) (tVar 6) rSetD)) D' [some (.ref p), some (.ref b), some (.int (y : Int)), some (.ref tl), some (.ref d), some (.ref ol), some (.int (gl y)), none, none, none, none] H8 := fun D' hD H8 e8 ht8 hd8 ho8 => by
          refine q_setL (j := y) ht8 (v := .int (((done.count y : Nat) : Int) + 1)) (ev_op (ev_op (ev_var rfl) (ev_var rfl) (rv_ixL (sq_of ht8) (atI_nat htx))) ev_c rv_I0) (ev_var rfl) (ev_var rfl) (by show y < ((List.range ls.length).map _).length; rw [List.length_map, List.length_range]; exact hyl) fun H9 e9 => ?_
          have hset : (tm done).set y (.int (((done.count y : Nat) : Int) + 1)) = tm (done ++ [y]) := by
            show ((List.range ls.length).map fun j => V.int ((done.count j : Nat) : Int)).set y _ = _
            rw [set_range _ _ _ _ hyl]
            refine List.map_congr_left fun j _ => ?_
            rw [count_snoc]
            by_cases hj : j = y
            · rw [if_pos hj, if_pos hj.symm, hj]
              simp
            · rw [if_neg hj, if_neg (Ne.symm hj)]
              rfl
          rw [hset]
          have hd9 : (upd H9 tl (.lst (tm (done ++ [y])))) d = some (.dK kvs) := by rw [upd_ne hdt]; exact e9 _ _ hd8
          refine s_dput (k := Sum.inl (gl y)) (v := .int ((max y m : Nat) : Int)) hd9 (ev_is (ev_cb (vs := [.int (y : Int), .int (m : Int)]) (ea_cons (ev_var rfl) (ea_cons (ev_is (ev_dget2 (k := Sum.inl (gl y)) (ev_var rfl) (ev_var rfl) ev_c hd9) hm1) ea_nil)) rc_I2) ?_) (ev_var rfl) (ev_var rfl) (by omega) fun H10 e10 => ?_
          · refine congrArg V.int ?_
            split <;> omega
          · rw [hD]
            have e28 : Ex H2 (upd H9 tl (.lst (tm (done ++ [y])))) := Ex.mut (e8.trans e9) htl2
            have e210 : Ex H2 (upd H10 d (.dK (putK kvs (Sum.inl (gl y)) (.int ((max y m : Nat) : Int))))) := Ex.mut (e28.trans e10) hd2
            refine ⟨putK kvs (Sum.inl (gl y)) (.int ((max y m : Nat) : Int)), _, _, rfl, e210, ?_, upd_same, ?_, ?_, fun g => ?_⟩
            · rw [htk, upd_ne (Ne.symm hdt)]
              exact e10 _ _ upd_same
            · rw [htk, upd_ne hod]
              exact e10 _ _ (by rw [upd_ne hot]; exact e9 _ _ ho8)
            · have := length_putK kvs (Sum.inl (gl y)) (V.int ((max y m : Nat) : Int))
              omega
            · rw [htk, valV_put]
              by_cases hgg : gl y = g
              · refine ⟨max y m, ?_, ?_⟩
                · rw [if_pos (by rw [hgg])]
                  rfl
                · have := gr_snoc gl (g := g) (x := y) (by rw [← hgg]; exact hm2)
                  rwa [if_pos hgg] at this
              · obtain ⟨m', h1, h2⟩ := hg g
                refine ⟨m', ?_, ?_⟩
                · rw [if_neg (fun z => hgg (Sum.inl.inj z).symm)]
                  exact h1
                · have := gr_snoc gl (x := y) h2
                  rwa [if_neg hgg] at this
        have htm7 := e7 _ _ htm
        have hkd7 := e7 _ _ hkd
        have hov7 := e7 _ _ hov
        have hovs := ovr_snoc gl done y
        refine q_when (b := !decide (y ∈ done) && ahead gl done y) (et_is (et_and (et_test (ev_op (ev_op (ev_var rfl) (ev_var rfl) (rv_ixL (sq_of htm7) (atI_nat htx))) ev_c (rv_eq rfl))) fun _ => et_test (ev_op (ev_var rfl) (ev_is (ev_dget2 (k := Sum.inl (gl y)) (ev_var rfl) (ev_var rfl) ev_c hkd7) hm1) rv_I0)) hcond) (fun hb8 H8 e8 => ?_) fun hb8 H8 e8 => ?_
        · rw [if_pos hb8] at hovs
          refine s_app (v := .int (y : Int)) (e8 _ _ hov7) (ev_var rfl) (ev_var rfl) (by rw [List.length_map]; unfold natsI; rw [List.length_map]; have := over_len gl done []; have hdl : done.length ≤ hs.length := (by rw [← hdone, List.length_take]; omega); unfold ovr; omega) fun H9 e9 => ?_
          have hov9 := e9 _ _ (e8 _ _ hov7)
          refine rest _ rfl _ (Ex.mut (((e6.trans e7).trans e8).trans e9) hol2) (by rw [upd_ne (Ne.symm hot)]; exact e9 _ _ (e8 _ _ htm7)) (by rw [upd_ne (Ne.symm hod)]; exact e9 _ _ (e8 _ _ hkd7)) ?_
          rw [upd_same, hovs]
          unfold natsI
          rw [List.map_append, List.map_append]
          rfl
        · rw [if_neg (by rw [hb8]; exact Bool.false_ne_true), List.append_nil] at hovs
          exact rest _ rfl _ ((e6.trans e7).trans e8) (e8 _ _ htm7) (e8 _ _ hkd7) (by rw [hovs]; exact e8 _ _ hov7)
    · subst hσ
      have hl0 : ((natsI hs).map V.int).length = hs.length := by rw [List.length_map, hnl]
      rw [hl0, List.take_length] at htm hov
      have htl0 : (tm hs).length = ls.length := by show ((List.range ls.length).map _).length = _; rw [List.length_map, List.length_range]
      have hat : ∀ (i : Nat) (x : V), (tm hs)[i]? = some x → i < ls.length ∧ x = .int ((hs.count i : Nat) : Int) := fun i x hx => by
        have hi : i < ls.length := by have := (List.getElem?_eq_some_iff.mp hx).1; omega
        refine ⟨hi, ?_⟩
        have : ((List.range ls.length).map fun j => V.int ((hs.count j : Nat) : Int))[i]? = some x := hx
        rw [List.getElem?_map, List.getElem?_range hi] at this
        exact (Option.some.inj this).symm
      refine q_asgL (xs := (natsI (lostL ls.length hs)).map V.int) (by
        have e := given_filt ls.length (fun i => decide (hs.count i = 0))
        unfold lostL
        rw [← e, ← htl0]
        refine el_lcEnumL _ _ (ea_cons (ev_var rfl) ea_nil) (sq_of htm) (by omega) (fun _ _ => rfl) (fun i x H7 e7 hx => ?_) fun i x H7 e7 hx _ => ev_var rfl
        obtain ⟨_, rfl⟩ := hat i x hx
        exact et_is (et_test (ev_op (ev_var rfl) ev_c (rv_eq rfl))) (decide_eq_decide.mpr ⟨fun h => by have := V.int.inj h; omega, fun h => by rw [h]; rfl⟩)) fun ll H7 hll e7 h7 => ?_
      refine q_asgL (xs := (natsI (doubL ls.length hs)).map V.int) (by
        have e := given_filt ls.length (fun i => decide (1 < hs.count i))
        unfold doubL
        rw [← e, ← htl0]
        refine el_lcEnumL _ _ (ea_cons (ev_var rfl) ea_nil) (sq_of (e7 _ _ htm)) (by omega) (fun _ _ => rfl) (fun i x H8 e8 hx => ?_) fun i x H8 e8 hx _ => ev_var rfl
        obtain ⟨_, rfl⟩ := hat i x hx
        exact et_is (et_test (ev_op (ev_var rfl) ev_c rv_I0)) (decide_eq_decide.mpr ⟨fun h => by omega, fun h => by omega⟩)) fun dl H8 hdl e8 h8 => ?_
      have e78 := e7.trans e8
      have hov8 := sq_of (K := K) (e78 _ _ hov)
      have h7s := sq_of (K := K) (e8 _ _ h7)
      have h8s := sq_of (K := K) h8
      have hol60 : (natsI (ovr gl hs)).length < 64 := by
        unfold natsI
        rw [List.length_map]
        have := over_len gl hs []
        unfold ovr
        omega
      refine s_retTP (P := fun vs H' => ∃ r1 r2 r3, vs = [.ref r1, .ref r2, .ref r3] ∧ H' r1 = some (.tup ((natsI (lostL ls.length hs)).map V.int)) ∧ H' r2 = some (.tup ((natsI (doubL ls.length hs)).map V.int)) ∧ H' r3 = some (.tup ((srt (natsI (ovr gl hs))).map V.int))) ((ap_consU (eu_tupV (ev_var rfl) h7s) (ap_consU (eu_tupV (ev_var rfl) h8s) (ap_consU (eu_tupL (el_sorted (ev_var rfl) hov8 hol60)) ap_nil))).mono fun vs H' ⟨r1, _, a1, a2, r2, _, a3, a4, r3, _, a5, a6, a7⟩ => ⟨r1, r2, r3, by rw [a1, a3, a5, a7], a2, a4, a6⟩) (fun vs H1 ⟨_, _, _, hv, _⟩ => by rw [hv]; show 3 ≤ 100000; decide) fun r vs H9 e9 ⟨r1, r2, r3, hv, k1, k2, k3⟩ hr => ?_
      subst hv
      have e10 : Ex H9 (upd H9 r (.tup [.ref r1, .ref r2, .ref r3])) := Ex.new hr
      exact q (.ref r) _ ((((e12.trans e6).trans e78).trans e9).trans e10) (.tup (st_of upd_same) (.cons (.tup (st_of (e10 _ _ k1)) (dpa_ints _)) (.cons (.tup (st_of (e10 _ _ k2)) (dpa_ints _)) (.cons (.tup (st_of (e10 _ _ k3)) (dpa_ints _)) .nil))))
end
end Kz
set_option Elab.async false
set_option linter.all false
set_option maxRecDepth 100000
set_option maxHeartbeats 4000000
set_option exponentiation.threshold 500
namespace Kz
open PySem PySem.Spec PyProof.Rows L2 Evl Vr
local macro_rules | `(tactic| walk_at "sc") => `(tactic| first | (with_reducible assumption) | (with_reducible exact sc_mul (by omega)) | (with_reducible exact sc_mulr (by omega)) | (with_reducible exact sc_div (by omega) (by decide)) | (show (0 : Int) < _; omega) | (show _ ≠ (0 : Int); omega) | (with_reducible rfl) | decide)
local macro_rules | `(tactic| walk_at "sq") => `(tactic| first | assumption | exact sq_of (by assumption) | exact st_of (by assumption))
local macro_rules | `(tactic| walk_at "pl") => `(tactic| first | assumption | exact pl_int | exact pl_bl | exact pl_str | exact pl_non | exact pl_lst (by assumption) | exact pl_tup (by assumption) | exact pl_dK (by assumption))
local macro_rules | `(tactic| walk_at "rv") => `(tactic| first
  | with_reducible exact rv_I0
  | with_reducible exact ru_neg
  | ((with_reducible apply rv_I); walk_at "sc")
  | ((with_reducible apply rv_ixL); walk_at "sq"; first | rfl | assumption)
  | ((with_reducible apply rv_ixT); walk_at "sq"; first | rfl | assumption)
  | ((with_reducible apply rv_eq); rfl) | ((with_reducible apply rv_ne); rfl))
local macro_rules | `(tactic| walk_at "rc") => `(tactic| first
  | with_reducible exact rc_I1 | with_reducible exact rc_B1 | with_reducible exact rc_I2 | ((with_reducible apply rc_repr); walk_at "sc") | ((with_reducible apply rc_lenL); walk_at "sq")
  | ((with_reducible apply rc_isiInt); walk_at "pl") | ((with_reducible apply rc_isiBool); walk_at "pl"))
local macro_rules | `(tactic| walk_at "ea") => `(tactic| first
  | with_reducible exact ea_nil | ((with_reducible apply ea_cons); walk_at "ev"; walk_at "ea"))
local macro_rules | `(tactic| walk_at "pow") => `(tactic| first
  | with_reducible exact ev_pow (a := 10) (b := 9) (c := 1000000000) (by decide +kernel) (by decide +kernel)
  | with_reducible exact ev_pow (a := 10) (b := 10) (c := 10000000000) (by decide +kernel) (by decide +kernel)
  | with_reducible exact ev_pow (a := 10) (b := 12) (c := 1000000000000) (by decide +kernel) (by decide +kernel)
  | with_reducible exact ev_pow (a := 10) (b := 17) (c := 100000000000000000) (by decide +kernel) (by decide +kernel)
  | with_reducible exact ev_pow (a := 10) (b := 20) (c := 100000000000000000000) (by decide +kernel) (by decide +kernel)
  | with_reducible exact ev_pow (a := 10) (b := 29) (c := 100000000000000000000000000000) (by decide +kernel) (by decide +kernel)
  | with_reducible exact ev_pow (a := 10) (b := 30) (c := 1000000000000000000000000000000) (by decide +kernel) (by decide +kernel)
  | with_reducible exact ev_pow (a := 10) (b := 40) (c := 10000000000000000000000000000000000000000) (by decide +kernel) (by decide +kernel)
  | with_reducible exact ev_pow (a := 10) (b := 57) (c := 1000000000000000000000000000000000000000000000000000000000) (by decide +kernel) (by decide +kernel)
  | with_reducible exact ev_pow (a := 10) (b := 58) (c := 10000000000000000000000000000000000000000000000000000000000) (by decide +kernel) (by decide +kernel)
  | with_reducible exact ev_pow (a := 10) (b := 59) (c := 100000000000000000000000000000000000000000000000000000000000) (by decide +kernel) (by decide +kernel)
  | with_reducible exact ev_pow (a := 10) (b := 60) (c := 1000000000000000000000000000000000000000000000000000000000000) (by decide +kernel) (by decide +kernel))
local macro_rules | `(tactic| walk_at "call") => `(tactic| (intro H9 e9; first | exact ⟨_, rfl, rfl⟩ | exact ⟨_, _, rfl, rfl⟩ | exact ⟨_, _, _, rfl, rfl⟩ | exact ⟨_, rfl, by walk_at "pl", rfl⟩ | (refine ⟨_, _, _, rfl, ?_, rfl⟩; first | exact Plain.ex e9 (by assumption) | walk_at "pl") | (refine ⟨_, rfl, ?_, rfl⟩; first | exact Plain.ex e9 (by assumption) | walk_at "pl")))
local macro_rules | `(tactic| walk_at "ev") => `(tactic| first
  | with_reducible exact ev_c
  | exact ev_var rfl
  | walk_at "pow"
  | ((with_reducible apply ev_op); walk_at "ev"; walk_at "ev"; walk_at "rv")
  | ((with_reducible apply ev_un); walk_at "ev"; walk_at "rv")
  | ((with_reducible apply ev_cb); walk_at "ea"; walk_at "rc")
  | ((with_reducible apply ev_callP); walk_at "ea"; walk_at "call")
  | ((with_reducible apply ev_chain); walk_at "ev"; walk_at "ev"; walk_at "rv"; walk_at "ev"; walk_at "rv")
  | ((with_reducible apply ev_andV); walk_at "ev"; intro _; walk_at "ev")
  | ((with_reducible apply ev_orV); walk_at "ev"; intro _; walk_at "ev")
  | ((with_reducible apply ev_ite); walk_at "et"; intro _; walk_at "ev"; intro _; walk_at "ev")
  | ((with_reducible apply ev_notV); walk_at "ev"))
local macro_rules | `(tactic| walk_at "et") => `(tactic| first
  | ((with_reducible apply et_test); walk_at "ev")
  | ((with_reducible apply et_B); walk_at "ev")
  | ((with_reducible apply et_and); walk_at "et"; intro _; walk_at "et")
  | ((with_reducible apply et_or); walk_at "et"; intro _; walk_at "et")
  | ((with_reducible apply et_not); walk_at "et"))
open En Wo
section
variable {σ : L2.St} {H : Hp} {K : PySem.W.Frag} {a : Addr} {ta tb te : TE} {tz tu : TS} {D : Ends} {g : TG}
theorem q_tupLL {i j : Nat} {xs ys : List V} (h1 : EvL ta σ H xs) (h2 : ∀ H1, Ex H H1 → EvL tb σ H1 ys) (k : ∀ p r H1, H p = none → H r = none → p ≠ r → Ex H H1 → H1 p = some (.lst xs) → H1 r = some (.lst ys) → tz D ((σ.set i (some (.ref p))).set j (some (.ref r))) H1) : tSeq (tAsg (tTup (tCons ta (tCons tb tNil))) (gTup K 2 (gCons (gName i) (gCons (gName j) gNil)))) tz D σ H :=
  h1 H (Ex.refl H) _ fun p H1 hp e1 hx => h2 H1 e1 H1 (Ex.refl H1) _ fun r H2 hr e2 hy => ⟨sz_of (by show 2 ≤ 100000; decide), fun t ht => ⟨t, _, rfl, st_of upd_same, rfl, _, _, rfl, _, _, rfl, rfl, k p r _ hp (fresh_back e1 hr) (fun z => by rw [z] at hx; rw [hx] at hr; cases hr) ((e1.trans e2).trans (Ex.new ht)) (Ex.new ht _ _ (e2 _ _ hx)) (Ex.new ht _ _ hy)⟩⟩
/-- for i, x in enumerate(tuple) -/
theorem q_forEnumT {xs : List V} {tl : TE} {j l : Nat} (h : Ev tl σ H (.ref a)) (hx : SqT K H a xs) (Pv : Nat → L2.St → Hp → Prop) (h0 : ∀ H1, Ex H H1 → Pv 0 σ H1) (hl : ∀ i σ' H', i ≤ xs.length → Pv i σ' H' → SqT K H' a xs)
    (hs : ∀ (i : Nat) x σ' H' H'', xs[i]? = some x → Pv i σ' H' → Ex H' H'' → tu { D with nx := Pv (i + 1), ct := Pv (i + 1), bk := tz D } ((σ'.set j (some (.int (i : Nat)))).set l (some x)) H'') (hd : ∀ σ' H', Pv xs.length σ' H' → tz D σ' H') : tSeq (tFor (iEnumT K (tCons tl tNil)) (gTup K 2 (gCons (gName j) (gCons (gName l) gNil))) tu) tz D σ H := h H (Ex.refl H) _ fun H1 e1 => ⟨a, xs, rfl, ex_t e1 hx, for_it (D := { D with nx := tz D }) walk_enumT Pv (h0 H1 e1) hl (fun i x σ' H' H'' hi p y => by
    obtain ⟨T, y1, y2, rfl, hT, rfl, h3, h4⟩ := y
    have h3 : y1 = .int (i : Nat) := (Option.some.inj h3).symm
    subst h3
    exact ⟨T, [.int (i : Nat), y2], rfl, st_of upd_same, rfl, _, _, rfl, _, _, rfl, rfl, hs i y2 σ' H' _ h4 p (Ex.new hT)⟩) hd⟩
theorem ev_lenN {xs : List V} (h : EvL te σ H xs) : Ev (tCB (rLenS K) (tCons te tNil)) σ H (.int (xs.length : Int)) := fun H1 e Q q => h H1 e _ fun p H2 hp e2 h2 => ⟨p, xs, rfl, .inl (sq_of h2), q H2 e2⟩
theorem ev_niTU {x : V} {xs : List V} (h1 : Ev ta σ H x) (h2 : EvTU K tb σ H xs) (hx : flatV x = true) (ha : xs.all flatV = true) : Ev (tOp (rIn K true) ta tb) σ H (.bl (!inV x xs)) := fun H1 e Q q =>
  h1 H1 e _ fun H2 e2 => h2 H2 (e.trans e2) _ fun p H3 e3 h3 => rv_niT h3 hx ha H3 (Ex.refl H3) Q fun H4 e4 => q H4 ((e2.trans e3).trans e4)
/-- [v for x in a tuple, new or not, if t] -/
theorem el_lcTU {t : TT} {xs : List V} {tl : TE} {j : Nat} {vs : List Nat} (f : Nat → Bool) (v : Nat → V) (h : EvTU K tl σ H xs) (hz : xs.length ≤ 40000) (hw : ∀ x, wipe ((wipe σ vs).set j (some x)) vs = wipe σ vs)
    (ht : ∀ (i : Nat) (x : V) H1, Ex H H1 → xs[i]? = some x → EvT t ((wipe σ vs).set j (some x)) H1 (f i)) (he : ∀ (i : Nat) (x : V) H1, Ex H H1 → xs[i]? = some x → f i = true → Ev te ((wipe σ vs).set j (some x)) H1 (v i)) :
    EvL (tLc (iTup K tl) (gName j) t te vs) σ H (given xs.length f v) := fun H0 e Q q => h H0 e _ fun a H1 e1 hx => ⟨a, rfl, ⟨xs, hx⟩, fun Dl hD =>
  lc_tup (xs := xs) (Cw H1 f v Dl) ⟨hD, Ex.new hD, upd_same⟩ (fun i H' _ p => ex_t p.2.1 hx) (fun i x H' hi p => ⟨hw x, cw_turn p (by have := (List.getElem?_eq_some_iff.mp hi).1; omega) (ht i x H1 (e.trans e1) hi) (fun hf => he i x H1 (e.trans e1) hi hf)⟩)
    (fun H' p => q Dl H' (fresh_back e1 p.1) (e1.trans p.2.1) p.2.2)⟩
theorem cut_t (xs : List V) (k : Nat) : cutV xs none (some (k : Int)) = xs.take k := by
  unfold cutV
  rw [HT.sIx_none, HT.sIx_nat, List.drop_zero, Nat.sub_zero]
  by_cases hk : k ≤ xs.length
  · rw [Nat.min_eq_left hk]
  · rw [Nat.min_eq_right (by omega), List.take_of_length_le (Nat.le_refl _), List.take_of_length_le (by omega)]
theorem etu_take {xs : List V} {ti : TE} {k : Nat} (h : Ev te σ H (.ref a)) (hx : SqT K H a xs) (hi : Ev ti σ H (.int (k : Int))) : EvTU K (tSl (rSlA K) te tNoPart (tPart ti)) σ H (xs.take k) := fun H1 e Q q =>
  h H1 e _ fun H2 e2 => eo_none H2 (e.trans e2) _ fun H3 e3 => (eo_some hi) H3 ((e.trans e2).trans e3) _ fun H4 e4 => ⟨a, xs, rfl, ex_t (((e.trans e2).trans e3).trans e4) hx, fun z => q a H4 ((e2.trans e3).trans e4) (by
    have hz : xs.take k = xs := by
      have h2 := z.2
      rw [HT.sIx_nat] at h2
      exact List.take_of_length_le (by omega)
    rw [hz]
    exact ex_t (((e.trans e2).trans e3).trans e4) hx), fun _ b hb => q b _ (((e2.trans e3).trans e4).trans (Ex.new hb)) (by rw [← cut_t]; exact st_of upd_same)⟩
end
theorem el_lcRN {σ : L2.St} {H : Hp} {ta : TA} {t : TT} {te : TE} {j : Nat} {vs : List Nat} {n : Nat} (f : Nat → Bool) (v : Nat → V) (h : EvA ta σ H [.int (n : Int)]) (hn : n ≤ 40000) (hw : ∀ x, wipe ((wipe σ vs).set j (some x)) vs = wipe σ vs)
    (ht : ∀ (i : Nat) H1, Ex H H1 → i < n → EvT t ((wipe σ vs).set j (some (.int (i : Int)))) H1 (f i)) (he : ∀ (i : Nat) H1, Ex H H1 → i < n → f i = true → Ev te ((wipe σ vs).set j (some (.int (i : Int)))) H1 (v i)) : EvL (tLc (iRng1 ta) (gName j) t te vs) σ H (given n f v) := by
  have := el_lcR1 f v h ⟨by omega, by omega⟩ hw (fun i H1 e hi => ht i H1 e (by omega)) (fun i H1 e hi hf => he i H1 e (by omega) hf)
  rwa [Int.toNat_natCast] at this
theorem inV_nats (hs : List Nat) (x : Nat) : inV (.int (x : Int)) ((natsI hs).map V.int) = decide (x ∈ hs) := by
  induction hs with
  | nil => rfl
  | cons y r ih =>
    show (eqV (.int (y : Int)) (.int (x : Int)) || inV (.int (x : Int)) ((natsI r).map V.int)) = _
    rw [ih]
    have : eqV (.int (y : Int)) (.int (x : Int)) = decide (x = y) := by
      unfold eqV
      by_cases h : x = y
      · subst h; simp
      · rw [decide_eq_false h]
        simp
        omega
    rw [this]
    by_cases h : x = y <;> simp [h]
theorem flat_nats (hs : List Nat) : ((natsI hs).map V.int).all flatV = true := by
  unfold natsI
  rw [List.map_map, List.all_map, List.all_eq_true]
  intro x _
  rfl
theorem nats_take (hs : List Nat) (k : Nat) : ((natsI hs).map V.int).take k = (natsI (hs.take k)).map V.int := by
  unfold natsI
  rw [List.map_take, List.map_take]
theorem count_filt (hs : List Nat) (x : Nat) : (hs.filter fun y => decide (y = x)).length = hs.count x := by
  rw [← List.countP_eq_length_filter]
  unfold List.count
  congr 1
end Kz
set_option Elab.async false
set_option linter.all false
set_option maxRecDepth 100000
set_option maxHeartbeats 4000000
set_option exponentiation.threshold 500
namespace Kz
open PySem PySem.Spec PyProof.Rows L2 Evl Vr
local macro_rules | `(tactic| walk_at "sc") => `(tactic| first | (with_reducible assumption) | (with_reducible exact sc_mul (by omega)) | (with_reducible exact sc_mulr (by omega)) | (with_reducible exact sc_div (by omega) (by decide)) | (show (0 : Int) < _; omega) | (show _ ≠ (0 : Int); omega) | (with_reducible rfl) | decide)
local macro_rules | `(tactic| walk_at "sq") => `(tactic| first | assumption | exact sq_of (by assumption) | exact st_of (by assumption))
local macro_rules | `(tactic| walk_at "pl") => `(tactic| first | assumption | exact pl_int | exact pl_bl | exact pl_str | exact pl_non | exact pl_lst (by assumption) | exact pl_tup (by assumption) | exact pl_dK (by assumption))
local macro_rules | `(tactic| walk_at "rv") => `(tactic| first
  | with_reducible exact rv_I0
  | with_reducible exact ru_neg
  | ((with_reducible apply rv_I); walk_at "sc")
  | ((with_reducible apply rv_ixL); walk_at "sq"; first | rfl | assumption)
  | ((with_reducible apply rv_ixT); walk_at "sq"; first | rfl | assumption)
  | ((with_reducible apply rv_eq); rfl) | ((with_reducible apply rv_ne); rfl))
local macro_rules | `(tactic| walk_at "rc") => `(tactic| first
  | with_reducible exact rc_I1 | with_reducible exact rc_B1 | with_reducible exact rc_I2 | ((with_reducible apply rc_repr); walk_at "sc") | ((with_reducible apply rc_lenL); walk_at "sq")
  | ((with_reducible apply rc_isiInt); walk_at "pl") | ((with_reducible apply rc_isiBool); walk_at "pl"))
local macro_rules | `(tactic| walk_at "ea") => `(tactic| first
  | with_reducible exact ea_nil | ((with_reducible apply ea_cons); walk_at "ev"; walk_at "ea"))
local macro_rules | `(tactic| walk_at "pow") => `(tactic| first
  | with_reducible exact ev_pow (a := 10) (b := 9) (c := 1000000000) (by decide +kernel) (by decide +kernel)
  | with_reducible exact ev_pow (a := 10) (b := 10) (c := 10000000000) (by decide +kernel) (by decide +kernel)
  | with_reducible exact ev_pow (a := 10) (b := 12) (c := 1000000000000) (by decide +kernel) (by decide +kernel)
  | with_reducible exact ev_pow (a := 10) (b := 17) (c := 100000000000000000) (by decide +kernel) (by decide +kernel)
  | with_reducible exact ev_pow (a := 10) (b := 20) (c := 100000000000000000000) (by decide +kernel) (by decide +kernel)
  | with_reducible exact ev_pow (a := 10) (b := 29) (c := 100000000000000000000000000000) (by decide +kernel) (by decide +kernel)
  | with_reducible exact ev_pow (a := 10) (b := 30) (c := 1000000000000000000000000000000) (by decide +kernel) (by decide +kernel)
  | with_reducible exact ev_pow (a := 10) (b := 40) (c := 10000000000000000000000000000000000000000) (by decide +kernel) (by decide +kernel)
  | with_reducible exact ev_pow (a := 10) (b := 57) (c := 1000000000000000000000000000000000000000000000000000000000) (by decide +kernel) (by decide +kernel)
  | with_reducible exact ev_pow (a := 10) (b := 58) (c := 10000000000000000000000000000000000000000000000000000000000) (by decide +kernel) (by decide +kernel)
  | with_reducible exact ev_pow (a := 10) (b := 59) (c := 100000000000000000000000000000000000000000000000000000000000) (by decide +kernel) (by decide +kernel)
  | with_reducible exact ev_pow (a := 10) (b := 60) (c := 1000000000000000000000000000000000000000000000000000000000000) (by decide +kernel) (by decide +kernel))
local macro_rules | `(tactic| walk_at "call") => `(tactic| (intro H9 e9; first | exact ⟨_, rfl, rfl⟩ | exact ⟨_, _, rfl, rfl⟩ | exact ⟨_, _, _, rfl, rfl⟩ | exact ⟨_, rfl, by walk_at "pl", rfl⟩ | (refine ⟨_, _, _, rfl, ?_, rfl⟩; first | exact Plain.ex e9 (by assumption) | walk_at "pl") | (refine ⟨_, rfl, ?_, rfl⟩; first | exact Plain.ex e9 (by assumption) | walk_at "pl")))
local macro_rules | `(tactic| walk_at "ev") => `(tactic| first
  | with_reducible exact ev_c
  | exact ev_var rfl
  | walk_at "pow"
  | ((with_reducible apply ev_op); walk_at "ev"; walk_at "ev"; walk_at "rv")
  | ((with_reducible apply ev_un); walk_at "ev"; walk_at "rv")
  | ((with_reducible apply ev_cb); walk_at "ea"; walk_at "rc")
  | ((with_reducible apply ev_callP); walk_at "ea"; walk_at "call")
  | ((with_reducible apply ev_chain); walk_at "ev"; walk_at "ev"; walk_at "rv"; walk_at "ev"; walk_at "rv")
  | ((with_reducible apply ev_andV); walk_at "ev"; intro _; walk_at "ev")
  | ((with_reducible apply ev_orV); walk_at "ev"; intro _; walk_at "ev")
  | ((with_reducible apply ev_ite); walk_at "et"; intro _; walk_at "ev"; intro _; walk_at "ev")
  | ((with_reducible apply ev_notV); walk_at "ev"))
local macro_rules | `(tactic| walk_at "et") => `(tactic| first
  | ((with_reducible apply et_test); walk_at "ev")
  | ((with_reducible apply et_B); walk_at "ev")
  | ((with_reducible apply et_and); walk_at "et"; intro _; walk_at "et")
  | ((with_reducible apply et_or); walk_at "et"; intro _; walk_at "et")
  | ((with_reducible apply et_not); walk_at "et"))
open En Wo
section
variable {P : Program} {w : World} {K : PySem.W.Frag} {mg : Str → Option Value} {base : Heap}
def kLJud (K : PySem.W.Frag) (vs : List V) (H : Hp) (d : PyData) : Prop := ∃ (a b : Addr) (rs : List Addr) (ls : List Lt) (hs : List Nat), vs = [.ref a, .ref b] ∧ SqL K H a (rs.map V.ref) ∧ LrsAt K H rs ls ∧ ls.length ≤ 100 ∧ SqT K H b ((natsI hs).map V.int) ∧ (∀ x ∈ hs, x < ls.length) ∧ hs.length ≤ 60 ∧ d = judD (glOf ls) ls.length hs
theorem ok_law_judged (T : Txt K mg w) : FnOk P w K mg base CX0 2 T.a_law_judged T.fd_law_judged ["letters", "handing"] (DatS K (kLJud K)) := by
  have G_law_lt_goal := ok_law_lt_goal (P := P) (w := w) (base := base) T
  refine T.F_law_judged.ok sc_law_judged (fun vs H Q E h => ?_) (fun cdv A outer s H vs Q E hr h => ?_)
  · obtain ⟨_, ⟨_, _, _, _, _, rfl, _⟩, _⟩ := h; rfl
  · obtain ⟨_, ⟨a, b, rs, ls, hs, rfl, hT, hR, hln, hb, hx, hhl, rfl⟩, q⟩ := h
    refine ⟨_, (pss_cons (ps_asg (pe_tup (pa_cons (pe_lc (own := [("letter", 9)]) (g := gName 9) (by rfl) sc_law_judged.nd (pi_list (pv 0)) (blkOk_by (own := [("letter", 9)]) (N := ["letters", "handing", "goals", "found", "number", "lost", "doubled", "at", "ahead", "letter", "other", "one"]) (sc := defScope s_law_judged) (by decide +kernel)) (fun _ _ _ _ _ => pg_name (i := 9) sc_law_judged.nd rfl (by first | exact Or.inl rfl | exact Or.inr rfl)) (fun _ _ _ _ _ => pts_nil) (fun _ _ _ _ _ => (pe_call G_law_lt_goal (hr.mono (by decide)) (by rfl) T.g_law_lt_goal T.F_law_lt_goal.kp T.b_law_lt_goal .nil pass0 (pa_cons (pv 9) pa_nil)))) (pa_cons (pe_lst pa_nil) pa_nil))) (pg_tup rfl (pgs_cons (pg_name (i := 2) sc_law_judged.nd rfl (.inr rfl)) (pgs_cons (pg_name (i := 3) sc_law_judged.nd rfl (.inl rfl)) pgs_nil))))
  (pss_cons (ps_setLc (i := 5) (own := [("number", 4)]) (g := gName 4) (by rfl) sc_law_judged.nd rfl rfl (sw_true rfl rfl rfl (by decide +kernel)) (pi_range1 rfl T.z_range (pa_cons (pe_callB c_len (by rfl) T.z_len PySem.boot_len (pa_cons (pv 0) pa_nil)) pa_nil)) (blkOk_by (own := [("number", 4)]) (N := ["letters", "handing", "goals", "found", "number", "lost", "doubled", "at", "ahead", "letter", "other", "one"]) (sc := defScope s_law_judged) (by decide +kernel)) (fun _ _ _ _ _ => pg_name (i := 4) sc_law_judged.nd rfl (by first | exact Or.inl rfl | exact Or.inr rfl)) (fun _ _ _ _ _ => (pts_one (pt_cmpR (op_notIn_seqK (K := K) rfl) (pv 4) (pv 1) (by rfl)))) (fun _ _ _ _ _ => (pv 4)))
  (pss_cons (ps_setLc (i := 6) (own := [("number", 4)]) (g := gName 4) (by rfl) sc_law_judged.nd rfl rfl (sw_true rfl rfl rfl (by decide +kernel)) (pi_range1 rfl T.z_range (pa_cons (pe_callB c_len (by rfl) T.z_len PySem.boot_len (pa_cons (pv 0) pa_nil)) pa_nil)) (blkOk_by (own := [("number", 4)]) (N := ["letters", "handing", "goals", "found", "number", "lost", "doubled", "at", "ahead", "letter", "other", "one"]) (sc := defScope s_law_judged) (by decide +kernel)) (fun _ _ _ _ _ => pg_name (i := 4) sc_law_judged.nd rfl (by first | exact Or.inl rfl | exact Or.inr rfl)) (fun _ _ _ _ _ => (pts_one (pt_cmpR op_gt (pe_callB (c_lenK (K := K) rfl) (by rfl) T.z_len PySem.boot_len (pa_cons (by exact (pe_lc (own := [("one", 11)]) (g := gName 11) (by rfl) sc_law_judged.nd (pi_tupK (K := K) rfl (pv 1)) (blkOk_by (own := [("one", 11)]) (N := ["letters", "handing", "goals", "found", "number", "lost", "doubled", "at", "ahead", "letter", "other", "one"]) (sc := _) (by rfl)) (fun _ _ _ _ _ => pg_name (i := 11) sc_law_judged.nd rfl (by first | exact Or.inl rfl | exact Or.inr rfl)) (fun _ _ _ _ _ => (pts_one (pt_cmpR op_eq (pv 11) (pv 4) (nomark _)))) (fun _ _ _ _ _ => pe_int))) pa_nil)) pe_int (nomark _)))) (fun _ _ _ _ _ => (pv 4)))
  (pss_cons (ps_for PassesOwn.never rfl (En.pi_enumT rfl T.z_enumerate (pa_cons (pv 1) pa_nil)) (pg_tup rfl (pgs_cons (pg_name (i := 7) sc_law_judged.nd rfl (.inl rfl)) (pgs_cons (pg_name (i := 4) sc_law_judged.nd rfl (.inr rfl)) pgs_nil))) (pss_cons (ps_setLc (i := 8) (own := [("other", 10)]) (g := gName 10) (by rfl) sc_law_judged.nd rfl rfl (sw_true rfl rfl rfl (by decide +kernel)) (pi_tup (pe_slice sl_tupA (pv 1) po_none (po_some (pv 7)))) (blkOk_by (own := [("other", 10)]) (N := ["letters", "handing", "goals", "found", "number", "lost", "doubled", "at", "ahead", "letter", "other", "one"]) (sc := defScope s_law_judged) (by decide +kernel)) (fun _ _ _ _ _ => pg_name (i := 10) sc_law_judged.nd rfl (by first | exact Or.inl rfl | exact Or.inr rfl)) (fun _ _ _ _ _ => (pts_one (PW.pt (pw_and (pt_cmpR op_gt (pv 10) (pv 4) (nomark _)) (pw_and1 (pt_cmpR op_eq (pe_ix (ix_listK (K := K) rfl) (pv 2) (pv 10) (fun _ _ => rfl)) (pe_ix (ix_listK (K := K) rfl) (pv 2) (pv 4) (fun _ _ => rfl)) (nomark _))))))) (fun _ _ _ _ _ => (pv 10)))
  (pss_one (ps_if (PW.pt (pw_and (pt_cmpR (op_neD hr.units) (pv 8) (pe_lst pa_nil) (nomark _)) (pw_and1 (pt_cmpR op_notIn_seq (pv 4) (pe_slice sl_tupA (pv 1) po_none (po_some (pv 7))) (by rfl))))) (pss_one (ps_expr (pe_bm PySem.F.plainAttrs_list PySem.F.slot_list_append PySem.F.type_list_append mt_append (pv 3) (pa_cons (pv 4) pa_nil)))) pss_nil))))
  (pss_one (ps_ret (pe_tup (pa_cons (pe_callTy c_tupL (by rfl) T.z_tuple (by decide +kernel) (pa_cons (pv 5) pa_nil)) (pa_cons (pe_callTy c_tupL (by rfl) T.z_tuple (by decide +kernel) (pa_cons (pv 6) pa_nil)) (pa_cons (pe_callTy c_tupL (by rfl) T.z_tuple (by decide +kernel) (pa_cons (pe_callB cr_sorted (by rfl) T.z_sorted (by decide +kernel) (pa_cons (pv 3) pa_nil)) pa_nil)) pa_nil)))))))))), ?_⟩
    have hrl : (rs.map V.ref).length = ls.length := by rw [List.length_map, hR.1]
    have hnl : (natsI hs).length = hs.length := List.length_map ..
    let gl := glOf ls
    have hglx : ∀ x, x < ls.length → (ls.map fun l => V.int l.goal)[x]? = some (.int (gl x)) := fun x hx => by
      rw [List.getElem?_map, List.getElem?_eq_getElem hx]
      show some (V.int _) = some (V.int ((ls.getD x (.word 0 "")).goal))
      rw [List.getD_eq_getElem?_getD, List.getElem?_eq_getElem hx]
      rfl
    refine q_tupLL (xs := ls.map fun l => .int l.goal) (ys := []) (by
      have e : given (rs.map V.ref).length (fun _ => true) (fun i => V.int ((ls.getD i (.word 0 "")).goal)) = ls.map fun l => V.int l.goal := by
        rw [hrl]
        exact given_yes_map ls (.word 0 "") fun l => V.int l.goal
      rw [← e]
      refine el_lcL (fun _ => true) _ (ev_var rfl) hT (by rw [hrl]; omega) (fun _ => rfl) (fun i x H4 e4 hx => et_yes) fun i x H4 e4 hx _ => ?_
      obtain ⟨r, l, rfl, h1, h2, h3⟩ := hR.at hx
      have hd : ls.getD i (.word 0 "") = l := by rw [List.getD_eq_getElem?_getD, h2]; rfl
      rw [hd]
      exact ev_callP (vs := [.ref r]) (by walk_at "ea") fun H5 e5 => ⟨r, l, rfl, (h3.ex e4).ex e5, rfl⟩) (fun _ _ => el_lst ea_nil (by decide)) fun gs fo H1 hgs hfo hgf e1 hg1 hf1 => ?_
    have hTl : ∀ {H2 : Hp}, Ex H H2 → RC (rLenS K) [.ref a] H2 (.int (ls.length : Int)) := fun {H2} e => by
      have := rc_lenL (H := H2) (ex_l e hT)
      rwa [hrl] at this
    refine q_asgL (xs := (natsI (lostL ls.length hs)).map V.int) (by
      have e := given_filt ls.length (fun i => decide (hs.count i = 0))
      unfold lostL
      rw [← e]
      refine el_lcRN _ _ (ea_cons (ev_cb (vs := [.ref a]) (ea_cons (ev_var rfl) ea_nil) (hTl e1)) ea_nil) (by omega) (fun _ => rfl) (fun i H2 e2 hi => ?_) fun i H2 e2 hi _ => ev_var rfl
      refine et_is (et_test (ev_op (ev_var rfl) (ev_var rfl) (rv_niT (x := .int (i : Int)) (ex_t (e1.trans e2) hb) rfl (flat_nats hs)))) ?_
      rw [inV_nats, Bool.eq_iff_iff, Bool.not_eq_true', decide_eq_false_iff_not, decide_eq_true_iff, List.count_eq_zero]) fun lo H2 hlo e2 h2 => ?_
    have e12 := e1.trans e2
    refine q_asgL (xs := (natsI (doubL ls.length hs)).map V.int) (by
      have e := given_filt ls.length (fun i => decide (1 < hs.count i))
      unfold doubL
      rw [← e]
      refine el_lcRN _ _ (ea_cons (ev_cb (vs := [.ref a]) (ea_cons (ev_var rfl) ea_nil) (hTl e12)) ea_nil) (by omega) (fun _ => rfl) (fun i H3 e3 hi => ?_) fun i H3 e3 hi _ => ev_var rfl
      have hin : ∀ {σ : L2.St} {vs : List Nat}, σ[1]? = some (some (V.ref b)) → σ[4]? = some (some (V.int (i : Int))) → (∀ x, wipe ((wipe σ vs).set 11 (some x)) vs = wipe σ vs) → (∀ x : V, ((wipe σ vs).set 11 (some x))[11]? = some (some x) ∧ ((wipe σ vs).set 11 (some x))[4]? = some (some (V.int (i : Int)))) → EvL (tLc (iTup K (tVar 1)) (gName 11) (tTest (tOp rEq (tVar 11) (tVar 4))) (tC (.int 1)) vs) σ H3 ((hs.filter fun y => decide (y = i)).map fun _ => V.int 1) := fun {σ vs} s1 s4 hw hv => by
        rw [← given_filter hs 0 (fun y => decide (y = i)) (fun _ => V.int 1)]
        have hl : hs.length = ((natsI hs).map V.int).length := by rw [List.length_map, hnl]
        rw [hl]
        refine el_lcT _ _ (ev_var s1) (ex_t (e12.trans e3) hb) (by rw [← hl]; omega) hw (fun k x H4 e4 hx => ?_) fun k x H4 e4 hx _ => ev_c
        rw [List.getElem?_map] at hx
        unfold natsI at hx
        rw [List.getElem?_map] at hx
        cases hq : hs[k]? with
        | none => rw [hq] at hx; cases hx
        | some y =>
          rw [hq] at hx
          obtain rfl : x = .int (y : Int) := (Option.some.inj hx).symm
          have hd : hs.getD k 0 = y := by rw [List.getD_eq_getElem?_getD, hq]; rfl
          rw [hd]
          exact et_is (et_test (ev_op (ev_var (hv _).1) (ev_var (hv _).2) (rv_eq rfl))) (decide_eq_decide.mpr ⟨fun h => by have := V.int.inj h; omega, fun h => by rw [h]⟩)
      refine et_is (et_test (ev_op (ev_lenN (hin rfl rfl (fun _ => rfl) fun _ => ⟨rfl, rfl⟩)) ev_c rv_I0)) ?_
      rw [List.length_map, count_filt]
      exact decide_eq_decide.mpr ⟨fun h => by omega, fun h => by omega⟩) fun dl H3 hdl e3 h3 => ?_
    have e13 := e12.trans e3
    have hlo3 := e3 _ _ h2
    have hf3 := (e2.trans e3) _ _ hf1
    have hg3 := (e2.trans e3) _ _ hg1
    have hlf : lo ≠ fo := fun y => by rw [y, hf1] at hlo; cases hlo
    have hdf : dl ≠ fo := fun y => by rw [y, e2 _ _ hf1] at hdl; cases hdl
    let Pv : Nat → L2.St → Hp → Prop := fun i σ' H' => ∃ (x4 x7 x8 : Option V), σ' = [some (.ref a), some (.ref b), some (.ref gs), some (.ref fo), x4, some (.ref lo), some (.ref dl), x7, x8, none, none, none] ∧ Ex H H' ∧ Exd fo H3 H' ∧ H' fo = some (.lst ((natsI (ovr gl (hs.take i))).map V.int))
    refine q_forEnumT (ev_var rfl) (ex_t e13 hb) Pv (fun H4 e4 => ⟨none, none, none, rfl, e13.trans e4, Exd.of e4, e4 _ _ hf3⟩) (fun i σ' H' _ ⟨_, _, _, _, e, _⟩ => ex_t e hb) (fun i x σ' H' H'' hxi ⟨x4, x7, x8, hσ, eH, eD, hfo'⟩ ee => ?_) fun σ' H' ⟨x4, x7, x8, hσ, eH, eD, hfo'⟩ => ?_
    · subst hσ
      rw [List.getElem?_map] at hxi
      unfold natsI at hxi
      rw [List.getElem?_map] at hxi
      cases hq : hs[i]? with
      | none => rw [hq] at hxi; cases hxi
      | some y =>
        rw [hq] at hxi
        obtain rfl : x = .int (y : Int) := (Option.some.inj hxi).symm
        have hyl := hx y (List.mem_of_getElem? hq)
        have hil := (List.getElem?_eq_some_iff.mp hq).1
        have htk := take_succ hq
        have hovs := ovr_snoc gl (hs.take i) y
        have hdl60 : (hs.take i).length ≤ 60 := by rw [List.length_take]; omega
        have hmem : ∀ o ∈ hs.take i, o < ls.length := fun o ho => hx o (List.mem_of_mem_take ho)
        have eH2 := eH.trans ee
        have hgs2 : H'' gs = some (.lst (ls.map fun l => .int l.goal)) := ee _ _ (eD _ _ hgf hg3)
        generalize hdone : hs.take i = done at *
        have htak : ∀ {σ : L2.St} {H9 : Hp}, Ex H'' H9 → σ[1]? = some (some (V.ref b)) → σ[7]? = some (some (V.int (i : Int))) → EvTU K (tSl (rSlA K) (tVar 1) tNoPart (tPart (tVar 7))) σ H9 ((natsI done).map V.int) := fun {σ H9} e9 s1 s7 => by
          rw [← hdone, ← nats_take]
          exact etu_take (ev_var s1) (ex_t (eH2.trans e9) hb) (ev_var s7)
        refine q_asgL (xs := (natsI (done.filter fun o => decide (y < o) && decide (gl o = gl y))).map V.int) (by
          have e0 : (natsI (done.filter fun o => decide (y < o) && decide (gl o = gl y))).map V.int = (done.filter fun o => decide (y < o) && decide (gl o = gl y)).map fun o : Nat => V.int (o : Int) := by
            unfold natsI
            rw [List.map_map]
            rfl
          rw [e0, ← given_filter done 0 (fun o => decide (y < o) && decide (gl o = gl y)) (fun o : Nat => V.int (o : Int))]
          have hl : done.length = ((natsI done).map V.int).length := by rw [List.length_map]; unfold natsI; rw [List.length_map]
          rw [hl]
          have hat : ∀ (k : Nat) (x : V), ((natsI done).map V.int)[k]? = some x → ∃ o ∈ done, x = .int (o : Int) ∧ done.getD k 0 = o := fun k x hx => by
            unfold natsI at hx
            rw [List.getElem?_map, List.getElem?_map] at hx
            cases hq : done[k]? with
            | none => rw [hq] at hx; cases hx
            | some o =>
              rw [hq] at hx
              exact ⟨o, List.mem_of_getElem? hq, (Option.some.inj hx).symm, by rw [List.getD_eq_getElem?_getD, hq]; rfl⟩
          refine el_lcTU _ _ (htak (Ex.refl H'') rfl rfl) (by rw [← hl]; omega) (fun _ => rfl) (fun k x H9 e9 hx => ?_) fun k x H9 e9 hx _ => ?_
          · obtain ⟨o, ho, rfl, hd⟩ := hat k x hx
            rw [hd]
            have hG := sq_of (K := K) (e9 _ _ hgs2)
            refine et_and (et_is (et_test (ev_op (ev_var rfl) (ev_var rfl) rv_I0)) (decide_eq_decide.mpr ⟨fun h => by omega, fun h => by omega⟩)) fun _ => et_is (et_test (ev_op (ev_op (ev_var rfl) (ev_var rfl) (rv_ixL hG (atI_nat (hglx o (hmem o ho))))) (ev_op (ev_var rfl) (ev_var rfl) (rv_ixL hG (atI_nat (hglx y hyl)))) (rv_eq rfl))) (decide_eq_decide.mpr ⟨V.int.inj, fun h => by rw [h]⟩)
          · obtain ⟨o, ho, rfl, hd⟩ := hat k x hx
            rw [hd]
            exact ev_var rfl) fun al H9 hal e9 h9 => ?_
        have hfo9 := e9 _ _ (ee _ _ hfo')
        have hD9 : Exd fo H3 H9 := (eD.trans (Exd.of ee)).trans (Exd.of e9)
        refine s_if (b := ahead gl done y && !decide (y ∈ done)) (et_is (et_and (et_test (ev_neD (d := .list ((natsI (done.filter fun o => decide (y < o) && decide (gl o = gl y))).map PyData.int)) (e := .list []) (evd_of (ev_var rfl) fun H10 e10 => .lst (sq_of (e10 _ _ h9)) (dpa_ints _)) (evd_lst evda_nil (by decide)) (shaped_ints _) (by decide))) fun _ => et_is (et_test (ev_niTU (x := .int (y : Int)) (ev_var rfl) (htak e9 rfl rfl) rfl (flat_nats done))) (by rw [inV_nats])) ?_) (fun hb9 H10 e10 => ?_) fun hb9 H10 e10 => ?_
        · congr 1
          unfold ahead
          rw [List.any_eq]
          cases hf : done.filter fun o => decide (y < o) && decide (gl o = gl y) with
          | nil =>
            have : ¬ ∃ x, x ∈ done ∧ (decide (y < x) && decide (gl x = gl y)) = true := by
              rintro ⟨o, h1, h2⟩
              have : o ∈ done.filter fun o => decide (y < o) && decide (gl o = gl y) := List.mem_filter.mpr ⟨h1, h2⟩
              rw [hf] at this
              cases this
            rw [decide_eq_false this]
            rfl
          | cons o r =>
            have h3 : o ∈ done.filter fun o => decide (y < o) && decide (gl o = gl y) := by rw [hf]; exact List.mem_cons_self ..
            have : ∃ x, x ∈ done ∧ (decide (y < x) && decide (gl x = gl y)) = true := ⟨o, (List.mem_filter.mp h3).1, (List.mem_filter.mp h3).2⟩
            rw [decide_eq_true this]
            rfl
        · have hb9' : (!decide (y ∈ done) && ahead gl done y) = true := by rw [Bool.and_comm]; exact hb9
          rw [if_pos hb9'] at hovs
          refine s_app (v := .int (y : Int)) (e10 _ _ hfo9) (ev_var rfl) (ev_var rfl) (by rw [List.length_map]; unfold natsI; rw [List.length_map]; have := over_len gl done []; unfold ovr; omega) fun H11 e11 => ⟨_, _, _, rfl, Ex.mut ((eH2.trans e9).trans (e10.trans e11)) hfo, (hD9.trans (Exd.of (e10.trans e11))).trans Exd.upd, ?_⟩
          rw [upd_same, htk, hovs]
          unfold natsI
          rw [List.map_append, List.map_append]
          rfl
        · have hb9' : (!decide (y ∈ done) && ahead gl done y) = false := by rw [Bool.and_comm]; exact hb9
          rw [if_neg (by rw [hb9']; exact Bool.false_ne_true), List.append_nil] at hovs
          exact ⟨_, _, _, rfl, (eH2.trans e9).trans e10, hD9.trans (Exd.of e10), by rw [htk, hovs]; exact e10 _ _ hfo9⟩
    · subst hσ
      have hl0 : ((natsI hs).map V.int).length = hs.length := by rw [List.length_map, hnl]
      rw [hl0, List.take_length] at hfo'
      have h2s := sq_of (K := K) (eD _ _ hlf hlo3)
      have h3s := sq_of (K := K) (eD _ _ hdf h3)
      have hol60 : (natsI (ovr gl hs)).length < 64 := by
        unfold natsI
        rw [List.length_map]
        have := over_len gl hs []
        unfold ovr
        omega
      refine s_retTP (P := fun vs H' => ∃ r1 r2 r3, vs = [.ref r1, .ref r2, .ref r3] ∧ H' r1 = some (.tup ((natsI (lostL ls.length hs)).map V.int)) ∧ H' r2 = some (.tup ((natsI (doubL ls.length hs)).map V.int)) ∧ H' r3 = some (.tup ((srt (natsI (ovr gl hs))).map V.int))) ((ap_consU (eu_tupV (ev_var rfl) h2s) (ap_consU (eu_tupV (ev_var rfl) h3s) (ap_consU (eu_tupL (el_sorted (ev_var rfl) (sq_of hfo') hol60)) ap_nil))).mono fun vs H' ⟨r1, _, a1, a2, r2, _, a3, a4, r3, _, a5, a6, a7⟩ => ⟨r1, r2, r3, by rw [a1, a3, a5, a7], a2, a4, a6⟩) (fun vs H1 ⟨_, _, _, hv, _⟩ => by rw [hv]; show 3 ≤ 100000; decide) fun r vs H9 e9 ⟨r1, r2, r3, hv, k1, k2, k3⟩ hr => ?_
      subst hv
      have e10 : Ex H9 (upd H9 r (.tup [.ref r1, .ref r2, .ref r3])) := Ex.new hr
      exact q (.ref r) _ ((eH.trans e9).trans e10) (.tup (st_of upd_same) (.cons (.tup (st_of (e10 _ _ k1)) (dpa_ints _)) (.cons (.tup (st_of (e10 _ _ k2)) (dpa_ints _)) (.cons (.tup (st_of (e10 _ _ k3)) (dpa_ints _)) .nil))))
end
end Kz
set_option Elab.async false
set_option linter.all false
set_option maxRecDepth 100000
set_option maxHeartbeats 4000000
set_option exponentiation.threshold 500
namespace Kz
open PySem PySem.Spec PyProof.Rows L2 Evl Vr
local macro_rules | `(tactic| walk_at "sc") => `(tactic| first | (with_reducible assumption) | (with_reducible exact sc_mul (by omega)) | (with_reducible exact sc_mulr (by omega)) | (with_reducible exact sc_div (by omega) (by decide)) | (show (0 : Int) < _; omega) | (show _ ≠ (0 : Int); omega) | (with_reducible rfl) | decide)
local macro_rules | `(tactic| walk_at "sq") => `(tactic| first | assumption | exact sq_of (by assumption) | exact st_of (by assumption))
local macro_rules | `(tactic| walk_at "pl") => `(tactic| first | assumption | exact pl_int | exact pl_bl | exact pl_str | exact pl_non | exact pl_lst (by assumption) | exact pl_tup (by assumption) | exact pl_dK (by assumption))
local macro_rules | `(tactic| walk_at "rv") => `(tactic| first
  | with_reducible exact rv_I0
  | with_reducible exact ru_neg
  | ((with_reducible apply rv_I); walk_at "sc")
  | ((with_reducible apply rv_ixL); walk_at "sq"; first | rfl | assumption)
  | ((with_reducible apply rv_ixT); walk_at "sq"; first | rfl | assumption)
  | ((with_reducible apply rv_eq); rfl) | ((with_reducible apply rv_ne); rfl))
local macro_rules | `(tactic| walk_at "rc") => `(tactic| first
  | with_reducible exact rc_I1 | with_reducible exact rc_B1 | with_reducible exact rc_I2 | ((with_reducible apply rc_repr); walk_at "sc") | ((with_reducible apply rc_lenL); walk_at "sq")
  | ((with_reducible apply rc_isiInt); walk_at "pl") | ((with_reducible apply rc_isiBool); walk_at "pl"))
local macro_rules | `(tactic| walk_at "ea") => `(tactic| first
  | with_reducible exact ea_nil | ((with_reducible apply ea_cons); walk_at "ev"; walk_at "ea"))
local macro_rules | `(tactic| walk_at "pow") => `(tactic| first
  | with_reducible exact ev_pow (a := 10) (b := 9) (c := 1000000000) (by decide +kernel) (by decide +kernel)
  | with_reducible exact ev_pow (a := 10) (b := 10) (c := 10000000000) (by decide +kernel) (by decide +kernel)
  | with_reducible exact ev_pow (a := 10) (b := 12) (c := 1000000000000) (by decide +kernel) (by decide +kernel)
  | with_reducible exact ev_pow (a := 10) (b := 17) (c := 100000000000000000) (by decide +kernel) (by decide +kernel)
  | with_reducible exact ev_pow (a := 10) (b := 20) (c := 100000000000000000000) (by decide +kernel) (by decide +kernel)
  | with_reducible exact ev_pow (a := 10) (b := 29) (c := 100000000000000000000000000000) (by decide +kernel) (by decide +kernel)
  | with_reducible exact ev_pow (a := 10) (b := 30) (c := 1000000000000000000000000000000) (by decide +kernel) (by decide +kernel)
  | with_reducible exact ev_pow (a := 10) (b := 40) (c := 10000000000000000000000000000000000000000) (by decide +kernel) (by decide +kernel)
  | with_reducible exact ev_pow (a := 10) (b := 57) (c := 1000000000000000000000000000000000000000000000000000000000) (by decide +kernel) (by decide +kernel)
  | with_reducible exact ev_pow (a := 10) (b := 58) (c := 10000000000000000000000000000000000000000000000000000000000) (by decide +kernel) (by decide +kernel)
  | with_reducible exact ev_pow (a := 10) (b := 59) (c := 100000000000000000000000000000000000000000000000000000000000) (by decide +kernel) (by decide +kernel)
  | with_reducible exact ev_pow (a := 10) (b := 60) (c := 1000000000000000000000000000000000000000000000000000000000000) (by decide +kernel) (by decide +kernel))
local macro_rules | `(tactic| walk_at "call") => `(tactic| (intro H9 e9; first | exact ⟨_, rfl, rfl⟩ | exact ⟨_, _, rfl, rfl⟩ | exact ⟨_, _, _, rfl, rfl⟩ | exact ⟨_, rfl, by walk_at "pl", rfl⟩ | (refine ⟨_, _, _, rfl, ?_, rfl⟩; first | exact Plain.ex e9 (by assumption) | walk_at "pl") | (refine ⟨_, rfl, ?_, rfl⟩; first | exact Plain.ex e9 (by assumption) | walk_at "pl")))
local macro_rules | `(tactic| walk_at "ev") => `(tactic| first
  | with_reducible exact ev_c
  | exact ev_var rfl
  | walk_at "pow"
  | ((with_reducible apply ev_op); walk_at "ev"; walk_at "ev"; walk_at "rv")
  | ((with_reducible apply ev_un); walk_at "ev"; walk_at "rv")
  | ((with_reducible apply ev_cb); walk_at "ea"; walk_at "rc")
  | ((with_reducible apply ev_callP); walk_at "ea"; walk_at "call")
  | ((with_reducible apply ev_chain); walk_at "ev"; walk_at "ev"; walk_at "rv"; walk_at "ev"; walk_at "rv")
  | ((with_reducible apply ev_andV); walk_at "ev"; intro _; walk_at "ev")
  | ((with_reducible apply ev_orV); walk_at "ev"; intro _; walk_at "ev")
  | ((with_reducible apply ev_ite); walk_at "et"; intro _; walk_at "ev"; intro _; walk_at "ev")
  | ((with_reducible apply ev_notV); walk_at "ev"))
local macro_rules | `(tactic| walk_at "et") => `(tactic| first
  | ((with_reducible apply et_test); walk_at "ev")
  | ((with_reducible apply et_B); walk_at "ev")
  | ((with_reducible apply et_and); walk_at "et"; intro _; walk_at "et")
  | ((with_reducible apply et_or); walk_at "et"; intro _; walk_at "et")
  | ((with_reducible apply et_not); walk_at "et"))
open En Wo
section
variable {σ : L2.St} {H : Hp} {K : PySem.W.Frag} {ta tb te : TE} {tz : TS} {D : Ends} {p : Addr}
theorem q_parLL {i j : Nat} {xs ys : List V} (h1 : EvL ta σ H xs) (h2 : ∀ H1, Ex H H1 → EvL tb σ H1 ys) (k : ∀ a b H1, H a = none → H b = none → a ≠ b → Ex H H1 → H1 a = some (.lst xs) → H1 b = some (.lst ys) → tz D ((σ.set i (some (.ref a))).set j (some (.ref b))) H1) : tSeq (tPar i j (tCons ta (tCons tb tNil))) tz D σ H :=
  h1 H (Ex.refl H) _ fun a H1 ha e1 hx => h2 H1 e1 H1 (Ex.refl H1) _ fun b H2 hb e2 hy => ⟨.ref a, .ref b, rfl, k a b H2 ha (fresh_back e1 hb) (fun z => by rw [z] at hx; rw [hx] at hb; cases hb) (e1.trans e2) (e2 _ _ hx) hy⟩
theorem el_listL {xs : List V} (ha : Ev ta σ H (.ref p)) (h : SqL K H p xs) : EvL (tCB (rListS K) (tCons ta tNil)) σ H xs := fun H1 e Q q =>
  ha H1 e _ fun H2 e2 => ⟨p, xs, rfl, .inl (ex_l (e.trans e2) h), fun l hl => q l _ (fresh_back e2 hl) (e2.trans (Ex.new hl)) upd_same⟩
end
theorem nats_at {hs : List Nat} {k : Nat} {x : Nat} (h : hs[k]? = some x) : ((natsI hs).map V.int)[k]? = some (.int (x : Int)) := by
  unfold natsI
  rw [List.getElem?_map, List.getElem?_map, h]
  rfl
theorem map_erase {α β : Type} (f : α → β) : ∀ (l : List α) (k : Nat), (l.map f).eraseIdx k = (l.eraseIdx k).map f
  | [], _ => rfl
  | _ :: _, 0 => rfl
  | a :: l, k + 1 => by
    show f a :: (l.map f).eraseIdx k = f a :: (l.eraseIdx k).map f
    rw [map_erase f l k]
theorem nats_erase (hs : List Nat) (k : Nat) : ((natsI hs).map V.int).eraseIdx k = (natsI (hs.eraseIdx k)).map V.int := by
  unfold natsI
  rw [map_erase, map_erase]
theorem nats_len (hs : List Nat) : ((natsI hs).map V.int).length = hs.length := by
  unfold natsI
  rw [List.length_map, List.length_map]
theorem nats_snoc (hs : List Nat) (x : Nat) : (natsI hs).map V.int ++ [.int (x : Int)] = (natsI (hs ++ [x])).map V.int := by
  unfold natsI
  rw [List.map_append, List.map_append]
  rfl
/-- lists of numbers that are drawn -/
def DrawsNs (K : PySem.W.Frag) (ok : List V → Hp → Addr → (List Nat → Prop) → Prop) : Sp := fun vs H Q _ => ∃ p R, ok vs H p R ∧ Dice p H ∧ ∀ a hs H', R hs → a ≠ p → H a = none → Exd p H H' → Dice p H' → H' a = some (.lst ((natsI hs).map V.int)) → Q (.ref a) H'
section
variable {P : Program} {w : World} {K : PySem.W.Frag} {mg : Str → Option Value} {base : Heap}
def kShuf (K : PySem.W.Frag) (vs : List V) (H : Hp) (p : Addr) (R : List Nat → Prop) : Prop := ∃ (a : Addr) (hs : List Nat), vs = [.ref p, .ref a] ∧ a ≠ p ∧ H a = some (.lst ((natsI hs).map V.int)) ∧ hs.length ≤ 100 ∧ R = fun gs => gs.length = hs.length ∧ ∀ x ∈ gs, x ∈ hs
theorem ok_shuffled (T : Txt K mg w) : FnOk P w K mg base CX0 2 T.a_law_shuffled T.fd_law_shuffled ["dice", "items"] (DrawsNs K (kShuf K)) := by
  have G_law_roll := ok_roll (P := P) (w := w) (base := base) T
  refine T.F_law_shuffled.ok sc_law_shuffled (fun vs H Q E h => ?_) (fun cdv A outer s H vs Q E hr h => ?_)
  · obtain ⟨_, _, ⟨_, _, rfl, _⟩, _⟩ := h; rfl
  · obtain ⟨p, _, ⟨a, hs, rfl, hap, ha, hl, rfl⟩, hd, q⟩ := h
    refine ⟨_, (pss_cons (ps_par (i := 2) (j := 3) (by rfl) sc_law_shuffled.nd rfl rfl (by decide) rfl rfl (pa_cons (pe_callTy c_listS (by rfl) T.z_list (by decide +kernel) (pa_cons (pv 1) pa_nil)) (pa_cons (pe_lst pa_nil) pa_nil)) (by rfl))
  (pss_cons (ps_for PassesOwn.never rfl (pi_range1 rfl T.z_range (pa_cons (pe_callB c_len (by rfl) T.z_len PySem.boot_len (pa_cons (pv 1) pa_nil)) pa_nil)) (pg_name (i := 4) sc_law_shuffled.nd rfl (.inl rfl)) (pss_one (ps_expr (pe_bm PySem.F.plainAttrs_list PySem.F.slot_list_append PySem.F.type_list_append mt_append (pv 3) (pa_cons (pe_bm PySem.F.plainAttrs_list PySem.F.slot_list_pop PySem.F.type_list_pop mt_popAt (pv 2) (pa_cons (pe_call G_law_roll (hr.mono (by decide)) (by rfl) T.g_law_roll T.F_law_roll.kp T.b_law_roll .nil pass0 (pa_cons (pv 0) (pa_cons (pe_callB c_len (by rfl) T.z_len PySem.boot_len (pa_cons (pv 2) pa_nil)) pa_nil))) pa_nil)) pa_nil)))))
  (pss_one (ps_ret (pv 3))))), ?_⟩
    refine q_parLL (xs := (natsI hs).map V.int) (ys := []) (el_listL (ev_var rfl) (sq_of ha)) (fun _ _ => el_lst ea_nil (by decide)) fun lf fo H1 hlf hfo hne e1 h1 h2 => ?_
    have d1 := hd.ex e1
    have hlp : lf ≠ p := hd.ne hlf
    have hfp : fo ≠ p := hd.ne hfo
    have hal : a ≠ lf := fun y => by rw [y, hlf] at ha; cases ha
    have haf : a ≠ fo := fun y => by rw [y, hfo] at ha; cases ha
    have ha1 := e1 _ _ ha
    let Pv : Nat → L2.St → Hp → Prop := fun i σ' H' => ∃ (x4 : Option V) (left found : List Nat), σ' = [some (.ref p), some (.ref a), some (.ref lf), some (.ref fo), x4] ∧ Exd p H H' ∧ Dice p H' ∧ H' a = some (.lst ((natsI hs).map V.int)) ∧ H' lf = some (.lst ((natsI left).map V.int)) ∧ H' fo = some (.lst ((natsI found).map V.int)) ∧ left.length + i = hs.length ∧ found.length = i ∧ (∀ x ∈ left, x ∈ hs) ∧ ∀ x ∈ found, x ∈ hs
    have hll := rc_lenL (H := H1) (sq_of (K := K) ha1)
    rw [nats_len] at hll
    refine q_forR1 (n := (hs.length : Int)) (ea_cons (ev_cb (vs := [.ref a]) (ea_cons (ev_var rfl) ea_nil) hll) ea_nil) ⟨by omega, by omega⟩ Pv (fun H2 e2 => ⟨none, hs, [], rfl, Exd.of (e1.trans e2), d1.ex e2, e2 _ _ ha1, e2 _ _ h1, e2 _ _ h2, rfl, rfl, (fun x h => h), fun x h => by cases h⟩) (fun i σ' H' hi ⟨x4, left, found, hσ, x, d, ka, kl, kf, c1, c2, c3, c4⟩ => ?_) fun σ' H' ⟨x4, left, found, hσ, x, d, ka, kl, kf, c1, c2, c3, c4⟩ => ?_
    · subst hσ
      have hil : i < hs.length := by omega
      have hpos : 0 < left.length := by omega
      refine ⟨.ref fo, rfl, .inl ⟨rfl, _, sq_of kf⟩, ?_⟩
      refine ⟨.ref lf, rfl, .inl ⟨rfl, _, sq_of kl⟩, ?_⟩
      refine (dv_call (p := p) (vs := [.ref p, .int (left.length : Int)]) (R := fun v => ∃ r : Int, v = .int r ∧ 0 ≤ r ∧ r < (left.length : Int)) (H := H') (fun H2 e2 _ => ea_cons (ev_var rfl) (ea_cons (ev_cb (vs := [.ref lf]) (ea_cons (ev_var rfl) ea_nil) (by
        have := rc_lenL (H := H2) (sq_of (K := K) (e2 _ _ hlp kl))
        rwa [nats_len] at this)) ea_nil)) (fun H2 _ _ => ⟨_, rfl, by omega, by omega, rfl⟩)) H' (Exd.refl p H') d _ fun v H2 ⟨r, hv, r0, r1⟩ e2 d2 => ?_
      obtain ⟨k, rfl⟩ : ∃ k : Nat, r = k := ⟨r.toNat, by omega⟩
      subst hv
      have hk : k < left.length := by omega
      have hkx : left[k]? = some (left[k]'hk) := List.getElem?_eq_getElem hk
      have kl2 := e2 _ _ hlp kl
      have kf2 := e2 _ _ hfp kf
      have hxm : left[k]'hk ∈ hs := c3 _ (List.getElem_mem hk)
      have hseq : seqIndex? (k : Int) ((natsI left).map V.int).length = some k := by
        rw [nats_len]
        have := PySem.seqIndex_of (k := (k : Int)) (n := left.length) (by omega) (by omega)
        rwa [Int.toNat_natCast] at this
      refine ⟨lf, _, (k : Int), k, .int ((left[k]'hk : Nat) : Int), rfl, rfl, kl2, by omega, by omega, hseq, nats_at hkx, ?_⟩
      rw [nats_erase]
      have kf3 : (upd H2 lf (.lst ((natsI (left.eraseIdx k)).map V.int))) fo = some (.lst ((natsI found).map V.int)) := by rw [upd_ne hne.symm]; exact kf2
      refine ⟨fo, _, _, rfl, rfl, kf3, sz_lt (by rw [nats_len]; omega), ?_⟩
      rw [nats_snoc]
      obtain ⟨z1, z2, z3, hdp⟩ := id d2
      have hout : ∀ (b : Addr) (o : HO), b ≠ lf → b ≠ fo → H2 b = some o → (upd (upd H2 lf (.lst ((natsI (left.eraseIdx k)).map V.int))) fo (.lst ((natsI (found ++ [left[k]'hk])).map V.int))) b = some o := fun b o hb1 hb2 h => by rw [upd_ne hb2, upd_ne hb1]; exact h
      refine ⟨_, left.eraseIdx k, found ++ [left[k]'hk], rfl, fun b o hbp hb => ?_, ⟨z1, z2, z3, hout _ _ hlp.symm hfp.symm hdp⟩, hout _ _ hal haf (e2 _ _ hap ka), by rw [upd_ne hne]; exact upd_same, upd_same, by rw [List.length_eraseIdx_of_lt hk]; omega, by rw [List.length_append, c2]; rfl, fun x hx => c3 x (List.mem_of_mem_eraseIdx hx), fun x hx => ?_⟩
      · exact hout _ _ (fun y => by rw [y, hlf] at hb; cases hb) (fun y => by rw [y, hfo] at hb; cases hb) (e2 _ _ hbp (x _ _ hbp hb))
      · rcases List.mem_append.mp hx with hx | hx
        · exact c4 x hx
        · rw [List.mem_singleton.mp hx]
          exact hxm
    · subst hσ
      rw [Int.toNat_natCast] at c1 c2
      exact s_ret (ev_var rfl) fun H2 e2 => q fo found H2 ⟨c2, c4⟩ hfp hfo (x.trans (Exd.of e2)) (d.ex e2) (e2 _ _ kf)
end
end Kz
set_option Elab.async false
set_option linter.all false
set_option maxRecDepth 100000
set_option maxHeartbeats 4000000
set_option exponentiation.threshold 500
namespace Kz
open PySem PySem.Spec PyProof.Rows L2 Evl Vr
local macro_rules | `(tactic| walk_at "sc") => `(tactic| first | (with_reducible assumption) | (with_reducible exact sc_mul (by omega)) | (with_reducible exact sc_mulr (by omega)) | (with_reducible exact sc_div (by omega) (by decide)) | (show (0 : Int) < _; omega) | (show _ ≠ (0 : Int); omega) | (with_reducible rfl) | decide)
local macro_rules | `(tactic| walk_at "sq") => `(tactic| first | assumption | exact sq_of (by assumption) | exact st_of (by assumption))
local macro_rules | `(tactic| walk_at "pl") => `(tactic| first | assumption | exact pl_int | exact pl_bl | exact pl_str | exact pl_non | exact pl_lst (by assumption) | exact pl_tup (by assumption) | exact pl_dK (by assumption))
local macro_rules | `(tactic| walk_at "rv") => `(tactic| first
  | with_reducible exact rv_I0
  | with_reducible exact ru_neg
  | ((with_reducible apply rv_I); walk_at "sc")
  | ((with_reducible apply rv_ixL); walk_at "sq"; first | rfl | assumption)
  | ((with_reducible apply rv_ixT); walk_at "sq"; first | rfl | assumption)
  | ((with_reducible apply rv_eq); rfl) | ((with_reducible apply rv_ne); rfl))
local macro_rules | `(tactic| walk_at "rc") => `(tactic| first
  | with_reducible exact rc_I1 | with_reducible exact rc_B1 | with_reducible exact rc_I2 | ((with_reducible apply rc_repr); walk_at "sc") | ((with_reducible apply rc_lenL); walk_at "sq")
  | ((with_reducible apply rc_isiInt); walk_at "pl") | ((with_reducible apply rc_isiBool); walk_at "pl"))
local macro_rules | `(tactic| walk_at "ea") => `(tactic| first
  | with_reducible exact ea_nil | ((with_reducible apply ea_cons); walk_at "ev"; walk_at "ea"))
local macro_rules | `(tactic| walk_at "pow") => `(tactic| first
  | with_reducible exact ev_pow (a := 10) (b := 9) (c := 1000000000) (by decide +kernel) (by decide +kernel)
  | with_reducible exact ev_pow (a := 10) (b := 10) (c := 10000000000) (by decide +kernel) (by decide +kernel)
  | with_reducible exact ev_pow (a := 10) (b := 12) (c := 1000000000000) (by decide +kernel) (by decide +kernel)
  | with_reducible exact ev_pow (a := 10) (b := 17) (c := 100000000000000000) (by decide +kernel) (by decide +kernel)
  | with_reducible exact ev_pow (a := 10) (b := 20) (c := 100000000000000000000) (by decide +kernel) (by decide +kernel)
  | with_reducible exact ev_pow (a := 10) (b := 29) (c := 100000000000000000000000000000) (by decide +kernel) (by decide +kernel)
  | with_reducible exact ev_pow (a := 10) (b := 30) (c := 1000000000000000000000000000000) (by decide +kernel) (by decide +kernel)
  | with_reducible exact ev_pow (a := 10) (b := 40) (c := 10000000000000000000000000000000000000000) (by decide +kernel) (by decide +kernel)
  | with_reducible exact ev_pow (a := 10) (b := 57) (c := 1000000000000000000000000000000000000000000000000000000000) (by decide +kernel) (by decide +kernel)
  | with_reducible exact ev_pow (a := 10) (b := 58) (c := 10000000000000000000000000000000000000000000000000000000000) (by decide +kernel) (by decide +kernel)
  | with_reducible exact ev_pow (a := 10) (b := 59) (c := 100000000000000000000000000000000000000000000000000000000000) (by decide +kernel) (by decide +kernel)
  | with_reducible exact ev_pow (a := 10) (b := 60) (c := 1000000000000000000000000000000000000000000000000000000000000) (by decide +kernel) (by decide +kernel))
local macro_rules | `(tactic| walk_at "call") => `(tactic| (intro H9 e9; first | exact ⟨_, rfl, rfl⟩ | exact ⟨_, _, rfl, rfl⟩ | exact ⟨_, _, _, rfl, rfl⟩ | exact ⟨_, rfl, by walk_at "pl", rfl⟩ | (refine ⟨_, _, _, rfl, ?_, rfl⟩; first | exact Plain.ex e9 (by assumption) | walk_at "pl") | (refine ⟨_, rfl, ?_, rfl⟩; first | exact Plain.ex e9 (by assumption) | walk_at "pl")))
local macro_rules | `(tactic| walk_at "ev") => `(tactic| first
  | with_reducible exact ev_c
  | exact ev_var rfl
  | walk_at "pow"
  | ((with_reducible apply ev_op); walk_at "ev"; walk_at "ev"; walk_at "rv")
  | ((with_reducible apply ev_un); walk_at "ev"; walk_at "rv")
  | ((with_reducible apply ev_cb); walk_at "ea"; walk_at "rc")
  | ((with_reducible apply ev_callP); walk_at "ea"; walk_at "call")
  | ((with_reducible apply ev_chain); walk_at "ev"; walk_at "ev"; walk_at "rv"; walk_at "ev"; walk_at "rv")
  | ((with_reducible apply ev_andV); walk_at "ev"; intro _; walk_at "ev")
  | ((with_reducible apply ev_orV); walk_at "ev"; intro _; walk_at "ev")
  | ((with_reducible apply ev_ite); walk_at "et"; intro _; walk_at "ev"; intro _; walk_at "ev")
  | ((with_reducible apply ev_notV); walk_at "ev"))
local macro_rules | `(tactic| walk_at "et") => `(tactic| first
  | ((with_reducible apply et_test); walk_at "ev")
  | ((with_reducible apply et_B); walk_at "ev")
  | ((with_reducible apply et_and); walk_at "et"; intro _; walk_at "et")
  | ((with_reducible apply et_or); walk_at "et"; intro _; walk_at "et")
  | ((with_reducible apply et_not); walk_at "et"))
open En Wo
/-- list(range(n)) -/
def tListR (ta : TA) : TE := fun σ H Q => ta σ H fun vs H1 => ∃ n : Nat, vs = [.int (n : Int)] ∧ n ≤ 1000 ∧ ∀ l, H1 l = none → Q (.ref l) (upd H1 l (.lst ((natsI (List.range n)).map V.int)))
theorem pe_listR {X : Cx} {a : Expr} {ta : TA} {p1 p2 pos1 pos2 : Pos} (hc : X.calm = true) (hgl : Gl X "list") (hml : X.mg "list" = none) (hg : Gl X "range") (hm : X.mg "range" = none) (ha : PA X [a] ta) (hs : starEach [a] X.env = [(false, eval a X.env)] := by rfl) : PE X (.Call (.Name "list" p1) [.Call (.Name "range" p2) [a] [] pos2] [] pos1) (tListR ta) := by
  refine ⟨fun pins s σ H Q I h => ?_⟩
  refine wpAny_Call_Name_kw (ld_blt I hgl hml PyProof.Rows.boot_list ?_ (by decide) (by decide))
  refine PyProof.Rows.callWith_type1 ?_ rfl rfl
  show wpAny _ _ (spliced ((false, eval (.Call (.Name "range" p2) [a] [] pos2) X.env) :: [])) _ _ s
  refine Calls.spliced_cons (wpAny_Call_Name_kw (ld_blt I hg hm boot_range (PyProof.Rows.callWith_type1 (thn (ha.run pos2 pins s σ H _ I h) fun us s1 ⟨vs, H1, I1, r1, q1⟩ => ?_) hs rfl) (by decide) (by decide)))
  obtain ⟨n, e, hn, q⟩ := q1
  subst e
  cases r1 with
  | cons r rr =>
    cases rr
    obtain ⟨t, rfl⟩ := r
    refine call_range_1 ?_
    refine Calls.spliced_nil ?_
    have I2 : Inv X pins σ H1 { s1 with heap := s1.heap.push { cls := .type "range", data := .fields #[.int 0 s1.toks, .int (n : Int) t, .int 1 (s1.toks + 1)] }, toks := s1.toks + 1 + 1 } := I1.kept fun b o e => Heap.get?_push_of_some _ e
    refine call_list_range (n := n) (I2.ok.hd hc) (IsRange.new ..) (small_one (by omega) (by omega) (by omega) (by omega)) (by rw [rangeSize_one]; split <;> omega) (by omega) fun h' tk acc' c' kp e hi => ?_
    have hv : Vals ((natsI (List.range n)).map V.int) acc'.toList := by
      refine Tx.vals_of _ _ (by rw [nats_len, List.length_range, Array.length_toList]; exact hi.1.symm) fun i x u hx hu => ?_
      rw [Array.getElem?_toList] at hu
      obtain ⟨tk, rfl⟩ := hi.2 i u hu
      have hin : i < n := by
        have := (Array.getElem?_eq_some_iff.mp hu).1
        have := hi.1
        omega
      rw [nats_at (x := i) (List.getElem?_range hin)] at hx
      cases hx
      exact ⟨tk, by simp⟩
    have hnone : H1 (s1.heap.push { cls := .type "range", data := .fields #[.int 0 s1.toks, .int (n : Int) t, .int 1 (s1.toks + 1)] }).objs.size = none := I2.hok.fresh (Nat.le_refl _)
    exact ⟨.ref _, _, I2.laid (t' := tk) kp (Nat.le_refl _) (show ObjOk X.prog X.w _ h' _ (.lst ((natsI (List.range n)).map V.int)) from ⟨by rw [nats_len, List.length_range]; exact Nat.le_trans hn (by decide), acc'.toList, c', hv, by rw [e]⟩), rfl, q _ hnone⟩
end Kz
set_option Elab.async false
set_option linter.all false
set_option maxRecDepth 100000
set_option maxHeartbeats 4000000
set_option exponentiation.threshold 500
namespace Kz
open PySem PySem.Spec PyProof.Rows L2 Evl Vr
local macro_rules | `(tactic| walk_at "sc") => `(tactic| first | (with_reducible assumption) | (with_reducible exact sc_mul (by omega)) | (with_reducible exact sc_mulr (by omega)) | (with_reducible exact sc_div (by omega) (by decide)) | (show (0 : Int) < _; omega) | (show _ ≠ (0 : Int); omega) | (with_reducible rfl) | decide)
local macro_rules | `(tactic| walk_at "sq") => `(tactic| first | assumption | exact sq_of (by assumption) | exact st_of (by assumption))
local macro_rules | `(tactic| walk_at "pl") => `(tactic| first | assumption | exact pl_int | exact pl_bl | exact pl_str | exact pl_non | exact pl_lst (by assumption) | exact pl_tup (by assumption) | exact pl_dK (by assumption))
local macro_rules | `(tactic| walk_at "rv") => `(tactic| first
  | with_reducible exact rv_I0
  | with_reducible exact ru_neg
  | ((with_reducible apply rv_I); walk_at "sc")
  | ((with_reducible apply rv_ixL); walk_at "sq"; first | rfl | assumption)
  | ((with_reducible apply rv_ixT); walk_at "sq"; first | rfl | assumption)
  | ((with_reducible apply rv_eq); rfl) | ((with_reducible apply rv_ne); rfl))
local macro_rules | `(tactic| walk_at "rc") => `(tactic| first
  | with_reducible exact rc_I1 | with_reducible exact rc_B1 | with_reducible exact rc_I2 | ((with_reducible apply rc_repr); walk_at "sc") | ((with_reducible apply rc_lenL); walk_at "sq")
  | ((with_reducible apply rc_isiInt); walk_at "pl") | ((with_reducible apply rc_isiBool); walk_at "pl"))
local macro_rules | `(tactic| walk_at "ea") => `(tactic| first
  | with_reducible exact ea_nil | ((with_reducible apply ea_cons); walk_at "ev"; walk_at "ea"))
local macro_rules | `(tactic| walk_at "pow") => `(tactic| first
  | with_reducible exact ev_pow (a := 10) (b := 9) (c := 1000000000) (by decide +kernel) (by decide +kernel)
  | with_reducible exact ev_pow (a := 10) (b := 10) (c := 10000000000) (by decide +kernel) (by decide +kernel)
  | with_reducible exact ev_pow (a := 10) (b := 12) (c := 1000000000000) (by decide +kernel) (by decide +kernel)
  | with_reducible exact ev_pow (a := 10) (b := 17) (c := 100000000000000000) (by decide +kernel) (by decide +kernel)
  | with_reducible exact ev_pow (a := 10) (b := 20) (c := 100000000000000000000) (by decide +kernel) (by decide +kernel)
  | with_reducible exact ev_pow (a := 10) (b := 29) (c := 100000000000000000000000000000) (by decide +kernel) (by decide +kernel)
  | with_reducible exact ev_pow (a := 10) (b := 30) (c := 1000000000000000000000000000000) (by decide +kernel) (by decide +kernel)
  | with_reducible exact ev_pow (a := 10) (b := 40) (c := 10000000000000000000000000000000000000000) (by decide +kernel) (by decide +kernel)
  | with_reducible exact ev_pow (a := 10) (b := 57) (c := 1000000000000000000000000000000000000000000000000000000000) (by decide +kernel) (by decide +kernel)
  | with_reducible exact ev_pow (a := 10) (b := 58) (c := 10000000000000000000000000000000000000000000000000000000000) (by decide +kernel) (by decide +kernel)
  | with_reducible exact ev_pow (a := 10) (b := 59) (c := 100000000000000000000000000000000000000000000000000000000000) (by decide +kernel) (by decide +kernel)
  | with_reducible exact ev_pow (a := 10) (b := 60) (c := 1000000000000000000000000000000000000000000000000000000000000) (by decide +kernel) (by decide +kernel))
local macro_rules | `(tactic| walk_at "call") => `(tactic| (intro H9 e9; first | exact ⟨_, rfl, rfl⟩ | exact ⟨_, _, rfl, rfl⟩ | exact ⟨_, _, _, rfl, rfl⟩ | exact ⟨_, rfl, by walk_at "pl", rfl⟩ | (refine ⟨_, _, _, rfl, ?_, rfl⟩; first | exact Plain.ex e9 (by assumption) | walk_at "pl") | (refine ⟨_, rfl, ?_, rfl⟩; first | exact Plain.ex e9 (by assumption) | walk_at "pl")))
local macro_rules | `(tactic| walk_at "ev") => `(tactic| first
  | with_reducible exact ev_c
  | exact ev_var rfl
  | walk_at "pow"
  | ((with_reducible apply ev_op); walk_at "ev"; walk_at "ev"; walk_at "rv")
  | ((with_reducible apply ev_un); walk_at "ev"; walk_at "rv")
  | ((with_reducible apply ev_cb); walk_at "ea"; walk_at "rc")
  | ((with_reducible apply ev_callP); walk_at "ea"; walk_at "call")
  | ((with_reducible apply ev_chain); walk_at "ev"; walk_at "ev"; walk_at "rv"; walk_at "ev"; walk_at "rv")
  | ((with_reducible apply ev_andV); walk_at "ev"; intro _; walk_at "ev")
  | ((with_reducible apply ev_orV); walk_at "ev"; intro _; walk_at "ev")
  | ((with_reducible apply ev_ite); walk_at "et"; intro _; walk_at "ev"; intro _; walk_at "ev")
  | ((with_reducible apply ev_notV); walk_at "ev"))
local macro_rules | `(tactic| walk_at "et") => `(tactic| first
  | ((with_reducible apply et_test); walk_at "ev")
  | ((with_reducible apply et_B); walk_at "ev")
  | ((with_reducible apply et_and); walk_at "et"; intro _; walk_at "et")
  | ((with_reducible apply et_or); walk_at "et"; intro _; walk_at "et")
  | ((with_reducible apply et_not); walk_at "et"))
open En Wo
section
variable {σ : L2.St} {H : Hp} {te tn ta tb : TE} {t : TT} {ts tr : TA} {tz tu : TS} {D : Ends} {K : PySem.W.Frag} {p : Addr}
theorem q_forD {j : Nat} {RN : Nat → Prop} (hn : Dv p tn σ H (fun v => ∃ n : Nat, v = .int n ∧ RN n)) (hN : ∀ n, RN n → n ≤ 1000) (hd : Dice p H) (Pv : Nat → L2.St → Hp → Prop) (h0 : ∀ H1, Exd p H H1 → Dice p H1 → Pv 0 σ H1)
    (hs : ∀ (i : Nat) σ' H' (n : Nat), RN n → i < n → Pv i σ' H' → tu { D with nx := Pv (i + 1), ct := Pv (i + 1), bk := tz D } (σ'.set j (some (.int (i : Int)))) H') (hq : ∀ n σ' H', RN n → Pv n σ' H' → tz D σ' H') : tSeq (tFor (iRng1 (tCons tn tNil)) (gName j) tu) tz D σ H :=
  hn H (Exd.refl p H) hd _ fun v H1 hv e1 d1 => by
    obtain ⟨n, rfl, rn⟩ := hv
    have := hN n rn
    exact q_forR1 (σ := σ) (H := H1) (n := (n : Int)) (ta := tCons (tC (.int n)) tNil) (ea_cons ev_c ea_nil) (by omega) Pv (fun H2 e2 => h0 H2 (e1.trans (Exd.of e2)) (d1.ex e2)) (fun i σ' H' hi p => hs i σ' H' n rn (by omega) p) fun σ' H' p => hq n σ' H' rn p
/-- [x for x in range(n) if t], t drawn -/
theorem dl_lcF {n j i0 : Nat} {vs : List Nat} {Q : VK} (hs : σ[i0]? = some (some (.int (n : Int)))) (hw : ∀ x, wipe ((wipe σ vs).set j (some x)) vs = wipe σ vs) (hn : n ≤ 1000) (ht : ∀ i : Nat, i < n → DvT p t ((wipe σ vs).set j (some (.int (0 + (i : Int))))) H) (hj : ∀ x : V, ((wipe σ vs).set j (some x))[j]? = some (some x)) (hd : Dice p H)
    (k : ∀ l (gs : List Nat) H2, gs.length ≤ n → (∀ x ∈ gs, x < n) → l ≠ p → H l = none → Exd p H H2 → Dice p H2 → H2 l = some (.lst ((natsI gs).map V.int)) → Q (.ref l) H2) : tLc (iRng1 (tCons (tVar i0) tNil)) (gName j) t (tVar j) vs σ H Q :=
  ⟨.int (n : Int), hs, (n : Int), rfl, by omega, by omega, fun Dl hD => by
    have hDp : Dl ≠ p := hd.ne hD
    rw [show ((n : Int).toNat) = n from Int.toNat_natCast n]
    refine lc_range (fun i H' => Exd p H H' ∧ Dice p H' ∧ ∃ gs : List Nat, H' Dl = some (.lst ((natsI gs).map V.int)) ∧ gs.length ≤ i ∧ ∀ x ∈ gs, x < n) ⟨Exd.of (Ex.new hD), hd.ex (Ex.new hD), [], upd_same, Nat.le_refl _, fun _ h => by cases h⟩ ?_ ?_
    · rintro i H' hi ⟨e', d', gs, hacc, hlen, hR⟩
      refine ⟨hw _, ?_⟩
      refine ht i hi H' e' d' _ fun b H4 e4 d4 => ?_
      have h4 := e4 _ _ hDp hacc
      cases b with
      | false =>
        rw [if_neg Bool.false_ne_true]
        exact ⟨e'.trans e4, d4, gs, h4, by omega, hR⟩
      | true =>
        rw [if_pos rfl]
        refine ⟨_, hj _, _, h4, sz_lt (by rw [nats_len]; omega), fun a o ha ho => ?_, ?_, gs ++ [i], ?_, by rw [List.length_append]; show _ + 1 ≤ _; omega, fun x hx => ?_⟩
        · rw [upd_ne (ne_of_none ho hD)]
          exact e4 _ _ ha (e' _ _ ha ho)
        · obtain ⟨x, y, z, h⟩ := d4
          exact ⟨x, y, z, by rw [upd_ne (Ne.symm hDp)]; exact h⟩
        · rw [upd_same, ← nats_snoc, Int.zero_add]
        · rcases List.mem_append.mp hx with z | z
          · exact hR x z
          · rw [List.mem_singleton.mp z]; exact hi
    · rintro H' ⟨e', d', gs, hacc, hlen, hR⟩
      exact k Dl gs H' hlen hR hDp hD e' d' hacc⟩
theorem dv_roll {m : Int} {i : Nat} (hs : σ[i]? = some (some (.ref p))) (ha : ∀ H1, Ev ta σ H1 (.int m)) (h0 : 0 < m) (h1 : m.natAbs < 2 ^ 400) : Dv p (tCall (Draws kRoll) [] E0 (tCons (tVar i) (tCons ta tNil))) σ H (fun v => ∃ r : Int, v = .int r ∧ 0 ≤ r ∧ r < m) :=
  dv_call (vs := [.ref p, .int m]) (fun H1 _ _ => ea_cons (ev_var hs) (ea_cons (ha H1) ea_nil)) (fun H1 _ _ => ⟨m, rfl, h0, h1, rfl⟩)
end
section
variable {P : Program} {w : World} {K : PySem.W.Frag} {mg : Str → Option Value} {base : Heap}
def kHand (vs : List V) (_ : Hp) (p : Addr) (R : List Nat → Prop) : Prop := ∃ n : Nat, vs = [.ref p, .int (n : Int)] ∧ n ≤ 40 ∧ R = fun gs => gs.length ≤ n + 5 ∧ ∀ x ∈ gs, x < n
theorem ok_handing_drawn (T : Txt K mg w) : FnOk P w K mg base CX0 3 T.a_law_handing_drawn T.fd_law_handing_drawn ["dice", "many"] (DrawsNs K kHand) := by
  have G_law_roll := ok_roll (P := P) (w := w) (base := base) T
  have G_law_shuffled := ok_shuffled (P := P) (w := w) (base := base) T
  refine T.F_law_handing_drawn.ok sc_law_handing_drawn (fun vs H Q E h => ?_) (fun cdv A outer s H vs Q E hr h => ?_)
  · obtain ⟨_, _, ⟨_, rfl, _⟩, _⟩ := h; rfl
  · obtain ⟨p, _, ⟨n, rfl, hn, rfl⟩, hd, q⟩ := h
    refine ⟨_, (pss_cons (ps_set (i := 2) sc_law_handing_drawn.nd rfl (.inl rfl) (pe_call G_law_roll (hr.mono (by decide)) (by rfl) T.g_law_roll T.F_law_roll.kp T.b_law_roll .nil pass0 (pa_cons (pv 0) (pa_cons pe_int pa_nil))))
  (pss_cons (ps_if (pt_cmpR op_eq (pv 2) pe_int (nomark _)) (pss_one (ps_ret (pe_listR rfl (by rfl) T.z_list (by rfl) T.z_range (pa_cons (pv 1) pa_nil)))) pss_nil)
  (pss_cons (ps_if (pt_cmpR op_eq (pv 2) pe_int (nomark _)) (pss_one (ps_ret (pe_call G_law_shuffled (hr.mono (by decide)) (by rfl) T.g_law_shuffled T.F_law_shuffled.kp T.b_law_shuffled .nil pass0 (pa_cons (pv 0) (pa_cons (pe_listR rfl (by rfl) T.z_list (by rfl) T.z_range (pa_cons (pv 1) pa_nil)) pa_nil))))) pss_nil)
  (pss_cons (ps_set (i := 3) sc_law_handing_drawn.nd rfl (.inl rfl) (pe_ifExp (pt_cmpR op_eq (pv 2) pe_int (nomark _)) (pe_lc (own := [("number", 5)]) (g := gName 5) (by rfl) sc_law_handing_drawn.nd (pi_range1 rfl T.z_range (pa_cons (pv 1) pa_nil)) (blkOk_by (own := [("number", 5)]) (N := ["dice", "many", "way", "found", "turn", "number"]) (sc := defScope s_law_handing_drawn) (by decide +kernel)) (fun _ _ _ _ _ => pg_name (i := 5) sc_law_handing_drawn.nd rfl (by first | exact Or.inl rfl | exact Or.inr rfl)) (fun _ _ _ _ _ => (pts_one (pt_cmpR op_gt (pe_call G_law_roll (hr.mono (by decide)) (by rfl) T.g_law_roll T.F_law_roll.kp T.b_law_roll .nil pass0 (pa_cons (pv 0) (pa_cons pe_int pa_nil))) pe_int (nomark _)))) (fun _ _ _ _ _ => (pv 5))) (pe_lst pa_nil)))
  (pss_cons (ps_for PassesOwn.never rfl (pi_range1 rfl T.z_range (pa_cons (pe_ifExp (pt_cmpR op_gt (pv 1) pe_int (nomark _)) (pe_call G_law_roll (hr.mono (by decide)) (by rfl) T.g_law_roll T.F_law_roll.kp T.b_law_roll .nil pass0 (pa_cons (pv 0) (pa_cons pe_int pa_nil))) pe_int) pa_nil)) (pg_name (i := 4) sc_law_handing_drawn.nd rfl (.inl rfl)) (pss_one (ps_expr (pe_bm PySem.F.plainAttrs_list PySem.F.slot_list_append PySem.F.type_list_append mt_append (pv 3) (pa_cons (pe_call G_law_roll (hr.mono (by decide)) (by rfl) T.g_law_roll T.F_law_roll.kp T.b_law_roll .nil pass0 (pa_cons (pv 0) (pa_cons (pv 1) pa_nil))) pa_nil)))))
  (pss_one (ps_ret (pe_ifExp (pt_cmpR op_eq (pv 2) pe_int (nomark _)) (pv 3) (pe_call G_law_shuffled (hr.mono (by decide)) (by rfl) T.g_law_shuffled T.F_law_shuffled.kp T.b_law_shuffled .nil pass0 (pa_cons (pv 0) (pa_cons (pv 3) pa_nil))))))))))), ?_⟩
    have rng : ∀ x ∈ List.range n, x < n := fun x h => List.mem_range.mp h
    have lrg : (List.range n).length = n := List.length_range
    refine q_asgDv (p := p) (dv_roll (m := 4) rfl (fun H1 => ev_c) (by decide) (by decide)) hd fun v H1 ⟨r, hv, r0, r1⟩ e1 d1 => ?_
    subst hv
    -- the list of all numbers
    have lst : ∀ {σ : L2.St} {H2 : Hp} {Q2 : VK}, σ[1]? = some (some (V.int (n : Int))) → (∀ l, H2 l = none → Q2 (.ref l) (upd H2 l (.lst ((natsI (List.range n)).map V.int)))) → tListR (tCons (tVar 1) tNil) σ H2 Q2 := fun {σ H2 Q2} h1 h2 => ⟨_, h1, n, rfl, by omega, h2⟩
    -- a list that is shuffled
    have shuf : ∀ {Q2 : VK} {H2 : Hp} {l : Addr} {gs : List Nat}, Exd p H H2 → Dice p H2 → H l = none → l ≠ p → H2 l = some (.lst ((natsI gs).map V.int)) → gs.length ≤ n + 5 → (∀ x ∈ gs, x < n) → (∀ a hs H', (hs.length ≤ n + 5 ∧ ∀ x ∈ hs, x < n) → a ≠ p → H a = none → Exd p H H' → Dice p H' → H' a = some (.lst ((natsI hs).map V.int)) → Q2 (.ref a) H') → DrawsNs K (kShuf K) ([.ref p, .ref l] ++ []) H2 Q2 E0 := fun {Q2 H2 l gs} x2 d2 hl hlp h2 g1 g2 k => by
      rw [List.append_nil]
      exact ⟨p, _, ⟨l, gs, rfl, hlp, h2, by omega, rfl⟩, d2, fun a hs H' ⟨hl1, hl2⟩ hap han x3 d3 h3 => k a hs H' ⟨by omega, fun x hx => g2 x (hl2 x hx)⟩ hap (x2.none hap han) (x2.trans x3) d3 h3⟩
    refine q_when (b := decide (V.int r = V.int 0)) (et_test (ev_op (ev_var rfl) ev_c (rv_eq rfl))) (fun _ H2 e2 => ?_) fun _ H2 e2 => ?_
    · have d2 := d1.ex e2
      exact lst rfl fun l hl => q l _ _ ⟨by rw [lrg]; omega, rng⟩ (d2.ne hl) ((e1.trans (Exd.of e2)).none (d2.ne hl) hl) ((e1.trans (Exd.of e2)).trans (Exd.of (Ex.new hl))) (d2.ex (Ex.new hl)) upd_same
    have x2 := e1.trans (Exd.of e2)
    have d2 := d1.ex e2
    refine q_when (b := decide (V.int r = V.int 1)) (et_test (ev_op (ev_var rfl) ev_c (rv_eq rfl))) (fun _ H3 e3 => ?_) fun _ H3 e3 => ?_
    · have d3 := d2.ex e3
      have x3 := x2.trans (Exd.of e3)
      exact ⟨.ref p, rfl, lst rfl fun l hl => shuf (x3.trans (Exd.of (Ex.new hl))) (d3.ex (Ex.new hl)) (x3.none (d3.ne hl) hl) (d3.ne hl) upd_same (by rw [lrg]; omega) rng q⟩
    have x3 := x2.trans (Exd.of e3)
    have d3 := d2.ex e3
    -- what follows once found stands
    have tail : ∀ (l : Addr) (gs : List Nat) (H4 : Hp), gs.length ≤ n → (∀ x ∈ gs, x < n) → l ≠ p → H l = none → Exd p H H4 → Dice p H4 → H4 l = some (.lst ((natsI gs).map V.int)) → (tSeq (tFor (iRng1 (tCons (tIf (tTest (tOp (rI0 fun i j => V.bl (decide (j < i))) (tVar 1) (tC (.int 0)))) (tCall (Draws kRoll) [] E0 (tCons (tVar 0) (tCons (tC (.int 6)) tNil))) (tC (.int 0))) tNil)) (gName 4) (tDrop (tBM K "list" rAppend (tVar 3) (tCons (tCall (Draws kRoll) [] E0 (tCons (tVar 0) (tCons (tVar 1) tNil))) tNil)))) (tRet (tIf (tTest (tOp rEq (tVar 2) (tC (.int 2)))) (tVar 3) (tCall (DrawsNs K (kShuf K)) [] E0 (tCons (tVar 0) (tCons (tVar 3) tNil)))))) { nx := fun x H' => Q .non H', rt := Q } [some (.ref p), some (.int (n : Int)), some (.int r), some (.ref l), none, none] H4 := fun l gs H4 g1 g2 hlp hl x4 d4 h4 => by
      let Pv : Nat → L2.St → Hp → Prop := fun i σ' H' => ∃ (a : Option V) (hs : List Nat), σ' = [some (.ref p), some (.int (n : Int)), some (.int r), some (.ref l), a, none] ∧ Exd p H H' ∧ Dice p H' ∧ H' l = some (.lst ((natsI hs).map V.int)) ∧ hs.length = gs.length + i ∧ ∀ x ∈ hs, x < n
      refine q_forD (p := p) (RN := fun m => m ≤ 5 ∧ (n = 0 → m = 0)) ?_ (fun m hm => by omega) d4 Pv (fun H5 x5 d5 => ⟨none, gs, rfl, x4.trans x5, d5, x5 _ _ hlp h4, rfl, g2⟩) (fun i σ' H' m hm hi ⟨a, hs, hσ, x5, d5, h5, c1, c2⟩ => ?_) fun m σ' H' hm ⟨a, hs, hσ, x5, d5, h5, c1, c2⟩ => ?_
      · by_cases hn0 : n = 0
        · subst hn0
          exact dv_ev (fun H1 _ _ => ev_is (ev_if (b := false) (et_is (et_test (ev_op (ev_var rfl) ev_c rv_I0)) (by decide)) (fun h => by cases h) fun _ => ev_c) rfl) ⟨0, rfl, by omega, fun _ => rfl⟩
        · exact (dv_if (R := fun v => ∃ r : Int, v = .int r ∧ 0 ≤ r ∧ r < 6) (fun H1 e d Q q => (et_test (ev_op (ev_var rfl) ev_c rv_I0)) H1 (Ex.refl H1) _ fun H2 e2 => q _ H2 (Exd.of e2) (d.ex e2)) (dv_roll (m := 6) rfl (fun H1 => ev_c) (by decide) (by decide)) (dv_c ⟨0, rfl, by decide, by decide⟩)).mono fun v ⟨r, hv, r0, r1⟩ => ⟨r.toNat, by rw [hv, Int.toNat_of_nonneg r0], by omega, fun h => absurd h hn0⟩
      · subst hσ
        have hnp : 0 < n := by omega
        refine ⟨.ref l, rfl, .inl ⟨rfl, _, sq_of h5⟩, ?_⟩
        refine (dv_roll (p := p) (m := (n : Int)) rfl (fun H1 => ev_var rfl) (by omega) (by omega)) H' (Exd.refl p H') d5 _ fun v H6 ⟨k, hv, k0, k1⟩ e6 d6 => ?_
        obtain ⟨k', rfl⟩ : ∃ k' : Nat, k = k' := ⟨k.toNat, by omega⟩
        subst hv
        have h6 := e6 _ _ hlp h5
        refine ⟨l, _, _, rfl, rfl, h6, sz_lt (by rw [nats_len]; omega), ?_⟩
        rw [nats_snoc]
        obtain ⟨z1, z2, z3, hz⟩ := id d6
        exact ⟨_, hs ++ [k'], rfl, fun b o hb ho => by rw [upd_ne (fun y => by rw [y, hl] at ho; cases ho)]; exact e6 _ _ hb (x5 _ _ hb ho), ⟨z1, z2, z3, by rw [upd_ne (Ne.symm hlp)]; exact hz⟩, upd_same, by rw [List.length_append, c1]; rfl, fun x hx => (List.mem_append.mp hx).elim (c2 x) fun y => by rw [List.mem_singleton.mp y]; omega⟩
      · subst hσ
        have hlen : hs.length ≤ n + 5 := by have := hm.1; omega
        refine (et_test (ev_op (ev_var rfl) ev_c (rv_eq rfl))) H' (Ex.refl H') _ fun H6 e6 => ?_
        have x6 := x5.trans (Exd.of e6)
        have d6 := d5.ex e6
        have h6 := e6 _ _ h5
        cases hb : decide (V.int r = V.int 2) with
        | true =>
          rw [if_pos rfl]
          exact ⟨_, rfl, q l hs H6 ⟨hlen, c2⟩ hlp hl x6 d6 h6⟩
        | false =>
          rw [if_neg Bool.false_ne_true]
          exact ⟨.ref p, rfl, .ref l, rfl, shuf x6 d6 hl hlp h6 hlen c2 q⟩
    refine (et_test (ev_op (ev_var rfl) ev_c (rv_eq rfl))) H3 (Ex.refl H3) _ fun H4 e4 => ?_
    have x4 := x3.trans (Exd.of e4)
    have d4 := d3.ex e4
    cases hb : decide (V.int r = V.int 2) with
    | true =>
      rw [if_pos rfl]
      refine dl_lcF (p := p) rfl (fun _ => rfl) (by omega) (fun i hi H5 e5 d5 Q5 q5 => ?_) (fun _ => rfl) d4 fun l gs H5 g1 g2 hlp hl x5 d5 h5 => tail l gs H5 g1 g2 hlp (x4.none hlp hl) (x4.trans x5) d5 h5
      refine (dv_op (R := fun v => ∃ b, v = .bl b) (dv_roll (p := p) (m := 5) rfl (fun H1 => ev_c) (by decide) (by decide)) (dv_c (R := fun v => v = .int 0) rfl) ?_) H5 (Exd.refl p H5) d5 _ fun v H6 ⟨b, hv⟩ e6 d6 => ⟨b, hv, q5 b H6 e6 d6⟩
      rintro x y H7 ⟨r, rfl, _, _⟩ rfl
      exact ⟨_, rv_I0, _, rfl⟩
    | false =>
      rw [if_neg Bool.false_ne_true]
      exact ⟨sz_of (by decide), fun l hl => tail l [] _ (Nat.zero_le _) (fun _ h => by cases h) (d4.ne hl) (x4.none (d4.ne hl) hl) (x4.trans (Exd.of (Ex.new hl))) (d4.ex (Ex.new hl)) upd_same⟩
end
end Kz
set_option Elab.async false
set_option linter.all false
set_option maxRecDepth 100000
set_option maxHeartbeats 4000000
set_option exponentiation.threshold 500
namespace Kz
open PySem PySem.Spec PyProof.Rows L2 Evl Vr
local macro_rules | `(tactic| walk_at "sc") => `(tactic| first | (with_reducible assumption) | (with_reducible exact sc_mul (by omega)) | (with_reducible exact sc_mulr (by omega)) | (with_reducible exact sc_div (by omega) (by decide)) | (show (0 : Int) < _; omega) | (show _ ≠ (0 : Int); omega) | (with_reducible rfl) | decide)
local macro_rules | `(tactic| walk_at "sq") => `(tactic| first | assumption | exact sq_of (by assumption) | exact st_of (by assumption))
local macro_rules | `(tactic| walk_at "pl") => `(tactic| first | assumption | exact pl_int | exact pl_bl | exact pl_str | exact pl_non | exact pl_lst (by assumption) | exact pl_tup (by assumption) | exact pl_dK (by assumption))
local macro_rules | `(tactic| walk_at "rv") => `(tactic| first
  | with_reducible exact rv_I0
  | with_reducible exact ru_neg
  | ((with_reducible apply rv_I); walk_at "sc")
  | ((with_reducible apply rv_ixL); walk_at "sq"; first | rfl | assumption)
  | ((with_reducible apply rv_ixT); walk_at "sq"; first | rfl | assumption)
  | ((with_reducible apply rv_eq); rfl) | ((with_reducible apply rv_ne); rfl))
local macro_rules | `(tactic| walk_at "rc") => `(tactic| first
  | with_reducible exact rc_I1 | with_reducible exact rc_B1 | with_reducible exact rc_I2 | ((with_reducible apply rc_repr); walk_at "sc") | ((with_reducible apply rc_lenL); walk_at "sq")
  | ((with_reducible apply rc_isiInt); walk_at "pl") | ((with_reducible apply rc_isiBool); walk_at "pl"))
local macro_rules | `(tactic| walk_at "ea") => `(tactic| first
  | with_reducible exact ea_nil | ((with_reducible apply ea_cons); walk_at "ev"; walk_at "ea"))
local macro_rules | `(tactic| walk_at "pow") => `(tactic| first
  | with_reducible exact ev_pow (a := 10) (b := 9) (c := 1000000000) (by decide +kernel) (by decide +kernel)
  | with_reducible exact ev_pow (a := 10) (b := 10) (c := 10000000000) (by decide +kernel) (by decide +kernel)
  | with_reducible exact ev_pow (a := 10) (b := 12) (c := 1000000000000) (by decide +kernel) (by decide +kernel)
  | with_reducible exact ev_pow (a := 10) (b := 17) (c := 100000000000000000) (by decide +kernel) (by decide +kernel)
  | with_reducible exact ev_pow (a := 10) (b := 20) (c := 100000000000000000000) (by decide +kernel) (by decide +kernel)
  | with_reducible exact ev_pow (a := 10) (b := 29) (c := 100000000000000000000000000000) (by decide +kernel) (by decide +kernel)
  | with_reducible exact ev_pow (a := 10) (b := 30) (c := 1000000000000000000000000000000) (by decide +kernel) (by decide +kernel)
  | with_reducible exact ev_pow (a := 10) (b := 40) (c := 10000000000000000000000000000000000000000) (by decide +kernel) (by decide +kernel)
  | with_reducible exact ev_pow (a := 10) (b := 57) (c := 1000000000000000000000000000000000000000000000000000000000) (by decide +kernel) (by decide +kernel)
  | with_reducible exact ev_pow (a := 10) (b := 58) (c := 10000000000000000000000000000000000000000000000000000000000) (by decide +kernel) (by decide +kernel)
  | with_reducible exact ev_pow (a := 10) (b := 59) (c := 100000000000000000000000000000000000000000000000000000000000) (by decide +kernel) (by decide +kernel)
  | with_reducible exact ev_pow (a := 10) (b := 60) (c := 1000000000000000000000000000000000000000000000000000000000000) (by decide +kernel) (by decide +kernel))
local macro_rules | `(tactic| walk_at "call") => `(tactic| (intro H9 e9; first | exact ⟨_, rfl, rfl⟩ | exact ⟨_, _, rfl, rfl⟩ | exact ⟨_, _, _, rfl, rfl⟩ | exact ⟨_, rfl, by walk_at "pl", rfl⟩ | (refine ⟨_, _, _, rfl, ?_, rfl⟩; first | exact Plain.ex e9 (by assumption) | walk_at "pl") | (refine ⟨_, rfl, ?_, rfl⟩; first | exact Plain.ex e9 (by assumption) | walk_at "pl")))
local macro_rules | `(tactic| walk_at "ev") => `(tactic| first
  | with_reducible exact ev_c
  | exact ev_var rfl
  | walk_at "pow"
  | ((with_reducible apply ev_op); walk_at "ev"; walk_at "ev"; walk_at "rv")
  | ((with_reducible apply ev_un); walk_at "ev"; walk_at "rv")
  | ((with_reducible apply ev_cb); walk_at "ea"; walk_at "rc")
  | ((with_reducible apply ev_callP); walk_at "ea"; walk_at "call")
  | ((with_reducible apply ev_chain); walk_at "ev"; walk_at "ev"; walk_at "rv"; walk_at "ev"; walk_at "rv")
  | ((with_reducible apply ev_andV); walk_at "ev"; intro _; walk_at "ev")
  | ((with_reducible apply ev_orV); walk_at "ev"; intro _; walk_at "ev")
  | ((with_reducible apply ev_ite); walk_at "et"; intro _; walk_at "ev"; intro _; walk_at "ev")
  | ((with_reducible apply ev_notV); walk_at "ev"))
local macro_rules | `(tactic| walk_at "et") => `(tactic| first
  | ((with_reducible apply et_test); walk_at "ev")
  | ((with_reducible apply et_B); walk_at "ev")
  | ((with_reducible apply et_and); walk_at "et"; intro _; walk_at "et")
  | ((with_reducible apply et_or); walk_at "et"; intro _; walk_at "et")
  | ((with_reducible apply et_not); walk_at "et"))
open En Wo Tx
theorem c_tupLK {X : Cx} {K : PySem.W.Frag} (h : X.K = K) : CallR X (.type "tuple") (rTupL K) := by
  subst h
  exact c_tupL
/-- a text some times over -/
def timesL (n : Nat) (l : List Nat) : List Nat := (List.replicate n l).flatten
theorem fold_arr (a : Array Nat) : ∀ (n : Nat) (acc : Array Nat), ((List.replicate n a).foldl (· ++ ·) acc).toList = acc.toList ++ timesL n a.toList
  | 0, acc => by simp [timesL]
  | n + 1, acc => by
    rw [List.replicate_succ, List.foldl_cons, fold_arr a n]
    simp [timesL, List.replicate_succ]
theorem times_S (n : Nat) (l : List Nat) : (⟨(List.replicate n (S l).cps).foldl (· ++ ·) #[]⟩ : Str) = S (timesL n l) := by
  apply Str.ext'
  apply Array.toList_inj.mp
  rw [fold_arr]
  simp
def rMulS : R2 := fun x y H Q => ∃ (l : List Nat) (n : Nat), x = vS l ∧ y = .int (n : Int) ∧ 1 ≤ n ∧ n ≤ 1000 ∧ l.length ≤ 1000 ∧ Q (vS (timesL n l)) H
theorem op_mulS {X : Cx} : OpR X (binaryOp .Mult) rMulS := by
  intro pins s σ H x y v u Q I rx ry h
  obtain ⟨l, n, rfl, rfl, n1, n2, hl, q⟩ := h
  obtain ⟨t, rfl⟩ := rx
  obtain ⟨t', rfl⟩ := ry
  have hlen : (S l).length = l.length := S_len l
  have hmul : l.length * n ≤ 1000000 := Nat.mul_le_mul hl n2
  refine P.mul_str (by rw [decide_eq_false (by omega), decide_eq_false (by omega)]; rfl) (fun _ _ => ?_) (fun _ _ => ?_) ?_
  · rw [hlen]
    have h63 : (2 : Int) ^ 63 - 1 = 9223372036854775807 := by decide
    rw [h63]
    have hm : (l.length : Int) * (n : Int) = ((l.length * n : Nat) : Int) := (Int.natCast_mul ..).symm
    have : (l.length : Int) ≤ 9223372036854775807 / (n : Int) := (Int.le_ediv_iff_mul_le (by omega)).mpr (by rw [hm]; omega)
    omega
  · rw [hlen, Int.toNat_natCast]
    exact PyProof.Rows.short24 (by omega)
  · rw [if_neg (by omega)]
    split
    · rename_i hc
      have he : timesL n l = l := by
        rw [hlen, Bool.or_eq_true, beq_iff_eq, beq_iff_eq] at hc
        rcases hc with h | h
        · have : n = 1 := by omega
          subst this
          simp [timesL]
        · rw [List.length_eq_zero_iff.mp h]
          simp [timesL]
      exact ⟨vS (timesL n l), H, I, ⟨t, by rw [he]⟩, q⟩
    · rw [Int.toNat_natCast, times_S]
      refine ⟨?_, ⟨vS (timesL n l), H, I.tok _, ⟨_, rfl⟩, q⟩⟩
      rw [S_len]
      have : (timesL n l).length = n * l.length := by simp [timesL]
      rw [this, Nat.mul_comm]
      exact Nat.le_trans hmul (by decide)
/-- ''.join of texts -/
theorem join_empty (ps : List (List Nat)) : Txt.join (S []) (ps.map S) = S ps.flatten := by
  rw [glued_S]
  congr 1
  cases ps with
  | nil => rfl
  | cons p r =>
    have key : ∀ (r : List (List Nat)) (p : List Nat), r.foldl (fun acc q => acc ++ [] ++ q) p = p ++ r.flatten := by
      intro r
      induction r with
      | nil => intro p; simp
      | cons a r ih =>
        intro p
        rw [List.foldl_cons, ih]
        simp
    show r.foldl (fun acc q => acc ++ [] ++ q) p = (p :: r).flatten
    rw [key]
    rfl
/-- signs of which a piece's text is drawn -/
def drawnSigns : List Nat := (Str.ofString "0123456789 ;-abz~!:\"'").cps.toList
theorem drawn_ok : ∀ c ∈ drawnSigns, c < 128 ∧ Unicode.isPrintable c = true := by decide +kernel
theorem text_signs {l : List Nat} (h : ∀ c ∈ l, c ∈ drawnSigns) : Txt.isascii (S l) = true ∧ Txt.isprintable (S l) = true := by
  refine ⟨?_, ?_⟩
  · unfold Txt.isascii
    rw [← Array.all_toList, List.all_eq_true]
    intro c hc
    have := (drawn_ok c (h c hc)).1
    simp only [decide_eq_true_eq]
    omega
  · unfold Txt.isprintable
    rw [← Array.all_toList, List.all_eq_true]
    intro c hc
    exact (drawn_ok c (h c hc)).2
theorem mem_times {n c : Nat} {l : List Nat} (h : c ∈ timesL n l) : c ∈ l := by
  unfold timesL at h
  obtain ⟨a, h1, h2⟩ := List.mem_flatten.mp h
  rw [List.eq_of_mem_replicate h1] at h2
  exact h2
section
variable {P : Program} {w : World} {K : PySem.W.Frag} {mg : Str → Option Value} {base : Heap}
def kPickS (vs : List V) (_ : Hp) (p : Addr) (R : V → Prop) : Prop := ∃ l : List Nat, vs = [.ref p, vS l] ∧ 0 < l.length ∧ l.length ≤ 1000 ∧ R = fun v => ∃ c ∈ l, v = vS [c]
theorem ok_pickS (T : Txt K mg w) : FnOk P w K mg base CX0 2 T.a_law_pick T.fd_law_pick ["dice", "items"] (Draws kPickS) := by
  have G_law_roll := ok_roll (P := P) (w := w) (base := base) T
  refine T.F_law_pick.ok sc_law_pick (fun vs H Q E h => ?_) (fun cdv A outer s H vs Q E hr h => ?_)
  · obtain ⟨p, _, ⟨_, rfl, _⟩, _⟩ := h; rfl
  · obtain ⟨p, _, ⟨l, rfl, h0, h1, rfl⟩, hd, q⟩ := h
    refine ⟨_, (pss_one (ps_ret (pe_ix ix_str (pv 1) (pe_call G_law_roll (hr.mono (by decide)) (by rfl) T.g_law_roll T.F_law_roll.kp T.b_law_roll .nil pass0 (pa_cons (pv 0) (pa_cons (pe_callB call_len_str (by rfl) T.z_len PySem.boot_len (pa_cons (pv 1) pa_nil)) pa_nil))) (fun _ _ => rfl)))), ?_⟩
    refine ⟨vS l, rfl, ?_⟩
    refine goA (vs := [.ref p, .int (l.length : Int)]) (ea_cons (ev_var rfl) (ea_cons (ev_is (ev_cb (vs := [vS l]) (ea_cons (ev_var rfl) ea_nil) (rc_lenS (z := S l) (by rw [S_len]; omega))) (by rw [S_len])) ea_nil)) fun H1 e1 => ?_
    refine ⟨p, _, ⟨(l.length : Int), rfl, by omega, by omega, rfl⟩, hd.ex e1, ?_⟩
    rintro v H2 ⟨r, rfl, hr0, hr1⟩ e2 d2
    obtain ⟨n, rfl⟩ := Int.eq_ofNat_of_zero_le hr0
    have hn : n < l.length := by omega
    exact ⟨S l, n, l[n], rfl, rfl, sz_of (by rw [S_len]; omega), atI_nat (List.getElem?_eq_getElem hn), q _ H2 ⟨_, List.getElem_mem hn, rfl⟩ ((Exd.of e1).trans e2) d2⟩
end
end Kz
set_option Elab.async false
set_option linter.all false
set_option maxRecDepth 100000
set_option maxHeartbeats 4000000
set_option exponentiation.threshold 500
namespace Kz
open PySem PySem.Spec PyProof.Rows L2 Evl Vr
local macro_rules | `(tactic| walk_at "sc") => `(tactic| first | (with_reducible assumption) | (with_reducible exact sc_mul (by omega)) | (with_reducible exact sc_mulr (by omega)) | (with_reducible exact sc_div (by omega) (by decide)) | (show (0 : Int) < _; omega) | (show _ ≠ (0 : Int); omega) | (with_reducible rfl) | decide)
local macro_rules | `(tactic| walk_at "sq") => `(tactic| first | assumption | exact sq_of (by assumption) | exact st_of (by assumption))
local macro_rules | `(tactic| walk_at "pl") => `(tactic| first | assumption | exact pl_int | exact pl_bl | exact pl_str | exact pl_non | exact pl_lst (by assumption) | exact pl_tup (by assumption) | exact pl_dK (by assumption))
local macro_rules | `(tactic| walk_at "rv") => `(tactic| first
  | with_reducible exact rv_I0
  | with_reducible exact ru_neg
  | ((with_reducible apply rv_I); walk_at "sc")
  | ((with_reducible apply rv_ixL); walk_at "sq"; first | rfl | assumption)
  | ((with_reducible apply rv_ixT); walk_at "sq"; first | rfl | assumption)
  | ((with_reducible apply rv_eq); rfl) | ((with_reducible apply rv_ne); rfl))
local macro_rules | `(tactic| walk_at "rc") => `(tactic| first
  | with_reducible exact rc_I1 | with_reducible exact rc_B1 | with_reducible exact rc_I2 | ((with_reducible apply rc_repr); walk_at "sc") | ((with_reducible apply rc_lenL); walk_at "sq")
  | ((with_reducible apply rc_isiInt); walk_at "pl") | ((with_reducible apply rc_isiBool); walk_at "pl"))
local macro_rules | `(tactic| walk_at "ea") => `(tactic| first
  | with_reducible exact ea_nil | ((with_reducible apply ea_cons); walk_at "ev"; walk_at "ea"))
local macro_rules | `(tactic| walk_at "pow") => `(tactic| first
  | with_reducible exact ev_pow (a := 10) (b := 9) (c := 1000000000) (by decide +kernel) (by decide +kernel)
  | with_reducible exact ev_pow (a := 10) (b := 10) (c := 10000000000) (by decide +kernel) (by decide +kernel)
  | with_reducible exact ev_pow (a := 10) (b := 12) (c := 1000000000000) (by decide +kernel) (by decide +kernel)
  | with_reducible exact ev_pow (a := 10) (b := 17) (c := 100000000000000000) (by decide +kernel) (by decide +kernel)
  | with_reducible exact ev_pow (a := 10) (b := 20) (c := 100000000000000000000) (by decide +kernel) (by decide +kernel)
  | with_reducible exact ev_pow (a := 10) (b := 29) (c := 100000000000000000000000000000) (by decide +kernel) (by decide +kernel)
  | with_reducible exact ev_pow (a := 10) (b := 30) (c := 1000000000000000000000000000000) (by decide +kernel) (by decide +kernel)
  | with_reducible exact ev_pow (a := 10) (b := 40) (c := 10000000000000000000000000000000000000000) (by decide +kernel) (by decide +kernel)
  | with_reducible exact ev_pow (a := 10) (b := 57) (c := 1000000000000000000000000000000000000000000000000000000000) (by decide +kernel) (by decide +kernel)
  | with_reducible exact ev_pow (a := 10) (b := 58) (c := 10000000000000000000000000000000000000000000000000000000000) (by decide +kernel) (by decide +kernel)
  | with_reducible exact ev_pow (a := 10) (b := 59) (c := 100000000000000000000000000000000000000000000000000000000000) (by decide +kernel) (by decide +kernel)
  | with_reducible exact ev_pow (a := 10) (b := 60) (c := 1000000000000000000000000000000000000000000000000000000000000) (by decide +kernel) (by decide +kernel))
local macro_rules | `(tactic| walk_at "call") => `(tactic| (intro H9 e9; first | exact ⟨_, rfl, rfl⟩ | exact ⟨_, _, rfl, rfl⟩ | exact ⟨_, _, _, rfl, rfl⟩ | exact ⟨_, rfl, by walk_at "pl", rfl⟩ | (refine ⟨_, _, _, rfl, ?_, rfl⟩; first | exact Plain.ex e9 (by assumption) | walk_at "pl") | (refine ⟨_, rfl, ?_, rfl⟩; first | exact Plain.ex e9 (by assumption) | walk_at "pl")))
local macro_rules | `(tactic| walk_at "ev") => `(tactic| first
  | with_reducible exact ev_c
  | exact ev_var rfl
  | walk_at "pow"
  | ((with_reducible apply ev_op); walk_at "ev"; walk_at "ev"; walk_at "rv")
  | ((with_reducible apply ev_un); walk_at "ev"; walk_at "rv")
  | ((with_reducible apply ev_cb); walk_at "ea"; walk_at "rc")
  | ((with_reducible apply ev_callP); walk_at "ea"; walk_at "call")
  | ((with_reducible apply ev_chain); walk_at "ev"; walk_at "ev"; walk_at "rv"; walk_at "ev"; walk_at "rv")
  | ((with_reducible apply ev_andV); walk_at "ev"; intro _; walk_at "ev")
  | ((with_reducible apply ev_orV); walk_at "ev"; intro _; walk_at "ev")
  | ((with_reducible apply ev_ite); walk_at "et"; intro _; walk_at "ev"; intro _; walk_at "ev")
  | ((with_reducible apply ev_notV); walk_at "ev"))
local macro_rules | `(tactic| walk_at "et") => `(tactic| first
  | ((with_reducible apply et_test); walk_at "ev")
  | ((with_reducible apply et_B); walk_at "ev")
  | ((with_reducible apply et_and); walk_at "et"; intro _; walk_at "et")
  | ((with_reducible apply et_or); walk_at "et"; intro _; walk_at "et")
  | ((with_reducible apply et_not); walk_at "et"))
open En Wo Tx
section
variable {σ : L2.St} {H : Hp} {te tn : TE} {ts : TA} {tz : TS} {D : Ends} {K : PySem.W.Frag} {p : Addr}
theorem dl_lcD {j : Nat} {vs : List Nat} {R : V → Prop} {RN : Nat → Prop} {Q : VK} (hw : ∀ x, wipe ((wipe σ vs).set j (some x)) vs = wipe σ vs) (hN : ∀ n, RN n → n ≤ 1000) (hn : Dv p tn σ H (fun v => ∃ n : Nat, v = .int n ∧ RN n)) (he : ∀ i : Nat, Dv p te ((wipe σ vs).set j (some (.int (0 + (i : Int))))) H R) (hd : Dice p H)
    (k : ∀ n l xs H2, RN n → (xs.length = n ∧ ∀ v ∈ xs, R v) → l ≠ p → Exd p H H2 → Dice p H2 → H2 l = some (.lst xs) → Q (.ref l) H2) : tLc (iRng1 (tCons tn tNil)) (gName j) tYes te vs σ H Q :=
  hn H (Exd.refl p H) hd _ fun v H1 hv e1 d1 => by
    obtain ⟨n, rfl, rn⟩ := hv
    exact dl_lcR (σ := σ) (H := H1) (n := n) (R := R) (Q := Q) hw (hN n rn) (fun i _ H2 e2 => he i H2 (e1.trans e2)) d1 fun l xs H2 hx hl e2 d2 h2 => k n l xs H2 rn hx hl (e1.trans e2) d2 h2
theorem s_retLcD {j : Nat} {vs : List Nat} {R : V → Prop} {RN : Nat → Prop} (hw : ∀ x, wipe ((wipe σ vs).set j (some x)) vs = wipe σ vs) (hN : ∀ n, RN n → n ≤ 1000) (hn : Dv p tn σ H (fun v => ∃ n : Nat, v = .int n ∧ RN n)) (he : ∀ i : Nat, Dv p te ((wipe σ vs).set j (some (.int (0 + (i : Int))))) H R) (hd : Dice p H)
    (k : ∀ n b xs H2, RN n → (xs.length = n ∧ ∀ v ∈ xs, R v) → b ≠ p → Exd p H H2 → Dice p H2 → H2 b = some (.tup xs) → D.rt (.ref b) H2) : tRet (tCB (rTupL K) (tCons (tLc (iRng1 (tCons tn tNil)) (gName j) tYes te vs) tNil)) D σ H :=
  dl_lcD (Q := fun x H2 => rTupL K [x] H2 D.rt) hw hN hn he hd fun n l xs H2 rn hx hl e2 d2 h2 => ⟨l, xs, rfl, sq_of h2, fun b hb => k n b xs _ rn hx (d2.ne hb) (e2.trans (Exd.of (Ex.new hb))) (d2.ex (Ex.new hb)) upd_same⟩
/-- a list laid of drawn values, one of which is picked -/
theorem dv_pickA {ok : List V → Hp → Addr → (V → Prop) → Prop} {E : XK} {R : V → Prop} {RA : List V → Prop} {i : Nat} (hs : σ[i]? = some (some (.ref p))) (h : DvA p ts σ H RA) (hz : ∀ xs, RA xs → xs.length ≤ 100000) (ho : ∀ l xs H1, RA xs → Exd p H H1 → Dice p H1 → l ≠ p → H1 l = some (.lst xs) → ∃ R' : V → Prop, ok [.ref p, .ref l] H1 p R' ∧ ∀ v, R' v → R v) :
    Dv p (tCall (Draws ok) [] E (tCons (tVar i) (tCons (tLst ts) tNil))) σ H R := fun H1 e d Q q =>
  ⟨.ref p, hs, h H1 e d _ fun xs H2 hx e2 d2 => ⟨sz_of (hz xs hx), fun l hl => by
    have d3 := d2.ex (Ex.new (o := .lst xs) hl)
    have e3 : Exd p H2 (upd H2 l (.lst xs)) := Exd.of (Ex.new hl)
    obtain ⟨R', h1, h2⟩ := ho l xs _ hx ((e.trans e2).trans e3) d3 (d2.ne hl) upd_same
    exact ⟨p, R', h1, d3, fun v H4 hv e4 d4 => q v H4 (h2 v hv) ((e2.trans e3).trans e4) d4⟩⟩⟩
end
section
variable {σ : L2.St} {H : Hp} {te tn : TE} {ts tr ta : TA} {tz tu : TS} {D : Ends} {K : PySem.W.Frag} {p : Addr}
/-- drawn values, of which something is known in the heap behind them -/
def DvAP (p : Addr) (ta : TA) (σ : L2.St) (H : Hp) (P : List V → Hp → Prop) : Prop := ∀ H1, Exd p H H1 → Dice p H1 → ∀ Q : List V → Hp → Prop, (∀ vs H2, P vs H2 → Exd p H1 H2 → Dice p H2 → Q vs H2) → ta σ H1 Q
theorem DvAP.mono {P P' : List V → Hp → Prop} (h : DvAP p ta σ H P) (k : ∀ vs H1, P vs H1 → P' vs H1) : DvAP p ta σ H P' := fun H1 e d Q q => h H1 e d Q fun vs H2 hp e2 d2 => q vs H2 (k vs H2 hp) e2 d2
theorem dv_call2 {ok : List V → Hp → Addr → (V → Prop) → Prop} {E : XK} {R R1 : V → Prop} {i : Nat} (hs : σ[i]? = some (some (.ref p))) (h : Dv p te σ H R1) (ho : ∀ v H1, R1 v → ∃ R' : V → Prop, ok [.ref p, v] H1 p R' ∧ ∀ u, R' u → R u) : Dv p (tCall (Draws ok) [] E (tCons (tVar i) (tCons te tNil))) σ H R := fun H1 e d Q q =>
  ⟨.ref p, hs, h H1 e d _ fun v H2 r e2 d2 => by
    obtain ⟨R', h1, h2⟩ := ho v H2 r
    exact ⟨p, R', h1, d2, fun u H3 hu e3 d3 => q u H3 (h2 u hu) (e2.trans e3) d3⟩⟩
theorem dap_nil : DvAP p tNil σ H (fun vs _ => vs = []) := fun H1 e d Q q => q [] H1 rfl (Exd.refl p H1) d
theorem dap_cons {R : V → Prop} {P : List V → Hp → Prop} (h : Dv p te σ H R) (hr : DvAP p tr σ H P) : DvAP p (tCons te tr) σ H (fun vs H' => ∃ v ws, vs = v :: ws ∧ R v ∧ P ws H') := fun H1 e d Q q =>
  h H1 e d _ fun v H2 r e2 d2 => hr H2 (e.trans e2) d2 _ fun ws H3 rs e3 d3 => q (v :: ws) H3 ⟨v, ws, rfl, r, rs⟩ (e2.trans e3) d3
theorem dap_consN {R : List V → Prop} {P : List V → Hp → Prop} (h : DvN p te σ H R) (hr : DvAP p tr σ H P) : DvAP p (tCons te tr) σ H (fun vs H' => ∃ b xs ws, vs = .ref b :: ws ∧ R xs ∧ b ≠ p ∧ H' b = some (.tup xs) ∧ P ws H') := fun H1 e d Q q =>
  h H1 e d _ fun b xs H2 r hb e2 d2 h2 => hr H2 (e.trans e2) d2 _ fun ws H3 rs e3 d3 => q (.ref b :: ws) H3 ⟨b, xs, ws, rfl, r, hb, e3 _ _ hb h2, rs⟩ (e2.trans e3) d3
theorem q_appD {l : Addr} {xs : List V} {P : List V → Hp → Prop} {j : Nat} (hl : H l = some (.lst xs)) (hlp : l ≠ p) (hs : σ[j]? = some (some (.ref l))) (h : DvAP p ts σ H P) (hz : xs.length < 100000) (hn : ∀ vs H1, P vs H1 → vs.length ≤ 100000) (hd : Dice p H)
    (k : ∀ t vs H2, P vs H2 → Exd p H H2 → Dice p H2 → H2 t = none → tz D σ (upd (upd H2 t (.tup vs)) l (.lst (xs ++ [.ref t])))) : tSeq (tDrop (tBM K "list" rAppend (tVar j) (tCons (tTup ts) tNil))) tz D σ H :=
  ⟨.ref l, hs, .inl ⟨rfl, xs, sq_of hl⟩, h H (Exd.refl p H) hd _ fun vs H2 hp e2 d2 => ⟨sz_of (hn vs H2 hp), fun t ht => ⟨l, xs, .ref t, rfl, rfl, Ex.new ht _ _ (e2 _ _ hlp hl), sz_lt (by omega), k t vs H2 hp e2 d2 ht⟩⟩⟩
theorem q_parLc {i j : Nat} {ta tb : TE} {v2 : V} {xs : List V} (h1 : EvL ta σ H xs) (h2 : ∀ {H1}, Ev tb σ H1 v2) (k : ∀ l H1, H l = none → Ex H H1 → H1 l = some (.lst xs) → tz D ((σ.set i (some (.ref l))).set j (some v2)) H1) : tSeq (tPar i j (tCons ta (tCons tb tNil))) tz D σ H :=
  h1 H (Ex.refl H) _ fun l H1 hl e1 hx => h2 H1 (Ex.refl H1) _ fun H2 e2 => ⟨.ref l, v2, rfl, k l H2 hl (e1.trans e2) (e2 _ _ hx)⟩
theorem dap_consU {P : List V → Hp → Prop} {xs : List V} (h : ∀ H1, Exd p H H1 → Dice p H1 → EvU te σ H1 xs) (hr : DvAP p tr σ H P) : DvAP p (tCons te tr) σ H (fun vs H' => ∃ b ws, vs = .ref b :: ws ∧ b ≠ p ∧ H' b = some (.tup xs) ∧ P ws H') := fun H1 e d Q q =>
  h H1 e d H1 (Ex.refl H1) _ fun b H2 hb e2 h2 => hr H2 (e.trans (Exd.of e2)) (d.ex e2) _ fun ws H3 rs e3 d3 => q (.ref b :: ws) H3 ⟨b, ws, rfl, d.ne hb, e3 _ _ (d.ne hb) h2, rs⟩ ((Exd.of e2).trans e3) d3
theorem s_retTD {P : List V → Hp → Prop} (h : DvAP p ts σ H P) (hn : ∀ vs H1, P vs H1 → vs.length ≤ 100000) (hd : Dice p H) (k : ∀ a vs H2, P vs H2 → Exd p H H2 → Dice p H2 → H2 a = none → D.rt (.ref a) (upd H2 a (.tup vs))) : tRet (tTup ts) D σ H :=
  h H (Exd.refl p H) hd _ fun vs H2 hp e2 d2 => ⟨sz_of (hn vs H2 hp), fun a ha => k a vs H2 hp e2 d2 ha⟩
end
section
variable {σ : L2.St} {H : Hp} {te tn ta tb : TE} {ts tr : TA} {tz : TS} {D : Ends} {K : PySem.W.Frag} {p : Addr}
theorem dv_pkA {Pr : V → Prop} {n : Nat} (h0 : σ[0]? = some (some (.ref p))) (h1 : DvA p ts σ H (fun vs => vs.length = n ∧ ∀ v ∈ vs, Pr v)) (h2 : 0 < n) (h3 : n ≤ 100) : Dv p (tCall (Draws (kPick K)) [] E0 (tCons (tVar 0) (tCons (tLst ts) tNil))) σ H Pr :=
  dv_pickA (RA := fun vs => vs.length = n ∧ ∀ v ∈ vs, Pr v) h0 h1 (fun xs hx => by rw [hx.1]; omega) fun l xs H1 hx _ _ hl h => ⟨_, ⟨l, xs, rfl, hl, sq_of h, by rw [hx.1]; exact h2, by rw [hx.1]; omega, rfl⟩, fun v hv => hx.2 v hv⟩
theorem dv_pk {xs : List V} (h0 : σ[0]? = some (some (.ref p))) (h1 : ∀ H1, EvA ts σ H1 xs) (h2 : 0 < xs.length) (h3 : xs.length < 100000) : Dv p (tCall (Draws (kPick K)) [] E0 (tCons (tVar 0) (tCons (tLst ts) tNil))) σ H (fun v => v ∈ xs) :=
  dv_pickL (xs := xs) (R := fun v => v ∈ xs) h0 (fun H1 _ _ => el_lst (h1 H1) (by omega)) (fun l H1 _ _ hl h => ⟨l, _, rfl, hl, sq_of h, h2, by omega, rfl⟩)
end
section
variable {σ : L2.St} {H H' : Hp} {te tn ta tb : TE} {ts tr : TA} {tz : TS} {D : Ends} {K : PySem.W.Frag} {p : Addr}
/-- [e for x in range(n)], each e a new tuple -/
theorem dl_lcN {n j i0 : Nat} {vs : List Nat} {R : List V → Prop} {Q : VK} (hs : σ[i0]? = some (some (.int (n : Int)))) (hw : ∀ x, wipe ((wipe σ vs).set j (some x)) vs = wipe σ vs) (hn : n ≤ 1000) (he : ∀ i : Nat, i < n → DvN p te ((wipe σ vs).set j (some (.int (0 + (i : Int))))) H R) (hd : Dice p H)
    (k : ∀ l (ps : List (Addr × List V)) H2, ps.length = n → (∀ q ∈ ps, q.1 ≠ p ∧ H2 q.1 = some (.tup q.2) ∧ R q.2) → l ≠ p → Exd p H H2 → Dice p H2 → H2 l = some (.lst (ps.map fun q => .ref q.1)) → Q (.ref l) H2) : tLc (iRng1 (tCons (tVar i0) tNil)) (gName j) tYes te vs σ H Q :=
  ⟨.int (n : Int), hs, (n : Int), rfl, by omega, by omega, fun Dl hD => by
    have hDp : Dl ≠ p := hd.ne hD
    rw [show ((n : Int).toNat) = n from Int.toNat_natCast n]
    refine lc_range (fun i H' => Exd p H H' ∧ Dice p H' ∧ ∃ ps : List (Addr × List V), H' Dl = some (.lst (ps.map fun q => .ref q.1)) ∧ ps.length = i ∧ ∀ q ∈ ps, q.1 ≠ p ∧ H' q.1 = some (.tup q.2) ∧ R q.2) ⟨Exd.of (Ex.new hD), hd.ex (Ex.new hD), [], upd_same, rfl, fun _ h => by cases h⟩ ?_ ?_
    · rintro i H' hi ⟨e', d', ps, hacc, hlen, hR⟩
      refine ⟨hw _, ?_⟩
      unfold tYes
      dsimp only
      rw [if_pos rfl]
      refine he i hi H' e' d' _ fun b xs H4 hv hb e4 d4 h4 => ⟨_, e4 _ _ hDp hacc, sz_lt (by rw [List.length_map]; omega), fun a o ha ho => ?_, ?_, ps ++ [(b, xs)], ?_, by rw [List.length_append, hlen]; rfl, fun x hx => ?_⟩
      · rw [upd_ne (ne_of_none ho hD)]
        exact e4 _ _ ha (e' _ _ ha ho)
      · obtain ⟨x, y, z, h⟩ := d4
        exact ⟨x, y, z, by rw [upd_ne (Ne.symm hDp)]; exact h⟩
      · rw [upd_same, List.map_append]
        rfl
      · have hne : ∀ {c : Addr} {ys : List V}, H4 c = some (.tup ys) → c ≠ Dl := fun {c ys} hc z => by
          rw [z, e4 _ _ hDp hacc] at hc
          cases hc
        rcases List.mem_append.mp hx with z | z
        · obtain ⟨z1, z2, z3⟩ := hR x z
          have z4 := e4 _ _ z1 z2
          exact ⟨z1, by rw [upd_ne (hne z4)]; exact z4, z3⟩
        · rw [List.mem_singleton.mp z]
          exact ⟨hb, by rw [upd_ne (hne h4)]; exact h4, hv⟩
    · rintro H' ⟨e', d', ps, hacc, hlen, hR⟩
      exact k Dl ps H' hlen hR hDp e' d' hacc⟩
/-- a drawn value, of which something is known in the heap behind it -/
def DvH (p : Addr) (te : TE) (σ : L2.St) (H : Hp) (P : V → Hp → Prop) : Prop := ∀ H1, Exd p H H1 → Dice p H1 → ∀ Q : VK, (∀ v H2, P v H2 → Exd p H1 H2 → Dice p H2 → Q v H2) → te σ H1 Q
theorem dap_consH {P1 : V → Hp → Prop} {P : List V → Hp → Prop} (h : DvH p te σ H P1) (hst : ∀ v H1 H2, P1 v H1 → Exd p H1 H2 → P1 v H2) (hr : DvAP p tr σ H P) : DvAP p (tCons te tr) σ H (fun vs H' => ∃ v ws, vs = v :: ws ∧ P1 v H' ∧ P ws H') := fun H1 e d Q q =>
  h H1 e d _ fun v H2 r e2 d2 => hr H2 (e.trans e2) d2 _ fun ws H3 rs e3 d3 => q (v :: ws) H3 ⟨v, ws, rfl, hst _ _ _ r e3, rs⟩ (e2.trans e3) d3
def RowsV (p : Addr) (m : Nat) (v : V) (H : Hp) : Prop := ∃ (b : Addr) (ps : List (Addr × List V)), v = .ref b ∧ b ≠ p ∧ H b = some (.tup (ps.map fun q => .ref q.1)) ∧ ps.length ≤ 32 ∧ ∀ q ∈ ps, q.1 ≠ p ∧ H q.1 = some (.tup q.2) ∧ ∃ e : List Int, q.2 = e.map V.int ∧ rowOk m e
theorem rows_st {m : Nat} : ∀ v H1 H2, RowsV p m v H1 → Exd p H1 H2 → RowsV p m v H2 := fun v H1 H2 ⟨b, ps, h1, h2, h3, h4, h5⟩ e => ⟨b, ps, h1, h2, e _ _ h2 h3, h4, fun q hq => ⟨(h5 q hq).1, e _ _ (h5 q hq).1 (h5 q hq).2.1, (h5 q hq).2.2⟩⟩
def intOf : V → Int
  | .int n => n
  | _ => 0
theorem ints_back (e : List Int) : (e.map V.int).map intOf = e := by
  rw [List.map_map]
  exact (List.map_congr_left fun _ _ => rfl).trans (List.map_id e)
theorem ints_there : ∀ {xs : List V}, (∀ v ∈ xs, ∃ n : Int, v = .int n) → xs = (xs.map intOf).map V.int
  | [], _ => rfl
  | x :: xs, h => by
    obtain ⟨n, rfl⟩ := h x (List.mem_cons_self ..)
    rw [List.map_cons, List.map_cons, ← ints_there fun v hv => h v (List.mem_cons_of_mem _ hv)]
    rfl
theorem rows_es {m : Nat} {ps : List (Addr × List V)} (h : ∀ q ∈ ps, q.1 ≠ p ∧ H q.1 = some (.tup q.2) ∧ ∃ e : List Int, q.2 = e.map V.int ∧ rowOk m e) : RwsAt K H (ps.map (·.1)) (ps.map fun q => q.2.map intOf) ∧ ∀ e ∈ ps.map (fun q => q.2.map intOf), rowOk m e := by
  refine ⟨⟨by rw [List.length_map, List.length_map], fun i r e hr he => ?_⟩, fun e he => ?_⟩
  · rw [List.getElem?_map] at hr he
    cases hq : ps[i]? with
    | none => rw [hq] at hr; cases hr
    | some q =>
      rw [hq] at hr he
      obtain ⟨_, h2, e', h3, _⟩ := h q (List.mem_of_getElem? hq)
      cases hr
      cases he
      rw [h3] at h2
      show SqT K H q.1 ((q.2.map intOf).map V.int)
      rw [h3, ints_back]
      exact st_of h2
  · obtain ⟨q, hq, rfl⟩ := List.mem_map.mp he
    obtain ⟨_, h2, e', h3, h4⟩ := h q hq
    rw [h3, ints_back]
    exact h4
theorem go_M1 {r : V → List V → Hp → VK → Prop} {a : Str} {Q : VK} (h : te σ H (fun x H1 => r (.str a) [x] H1 Q)) : tM1 r (tC (.str a)) te σ H Q := ⟨⟨a, rfl⟩, h⟩
theorem go_CB1 {r : List V → Hp → VK → Prop} {Q : VK} (h : te σ H (fun x H1 => r [x] H1 Q)) : tCB r (tCons te tNil) σ H Q := h
theorem go_asgCB1 {r : List V → Hp → VK → Prop} {i : Nat} (h : te σ H (fun x H1 => r [x] H1 fun v H2 => tz D (σ.set i (some v)) H2)) : tSeq (tAsg (tCB r (tCons te tNil)) (gName i)) tz D σ H := h
theorem flat1 : ∀ cs : List Nat, (cs.map fun c => [c]).flatten = cs
  | [] => rfl
  | c :: cs => by
    rw [List.map_cons, List.flatten_cons, flat1 cs]
    rfl
theorem signs_back : ∀ {xs : List V}, (∀ v ∈ xs, ∃ c ∈ drawnSigns, v = vS [c]) → ∃ cs : List Nat, xs = cs.map (fun c => vS [c]) ∧ ∀ c ∈ cs, c ∈ drawnSigns
  | [], _ => ⟨[], rfl, fun _ h => by cases h⟩
  | x :: xs, h => by
    obtain ⟨c, hc, rfl⟩ := h x (List.mem_cons_self ..)
    obtain ⟨cs, rfl, h2⟩ := signs_back fun v hv => h v (List.mem_cons_of_mem _ hv)
    exact ⟨c :: cs, rfl, fun d hd => (List.mem_cons.mp hd).elim (fun z => by rw [z]; exact hc) (h2 d)⟩
theorem signs_sum : ∀ cs : List Nat, ((cs.map fun c => S [c]).map fun x => x.length).sum = cs.length
  | [] => rfl
  | c :: cs => by
    rw [List.map_cons, List.map_cons, List.sum_cons, signs_sum cs, S_len]
    show 1 + cs.length = cs.length + 1
    omega
theorem signs_join (cs : List Nat) : Txt.join (S []) (cs.map fun c => S [c]) = S cs := by
  have h := join_empty (cs.map fun c => [c])
  rw [List.map_map] at h
  rw [flat1] at h
  exact h
theorem len_times (n : Nat) (l : List Nat) : (timesL n l).length = n * l.length := by simp [timesL]
theorem vS_signs : V.str (Str.ofString "0123456789 ;-abz~!:\"'") = vS drawnSigns := by
  unfold vS drawnSigns S
  rfl
end
def TickV (v : V) : Prop := ∃ t : Int, v = .int t ∧ whole t
/-- a letter that is drawn -/
def DrawsLt (K : PySem.W.Frag) : Sp := fun vs H Q _ => ∃ p, vs = [.ref p] ∧ Dice p H ∧ ∀ r l H', l.ok → LtAt K H' r l → r ≠ p → Exd p H H' → Dice p H' → Q (.ref r) H'
section
variable {P : Program} {w : World} {K : PySem.W.Frag} {mg : Str → Option Value} {base : Heap}
theorem ok_lt_drawn (T : Txt K mg w) : FnOk P w K mg base CX0 3 T.a_law_lt_drawn T.fd_law_lt_drawn ["dice"] (DrawsLt K) := by
  have G_law_roll := ok_roll (P := P) (w := w) (base := base) T
  have G_law_pick := ok_pick (P := P) (w := w) (base := base) T
  have G_law_pickS := ok_pickS (P := P) (w := w) (base := base) T
  refine T.F_law_lt_drawn.ok sc_law_lt_drawn (fun vs H Q E h => ?_) (fun cdv A outer s H vs Q E hr h => ?_)
  · obtain ⟨_, rfl, _⟩ := h; rfl
  · obtain ⟨p, rfl, hd, q⟩ := h
    refine ⟨_, (pss_cons (ps_par (i := 1) (j := 2) (by rfl) sc_law_lt_drawn.nd rfl rfl (by decide) rfl rfl (pa_cons (pe_call G_law_roll (hr.mono (by decide)) (by rfl) T.g_law_roll T.F_law_roll.kp T.b_law_roll .nil pass0 (pa_cons (pv 0) (pa_cons pe_int pa_nil))) (pa_cons (pe_op op_add pe_int (pe_call G_law_roll (hr.mono (by decide)) (by rfl) T.g_law_roll T.F_law_roll.kp T.b_law_roll .nil pass0 (pa_cons (pv 0) (pa_cons pe_int pa_nil)))) pa_nil)) (by rfl))
  (pss_cons (ps_set (i := 3) sc_law_lt_drawn.nd rfl (.inl rfl) (pe_call G_law_pick (hr.mono (by decide)) (by rfl) T.g_law_pick T.F_law_pick.kp T.b_law_pick .nil pass0 (pa_cons (pv 0) (pa_cons (pe_lst (pa_cons pe_int (pa_cons pe_int (pa_cons (pe_call G_law_roll (hr.mono (by decide)) (by rfl) T.g_law_roll T.F_law_roll.kp T.b_law_roll .nil pass0 (pa_cons (pv 0) (pa_cons pe_int pa_nil))) (pa_cons (pe_op op_add (pe_op op_pow pe_int pe_int) (pe_call G_law_roll (hr.mono (by decide)) (by rfl) T.g_law_roll T.F_law_roll.kp T.b_law_roll .nil pass0 (pa_cons (pv 0) (pa_cons pe_int pa_nil)))) pa_nil))))) pa_nil))))
  (pss_cons (ps_if (pt_cmpR op_eq (pv 1) pe_int (nomark _)) (pss_one (ps_ret (pe_tup (pa_cons pe_str (pa_cons (pv 2) (pa_cons (pe_call G_law_pick (hr.mono (by decide)) (by rfl) T.g_law_pick T.F_law_pick.kp T.b_law_pick .nil pass0 (pa_cons (pv 0) (pa_cons (pe_lst (pa_cons pe_str (pa_cons pe_str pa_nil))) pa_nil))) pa_nil)))))) pss_nil)
  (pss_cons (ps_if (pt_cmpR op_eq (pv 1) pe_int (nomark _)) (pss_cons (ps_set (i := 4) sc_law_lt_drawn.nd rfl (.inl rfl) (pe_op op_add pe_int (pe_call G_law_roll (hr.mono (by decide)) (by rfl) T.g_law_roll T.F_law_roll.kp T.b_law_roll .nil pass0 (pa_cons (pv 0) (pa_cons pe_int pa_nil)))))
  (pss_cons (ps_set (i := 5) sc_law_lt_drawn.nd rfl (.inl rfl) (pe_join pe_str (pe_lc (own := [("turn", 8)]) (g := gName 8) (by rfl) sc_law_lt_drawn.nd (pi_range1 rfl T.z_range (pa_cons (pe_op op_add pe_int (pe_call G_law_roll (hr.mono (by decide)) (by rfl) T.g_law_roll T.F_law_roll.kp T.b_law_roll .nil pass0 (pa_cons (pv 0) (pa_cons pe_int pa_nil)))) pa_nil)) (blkOk_by (own := [("turn", 8)]) (N := ["dice", "way", "seat", "tick", "many", "text", "size", "words", "turn", "at"]) (sc := defScope s_law_lt_drawn) (by decide +kernel)) (fun _ _ _ _ _ => pg_name (i := 8) sc_law_lt_drawn.nd rfl (by first | exact Or.inl rfl | exact Or.inr rfl)) (fun _ _ _ _ _ => pts_nil) (fun _ _ _ _ _ => (pe_call G_law_pickS (hr.mono (by decide)) (by rfl) T.g_law_pick T.F_law_pick.kp T.b_law_pick .nil pass0 (pa_cons (pv 0) (pa_cons pe_str pa_nil)))))))
  (pss_one (ps_ret (pe_tup (pa_cons pe_str (pa_cons (pv 2) (pa_cons (pv 3) (pa_cons (pe_call G_law_roll (hr.mono (by decide)) (by rfl) T.g_law_roll T.F_law_roll.kp T.b_law_roll .nil pass0 (pa_cons (pv 0) (pa_cons (pv 4) pa_nil))) (pa_cons (pv 4) (pa_cons (pe_op op_mulS (pv 5) (pe_call G_law_pick (hr.mono (by decide)) (by rfl) T.g_law_pick T.F_law_pick.kp T.b_law_pick .nil pass0 (pa_cons (pv 0) (pa_cons (pe_lst (pa_cons pe_int (pa_cons pe_int (pa_cons pe_int pa_nil)))) pa_nil)))) pa_nil))))))))))) pss_nil)
  (pss_cons (ps_if (pt_cmpR op_eq (pv 1) pe_int (nomark _)) (pss_cons (ps_set (i := 6) sc_law_lt_drawn.nd rfl (.inr rfl) (pe_op op_add pe_int (pe_call G_law_roll (hr.mono (by decide)) (by rfl) T.g_law_roll T.F_law_roll.kp T.b_law_roll .nil pass0 (pa_cons (pv 0) (pa_cons pe_int pa_nil)))))
  (pss_cons (ps_set (i := 4) sc_law_lt_drawn.nd rfl (.inl rfl) (pe_call G_law_pick (hr.mono (by decide)) (by rfl) T.g_law_pick T.F_law_pick.kp T.b_law_pick .nil pass0 (pa_cons (pv 0) (pa_cons (pe_lst (pa_cons pe_int (pa_cons pe_int (pa_cons pe_int (pa_cons pe_int (pa_cons pe_int pa_nil)))))) pa_nil))))
  (pss_one (ps_ret (pe_tup (pa_cons pe_str (pa_cons (pv 2) (pa_cons (pv 3) (pa_cons (pe_callTy c_tupL (by rfl) T.z_tuple (by decide +kernel) (pa_cons (pe_lc (own := [("turn", 8)]) (g := gName 8) (by rfl) sc_law_lt_drawn.nd (pi_range1 rfl T.z_range (pa_cons (pv 4) pa_nil)) (blkOk_by (own := [("turn", 8)]) (N := ["dice", "way", "seat", "tick", "many", "text", "size", "words", "turn", "at"]) (sc := defScope s_law_lt_drawn) (by decide +kernel)) (fun _ _ _ _ _ => pg_name (i := 8) sc_law_lt_drawn.nd rfl (by first | exact Or.inl rfl | exact Or.inr rfl)) (fun _ _ _ _ _ => pts_nil) (fun _ _ _ _ _ => (pe_callTy (c_tupLK (K := K) rfl) (by rfl) T.z_tuple (by decide +kernel) (pa_cons (by exact (pe_lc (own := [("at", 9)]) (g := gName 9) (by rfl) sc_law_lt_drawn.nd (pi_range1 rfl T.z_range (pa_cons (pv 6) pa_nil)) (blkOk_by (own := [("at", 9)]) (N := ["dice", "way", "seat", "tick", "many", "text", "size", "words", "turn", "at"]) (sc := _) (by rfl)) (fun _ _ _ _ _ => pg_name (i := 9) sc_law_lt_drawn.nd rfl (by first | exact Or.inl rfl | exact Or.inr rfl)) (fun _ _ _ _ _ => pts_nil) (fun _ _ _ _ _ => (pe_op op_sub (pe_call G_law_roll (hr.mono (by decide)) (by rfl) T.g_law_roll T.F_law_roll.kp T.b_law_roll .nil pass0 (pa_cons (pv 0) (pa_cons pe_int pa_nil))) pe_int)))) pa_nil)))) pa_nil)) pa_nil))))))))) pss_nil)
  (pss_cons (ps_set (i := 7) sc_law_lt_drawn.nd rfl (.inl rfl) (pe_callTy c_tupL (by rfl) T.z_tuple (by decide +kernel) (pa_cons (pe_lc (own := [("turn", 8)]) (g := gName 8) (by rfl) sc_law_lt_drawn.nd (pi_range1 rfl T.z_range (pa_cons (pe_call G_law_pick (hr.mono (by decide)) (by rfl) T.g_law_pick T.F_law_pick.kp T.b_law_pick .nil pass0 (pa_cons (pv 0) (pa_cons (pe_lst (pa_cons pe_int (pa_cons pe_int (pa_cons pe_int (pa_cons pe_int (pa_cons pe_int pa_nil)))))) pa_nil))) pa_nil)) (blkOk_by (own := [("turn", 8)]) (N := ["dice", "way", "seat", "tick", "many", "text", "size", "words", "turn", "at"]) (sc := defScope s_law_lt_drawn) (by decide +kernel)) (fun _ _ _ _ _ => pg_name (i := 8) sc_law_lt_drawn.nd rfl (by first | exact Or.inl rfl | exact Or.inr rfl)) (fun _ _ _ _ _ => pts_nil) (fun _ _ _ _ _ => (pe_call G_law_roll (hr.mono (by decide)) (by rfl) T.g_law_roll T.F_law_roll.kp T.b_law_roll .nil pass0 (pa_cons (pv 0) (pa_cons pe_int pa_nil))))) pa_nil)))
  (pss_one (ps_ret (pe_tup (pa_cons pe_str (pa_cons (pv 2) (pa_cons (pv 3) (pa_cons (pv 7) (pa_cons (pe_call G_law_roll (hr.mono (by decide)) (by rfl) T.g_law_roll T.F_law_roll.kp T.b_law_roll .nil pass0 (pa_cons (pv 0) (pa_cons pe_int pa_nil))) pa_nil)))))))))))))), ?_⟩
    refine q_parDv (p := p) (dv_roll (m := 5) rfl (fun H1 => ev_c) (by decide) (by decide)) (dv_op (R := fun v => ∃ s : Int, v = .int s ∧ 1 ≤ s ∧ s ≤ 5) (R1 := fun v => v = .int 1) (R2' := fun v => ∃ r : Int, v = .int r ∧ 0 ≤ r ∧ r < 5) (dv_c rfl) (dv_roll (m := 5) rfl (fun H1 => ev_c) (by decide) (by decide)) ?_) hd fun v1 v2 H1 ⟨way, hv1, w0, w1⟩ ⟨seat, hv2, s1, s5⟩ e1 d1 => ?_
    · rintro x y H4 rfl ⟨r, rfl, h0, h1⟩
      exact ⟨_, rv_I0, _, rfl, by omega, by omega⟩
    subst hv1
    subst hv2
    have cT : ∀ {te : TE} {σ : L2.St} {H : Hp} {n : Int}, (∀ H1, Ev te σ H1 (.int n)) → whole n → Dv p te σ H TickV := fun h h0 => dv_ev (fun H1 _ _ => h H1) ⟨_, rfl, h0⟩
    refine q_asgDv (p := p) (R := TickV) (dv_pkA (n := 4) rfl (da_cons (cT (fun _ => ev_c) (by unfold whole; decide)) (da_cons (cT (fun _ => ev_c) (by unfold whole; decide)) (da_cons ((dv_roll (m := 400) rfl (fun H1 => ev_c) (by decide) (by decide)).mono fun v ⟨r, hv, r0, r1⟩ => ⟨r, hv, by unfold whole; omega⟩) (da_cons (dv_op (R := TickV) (R1 := fun v => v = .int 100000000000000000000000000000000000000000000000000000000000) (R2' := fun v => ∃ r : Int, v = .int r ∧ 0 ≤ r ∧ r < 9) (dv_ev (fun H1 _ _ => by walk_at "pow") rfl) (dv_roll (m := 9) rfl (fun H1 => ev_c) (by decide) (by decide)) ?_) da_nil)))) (by decide) (by decide)) d1 fun v H2 ⟨tick, hv, ht⟩ e2 d2 => ?_
    · rintro x y H4 rfl ⟨r, rfl, h0, h1⟩
      exact ⟨_, rv_I0, _, rfl, by unfold whole; omega⟩
    subst hv
    have x2 := e1.trans e2
    refine q_when (b := decide (V.int way = V.int 0)) (et_test (ev_op (ev_var rfl) ev_c (rv_eq rfl))) (fun _ H3 e3 => ?_) fun _ H3 e3 => ?_
    · have x3 := x2.trans (Exd.of e3)
      refine s_retTD (p := p) (P := fun vs H' => ∃ z : Str, vs = [.str "word", .int seat, .str z] ∧ (z = "come" ∨ z = "go")) ((dap_cons (R := fun v => v = .str "word") (dv_c rfl) (dap_cons (R := fun v => v = .int seat) (dv_var rfl rfl) (dap_cons (R := fun v => v = .str "come" ∨ v = .str "go") ((dv_pk (K := K) (xs := [.str "come", .str "go"]) rfl (fun H1 => by walk_at "ea") (by decide) (by decide)).mono fun v hv => by simpa using hv) dap_nil))).mono fun vs H' ⟨_, _, h1, h2, _, _, h3, h4, _, _, h5, h6, h7⟩ => by
          rcases h6 with h6 | h6
          · exact ⟨"come", by rw [h1, h2, h3, h4, h5, h6, h7], .inl rfl⟩
          · exact ⟨"go", by rw [h1, h2, h3, h4, h5, h6, h7], .inr rfl⟩) (fun vs H1 ⟨z, hv, _⟩ => by rw [hv]; show 3 ≤ 100000; decide) (d2.ex e3) fun r vs H4 ⟨z, hv, hz⟩ e4 d4 hr => ?_
      subst hv
      exact q r (.word seat z) _ ⟨s1, s5, hz⟩ (lt_word (st_of upd_same)) (d4.ne hr) ((x3.trans e4).trans (Exd.of (Ex.new hr))) (d4.ex (Ex.new hr))
    have x3 := x2.trans (Exd.of e3)
    have d3 := d2.ex e3
    refine q_when (b := decide (V.int way = V.int 1)) (et_test (ev_op (ev_var rfl) ev_c (rv_eq rfl))) (fun _ H4 e4 => ?_) fun _ H4 e4 => ?_
    · refine q_asgDv (p := p) (R := fun v => ∃ m : Int, v = .int m ∧ 1 ≤ m ∧ m ≤ 100) (dv_op (R1 := fun v => v = .int 1) (R2' := fun v => ∃ r : Int, v = .int r ∧ 0 ≤ r ∧ r < 100) (dv_c rfl) (dv_roll (m := 100) rfl (fun H1 => ev_c) (by decide) (by decide)) (by
        rintro x y H4 rfl ⟨r, rfl, h0, h1⟩
        exact ⟨_, rv_I0, _, rfl, by omega, by omega⟩)) (d3.ex e4) fun v H5 ⟨many, hv, m0, m1⟩ e5 d5 => ?_
      subst hv
      refine q_asgDv (p := p) (R := fun v => ∃ l : List Nat, v = vS l ∧ 1 ≤ l.length ∧ l.length ≤ 9 ∧ ∀ c ∈ l, c ∈ drawnSigns) (fun H6 e6 d6 Q6 q6 => ?_) d5 fun v H6 ⟨l, hv, l1, l9, ls⟩ e6 d6 => ?_
      · refine go_M1 ?_
        refine dl_lcD (p := p) (RN := fun n => 1 ≤ n ∧ n ≤ 9) (R := fun v => ∃ c ∈ drawnSigns, v = vS [c]) (fun _ => rfl) (fun n hn => by omega) ?_ (fun i => dv_call (vs := [.ref p, vS drawnSigns]) (fun H7 _ _ => ea_cons (ev_var rfl) (ea_cons (ev_is ev_c vS_signs) ea_nil)) fun H7 _ _ => ⟨drawnSigns, rfl, by decide +kernel, by decide +kernel, rfl⟩) d6 fun n b xs H7 hn ⟨hx, hv⟩ hb e7 d7 h7 => ?_
        · refine dv_op (R1 := fun v => v = .int 1) (R2' := fun v => ∃ r : Int, v = .int r ∧ 0 ≤ r ∧ r < 9) (dv_c rfl) (dv_roll (m := 9) rfl (fun H1 => ev_c) (by decide) (by decide)) ?_
          rintro x y H8 rfl ⟨r, rfl, h0, h1⟩
          exact ⟨_, rv_I0, (1 + r).toNat, by rw [Int.toNat_of_nonneg (by omega)], by omega, by omega⟩
        · obtain ⟨cs, rfl, hc⟩ := signs_back hv
          rw [List.length_map] at hx
          refine ⟨S [], b, cs.map fun c => S [c], rfl, rfl, .inl (sq_of (by rw [h7, List.map_map]; rfl)), ?_, ?_⟩
          · rw [signs_sum, S_len, List.length_nil]
            omega
          · rw [signs_join]
            exact q6 _ H7 ⟨cs, rfl, by omega, by omega, hc⟩ e7 d7
      subst hv
      have x6 := ((x3.trans (Exd.of e4)).trans e5).trans e6
      refine s_retTD (p := p) (P := fun vs H' => ∃ (i : Int) (k : Nat), vs = [.str "piece", .int seat, .int tick, .int i, .int many, vS (timesL k l)] ∧ (0 ≤ i ∧ i < many) ∧ 1 ≤ k ∧ k ≤ 20) ((dap_cons (R := fun v => v = .str "piece") (dv_c rfl) (dap_cons (R := fun v => v = .int seat) (dv_var rfl rfl) (dap_cons (R := fun v => v = .int tick) (dv_var rfl rfl) (dap_cons (dv_roll (m := many) rfl (fun H1 => ev_var rfl) (by omega) (by omega)) (dap_cons (R := fun v => v = .int many) (dv_var rfl rfl) (dap_cons (R := fun v => ∃ k : Nat, v = vS (timesL k l) ∧ 1 ≤ k ∧ k ≤ 20) (dv_op (R1 := fun v => v = vS l) (R2' := fun v => ∃ k : Nat, v = .int k ∧ 1 ≤ k ∧ k ≤ 20) (dv_var rfl rfl) ((dv_pk (K := K) (xs := [.int 1, .int 1, .int 20]) rfl (fun H1 => by walk_at "ea") (by decide) (by decide)).mono fun v hv => by
          simp only [List.mem_cons, List.not_mem_nil, or_false] at hv
          rcases hv with rfl | rfl | rfl
          · exact ⟨1, rfl, by decide, by decide⟩
          · exact ⟨1, rfl, by decide, by decide⟩
          · exact ⟨20, rfl, by decide, by decide⟩) (by
          rintro x y H8 rfl ⟨k, rfl, h0, h1⟩
          exact ⟨vS (timesL k l), fun Ha _ Qa qa => ⟨l, k, rfl, rfl, h0, by omega, by omega, qa _ (Ex.refl _)⟩, k, rfl, h0, h1⟩)) dap_nil)))))).mono fun vs H' ⟨_, _, h1, h2, _, _, h3, h4, _, _, h5, h6, _, _, h7, ⟨i, h8, hi⟩, _, _, h9, h10, _, _, h11, ⟨k, h12, hk⟩, h13⟩ => ⟨i, k, by rw [h1, h2, h3, h4, h5, h6, h7, h8, h9, h10, h11, h12, h13], hi, hk⟩) (fun vs H1 ⟨i, k, hv, _⟩ => by rw [hv]; show 6 ≤ 100000; decide) d6 fun r vs H7 ⟨i, k, hv, ⟨i0, i1⟩, k0, k1⟩ e7 d7 hr => ?_
      subst hv
      have hlen : (timesL k l).length = k * l.length := len_times k l
      have hl1 : 1 * 1 ≤ k * l.length := Nat.mul_le_mul k0 l1
      have hl2 : k * l.length ≤ 20 * 9 := Nat.mul_le_mul k1 l9
      have htx := text_signs (l := timesL k l) fun c hc => ls c (mem_times hc)
      exact q r (.piece seat tick i many (S (timesL k l))) _ ⟨s1, s5, ht, m0, m1, i0, by omega, by rw [S_len]; omega, by rw [S_len]; omega, htx.1, htx.2⟩ (lt_piece (st_of upd_same)) (d7.ne hr) ((x6.trans e7).trans (Exd.of (Ex.new hr))) (d7.ex (Ex.new hr))
    have x4 := x3.trans (Exd.of e4)
    have d4 := d3.ex e4
    refine q_when (b := decide (V.int way = V.int 2)) (et_test (ev_op (ev_var rfl) ev_c (rv_eq rfl))) (fun _ H5 e5 => ?_) fun _ H5 e5 => ?_
    · have x5 := x4.trans (Exd.of e5)
      refine q_asgDv (p := p) (R := fun v => ∃ m : Nat, v = .int m ∧ 1 ≤ m ∧ m ≤ 4) (dv_op (R1 := fun v => v = .int 1) (R2' := fun v => ∃ r : Int, v = .int r ∧ 0 ≤ r ∧ r < 4) (dv_c rfl) (dv_roll (m := 4) rfl (fun H1 => ev_c) (by decide) (by decide)) (by
        rintro x y H4 rfl ⟨r, rfl, h0, h1⟩
        exact ⟨_, rv_I0, (1 + r).toNat, by rw [Int.toNat_of_nonneg (by omega)], by omega, by omega⟩)) (d4.ex e5) fun v H6 ⟨m, hv, m0, m1⟩ e6 d6 => ?_
      subst hv
      refine q_asgDv (p := p) (R := fun v => ∃ n : Nat, v = .int n ∧ n ≤ 32) ((dv_pk (K := K) (xs := [.int 0, .int 1, .int 2, .int 3, .int 32]) rfl (fun H1 => by walk_at "ea") (by decide) (by decide)).mono fun v hv => by
        simp only [List.mem_cons, List.not_mem_nil, or_false] at hv
        rcases hv with rfl | rfl | rfl | rfl | rfl
        · exact ⟨0, rfl, by decide⟩
        · exact ⟨1, rfl, by decide⟩
        · exact ⟨2, rfl, by decide⟩
        · exact ⟨3, rfl, by decide⟩
        · exact ⟨32, rfl, by decide⟩) d6 fun v H7 ⟨n, hv, hn⟩ e7 d7 => ?_
      subst hv
      have x7 := (x5.trans e6).trans e7
      refine s_retTD (p := p) (P := fun vs H' => ∃ v : V, vs = [.str "rows", .int seat, .int tick, v] ∧ RowsV p m v H') ((dap_cons (R := fun v => v = .str "rows") (dv_c rfl) (dap_cons (R := fun v => v = .int seat) (dv_var rfl rfl) (dap_cons (R := fun v => v = .int tick) (dv_var rfl rfl) (dap_consH (P1 := RowsV p m) (fun H8 e8 d8 Q8 q8 => ?_) rows_st dap_nil)))).mono fun vs H' ⟨_, _, h1, h2, _, _, h3, h4, _, _, h5, h6, v, _, h7, h8, h9⟩ => ⟨v, by rw [h1, h2, h3, h4, h5, h6, h7, h9], h8⟩) (fun vs H1 ⟨v, hv, _⟩ => by rw [hv]; show 4 ≤ 100000; decide) d7 fun r vs H8 ⟨v, hv, b, ps, hb, hbp, h1, h2, h3⟩ e8 d8 hr => ?_
      · refine go_CB1 ?_
        refine dl_lcN (p := p) (n := n) (R := fun xs => ∃ e : List Int, xs = e.map V.int ∧ rowOk m e) rfl (fun _ => rfl) (by omega) (fun i hi H9 e9 d9 Q9 q9 => ?_) d8 fun l ps H9 hp hps hl e9 d9 h9 => ?_
        · refine go_CB1 ?_
          refine dl_lcD (p := p) (RN := fun k => k = m) (R := fun v => ∃ r : Int, v = .int r ∧ -1 ≤ r ∧ r ≤ 127) (fun _ => rfl) (fun k hk => by omega) (dv_var rfl ⟨m, rfl, rfl⟩) (fun i => ?_) d9 fun k b xs Ha hk ⟨hx, hv⟩ hb ea da ha => ⟨b, xs, rfl, sq_of ha, fun t htn => ?_⟩
          · refine dv_op (R1 := fun v => ∃ r : Int, v = .int r ∧ 0 ≤ r ∧ r < 129) (R2' := fun v => v = .int 1) (dv_roll (m := 129) rfl (fun H1 => ev_c) (by decide) (by decide)) (dv_c rfl) ?_
            rintro x y Hb ⟨r, rfl, h0, h1⟩ rfl
            exact ⟨_, rv_I0, _, rfl, by omega, by omega⟩
          · have hxs : xs = (xs.map intOf).map V.int := ints_there fun v h => ⟨_, (hv v h).choose_spec.1⟩
            refine q9 t xs _ ⟨xs.map intOf, hxs, by rw [List.length_map]; omega, m0, m1, fun z hz => ?_⟩ (da.ne htn) (ea.trans (Exd.of (Ex.new htn))) (da.ex (Ex.new htn)) upd_same
            obtain ⟨v, h4, rfl⟩ := List.mem_map.mp hz
            obtain ⟨r, rfl, h5, h6⟩ := hv v h4
            exact ⟨h5, h6⟩
        · refine ⟨l, _, rfl, sq_of h9, fun t htn => q8 _ _ ⟨t, ps, rfl, d9.ne htn, upd_same, by omega, fun y hy => ?_⟩ (e9.trans (Exd.of (Ex.new htn))) (d9.ex (Ex.new htn))⟩
          obtain ⟨y1, y2, y3⟩ := hps y hy
          exact ⟨y1, Ex.new htn _ _ y2, y3⟩
      subst hv
      subst hb
      have h4 : ∀ y ∈ ps, y.1 ≠ p ∧ upd H8 r (.tup [.str "rows", .int seat, .int tick, .ref b]) y.1 = some (.tup y.2) ∧ ∃ e : List Int, y.2 = e.map V.int ∧ rowOk m e := fun y hy => ⟨(h3 y hy).1, Ex.new hr _ _ (h3 y hy).2.1, (h3 y hy).2.2⟩
      obtain ⟨h5, h6⟩ := rows_es (K := K) h4
      refine q r (.rows seat tick (ps.map fun y => y.2.map intOf)) _ ⟨s1, s5, ht, by rw [List.length_map]; exact h2, m, h6⟩ (lt_rows (st_of upd_same) (st_of (a := b) ((Ex.new hr _ _ h1).trans ?_)) h5) (d8.ne hr) ((x7.trans e8).trans (Exd.of (Ex.new hr))) (d8.ex (Ex.new hr))
      rw [List.map_map]
      rfl
    have x5 := x4.trans (Exd.of e5)
    refine go_asgCB1 ?_
    refine dl_lcD (p := p) (RN := fun n => n ≤ 20) (R := fun v => ∃ r : Int, v = .int r ∧ 0 ≤ r ∧ r < 64) (fun _ => rfl) (fun n hn => by omega) ((dv_pk (K := K) (xs := [.int 0, .int 1, .int 2, .int 4, .int 20]) rfl (fun H1 => by walk_at "ea") (by decide) (by decide)).mono fun v hv => by
        simp only [List.mem_cons, List.not_mem_nil, or_false] at hv
        rcases hv with rfl | rfl | rfl | rfl | rfl
        · exact ⟨0, rfl, by decide⟩
        · exact ⟨1, rfl, by decide⟩
        · exact ⟨2, rfl, by decide⟩
        · exact ⟨4, rfl, by decide⟩
        · exact ⟨20, rfl, by decide⟩) (fun i => dv_roll (m := 64) rfl (fun H1 => ev_c) (by decide) (by decide)) (d4.ex e5) fun n b xs H6 hn ⟨hx, hv⟩ hb e6 d6 h6 => ⟨b, xs, rfl, sq_of h6, fun t htn => ?_⟩
    have x7 := (x5.trans e6).trans (Exd.of (Ex.new (o := .tup xs) htn))
    have d7 := d6.ex (Ex.new (o := .tup xs) htn)
    have htp := d6.ne htn
    have h7 : upd H6 t (.tup xs) t = some (.tup xs) := upd_same
    refine s_retTD (p := p) (P := fun vs H' => ∃ pr : Int, vs = [.str "keys", .int seat, .int tick, .ref t, .int pr] ∧ 0 ≤ pr ∧ pr < 999999937) ((dap_cons (R := fun v => v = .str "keys") (dv_c rfl) (dap_cons (R := fun v => v = .int seat) (dv_var rfl rfl) (dap_cons (R := fun v => v = .int tick) (dv_var rfl rfl) (dap_cons (R := fun v => v = .ref t) (dv_var rfl rfl) (dap_cons (dv_roll (m := 999999937) rfl (fun H1 => ev_c) (by decide) (by decide)) dap_nil))))).mono fun vs H' ⟨_, _, h1, h2, _, _, h3, h4, _, _, h5, h6, _, _, h7, h8, _, _, h9, ⟨pr, h10, hpr⟩, h11⟩ => ⟨pr, by rw [h1, h2, h3, h4, h5, h6, h7, h8, h9, h10, h11], hpr⟩) (fun vs H1 ⟨pr, hv, _⟩ => by rw [hv]; show 5 ≤ 100000; decide) d7 fun r vs H8 ⟨pr, hpv, p0, p1⟩ e8 d8 hr => ?_
    subst hpv
    have hxs : xs = (xs.map intOf).map V.int := ints_there fun v h => ⟨_, (hv v h).choose_spec.1⟩
    refine q r (.keys seat tick (xs.map intOf) pr) _ ⟨s1, s5, ht, by rw [List.length_map]; omega, fun z hz => ?_, p0, by omega⟩ (lt_keys (st_of upd_same) (st_of (a := t) ((Ex.new hr _ _ (e8 _ _ htp h7)).trans (by rw [← hxs])))) (d8.ne hr) ((x7.trans e8).trans (Exd.of (Ex.new hr))) (d8.ex (Ex.new hr))
    obtain ⟨v, h4, rfl⟩ := List.mem_map.mp hz
    obtain ⟨r, rfl, h5, h6⟩ := hv v h4
    exact ⟨h5, by show r ≤ 63; omega⟩
end
end Kz
set_option Elab.async false
set_option linter.all false
set_option maxRecDepth 100000
set_option maxHeartbeats 4000000
set_option exponentiation.threshold 500
namespace Kz
open PySem PySem.Spec PyProof.Rows L2 Evl Vr
local macro_rules | `(tactic| walk_at "sc") => `(tactic| first | (with_reducible assumption) | (with_reducible exact sc_mul (by omega)) | (with_reducible exact sc_mulr (by omega)) | (with_reducible exact sc_div (by omega) (by decide)) | (show (0 : Int) < _; omega) | (show _ ≠ (0 : Int); omega) | (with_reducible rfl) | decide)
local macro_rules | `(tactic| walk_at "sq") => `(tactic| first | assumption | exact sq_of (by assumption) | exact st_of (by assumption))
local macro_rules | `(tactic| walk_at "pl") => `(tactic| first | assumption | exact pl_int | exact pl_bl | exact pl_str | exact pl_non | exact pl_lst (by assumption) | exact pl_tup (by assumption) | exact pl_dK (by assumption))
local macro_rules | `(tactic| walk_at "rv") => `(tactic| first
  | with_reducible exact rv_I0
  | with_reducible exact ru_neg
  | ((with_reducible apply rv_I); walk_at "sc")
  | ((with_reducible apply rv_ixL); walk_at "sq"; first | rfl | assumption)
  | ((with_reducible apply rv_ixT); walk_at "sq"; first | rfl | assumption)
  | ((with_reducible apply rv_eq); rfl) | ((with_reducible apply rv_ne); rfl))
local macro_rules | `(tactic| walk_at "rc") => `(tactic| first
  | with_reducible exact rc_I1 | with_reducible exact rc_B1 | with_reducible exact rc_I2 | ((with_reducible apply rc_repr); walk_at "sc") | ((with_reducible apply rc_lenL); walk_at "sq")
  | ((with_reducible apply rc_isiInt); walk_at "pl") | ((with_reducible apply rc_isiBool); walk_at "pl"))
local macro_rules | `(tactic| walk_at "ea") => `(tactic| first
  | with_reducible exact ea_nil | ((with_reducible apply ea_cons); walk_at "ev"; walk_at "ea"))
local macro_rules | `(tactic| walk_at "pow") => `(tactic| first
  | with_reducible exact ev_pow (a := 10) (b := 9) (c := 1000000000) (by decide +kernel) (by decide +kernel)
  | with_reducible exact ev_pow (a := 10) (b := 10) (c := 10000000000) (by decide +kernel) (by decide +kernel)
  | with_reducible exact ev_pow (a := 10) (b := 12) (c := 1000000000000) (by decide +kernel) (by decide +kernel)
  | with_reducible exact ev_pow (a := 10) (b := 17) (c := 100000000000000000) (by decide +kernel) (by decide +kernel)
  | with_reducible exact ev_pow (a := 10) (b := 20) (c := 100000000000000000000) (by decide +kernel) (by decide +kernel)
  | with_reducible exact ev_pow (a := 10) (b := 29) (c := 100000000000000000000000000000) (by decide +kernel) (by decide +kernel)
  | with_reducible exact ev_pow (a := 10) (b := 30) (c := 1000000000000000000000000000000) (by decide +kernel) (by decide +kernel)
  | with_reducible exact ev_pow (a := 10) (b := 40) (c := 10000000000000000000000000000000000000000) (by decide +kernel) (by decide +kernel)
  | with_reducible exact ev_pow (a := 10) (b := 57) (c := 1000000000000000000000000000000000000000000000000000000000) (by decide +kernel) (by decide +kernel)
  | with_reducible exact ev_pow (a := 10) (b := 58) (c := 10000000000000000000000000000000000000000000000000000000000) (by decide +kernel) (by decide +kernel)
  | with_reducible exact ev_pow (a := 10) (b := 59) (c := 100000000000000000000000000000000000000000000000000000000000) (by decide +kernel) (by decide +kernel)
  | with_reducible exact ev_pow (a := 10) (b := 60) (c := 1000000000000000000000000000000000000000000000000000000000000) (by decide +kernel) (by decide +kernel))
local macro_rules | `(tactic| walk_at "call") => `(tactic| (intro H9 e9; first | exact ⟨_, rfl, rfl⟩ | exact ⟨_, _, rfl, rfl⟩ | exact ⟨_, _, _, rfl, rfl⟩ | exact ⟨_, rfl, by walk_at "pl", rfl⟩ | (refine ⟨_, _, _, rfl, ?_, rfl⟩; first | exact Plain.ex e9 (by assumption) | walk_at "pl") | (refine ⟨_, rfl, ?_, rfl⟩; first | exact Plain.ex e9 (by assumption) | walk_at "pl")))
local macro_rules | `(tactic| walk_at "ev") => `(tactic| first
  | with_reducible exact ev_c
  | exact ev_var rfl
  | walk_at "pow"
  | ((with_reducible apply ev_op); walk_at "ev"; walk_at "ev"; walk_at "rv")
  | ((with_reducible apply ev_un); walk_at "ev"; walk_at "rv")
  | ((with_reducible apply ev_cb); walk_at "ea"; walk_at "rc")
  | ((with_reducible apply ev_callP); walk_at "ea"; walk_at "call")
  | ((with_reducible apply ev_chain); walk_at "ev"; walk_at "ev"; walk_at "rv"; walk_at "ev"; walk_at "rv")
  | ((with_reducible apply ev_andV); walk_at "ev"; intro _; walk_at "ev")
  | ((with_reducible apply ev_orV); walk_at "ev"; intro _; walk_at "ev")
  | ((with_reducible apply ev_ite); walk_at "et"; intro _; walk_at "ev"; intro _; walk_at "ev")
  | ((with_reducible apply ev_notV); walk_at "ev"))
local macro_rules | `(tactic| walk_at "et") => `(tactic| first
  | ((with_reducible apply et_test); walk_at "ev")
  | ((with_reducible apply et_B); walk_at "ev")
  | ((with_reducible apply et_and); walk_at "et"; intro _; walk_at "et")
  | ((with_reducible apply et_or); walk_at "et"; intro _; walk_at "et")
  | ((with_reducible apply et_not); walk_at "et"))
open En Wo Tx
section
variable {σ : L2.St} {H : Hp} {te : TE} {ts : List TE} {acc out y : Str}
def EvJs (ts : List TE) (acc : Str) (σ : L2.St) (H : Hp) (out : Str) : Prop := ∀ H1, Ex H H1 → ∀ Q : Str → Hp → Prop, (∀ H2, Ex H1 H2 → Q out H2) → tJs ts acc σ H1 Q
theorem ejs_nil : EvJs [] acc σ H acc := fun H1 _ Q q => q H1 (Ex.refl H1)
theorem ejs_cons (h : Ev te σ H (.str y)) (hz : (acc ++ y).length ≤ sizeLine) (hr : EvJs ts (acc ++ y) σ H out) : EvJs (te :: ts) acc σ H out := fun H1 e Q q => h H1 e _ fun H2 e2 => ⟨y, rfl, hz, hr H2 (e.trans e2) Q fun H3 e3 => q H3 (e2.trans e3)⟩
theorem ev_js (h : EvJs ts Str.empty σ H out) : Ev (fun σ H Q => tJs ts Str.empty σ H fun o H1 => Q (.str o) H1) σ H (.str out) := fun H1 e Q q => h H1 e _ q
theorem ev_fmtI {i : Int} (h : Ev te σ H (.int i)) (hz : i.natAbs.log2 < 1920) : Ev (tFmt te) σ H (.str (toString i)) := fun H1 e Q q => h H1 e _ fun H2 e2 => .inr ⟨i, rfl, hz, q H2 e2⟩
end
def bagText (n : Nat) : Str := "bag of " ++ (toString (n : Int) : Str) ++ " letters"
theorem log_small {n : Nat} (h : n ≤ 100) : ((n : Int)).natAbs.log2 < 1920 := by
  show n.log2 < 1920
  have : n.log2 ≤ n := Nat.log2_le_self n
  omega
section
variable {P : Program} {w : World} {K : PySem.W.Frag} {mg : Str → Option Value} {base : Heap}
def kStrB (K : PySem.W.Frag) (C : Addr) (vs : List V) (H : Hp) (z : V) : Prop := ∃ (p : Addr) (ls : List Lt), vs = [.ref p] ∧ BgAt K C H p ls ∧ ls.length ≤ 40 ∧ z = .str (bagText ls.length)
theorem ok_str (T : Txt K mg w) : FnOk P w K mg base CX0 1 T.a_Bag___str__ T.fd_Bag___str__ ["self"] (Pure (kStrB K T.C_Bag)) := by
  refine T.F_Bag___str__.ok sc_Bag___str__ (fun vs H Q E h => ?_) (fun cdv A outer s H vs Q E hr h => ?_)
  · obtain ⟨_, ⟨_, _, rfl, _⟩, _⟩ := h; rfl
  · obtain ⟨_, ⟨p, ls, rfl, ⟨dx, a, hob, hL⟩, hl, rfl⟩, q⟩ := h
    refine ⟨_, (pss_one (ps_ret (pe_joined (.cons pe_str (.cons (pe_fmt (pe_callB c_len (by rfl) T.z_len PySem.boot_len (pa_cons (pe_fld (pv 0) rfl) pa_nil))) (.cons pe_str .nil)))))), ?_⟩
    have h2 := int_text_len_1921 (log_small (n := ls.length) (by omega))
    have e9 : (Str.ofString "bag of ").length = 7 := by decide +kernel
    have e7 : (Str.ofString " letters").length = 8 := by decide +kernel
    have e0 : Str.empty.length = 0 := by decide +kernel
    have hz : sizeLine = 16777216 := sizeLine_eq
    obtain ⟨rs, hT, hR⟩ := hL
    refine s_ret (v := .str (bagText ls.length)) (ev_is (ev_js (ejs_cons (y := Str.ofString "bag of ") ev_c (by rw [Str.length_append]; omega) (ejs_cons (y := Str.ofString (toString (ls.length : Int))) (ev_fmtI (i := (ls.length : Int)) (ev_cb (vs := [.ref a]) (ea_cons (ev_fld (ev_var rfl) hob T.cl_Bag T.n_Bag_letters rfl) ea_nil) (by
      have := rc_lenT (H := H) hT
      rw [List.length_map, hR.1] at this
      exact this)) (log_small (by omega))) (by rw [Str.length_append, Str.length_append]; omega) (ejs_cons (y := Str.ofString " letters") ev_c (by rw [Str.length_append, Str.length_append, Str.length_append]; omega) ejs_nil)))) (by unfold bagText; rw [Str.empty_append])) q
end
end Kz
set_option Elab.async false
set_option linter.all false
set_option maxRecDepth 100000
set_option maxHeartbeats 4000000
set_option exponentiation.threshold 500
namespace Kz
open PySem PySem.Spec PyProof.Rows L2 Evl Vr
local macro_rules | `(tactic| walk_at "sc") => `(tactic| first | (with_reducible assumption) | (with_reducible exact sc_mul (by omega)) | (with_reducible exact sc_mulr (by omega)) | (with_reducible exact sc_div (by omega) (by decide)) | (show (0 : Int) < _; omega) | (show _ ≠ (0 : Int); omega) | (with_reducible rfl) | decide)
local macro_rules | `(tactic| walk_at "sq") => `(tactic| first | assumption | exact sq_of (by assumption) | exact st_of (by assumption))
local macro_rules | `(tactic| walk_at "pl") => `(tactic| first | assumption | exact pl_int | exact pl_bl | exact pl_str | exact pl_non | exact pl_lst (by assumption) | exact pl_tup (by assumption) | exact pl_dK (by assumption))
local macro_rules | `(tactic| walk_at "rv") => `(tactic| first
  | with_reducible exact rv_I0
  | with_reducible exact ru_neg
  | ((with_reducible apply rv_I); walk_at "sc")
  | ((with_reducible apply rv_ixL); walk_at "sq"; first | rfl | assumption)
  | ((with_reducible apply rv_ixT); walk_at "sq"; first | rfl | assumption)
  | ((with_reducible apply rv_eq); rfl) | ((with_reducible apply rv_ne); rfl))
local macro_rules | `(tactic| walk_at "rc") => `(tactic| first
  | with_reducible exact rc_I1 | with_reducible exact rc_B1 | with_reducible exact rc_I2 | ((with_reducible apply rc_repr); walk_at "sc") | ((with_reducible apply rc_lenL); walk_at "sq")
  | ((with_reducible apply rc_isiInt); walk_at "pl") | ((with_reducible apply rc_isiBool); walk_at "pl"))
local macro_rules | `(tactic| walk_at "ea") => `(tactic| first
  | with_reducible exact ea_nil | ((with_reducible apply ea_cons); walk_at "ev"; walk_at "ea"))
local macro_rules | `(tactic| walk_at "pow") => `(tactic| first
  | with_reducible exact ev_pow (a := 10) (b := 9) (c := 1000000000) (by decide +kernel) (by decide +kernel)
  | with_reducible exact ev_pow (a := 10) (b := 10) (c := 10000000000) (by decide +kernel) (by decide +kernel)
  | with_reducible exact ev_pow (a := 10) (b := 12) (c := 1000000000000) (by decide +kernel) (by decide +kernel)
  | with_reducible exact ev_pow (a := 10) (b := 17) (c := 100000000000000000) (by decide +kernel) (by decide +kernel)
  | with_reducible exact ev_pow (a := 10) (b := 20) (c := 100000000000000000000) (by decide +kernel) (by decide +kernel)
  | with_reducible exact ev_pow (a := 10) (b := 29) (c := 100000000000000000000000000000) (by decide +kernel) (by decide +kernel)
  | with_reducible exact ev_pow (a := 10) (b := 30) (c := 1000000000000000000000000000000) (by decide +kernel) (by decide +kernel)
  | with_reducible exact ev_pow (a := 10) (b := 40) (c := 10000000000000000000000000000000000000000) (by decide +kernel) (by decide +kernel)
  | with_reducible exact ev_pow (a := 10) (b := 57) (c := 1000000000000000000000000000000000000000000000000000000000) (by decide +kernel) (by decide +kernel)
  | with_reducible exact ev_pow (a := 10) (b := 58) (c := 10000000000000000000000000000000000000000000000000000000000) (by decide +kernel) (by decide +kernel)
  | with_reducible exact ev_pow (a := 10) (b := 59) (c := 100000000000000000000000000000000000000000000000000000000000) (by decide +kernel) (by decide +kernel)
  | with_reducible exact ev_pow (a := 10) (b := 60) (c := 1000000000000000000000000000000000000000000000000000000000000) (by decide +kernel) (by decide +kernel))
local macro_rules | `(tactic| walk_at "call") => `(tactic| (intro H9 e9; first | exact ⟨_, rfl, rfl⟩ | exact ⟨_, _, rfl, rfl⟩ | exact ⟨_, _, _, rfl, rfl⟩ | exact ⟨_, rfl, by walk_at "pl", rfl⟩ | (refine ⟨_, _, _, rfl, ?_, rfl⟩; first | exact Plain.ex e9 (by assumption) | walk_at "pl") | (refine ⟨_, rfl, ?_, rfl⟩; first | exact Plain.ex e9 (by assumption) | walk_at "pl")))
local macro_rules | `(tactic| walk_at "ev") => `(tactic| first
  | with_reducible exact ev_c
  | exact ev_var rfl
  | walk_at "pow"
  | ((with_reducible apply ev_op); walk_at "ev"; walk_at "ev"; walk_at "rv")
  | ((with_reducible apply ev_un); walk_at "ev"; walk_at "rv")
  | ((with_reducible apply ev_cb); walk_at "ea"; walk_at "rc")
  | ((with_reducible apply ev_callP); walk_at "ea"; walk_at "call")
  | ((with_reducible apply ev_chain); walk_at "ev"; walk_at "ev"; walk_at "rv"; walk_at "ev"; walk_at "rv")
  | ((with_reducible apply ev_andV); walk_at "ev"; intro _; walk_at "ev")
  | ((with_reducible apply ev_orV); walk_at "ev"; intro _; walk_at "ev")
  | ((with_reducible apply ev_ite); walk_at "et"; intro _; walk_at "ev"; intro _; walk_at "ev")
  | ((with_reducible apply ev_notV); walk_at "ev"))
local macro_rules | `(tactic| walk_at "et") => `(tactic| first
  | ((with_reducible apply et_test); walk_at "ev")
  | ((with_reducible apply et_B); walk_at "ev")
  | ((with_reducible apply et_and); walk_at "et"; intro _; walk_at "et")
  | ((with_reducible apply et_or); walk_at "et"; intro _; walk_at "et")
  | ((with_reducible apply et_not); walk_at "et"))
open En Wo Tx
section
variable {σ : L2.St} {H : Hp} {te tn ta tb : TE} {tz : TS} {D : Ends} {K : PySem.W.Frag} {C p : Addr} {ls : List Lt}
theorem sqt_dc {a : Addr} {H' : Hp} {ys xs : List V} (hd : H p = some (.lst ys)) (e : Exd p H H') (h : SqT K H a xs) : SqT K H' a xs := by
  by_cases z : a = p
  · subst z
    rcases h with (h | ⟨o, h⟩) | h
    · rw [hd] at h; cases h
    · rw [hd] at h; cases h
    · exact .inr h
  · exact e.tt z h
theorem el_takeL {l : Addr} {ti : TE} {k : Nat} {xs : List V} (h : Ev te σ H (.ref l)) (hi : Ev ti σ H (.int (k : Int))) (hl : SqL K H l xs) : EvL (L2.tSl (rSlL K) te tNoPart (tPart ti)) σ H (xs.take k) := by
  have := el_sl (lo := none) (hi := some (k : Int)) h eo_none (eo_some hi) hl
  rw [cut_t] at this
  exact this
theorem cut_n (xs : List V) (k : Nat) : cutV xs (some (k : Int)) none = xs.drop k := by
  unfold cutV
  rw [HT.sIx_nat]
  have : HT.sIx xs.length xs.length none = xs.length := rfl
  rw [this, List.take_of_length_le (by rw [List.length_drop]; omega)]
  by_cases h : k ≤ xs.length
  · rw [Nat.min_eq_left h]
  · rw [Nat.min_eq_right (by omega), List.drop_length, List.drop_eq_nil_of_le (by omega)]
theorem el_dropL {l : Addr} {ti : TE} {k : Nat} {xs : List V} (h : Ev te σ H (.ref l)) (hi : Ev ti σ H (.int (k : Int))) (hl : SqL K H l xs) : EvL (L2.tSl (rSlL K) te (tPart ti) tNoPart) σ H (xs.drop k) := by
  have := el_sl (lo := some (k : Int)) (hi := none) h (eo_some hi) eo_none hl
  rw [cut_n] at this
  exact this
theorem BgAt.dc {a : Addr} {H' : Hp} (e : Exd p H H') (d : Dice p H) (n : a ≠ p) (h : BgAt K C H a ls) : BgAt K C H' a ls := by
  obtain ⟨dx, b, h1, h2⟩ := h
  obtain ⟨C', dx', fs, hd⟩ := d
  exact ⟨dx, b, e _ _ n h1, h2.st fun b xs h => sqt_dc hd e h⟩
theorem eb_meth {to : TE} {ts : TA} {m : Str} {ok : List V → Hp → List Lt → Prop} {E : XK} {a dx : Addr} {fs : List (Str × V)} {P : List V → Hp → Prop} (h : Ev to σ H (.ref a)) (ho : H a = some (.ins C dx fs)) (hl : fs.lookup m = none) (ha : EvAP ts σ H P) (hok : ∀ vs H1, Ex H H1 → P vs H1 → ok (.ref a :: vs) H1 ls) : EvB K C (tMeth C m (Bnew K C ok) [] E to ts) σ H ls := fun H1 e Q q =>
  h H1 e _ fun H2 e2 => ⟨a, dx, fs, rfl, (e.trans e2) _ _ ho, hl, ha H2 (e.trans e2) _ fun vs H3 e3 hp => by
    rw [List.append_nil]
    exact ⟨ls, hok vs H3 ((e.trans e2).trans e3) hp, fun p H4 hn e4 h4 => q p H4 (fresh_back (e2.trans e3) hn) ((e2.trans e3).trans e4) h4⟩⟩
theorem q_parBD {i j : Nat} {R1 : V → Prop} (h1 : EvB K C ta σ H ls) (h2 : ∀ H1, Ex H H1 → Dv p tb σ H1 R1) (hd : Dice p H) (k : ∀ b v H1, BgAt K C H1 b ls → b ≠ p → R1 v → Exd p H H1 → Dice p H1 → tz D ((σ.set i (some (.ref b))).set j (some v)) H1) : tSeq (tPar i j (tCons ta (tCons tb tNil))) tz D σ H :=
  h1 H (Ex.refl H) _ fun b H1 hb e1 hB => h2 H1 e1 H1 (Exd.refl p H1) (hd.ex e1) _ fun v H2 r e2 d2 => ⟨.ref b, v, rfl, k b v H2 (hB.dc e2 (hd.ex e1) (hd.ne hb)) (hd.ne hb) r ((Exd.of e1).trans e2) d2⟩
theorem LrsAt.drop {rs : List Addr} (h : LrsAt K H rs ls) (k : Nat) : LrsAt K H (rs.drop k) (ls.drop k) := ⟨by rw [List.length_drop, List.length_drop, h.1], fun i r l a b => h.2 (k + i) r l (by rwa [List.getElem?_drop] at a) (by rwa [List.getElem?_drop] at b)⟩
theorem LrsAt.take {rs : List Addr} (h : LrsAt K H rs ls) (k : Nat) : LrsAt K H (rs.take k) (ls.take k) := ⟨by rw [List.length_take, List.length_take, h.1], fun i r l a b => by
  rw [List.getElem?_take] at a b
  by_cases hi : i < k
  · rw [if_pos hi] at a b
    exact h.2 i r l a b
  · rw [if_neg hi] at a
    cases a⟩
theorem evd_lsU {rs : List Addr} (h : EvU te σ H (rs.map V.ref)) (hR : LrsAt K H rs ls) : EvD K te σ H (lsDat ls) := fun H1 e Q q => h H1 e Q fun b H2 _ e2 h2 => q _ H2 e2 (LsAt.dp ⟨rs, st_of h2, hR.ex (e.trans e2)⟩)
theorem eu_tupV {l : Addr} {xs : List V} (h : Ev te σ H (.ref l)) (hl : SqL K H l xs) : EvU (tCB (rTupL K) (tCons te tNil)) σ H xs := fun H1 e Q q => h H1 e _ fun H2 e2 => ⟨l, xs, rfl, ex_l (e.trans e2) hl, fun t ht => q t _ (fresh_back e2 ht) (e2.trans (Ex.new ht)) upd_same⟩
theorem ev_opB {r : V → V → Hp → VK → Prop} {x z : V} (h1 : Ev ta σ H x) (h2 : EvB K C tb σ H ls) (hr : ∀ p H1, Ex H H1 → BgAt K C H1 p ls → RV r x (.ref p) H1 z) : Ev (tOp r ta tb) σ H z := fun H1 e Q q =>
  h1 H1 e _ fun H2 e2 => h2 H2 (e.trans e2) _ fun p H3 _ e3 hB => hr p H3 ((e.trans e2).trans e3) hB H3 (Ex.refl H3) Q fun H4 e4 => q H4 ((e2.trans e3).trans e4)
theorem ev_opU {r : V → V → Hp → VK → Prop} {x z : V} {xs : List V} (h1 : Ev ta σ H x) (h2 : EvU tb σ H xs) (hr : ∀ p H1, Ex H H1 → H1 p = some (.tup xs) → RV r x (.ref p) H1 z) : Ev (tOp r ta tb) σ H z := fun H1 e Q q =>
  h1 H1 e _ fun H2 e2 => h2 H2 (e.trans e2) _ fun p H3 _ e3 hB => hr p H3 ((e.trans e2).trans e3) hB H3 (Ex.refl H3) Q fun H4 e4 => q H4 ((e2.trans e3).trans e4)
theorem rv_cs {i j : Str} (h : i.length + j.length ≤ sizeLine) : RV (fun x y H Q => ∃ i j, x = V.str i ∧ y = V.str j ∧ i.length + j.length ≤ sizeLine ∧ Q (V.str (i ++ j)) H) (.str i) (.str j) H (.str (i ++ j)) := fun H1 _ _ q => ⟨i, j, rfl, rfl, h, q H1 (Ex.refl H1)⟩
theorem rc_si {i : Int} (h : i.natAbs.log2 < 1920) : RC (fun xs H Q => ∃ i : Int, xs = [V.int i] ∧ i.natAbs.log2 < 1920 ∧ Q (V.str (Str.ofString (toString i))) H) [.int i] H (.str (toString i)) := fun H1 _ _ q => ⟨i, rfl, h, q H1 (Ex.refl H1)⟩
theorem ap_monoX {ts : TA} {P P' : List V → Hp → Prop} (h : EvAP ts σ H P) (k : ∀ vs H1, Ex H H1 → P vs H1 → P' vs H1) : EvAP ts σ H P' := fun H1 e Q q => h H1 e Q fun vs H2 e2 hp => q vs H2 e2 (k vs H2 (e.trans e2) hp)
theorem eu_methT {to : TE} {ts : TA} {m : Str} {ok : List V → Hp → List V → Prop} {E : XK} {a dx : Addr} {fs : List (Str × V)} {vs xs : List V} (h : Ev to σ H (.ref a)) (ho : H a = some (.ins C dx fs)) (hl : fs.lookup m = none) (ha : EvA ts σ H vs) (hok : ∀ H1, Ex H H1 → ok (.ref a :: vs) H1 xs) : EvU (tMeth C m (Tupd ok) [] E to ts) σ H xs := fun H1 e Q q =>
  h H1 e _ fun H2 e2 => ⟨a, dx, fs, rfl, (e.trans e2) _ _ ho, hl, ha H2 (e.trans e2) _ fun H3 e3 => by
    rw [List.append_nil]
    exact ⟨xs, hok H3 ((e.trans e2).trans e3), fun r H4 hr e4 h4 => q r H4 (fresh_back (e2.trans e3) hr) ((e2.trans e3).trans e4) h4⟩⟩
theorem evd_letter {to : TE} {E : XK} {i : Nat} {l : Lt} (h : Ev to σ H (.ref p)) (hB : BgAt K C H p ls) (hl : ls.length ≤ 100) (hi : ls[i]? = some l) (hn : Ev tn σ H (.int (i : Int))) : EvD K (tMeth C "letter" (spLetter K C) [] E to (tCons tn tNil)) σ H l.dat := fun H1 e Q q =>
  h H1 e _ fun H2 e2 => by
    have hB2 := hB.ex (e.trans e2)
    obtain ⟨dx, a, hob, _⟩ := id hB2
    exact ⟨p, dx, _, rfl, hob, rfl, (ea_cons (vs := []) hn ea_nil) H2 (e.trans e2) _ fun H3 e3 => by
      rw [List.append_nil]
      exact ⟨p, ls, i, l, rfl, hB2.ex e3, hl, hi, fun r H4 e4 hr => q _ H4 ((e2.trans e3).trans e4) hr⟩⟩
theorem evd_natsU {ns : List Nat} (h : EvU te σ H ((natsI ns).map V.int)) : EvD K te σ H (.tuple ((natsI ns).map PyData.int)) := fun H1 e Q q => h H1 e Q fun p H2 _ e2 h2 => q _ H2 e2 (.tup (st_of h2) (dpa_ints _))
theorem q_forR2n {tu : TS} {ta : TA} {j : Nat} {lo n : Int} (h : EvA ta σ H [.int lo, .int n]) (hn : -1000 ≤ lo ∧ lo ≤ 1000 ∧ -1000 ≤ n ∧ n ≤ 1000) (Pv : Nat → L2.St → Hp → Prop) (h0 : ∀ H1, Ex H H1 → Pv 0 σ H1)
    (hs : ∀ (i : Nat) σ' H', lo + (i : Int) < n → Pv i σ' H' → tu { D with nx := Pv (i + 1), ct := Pv (i + 1), bk := tz D } (σ'.set j (some (.int (lo + (i : Int))))) H') (hd : ∀ σ' H', Pv (n - lo).toNat σ' H' → tz D σ' H') : tSeq (tFor (iRng2 ta) (gName j) tu) tz D σ H :=
  h H (Ex.refl H) _ fun H1 e => ⟨lo, n, rfl, ⟨by omega, by omega, by omega, by omega⟩, for_range (D := { D with nx := tz D }) (lo := lo) (n := (n - lo).toNat) Pv (h0 H1 e) (fun i σ' H' hi p => hs i σ' H' (by omega) p) hd⟩
theorem q_forEnumL {tu : TS} {a : Addr} {xs : List V} {tl : TE} {j l : Nat} (h : Ev tl σ H (.ref a)) (hx : SqL K H a xs) (Pv : Nat → L2.St → Hp → Prop) (h0 : ∀ H1, Ex H H1 → Pv 0 σ H1) (hl : ∀ i σ' H', i ≤ xs.length → Pv i σ' H' → SqL K H' a xs)
    (hs : ∀ (i : Nat) x σ' H' H'', xs[i]? = some x → Pv i σ' H' → Ex H' H'' → tu { D with nx := Pv (i + 1), ct := Pv (i + 1), bk := tz D } ((σ'.set j (some (.int (i : Nat)))).set l (some x)) H'') (hd : ∀ σ' H', Pv xs.length σ' H' → tz D σ' H') : tSeq (tFor (iEnum K (tCons tl tNil)) (gTup K 2 (gCons (gName j) (gCons (gName l) gNil))) tu) tz D σ H := h H (Ex.refl H) _ fun H1 e1 => ⟨a, xs, rfl, ex_l e1 hx, for_it (D := { D with nx := tz D }) walk_enum Pv (h0 H1 e1) hl (fun i x σ' H' H'' hi p y => by
    obtain ⟨T, y1, y2, rfl, hT, rfl, h3, h4⟩ := y
    have h3 : y1 = .int (i : Nat) := (Option.some.inj h3).symm
    subst h3
    exact ⟨T, [.int (i : Nat), y2], rfl, st_of upd_same, rfl, _, _, rfl, _, _, rfl, rfl, hs i y2 σ' H' _ h4 p (Ex.new hT)⟩) hd⟩
theorem ev_strB {E : XK} (ha : Ev ta σ H (.ref p)) (hB : BgAt K C H p ls) (hl : ls.length ≤ 40) : Ev (tCB (rStrO C (Pure (kStrB K C)) E) (tCons ta tNil)) σ H (.str (bagText ls.length)) := fun H1 e Q q => ha H1 e _ fun H2 e2 => by
  have hB2 := hB.ex (e.trans e2)
  obtain ⟨dx, _, hob, _⟩ := id hB2
  exact ⟨p, dx, _, rfl, hob, .str (bagText ls.length), ⟨p, ls, rfl, hB2, hl, rfl⟩, fun H3 e3 => ⟨_, rfl, q H3 (e2.trans e3)⟩⟩
end
section
variable {P : Program} {w : World} {K : PySem.W.Frag} {mg : Str → Option Value} {base : Heap}
theorem eq_bag (T : Txt K mg w) {H : Hp} {p p' : Addr} {ls ls' : List Lt} {E : XK} (h : BgAt K T.C_Bag H p ls) (h' : BgAt K T.C_Bag H p' ls') (ho : ∀ l ∈ ls, l.ok) (ho' : ∀ l ∈ ls', l.ok) : RV (rEqO K T.C_Bag (Pure (kEqB K T.C_Bag)) E) (.ref p) (.ref p') H (.bl (decide (ls = ls'))) := by
  obtain ⟨dx, _, hob, _⟩ := id h
  obtain ⟨dx', _, hob', _⟩ := id h'
  exact rv_eqO hob (fun H1 e => .base (.ins (e _ _ hob') T.cl_Bag T.ha_Bag T.hn_Bag T.ht_Bag T.hm_Bag)) (by unfold PySem.W.notFirst; simp) fun H1 e => ⟨p, ls, _, rfl, h.ex e, .inl ⟨p', ls', rfl, h'.ex e, ho, ho', rfl⟩⟩
theorem ne_bag (T : Txt K mg w) {H : Hp} {p p' : Addr} {ls ls' : List Lt} {E : XK} (h : BgAt K T.C_Bag H p ls) (h' : BgAt K T.C_Bag H p' ls') (ho : ∀ l ∈ ls, l.ok) (ho' : ∀ l ∈ ls', l.ok) : RV (rNeO K T.C_Bag (Pure (kEqB K T.C_Bag)) E) (.ref p) (.ref p') H (.bl (!decide (ls = ls'))) := by
  obtain ⟨dx, _, hob, _⟩ := id h
  obtain ⟨dx', _, hob', _⟩ := id h'
  exact rv_neO hob (fun H1 e => .base (.ins (e _ _ hob') T.cl_Bag T.ha_Bag T.hn_Bag T.ht_Bag T.hm_Bag)) (by unfold PySem.W.notFirst; simp) fun H1 e => ⟨p, ls, _, rfl, h.ex e, .inl ⟨p', ls', rfl, h'.ex e, ho, ho', rfl⟩⟩
theorem eq_bagT (T : Txt K mg w) {H : Hp} {p a : Addr} {ls : List Lt} {xs : List V} {E : XK} (h : BgAt K T.C_Bag H p ls) (hx : H a = some (.tup xs)) : RV (rEqO K T.C_Bag (Pure (kEqB K T.C_Bag)) E) (.ref p) (.ref a) H (.bl false) := by
  obtain ⟨dx, _, hob, _⟩ := id h
  exact rv_eqO hob (fun H1 e => .base (.tup (e _ _ hx))) (by unfold PySem.W.notFirst; simp only [T.hs_Bag_tuple]; simp) fun H1 e => ⟨p, ls, _, rfl, h.ex e, .inr ⟨a, xs, rfl, st_of (e _ _ hx), rfl⟩⟩
theorem rc_lenB (T : Txt K mg w) {H : Hp} {p : Addr} {ls : List Lt} {E : XK} (h : BgAt K T.C_Bag H p ls) (hl : ls.length ≤ 100) : RC (rLenO T.C_Bag (Pure (kLen K T.C_Bag)) E) [.ref p] H (.int (ls.length : Int)) := by
  obtain ⟨dx, _, hob, _⟩ := id h
  exact rc_lenO hob (by omega) (by omega) fun H1 e => ⟨p, ls, rfl, h.ex e, rfl⟩
/-- letters in a list, and a bag of them told -/
def spBagRight (K : PySem.W.Frag) : Sp := fun vs H Q _ => ∃ (p L : Addr) (rs : List Addr) (ls : List Lt), vs = [.ref p, .ref L] ∧ Dice p H ∧ L ≠ p ∧ H L = some (.lst (rs.map V.ref)) ∧ LrsAt K H rs ls ∧ ls.length ≤ 9 ∧ (∀ l ∈ ls, l.ok) ∧ ∀ H', Exd p H H' → Dice p H' → Q (.bl true) H'
theorem ok_bag_right (T : Txt K mg w) : FnOk P w K mg base CX0 13 T.a_law_bag_right T.fd_law_bag_right ["dice", "letters"] (spBagRight K) := by
  have G_law_roll := ok_roll (P := P) (w := w) (base := base) T
  have G_law_lt_goal := ok_law_lt_goal (P := P) (w := w) (base := base) T
  have G_Bag___init__ := ok_init (P := P) (w := w) (base := base) T
  have G_Bag___len__ := ok_len (P := P) (w := w) (base := base) T
  have G_Bag___eq__ := ok_eq (P := P) (w := w) (base := base) T
  have G_Bag___str__ := ok_str (P := P) (w := w) (base := base) T
  have G_Bag_sent := ok_sent (P := P) (w := w) (base := base) T
  have G_Bag_sent_all := ok_sent_all (P := P) (w := w) (base := base) T
  have G_Bag_letter := ok_letter (P := P) (w := w) (base := base) T
  have G_Bag_to := ok_to (P := P) (w := w) (base := base) T
  refine T.F_law_bag_right.ok sc_law_bag_right (fun vs H Q E h => ?_) (fun cdv A outer s H vs Q E hr h => ?_)
  · obtain ⟨_, _, _, _, rfl, _⟩ := h; rfl
  · obtain ⟨p, L, rs, ls, rfl, hd, hLp, hL, hR, hln, ho, q⟩ := h
    refine ⟨_, (pss_cons (ps_par (i := 2) (j := 3) (by rfl) sc_law_bag_right.nd rfl rfl (by decide) rfl rfl (pa_cons (pe_make0 T.mk_Bag G_Bag___init__ (hr.mono (by decide)) (by rfl) T.g_Bag T.bd_Bag___init__ (.cons (a := V.ref T.e_Bag___init__) rfl .nil) pass0) (pa_cons (pe_call G_law_roll (hr.mono (by decide)) (by rfl) T.g_law_roll T.F_law_roll.kp T.b_law_roll .nil pass0 (pa_cons (pv 0) (pa_cons (pe_op op_add (pe_callB c_len (by rfl) T.z_len PySem.boot_len (pa_cons (pv 1) pa_nil)) pe_int) pa_nil))) pa_nil)) (by rfl))
  (pss_cons (ps_for PassesOwn.never rfl (pi_list (pe_slice sl_list (pv 1) po_none (po_some (pv 3)))) (pg_name (i := 4) sc_law_bag_right.nd rfl (.inl rfl)) (pss_cons (ps_set (i := 5) sc_law_bag_right.nd rfl (.inl rfl) (pe_meth (pv 2) T.cl_Bag T.m_Bag_sent G_Bag_sent (hr.mono (by decide)) T.b_Bag_sent .nil pass0 (pa_cons (pv 4) pa_nil)))
  (pss_cons (ps_if (PW.pt (pw_or (pt_cmpR op_ne (pe_callB (c_lenO G_Bag___len__ (hr.mono (by decide)) T.m_Bag___len__ T.b_Bag___len__ pass0) (by rfl) T.z_len PySem.boot_len (pa_cons (pv 5) pa_nil)) (pe_op op_add (pe_callB (c_lenO G_Bag___len__ (hr.mono (by decide)) T.m_Bag___len__ T.b_Bag___len__ pass0) (by rfl) T.z_len PySem.boot_len (pa_cons (pv 2) pa_nil)) pe_int) (nomark _)) (pw_or1 (pt_cmpR (op_eqOK (K := K) rfl G_Bag___eq__ (hr.mono (by decide)) T.m_Bag___eq__ T.b_Bag___eq__ pass0) (pv 5) (pv 2) (nomark _))))) (pss_one (ps_ret pe_bl)) pss_nil)
  (pss_one (ps_set (i := 2) sc_law_bag_right.nd rfl (.inl rfl) (pv 5))))))
  (pss_cons (ps_set (i := 6) sc_law_bag_right.nd rfl (.inl rfl) (pe_meth (pv 2) T.cl_Bag T.m_Bag_sent_all G_Bag_sent_all (hr.mono (by decide)) T.b_Bag_sent_all .nil pass0 (pa_cons (pe_callTy c_tupL (by rfl) T.z_tuple (by decide +kernel) (pa_cons (pe_slice sl_list (pv 1) (po_some (pv 3)) po_none) pa_nil)) pa_nil)))
  (pss_cons (ps_if (PW.pt (pw_or (pt_cmpR (op_neD hr.units) (pe_fld (pv 2) rfl) (pe_callTy c_tupL (by rfl) T.z_tuple (by decide +kernel) (pa_cons (pe_slice sl_list (pv 1) po_none (po_some (pv 3))) pa_nil)) (nomark _)) (pw_or (pt_cmpR (op_neD hr.units) (pe_fld (pv 6) rfl) (pe_callTy c_tupL (by rfl) T.z_tuple (by decide +kernel) (pa_cons (pv 1) pa_nil)) (nomark _)) (pw_or1 (pt_cmpR op_ne (pe_callB (c_lenO G_Bag___len__ (hr.mono (by decide)) T.m_Bag___len__ T.b_Bag___len__ pass0) (by rfl) T.z_len PySem.boot_len (pa_cons (pv 6) pa_nil)) (pe_callB c_len (by rfl) T.z_len PySem.boot_len (pa_cons (pv 1) pa_nil)) (nomark _)))))) (pss_one (ps_ret pe_bl)) pss_nil)
  (pss_cons (ps_if (PW.pt (pw_or (pt_cmpR (op_neOK (K := K) rfl G_Bag___eq__ (hr.mono (by decide)) T.m_Bag___eq__ T.ne_Bag T.ob_Bag T.b_Bag___eq__ pass0) (pv 6) (pe_make T.mk_Bag G_Bag___init__ (hr.mono (by decide)) (by rfl) T.g_Bag T.b_Bag___init__ .nil pass0 (pa_cons (pe_callTy c_tupL (by rfl) T.z_tuple (by decide +kernel) (pa_cons (pv 1) pa_nil)) pa_nil)) (nomark _)) (pw_or (pt_cmpR op_ne (pe_callTy (c_strO G_Bag___str__ (hr.mono (by decide)) T.m_Bag___str__ T.b_Bag___str__ pass0) (by rfl) T.z_str (by decide +kernel) (pa_cons (pv 6) pa_nil)) (pe_op op_add_str (pe_op op_add_str pe_str (pe_callTy call_str_int (by rfl) T.z_str (by decide +kernel) (pa_cons (pe_callB c_len (by rfl) T.z_len PySem.boot_len (pa_cons (pv 1) pa_nil)) pa_nil))) pe_str) (nomark _)) (pw_or1 (pt_cmpR (op_eqOK (K := K) rfl G_Bag___eq__ (hr.mono (by decide)) T.m_Bag___eq__ T.b_Bag___eq__ pass0) (pv 6) (pe_callTy c_tupL (by rfl) T.z_tuple (by decide +kernel) (pa_cons (pv 1) pa_nil)) (nomark _)))))) (pss_one (ps_ret pe_bl)) pss_nil)
  (pss_cons (ps_for PassesOwn.never rfl (pi_enum rfl T.z_enumerate (pa_cons (pv 1) pa_nil)) (pg_tup rfl (pgs_cons (pg_name (i := 7) sc_law_bag_right.nd rfl (.inl rfl)) (pgs_cons (pg_name (i := 4) sc_law_bag_right.nd rfl (.inl rfl)) pgs_nil))) (pss_one (ps_if (pt_cmpR (op_neD hr.units) (pe_meth (pv 6) T.cl_Bag T.m_Bag_letter G_Bag_letter (hr.mono (by decide)) T.b_Bag_letter .nil pass0 (pa_cons (pv 7) pa_nil)) (pv 4) (nomark _)) (pss_one (ps_ret pe_bl)) pss_nil)))
  (pss_cons (ps_for PassesOwn.never rfl (pi_range2 rfl T.z_range (pa_cons (pe_un un_neg pe_int) (pa_cons pe_int pa_nil))) (pg_name (i := 8) sc_law_bag_right.nd rfl (.inr rfl)) (pss_one (ps_if (pt_cmpR (op_neD hr.units) (pe_meth (pv 6) T.cl_Bag T.m_Bag_to G_Bag_to (hr.mono (by decide)) T.b_Bag_to .nil pass0 (pa_cons (pv 8) pa_nil)) (pe_callTy c_tupL (by rfl) T.z_tuple (by decide +kernel) (pa_cons (pe_lc (own := [("number", 7), ("letter", 4)]) (g := gTup _ 2 (gCons (gName 7) (gCons (gName 4) gNil))) (by rfl) sc_law_bag_right.nd (pi_enum rfl T.z_enumerate (pa_cons (pv 1) pa_nil)) (blkOk_by (own := [("number", 7), ("letter", 4)]) (N := ["dice", "letters", "bag", "at", "letter", "later", "whole", "number", "goal"]) (sc := defScope s_law_bag_right) (by decide +kernel)) (fun _ _ _ _ _ => pg_tup rfl (pgs_cons (pg_name (i := 7) sc_law_bag_right.nd rfl (by first | exact Or.inl rfl | exact Or.inr rfl)) (pgs_cons (pg_name (i := 4) sc_law_bag_right.nd rfl (by first | exact Or.inl rfl | exact Or.inr rfl)) pgs_nil))) (fun _ _ _ _ _ => (pts_one (pt_cmpR op_eq (pe_call G_law_lt_goal (hr.mono (by decide)) (by rfl) T.g_law_lt_goal T.F_law_lt_goal.kp T.b_law_lt_goal .nil pass0 (pa_cons (pv 4) pa_nil)) (pv 8) (nomark _)))) (fun _ _ _ _ _ => (pv 7))) pa_nil)) (nomark _)) (pss_one (ps_ret pe_bl)) pss_nil)))
  (pss_one (ps_ret (pe_and (pe_cmpR (op_eqOK (K := K) rfl G_Bag___eq__ (hr.mono (by decide)) T.m_Bag___eq__ T.b_Bag___eq__ pass0) (pv 6) (pe_meth (pv 2) T.cl_Bag T.m_Bag_sent_all G_Bag_sent_all (hr.mono (by decide)) T.b_Bag_sent_all .nil pass0 (pa_cons (pe_callTy c_tupL (by rfl) T.z_tuple (by decide +kernel) (pa_cons (pe_slice sl_list (pv 1) (po_some (pv 3)) po_none) pa_nil)) pa_nil)) (nomark _)) (pe_one (pe_cmpR op_eq (pe_cmpR op_eq (pe_callB c_len (by rfl) T.z_len PySem.boot_len (pa_cons (pv 1) pa_nil)) (pv 3) (nomark _)) (pe_cmpR (op_eqOK (K := K) rfl G_Bag___eq__ (hr.mono (by decide)) T.m_Bag___eq__ T.b_Bag___eq__ pass0) (pv 6) (pv 2) (nomark _)) (nomark _))))))))))))), ?_⟩
    have hrl := hR.1
    refine q_parBD (p := p) (C := T.C_Bag) (ls := []) (eb_make (ap_nil.mono fun vs H1 h1 => ⟨T.e_Bag___init__, by rw [h1]; rfl, [], T.oe_Bag___init__ H1, rfl, fun i r l h => by cases h⟩) ⟨by decide, fun _ h => by cases h⟩) (fun H1 e1 => dv_call (R := fun v => ∃ r : Int, v = .int r ∧ 0 ≤ r ∧ r < (ls.length : Int) + 1) (vs := [.ref p, .int ((ls.length : Int) + 1)]) (fun H2 e2 _ => ea_cons (ev_var rfl) (ea_cons (ev_op (ev_cb (vs := [.ref L]) (ea_cons (ev_var rfl) ea_nil) ?_) ev_c rv_I0) ea_nil)) fun H2 _ _ => ⟨_, rfl, by omega, by omega, rfl⟩) hd fun b v H1 hB hbp ⟨r, hv, r0, r1⟩ e1 d1 => ?_
    · have := rc_lenL (K := K) (H := H2) (sq_of (e2 _ _ hLp (e1 _ _ hL)))
      rwa [List.length_map, hrl] at this
    obtain ⟨at_, rfl⟩ : ∃ k : Nat, r = k := ⟨r.toNat, by omega⟩
    subst hv
    have hat : at_ ≤ ls.length := by omega
    obtain ⟨z1, z2, z3, hz⟩ := id hd
    have hR1 : LrsAt K H1 rs ls := hR.st fun b xs h => sqt_dc hz e1 h
    have hL1 : H1 L = some (.lst (rs.map V.ref)) := e1 _ _ hLp hL
    have okT : ∀ n, ∀ l ∈ ls.take n, l.ok := fun n l h => ho l (List.mem_of_mem_take h)
    let Pv : Addr → Nat → L2.St → Hp → Prop := fun l i σ' H' => ∃ (b : Addr) (q1 q2 : Option V), σ' = [some (.ref p), some (.ref L), some (.ref b), some (.int (at_ : Int)), q1, q2, none, none, none] ∧ Ex H1 H' ∧ H' l = some (.lst ((rs.take at_).map V.ref)) ∧ BgAt K T.C_Bag H' b (ls.take i)
    refine q_forNL (xs := (rs.take at_).map V.ref) ?_ Pv (fun l H2 hl e2 h2 => ⟨b, none, none, rfl, e2, h2, by rw [List.take_zero]; exact hB.ex e2⟩) (fun l i σ' H' _ ⟨_, _, _, _, _, h2, _⟩ => sq_of h2) (fun l i x σ' H' hx ⟨b, q1, q2, hσ, e2, h2, hB⟩ => ?_) fun l σ' H' ⟨b, q1, q2, hσ, e2, h2, hB⟩ => ?_
    · rw [List.map_take]
      exact el_takeL (ev_var rfl) (ev_var rfl) (sq_of hL1)
    · subst hσ
      rw [List.getElem?_map] at hx
      cases hr : (rs.take at_)[i]? with
      | none => rw [hr] at hx; cases hx
      | some r =>
        rw [hr] at hx
        obtain rfl := (Option.some.inj hx).symm
        have hir : i < at_ := by
          have := (List.getElem?_eq_some_iff.mp hr).1
          rw [List.length_take] at this
          omega
        have hil : i < ls.length := by omega
        have hrr : rs[i]? = some r := by rwa [List.getElem?_take_of_lt hir] at hr
        have hll : ls[i]? = some ls[i] := List.getElem?_eq_getElem hil
        have hlt := hR1.2 i r _ hrr hll
        have hln2 : (ls.take i).length = i := by rw [List.length_take]; omega
        have hln3 : (ls.take (i + 1)).length = i + 1 := by rw [List.length_take]; omega
        have htk : ls.take (i + 1) = ls.take i ++ [ls[i]] := List.take_succ_eq_append_getElem hil
        obtain ⟨dx, a, hob, hLa⟩ := id hB
        refine q_asgB (C := T.C_Bag) (ls := ls.take (i + 1)) (eb_meth (ev_var rfl) hob rfl (ap_of (ea_cons (ev_var rfl) ea_nil)) fun vs H3 e3 hv => ⟨b, r, ls.take i, ls[i], by rw [hv], hB.ex e3, by omega, hlt.ex (e2.trans e3), ho _ (List.getElem_mem hil), htk⟩) fun b' H3 hb' e3 hB' => ?_
        have hB3 := hB.ex e3
        refine q_when (b := false) (et_is (et_or (a := false) (b := false) (et_is (et_test (ev_op (ev_cb (vs := [.ref b']) (ea_cons (ev_var rfl) ea_nil) (rc_lenB T hB' (by omega))) (ev_op (ev_cb (vs := [.ref b]) (ea_cons (ev_var rfl) ea_nil) (rc_lenB T hB3 (by omega))) ev_c rv_I0) (rv_ne rfl))) (by rw [hln3, hln2]; simp)) fun _ => et_is (et_test (ev_op (ev_var rfl) (ev_var rfl) (eq_bag T hB' hB3 (okT _) (okT _)))) (by
          rw [decide_eq_false_iff_not]
          intro z
          have := congrArg List.length z
          omega)) rfl) (fun h => by cases h) fun _ H4 e4 => ?_
        exact ⟨.ref b', rfl, b', some (.ref r), some (.ref b'), rfl, (e2.trans e3).trans e4, (e3.trans e4) _ _ h2, hB'.ex e4⟩
    · subst hσ
      have hlt : ((rs.take at_).map V.ref).length = at_ := by rw [List.length_map, List.length_take]; omega
      rw [hlt] at hB
      obtain ⟨dx, a, hob, hLa⟩ := id hB
      have hLL : H' L = some (.lst (rs.map V.ref)) := e2 _ _ hL1
      have hRR := hR1.ex e2
      have hlt1 : (ls.take at_).length = at_ := by rw [List.length_take]; omega
      have hld : (ls.drop at_).length = ls.length - at_ := List.length_drop
      have okD : ∀ l ∈ ls.drop at_, l.ok := fun l h => ho l (List.mem_of_mem_drop h)
      refine q_asgB (C := T.C_Bag) (ls := ls) (eb_meth (ev_var rfl) hob rfl (ap_consU (eu_tupL (el_dropL (ev_var rfl) (ev_var rfl) (sq_of hLL))) ap_nil) fun vs H3 e3 ⟨c, ws, hv, hc, hw⟩ => ⟨b, c, ls.take at_, ls.drop at_, by rw [hv, hw], hB.ex e3, by omega, ⟨rs.drop at_, by rw [List.map_drop]; exact st_of hc, (hRR.ex e3).drop at_⟩, ⟨by omega, okD⟩, (List.take_append_drop at_ ls).symm⟩) fun wh H3 hwh e3 hW => ?_
      have hB3 := hB.ex e3
      have hL3 : H3 L = some (.lst (rs.map V.ref)) := e3 _ _ hLL
      have hR3 := hRR.ex e3
      obtain ⟨dw, aw, hobw, hLw⟩ := id hW
      have lenL : ∀ {H4 : Hp}, Ex H3 H4 → RC (rLenS K) [.ref L] H4 (.int (ls.length : Int)) := fun {H4} e => by
        have := rc_lenL (K := K) (H := H4) (sq_of (e _ _ hL3))
        rwa [List.length_map, hrl] at this
      refine q_when (b := false) (et_is (et_or (a := false) (b := false) (et_is (et_test (ev_neD (evd_of (ev_fld (ev_var rfl) (e3 _ _ hob) T.cl_Bag T.n_Bag_letters rfl) fun H1 e => ((hLa.ex e3).ex e).dp) (evd_lsU (rs := rs.take at_) (by rw [List.map_take]; exact eu_tupL (el_takeL (ev_var rfl) (ev_var rfl) (sq_of hL3))) (hR3.take at_)) (shaped_ls (okT _)) (shaped_ls (okT _)))) (by rw [eqv_ls]; simp)) fun _ => et_is (et_or (a := false) (b := false) (et_is (et_test (ev_neD (evd_of (ev_fld (ev_var rfl) hobw T.cl_Bag T.n_Bag_letters rfl) fun H1 e => (hLw.ex e).dp) (evd_lsU (rs := rs) (eu_tupV (ev_var rfl) (sq_of hL3)) hR3) (shaped_ls ho) (shaped_ls ho))) (by rw [eqv_ls]; simp)) fun _ => et_is (et_test (ev_op (ev_cb (vs := [.ref wh]) (ea_cons (ev_var rfl) ea_nil) (rc_lenB T hW (by omega))) (ev_cb (vs := [.ref L]) (ea_cons (ev_var rfl) ea_nil) (lenL (Ex.refl H3))) (rv_ne rfl))) (by simp)) rfl) rfl) (fun h => by cases h) fun _ H4 e4 => ?_
      have hW4 := hW.ex e4
      have hL4 : H4 L = some (.lst (rs.map V.ref)) := e4 _ _ hL3
      have hR4 := hR3.ex e4
      have h2 := int_text_len_1921 (log_small (n := ls.length) (by omega))
      have e9 : (Str.ofString "bag of ").length = 7 := by decide +kernel
      have e7 : (Str.ofString " letters").length = 8 := by decide +kernel
      have hzz : sizeLine = 16777216 := sizeLine_eq
      refine q_when (b := false) (et_is (et_or (a := false) (b := false) (et_is (et_test (ev_opB (C := T.C_Bag) (ls := ls) (ev_var rfl) (eb_make (ap_monoX (ap_consU (eu_tupV (ev_var rfl) (sq_of hL4)) ap_nil) fun vs H5 e5 ⟨c, ws, hv, hc, hw⟩ => ⟨c, by rw [hv, hw]; rfl, rs, st_of hc, hR4.ex e5⟩) ⟨by omega, ho⟩) fun p' H5 e5 hB' => ne_bag T (hW4.ex e5) hB' ho ho)) (by simp)) fun _ => et_is (et_or (a := false) (b := false) (et_is (et_test (ev_op (ev_strB (ev_var rfl) hW4 (by omega)) (ev_op (ev_op (ev_c (v := .str "bag of ")) (ev_cb (vs := [.int ls.length]) (ea_cons (ev_cb (vs := [.ref L]) (ea_cons (ev_var rfl) ea_nil) (lenL e4)) ea_nil) (rc_si (log_small (by omega)))) (rv_cs (by omega))) (ev_c (v := .str " letters")) (rv_cs (by rw [Str.length_append]; omega))) (rv_ne rfl))) (by unfold bagText; simp)) fun _ => et_test (ev_opU (ev_var rfl) (eu_tupV (ev_var rfl) (sq_of hL4)) fun p' H5 e5 hp' => eq_bagT T (hW4.ex e5) hp')) rfl) rfl) (fun h => by cases h) fun _ H5 e5 => ?_
      have eR : ∀ {H6 : Hp}, Ex H4 H6 → ∀ {i : Nat} {x : V}, (rs.map V.ref)[i]? = some x → ∃ (r : Addr) (l : Lt), x = .ref r ∧ ls[i]? = some l ∧ LtAt K H6 r l := fun {H6} e {i x} hx => by
        obtain ⟨r, l, h1, _, h3, h4⟩ := (hR4.ex e).at hx
        exact ⟨r, l, h1, h3, h4⟩
      let P2 : Nat → L2.St → Hp → Prop := fun _ σ' H' => ∃ q1 q2 q7 : Option V, σ' = [some (.ref p), some (.ref L), some (.ref b), some (.int (at_ : Int)), q1, q2, some (.ref wh), q7, none] ∧ Ex H4 H'
      refine q_forEnumL (ev_var rfl) (sq_of (e5 _ _ hL4)) P2 (fun H6 e6 => ⟨_, _, _, rfl, e5.trans e6⟩) (fun i σ' H' _ ⟨_, _, _, _, e6⟩ => sq_of (e6 _ _ hL4)) (fun i x σ' H' H'' hx ⟨q1, q2, q7, hσ, e6⟩ ex => ?_) fun σ' H' ⟨q1, q2, q7, hσ, e6⟩ => ?_
      · subst hσ
        obtain ⟨r, l, rfl, hl1, hl2⟩ := eR (e6.trans ex) hx
        have hol := ho l (List.mem_of_getElem? hl1)
        exact s_when (b := false) (et_is (et_test (ev_neD (evd_letter (ev_var rfl) (hW4.ex (e6.trans ex)) (by omega) hl1 (ev_var rfl)) (evd_of (ev_var rfl) fun H1 e => hl2.ex e) (shaped_lt hol) (shaped_lt hol))) (by rw [eqv_lt]; simp)) (fun h => by cases h) (fun _ H6 e7 => ⟨_, _, _, rfl, (e6.trans ex).trans e7⟩)
      subst hσ
      let P3 : Nat → L2.St → Hp → Prop := fun _ σ' H' => ∃ q1 q2 q7 q8 : Option V, σ' = [some (.ref p), some (.ref L), some (.ref b), some (.int (at_ : Int)), q1, q2, some (.ref wh), q7, q8] ∧ Ex H4 H'
      refine q_forR2n (lo := -1) (n := 6) (ea_cons (ev_un ev_c (fun Ha _ Q qa => ⟨1, rfl, qa Ha (Ex.refl Ha)⟩)) (ea_cons ev_c ea_nil)) (by omega) P3 (fun H6 e7 => ⟨_, _, _, _, rfl, e6.trans e7⟩) (fun i σ' H' hi ⟨q1, q2, q7, q8, hσ, e6⟩ => ?_) fun σ' H' ⟨q1, q2, q7, q8, hσ, e6⟩ => ?_
      · subst hσ
        have hW6 := hW4.ex e6
        obtain ⟨dx6, aw6, hob6, _⟩ := id hW6
        have hL6 := e6 _ _ hL4
        have e := given_filt ls.length (fun k => decide ((ls.getD k (.word 0 "")).goal = -1 + (i : Int)))
        refine s_when (b := false) (et_is (et_test (ev_neD (evd_natsU (ns := (List.range ls.length).filter fun k => decide ((ls.getD k (.word 0 "")).goal = -1 + (i : Int))) (by
          rw [← e]
          exact eu_methT (vs := [.int (-1 + (i : Int))]) (ev_var rfl) hob6 rfl (ea_cons (ev_var rfl) ea_nil) fun H7 e7 => ⟨wh, -1 + (i : Int), ls, rfl, hW6.ex e7, by omega, by omega, by omega, rfl⟩)) (evd_natsU (ns := (List.range ls.length).filter fun k => decide ((ls.getD k (.word 0 "")).goal = -1 + (i : Int))) (by
          rw [← e]
          have hlm : (rs.map V.ref).length = ls.length := by rw [List.length_map, hrl]
          rw [← hlm]
          refine eu_tupL (el_lcEnumL _ _ (ea_cons (ev_var rfl) ea_nil) (sq_of hL6) (by omega) (fun _ _ => rfl) (fun k x H7 e7 hx => ?_) fun k x H7 e7 hx _ => ev_var rfl)
          obtain ⟨r, l, rfl, h1, h3⟩ := eR (e6.trans e7) hx
          have hd : ls.getD k (.word 0 "") = l := by rw [List.getD_eq_getElem?_getD, h1]; rfl
          rw [hd]
          exact et_is (et_test (ev_op (ev_callP (vs := [.ref r]) (by walk_at "ea") fun H8 e8 => ⟨r, l, rfl, h3.ex e8, rfl⟩) (ev_var rfl) (rv_eq rfl))) (decide_eq_decide.mpr ⟨V.int.inj, fun h => by rw [h]⟩))) (shaped_tup _) (shaped_tup _))) (by rw [eqv_tup]; rfl)) (fun h => by cases h) (fun _ H7 e7 => ⟨_, _, _, _, rfl, e6.trans e7⟩)
      subst hσ
      have hW6 := hW4.ex e6
      have x6 := (e3.trans e4).trans e6
      have hB6 := hB.ex x6
      have hob6 := x6 _ _ hob
      have hL6 := e6 _ _ hL4
      have hR6 := hR4.ex e6
      refine s_ret (v := .bl true) (ev_is (ev_andV (a := true) (b := true) (ev_is (ev_opB (C := T.C_Bag) (ls := ls) (ev_var rfl) (eb_meth (ev_var rfl) hob6 rfl (ap_consU (eu_tupL (el_dropL (ev_var rfl) (ev_var rfl) (sq_of hL6))) ap_nil) fun vs H7 e7 ⟨c, ws, hv, hc, hw⟩ => ⟨b, c, ls.take at_, ls.drop at_, by rw [hv, hw], hB6.ex e7, by omega, ⟨rs.drop at_, by rw [List.map_drop]; exact st_of hc, (hR6.ex e7).drop at_⟩, ⟨by omega, okD⟩, (List.take_append_drop at_ ls).symm⟩) fun p' H7 e7 hB' => eq_bag T (hW6.ex e7) hB' ho ho) (by simp)) fun _ => ev_is (ev_op (ev_op (ev_cb (vs := [.ref L]) (ea_cons (ev_var rfl) ea_nil) (lenL (e4.trans e6))) (ev_var rfl) (rv_eq rfl)) (ev_op (ev_var rfl) (ev_var rfl) (eq_bag T hW6 hB6 ho (okT _))) (rv_eq rfl)) ?_) rfl) fun H7 e7 => q H7 (e1.trans (Exd.of ((e2.trans x6).trans e7))) (d1.ex ((e2.trans x6).trans e7))
      refine congrArg V.bl (decide_eq_true (congrArg V.bl (decide_eq_decide.mpr ⟨fun h => ?_, fun h => ?_⟩)))
      · have h := V.int.inj h
        exact (List.take_of_length_le (by omega)).symm
      · have h := congrArg List.length h
        rw [hlt1] at h
        rw [h]
end
end Kz
set_option Elab.async false
set_option linter.all false
set_option maxRecDepth 100000
set_option maxHeartbeats 4000000
set_option exponentiation.threshold 500
namespace Kz
open PySem PySem.Spec PyProof.Rows L2 Evl Vr
local macro_rules | `(tactic| walk_at "sc") => `(tactic| first | (with_reducible assumption) | (with_reducible exact sc_mul (by omega)) | (with_reducible exact sc_mulr (by omega)) | (with_reducible exact sc_div (by omega) (by decide)) | (show (0 : Int) < _; omega) | (show _ ≠ (0 : Int); omega) | (with_reducible rfl) | decide)
local macro_rules | `(tactic| walk_at "sq") => `(tactic| first | assumption | exact sq_of (by assumption) | exact st_of (by assumption))
local macro_rules | `(tactic| walk_at "pl") => `(tactic| first | assumption | exact pl_int | exact pl_bl | exact pl_str | exact pl_non | exact pl_lst (by assumption) | exact pl_tup (by assumption) | exact pl_dK (by assumption))
local macro_rules | `(tactic| walk_at "rv") => `(tactic| first
  | with_reducible exact rv_I0
  | with_reducible exact ru_neg
  | ((with_reducible apply rv_I); walk_at "sc")
  | ((with_reducible apply rv_ixL); walk_at "sq"; first | rfl | assumption)
  | ((with_reducible apply rv_ixT); walk_at "sq"; first | rfl | assumption)
  | ((with_reducible apply rv_eq); rfl) | ((with_reducible apply rv_ne); rfl))
local macro_rules | `(tactic| walk_at "rc") => `(tactic| first
  | with_reducible exact rc_I1 | with_reducible exact rc_B1 | with_reducible exact rc_I2 | ((with_reducible apply rc_repr); walk_at "sc") | ((with_reducible apply rc_lenL); walk_at "sq")
  | ((with_reducible apply rc_isiInt); walk_at "pl") | ((with_reducible apply rc_isiBool); walk_at "pl"))
local macro_rules | `(tactic| walk_at "ea") => `(tactic| first
  | with_reducible exact ea_nil | ((with_reducible apply ea_cons); walk_at "ev"; walk_at "ea"))
local macro_rules | `(tactic| walk_at "pow") => `(tactic| first
  | with_reducible exact ev_pow (a := 10) (b := 9) (c := 1000000000) (by decide +kernel) (by decide +kernel)
  | with_reducible exact ev_pow (a := 10) (b := 10) (c := 10000000000) (by decide +kernel) (by decide +kernel)
  | with_reducible exact ev_pow (a := 10) (b := 12) (c := 1000000000000) (by decide +kernel) (by decide +kernel)
  | with_reducible exact ev_pow (a := 10) (b := 17) (c := 100000000000000000) (by decide +kernel) (by decide +kernel)
  | with_reducible exact ev_pow (a := 10) (b := 20) (c := 100000000000000000000) (by decide +kernel) (by decide +kernel)
  | with_reducible exact ev_pow (a := 10) (b := 29) (c := 100000000000000000000000000000) (by decide +kernel) (by decide +kernel)
  | with_reducible exact ev_pow (a := 10) (b := 30) (c := 1000000000000000000000000000000) (by decide +kernel) (by decide +kernel)
  | with_reducible exact ev_pow (a := 10) (b := 40) (c := 10000000000000000000000000000000000000000) (by decide +kernel) (by decide +kernel)
  | with_reducible exact ev_pow (a := 10) (b := 57) (c := 1000000000000000000000000000000000000000000000000000000000) (by decide +kernel) (by decide +kernel)
  | with_reducible exact ev_pow (a := 10) (b := 58) (c := 10000000000000000000000000000000000000000000000000000000000) (by decide +kernel) (by decide +kernel)
  | with_reducible exact ev_pow (a := 10) (b := 59) (c := 100000000000000000000000000000000000000000000000000000000000) (by decide +kernel) (by decide +kernel)
  | with_reducible exact ev_pow (a := 10) (b := 60) (c := 1000000000000000000000000000000000000000000000000000000000000) (by decide +kernel) (by decide +kernel))
local macro_rules | `(tactic| walk_at "call") => `(tactic| (intro H9 e9; first | exact ⟨_, rfl, rfl⟩ | exact ⟨_, _, rfl, rfl⟩ | exact ⟨_, _, _, rfl, rfl⟩ | exact ⟨_, rfl, by walk_at "pl", rfl⟩ | (refine ⟨_, _, _, rfl, ?_, rfl⟩; first | exact Plain.ex e9 (by assumption) | walk_at "pl") | (refine ⟨_, rfl, ?_, rfl⟩; first | exact Plain.ex e9 (by assumption) | walk_at "pl")))
local macro_rules | `(tactic| walk_at "ev") => `(tactic| first
  | with_reducible exact ev_c
  | exact ev_var rfl
  | walk_at "pow"
  | ((with_reducible apply ev_op); walk_at "ev"; walk_at "ev"; walk_at "rv")
  | ((with_reducible apply ev_un); walk_at "ev"; walk_at "rv")
  | ((with_reducible apply ev_cb); walk_at "ea"; walk_at "rc")
  | ((with_reducible apply ev_callP); walk_at "ea"; walk_at "call")
  | ((with_reducible apply ev_chain); walk_at "ev"; walk_at "ev"; walk_at "rv"; walk_at "ev"; walk_at "rv")
  | ((with_reducible apply ev_andV); walk_at "ev"; intro _; walk_at "ev")
  | ((with_reducible apply ev_orV); walk_at "ev"; intro _; walk_at "ev")
  | ((with_reducible apply ev_ite); walk_at "et"; intro _; walk_at "ev"; intro _; walk_at "ev")
  | ((with_reducible apply ev_notV); walk_at "ev"))
local macro_rules | `(tactic| walk_at "et") => `(tactic| first
  | ((with_reducible apply et_test); walk_at "ev")
  | ((with_reducible apply et_B); walk_at "ev")
  | ((with_reducible apply et_and); walk_at "et"; intro _; walk_at "et")
  | ((with_reducible apply et_or); walk_at "et"; intro _; walk_at "et")
  | ((with_reducible apply et_not); walk_at "et"))
open En Wo Tx
theorem ev_go {te : TE} {σ : L2.St} {H : Hp} {v : V} {Q : VK} (h : Ev te σ H v) (k : ∀ H1, Ex H H1 → Q v H1) : te σ H Q := h H (Ex.refl H) Q k
section
variable {H0 H H' : Hp} {d a z : Addr} {kvs : List (Key × V)} {f : Int → List Nat} {g : Int}
/-- what is left of each goal's letters: a dict of lists, all new -/
def LeftAt (H0 H : Hp) (d : Addr) (kvs : List (Key × V)) (f : Int → List Nat) : Prop :=
  H d = some (.dK kvs) ∧ (∀ kv ∈ kvs, ∃ (g : Int) (a : Addr), kv = (.inl g, .ref a) ∧ valV kvs (.inl g) = some (.ref a)) ∧
  (∀ g v, valV kvs (.inl g) = some v → ∃ a, v = .ref a ∧ a ≠ d ∧ H0 a = none ∧ H a = some (.lst ((natsI (f g)).map V.int))) ∧ (∀ g, valV kvs (.inl g) = none → f g = []) ∧
  ∀ g g' a, valV kvs (.inl g) = some (.ref a) → valV kvs (.inl g') = some (.ref a) → g = g'
theorem LeftAt.ex (e : Ex H H') (h : LeftAt H0 H d kvs f) : LeftAt H0 H' d kvs f := by
  obtain ⟨h1, h2, h3, h4, h5⟩ := h
  refine ⟨e _ _ h1, h2, fun g v hv => ?_, h4, h5⟩
  obtain ⟨a, x1, x2, x3, x4⟩ := h3 g v hv
  exact ⟨a, x1, x2, x3, e _ _ x4⟩
theorem LeftAt.set (h : LeftAt H0 H d kvs f) (hv : valV kvs (.inl g) = some (.ref a)) (ns : List Nat) : LeftAt H0 (upd H a (.lst ((natsI ns).map V.int))) d kvs (fun x => if x = g then ns else f x) := by
  obtain ⟨h1, h2, h3, h4, h5⟩ := h
  obtain ⟨a0, y1, y2, y3, y4⟩ := h3 g _ hv
  cases y1
  refine ⟨by rw [upd_ne (Ne.symm y2)]; exact h1, h2, fun g' v hv' => ?_, fun g' hn => ?_, h5⟩
  · obtain ⟨a', rfl, x2, x3, x4⟩ := h3 g' v hv'
    by_cases zz : g' = g
    · subst zz
      rw [hv] at hv'
      cases hv'
      exact ⟨a, rfl, y2, y3, by simp [upd_same]⟩
    · have hne : a' ≠ a := fun e => zz (h5 _ _ a' hv' (by rw [e]; exact hv))
      exact ⟨a', rfl, x2, x3, by
        show upd H a _ a' = some (.lst ((natsI (if g' = g then ns else f g')).map V.int))
        rw [upd_ne hne, if_neg zz]
        exact x4⟩
  · show (if g' = g then ns else f g') = []
    rw [if_neg (fun e => by rw [e, hv] at hn; cases hn)]
    exact h4 g' hn
theorem LeftAt.dc {p : Addr} (hd : Dice p H0) (hdp : d ≠ p) (e : Exd p H H') (h : LeftAt H0 H d kvs f) : LeftAt H0 H' d kvs f := by
  obtain ⟨h1, h2, h3, h4, h5⟩ := h
  refine ⟨e _ _ hdp h1, h2, fun g v hv => ?_, h4, h5⟩
  obtain ⟨a, x1, x2, x3, x4⟩ := h3 g v hv
  exact ⟨a, x1, x2, x3, e _ _ (hd.ne x3) x4⟩
theorem LeftAt.other {b : Addr} {o : HO} (hb : b ≠ d) (hn : ∀ g a, valV kvs (.inl g) = some (.ref a) → a ≠ b) (h : LeftAt H0 H d kvs f) : LeftAt H0 (upd H b o) d kvs f := by
  obtain ⟨h1, h2, h3, h4, h5⟩ := h
  refine ⟨by rw [upd_ne (Ne.symm hb)]; exact h1, h2, fun g v hv => ?_, h4, h5⟩
  obtain ⟨a, rfl, x2, x3, x4⟩ := h3 g v hv
  exact ⟨a, rfl, x2, x3, by rw [upd_ne (hn g a hv)]; exact x4⟩
theorem LeftAt.new (h : LeftAt H0 H d kvs f) (hv : valV kvs (.inl g) = none) (hz : H z = none) (hz0 : H0 z = none) : LeftAt H0 (upd (upd H z (.lst [])) d (.dK (putK kvs (.inl g) (.ref z)))) d (putK kvs (.inl g) (.ref z)) f ∧ valV (putK kvs (.inl g) (.ref z)) (.inl g) = some (.ref z) := by
  obtain ⟨h1, h2, h3, h4, h5⟩ := h
  have hzd : z ≠ d := fun e => by rw [e, h1] at hz; cases hz
  have hne : ∀ {g' : Int} {a : Addr}, valV kvs (.inl g') = some (.ref a) → a ≠ z := fun {g' a} hx e => by
    obtain ⟨a', y1, y2, y3, y4⟩ := h3 g' _ hx
    cases y1
    rw [e, hz] at y4
    cases y4
  have hp : ∀ j : Key, valV (putK kvs (.inl g) (.ref z)) j = if j = .inl g then some (.ref z) else valV kvs j := fun j => valV_put kvs _ j _
  refine ⟨⟨upd_same, fun kv hkv => ?_, fun g' v hv' => ?_, fun g' hn => ?_, fun g1 g2 a e1 e2 => ?_⟩, by rw [hp, if_pos rfl]⟩
  · rw [putK_new _ hv] at hkv
    rcases List.mem_append.mp hkv with y | y
    · obtain ⟨g', a, rfl, x2⟩ := h2 kv y
      refine ⟨g', a, rfl, ?_⟩
      rw [hp, if_neg (fun e => by rw [← e, x2] at hv; cases hv)]
      exact x2
    · rw [List.mem_singleton.mp y]
      exact ⟨g, z, rfl, by rw [hp, if_pos rfl]⟩
  · rw [hp] at hv'
    by_cases e : (.inl g' : Key) = .inl g
    · rw [if_pos e] at hv'
      cases hv'
      have e' : g' = g := Sum.inl.inj e
      exact ⟨z, rfl, hzd, hz0, by rw [upd_ne hzd, upd_same, e', h4 g hv]; rfl⟩
    · rw [if_neg e] at hv'
      obtain ⟨a', rfl, x2, x3, x4⟩ := h3 g' v hv'
      exact ⟨a', rfl, x2, x3, by rw [upd_ne x2, upd_ne (hne hv')]; exact x4⟩
  · rw [hp] at hn
    by_cases e : (.inl g' : Key) = .inl g
    · rw [if_pos e] at hn; cases hn
    · rw [if_neg e] at hn; exact h4 g' hn
  · rw [hp] at e1 e2
    by_cases c1 : (.inl g1 : Key) = .inl g <;> by_cases c2 : (.inl g2 : Key) = .inl g
    · exact Sum.inl.inj (c1.trans c2.symm)
    · rw [if_pos c1] at e1; rw [if_neg c2] at e2
      cases e1
      exact absurd rfl (hne e2)
    · rw [if_neg c1] at e1; rw [if_pos c2] at e2
      cases e2
      exact absurd rfl (hne e1)
    · rw [if_neg c1] at e1; rw [if_neg c2] at e2
      exact h5 _ _ _ e1 e2
end
/-- lists that agree goal by goal are as long -/
theorem len_of_goals (gl : Nat → Int) : ∀ (n : Nat) (as bs : List Nat), bs.length ≤ n → (∀ g : Int, as.filter (fun x => decide (gl x = g)) = bs.filter (fun x => decide (gl x = g))) → as.length = bs.length := by
  intro n
  induction n with
  | zero =>
    intro as bs hb h
    have hb0 : bs = [] := List.length_eq_zero_iff.mp (by omega)
    subst hb0
    cases as with
    | nil => rfl
    | cons a as =>
      have := h (gl a)
      simp at this
  | succ n ih =>
    intro as bs hb h
    cases bs with
    | nil =>
      cases as with
      | nil => rfl
      | cons a as =>
        have := h (gl a)
        simp at this
    | cons b bs =>
      have key : ∀ (l : List Nat), l.length = (l.filter fun x => decide (gl x = gl b)).length + (l.filter fun x => !decide (gl x = gl b)).length := fun l => by
        induction l with
        | nil => rfl
        | cons y l ih =>
          by_cases hy : gl y = gl b
          · simp [List.filter_cons, hy]; omega
          · simp [List.filter_cons, hy]; omega
      have h2 : ∀ (l : List Nat) (g : Int), (l.filter fun x => !decide (gl x = gl b)).filter (fun x => decide (gl x = g)) = if g = gl b then [] else l.filter fun x => decide (gl x = g) := fun l g => by
        rw [List.filter_filter]
        by_cases hg : g = gl b
        · subst hg
          rw [if_pos rfl, List.filter_eq_nil_iff]
          intro x _
          simp
        · rw [if_neg hg]
          refine List.filter_congr fun x _ => ?_
          by_cases hx : gl x = g
          · simp [hx, hg]
          · simp [hx]
      rw [key as, key (b :: bs), h (gl b), ih (as.filter fun x => !decide (gl x = gl b)) ((b :: bs).filter fun x => !decide (gl x = gl b)) ?_ fun g => by rw [h2, h2, h g]]
      have := List.length_filter_le (fun x => !decide (gl x = gl b)) bs
      simp only [List.length_cons] at hb
      rw [List.filter_cons]
      simp
      omega
/-- a list that lacks some of a goal is shorter -/
theorem short_of_goals (gl : Nat → Int) : ∀ (n : Nat) (as bs : List Nat) (f : Int → List Nat), bs.length ≤ n → (∀ g : Int, as.filter (fun x => decide (gl x = g)) ++ f g = bs.filter (fun x => decide (gl x = g))) → as.length ≤ bs.length ∧ ∀ g, f g ≠ [] → as.length < bs.length := by
  intro n
  induction n with
  | zero =>
    intro as bs f hb h
    have hb0 : bs = [] := List.length_eq_zero_iff.mp (by omega)
    subst hb0
    refine ⟨?_, fun g hg => absurd (List.append_eq_nil_iff.mp (h g)).2 hg⟩
    cases as with
    | nil => exact Nat.le_refl _
    | cons a as =>
      have := (List.append_eq_nil_iff.mp (h (gl a))).1
      simp at this
  | succ n ih =>
    intro as bs f hb h
    cases bs with
    | nil =>
      refine ⟨?_, fun g hg => absurd (List.append_eq_nil_iff.mp (h g)).2 hg⟩
      cases as with
      | nil => exact Nat.le_refl _
      | cons a as =>
        have := (List.append_eq_nil_iff.mp (h (gl a))).1
        simp at this
    | cons b bs =>
      have key : ∀ (l : List Nat), l.length = (l.filter fun x => decide (gl x = gl b)).length + (l.filter fun x => !decide (gl x = gl b)).length := fun l => by
        induction l with
        | nil => rfl
        | cons y l ih =>
          by_cases hy : gl y = gl b
          · simp [List.filter_cons, hy]; omega
          · simp [List.filter_cons, hy]; omega
      have h2 : ∀ (l : List Nat) (g : Int), (l.filter fun x => !decide (gl x = gl b)).filter (fun x => decide (gl x = g)) = if g = gl b then [] else l.filter fun x => decide (gl x = g) := fun l g => by
        rw [List.filter_filter]
        by_cases hg : g = gl b
        · subst hg
          rw [if_pos rfl, List.filter_eq_nil_iff]
          intro x _
          simp
        · rw [if_neg hg]
          refine List.filter_congr fun x _ => ?_
          by_cases hx : gl x = g
          · simp [hx, hg]
          · simp [hx]
      have hl : ((b :: bs).filter fun x => !decide (gl x = gl b)).length ≤ n := by
        have := List.length_filter_le (fun x => !decide (gl x = gl b)) bs
        simp only [List.length_cons] at hb
        rw [List.filter_cons]
        simp
        omega
      obtain ⟨i1, i2⟩ := ih (as.filter fun x => !decide (gl x = gl b)) ((b :: bs).filter fun x => !decide (gl x = gl b)) (fun g => if g = gl b then [] else f g) hl fun g => by
        rw [h2, h2]
        by_cases hg : g = gl b
        · simp [hg]
        · simp only [if_neg hg]
          exact h g
      have k1 := key as
      have k2 := key (b :: bs)
      have k3 := congrArg List.length (h (gl b))
      rw [List.length_append] at k3
      refine ⟨by omega, fun g hg => ?_⟩
      by_cases e : g = gl b
      · subst e
        have : 0 < (f (gl b)).length := List.length_pos_iff.mpr hg
        omega
      · have := i2 g (by simp only [if_neg e]; exact hg)
        omega
section
variable {σ : L2.St} {H : Hp} {t : TT} {te td ty : TE} {K : PySem.W.Frag} {d : Addr} {kvs : List (Key × V)}
theorem el_lcKeys {od : Obj} {j : Nat} {vs : List Nat} (f : Nat → Bool) (v : Nat → V) (hs : Ev td σ H (.ref d)) (hd : H d = some (.frz od (.dK kvs))) (hz : kvs.length ≤ 40000) (hw : ∀ x, wipe ((wipe σ vs).set j (some x)) vs = wipe σ vs)
    (ht : ∀ i k u H1, Ex H H1 → kvs[i]? = some (k, u) → EvT t ((wipe σ vs).set j (some (kV k))) H1 (f i)) (he : ∀ i k u H1, Ex H H1 → kvs[i]? = some (k, u) → f i = true → Ev te ((wipe σ vs).set j (some (kV k))) H1 (v i)) :
    EvL (tLc (iKeys td) (gName j) t te vs) σ H (given kvs.length f v) := fun H0 e Q q => hs H0 e _ fun H1 e1 => ⟨d, od, rfl, .inl ⟨kvs, (e.trans e1) _ _ hd, fun Dl hD =>
  lc_it walk_keys (Cw H1 f v Dl) ⟨hD, Ex.new hD, upd_same⟩ (fun i H' _ p => ((e.trans e1).trans p.2.1) _ _ hd) (fun i x H' H'' hi p y => by
    obtain ⟨rfl, k, u, h3, rfl⟩ := y
    exact ⟨hw _, cw_turn p (by omega) (ht i k u H1 (e.trans e1) h3) (fun hf => he i k u H1 (e.trans e1) h3 hf)⟩)
    (fun H' p => q Dl H' (fresh_back e1 p.1) (e1.trans p.2.1) p.2.2)⟩⟩
theorem ex_both {H1 : Hp} {o : HO} (e : Ex H H1) : Ex (upd H d o) (upd H1 d o) := fun b o' hb => by
  by_cases z : b = d
  · subst z
    rw [upd_same] at hb ⊢
    exact hb
  · rw [upd_ne z] at hb ⊢
    exact e _ _ hb
theorem el_lock {u : HO} {xs : List V} (hd : H d = some u) (hm : Mut (some u)) (h : ∀ od, EvL te σ (upd H d (.frz od u)) xs) : EvL (tLockE te) σ H xs := fun H1 e Q q => ⟨d, u, e _ _ hd, hm, fun od => h od _ (ex_both e) _ fun l H2 hl e2 h2 => by
  have hld : l ≠ d := fun z => by rw [z, upd_same] at hl; cases hl
  refine ⟨e2 _ _ upd_same, q l (upd H2 d u) (by rwa [upd_ne hld] at hl) (fun b o hb => ?_) (by rw [upd_ne hld]; exact h2)⟩
  by_cases z : b = d
  · subst z
    rw [upd_same, ← hb, e _ _ hd]
  · rw [upd_ne z]
    exact e2 _ _ (by rw [upd_ne z]; exact hb)⟩
theorem ev_dgetR {k : Key} {v : V} (h1 : Ev td σ H (.ref d)) (h2 : Ev ty σ H (kV k)) (hd : ∀ H1, Ex H H1 → Rd H1 d (.dK kvs)) (hv : valV kvs k = some v) : Ev (tDGet td ty) σ H v := fun H1 e Q q => h1 H1 e _ fun H2 e2 => h2 H2 (e.trans e2) _ fun H3 e3 => ⟨d, v, rfl, .inl ⟨kvs, k, hd _ ((e.trans e2).trans e3), rfl, hv.symm⟩, q H3 (e2.trans e3)⟩
theorem eqv_nil (l : List Nat) : PyData.eqv (.list ((natsI l).map PyData.int)) (.list []) = decide (l = []) := by
  cases l with
  | nil => rfl
  | cons a l => rfl
theorem el_sortedN {ns : List Int} (h : EvL te σ H (ns.map V.int)) (hl : ns.length < 64) : EvL (tCB (rSorted K) (tCons te tNil)) σ H ((srt ns).map V.int) := fun H1 e Q q =>
  h H1 e _ fun p H2 hp e2 h2 => ⟨p, ns, rfl, sq_of h2, hl, fun ms l h1 h2 hl => by
    rw [srt_is h1 h2]
    exact q l _ (fresh_back e2 hl) (e2.trans (Ex.new hl)) upd_same⟩
end
def keyI (kvs : List (Key × V)) (i : Nat) : Int := match kvs[i]? with
  | some (.inl g, _) => g
  | _ => 0
/-- the goals of which something is left -/
def openG (kvs : List (Key × V)) (f : Int → List Nat) : List Int := ((List.range kvs.length).filter fun i => decide (f (keyI kvs i) ≠ [])).map (keyI kvs)
theorem seq0 (n : Nat) : seqIndex? 0 (n + 1) = some 0 := by
  show (if (decide ((0 : Int) ≤ 0) && decide ((0 : Int) < ((n + 1 : Nat) : Int))) = true then some (0 : Int).toNat else none) = some 0
  rw [if_pos (by rw [Bool.and_eq_true, decide_eq_true_eq, decide_eq_true_eq]; omega)]
  rfl
theorem srt_perm (ns : List Int) : (srt ns).Perm ns := List.mergeSort_perm ..
theorem mem_open {H0 H : Hp} {d : Addr} {kvs : List (Key × V)} {f : Int → List Nat} {g : Int} (hF : LeftAt H0 H d kvs f) (h : g ∈ openG kvs f) : f g ≠ [] ∧ ∃ a, valV kvs (.inl g) = some (.ref a) := by
  obtain ⟨i, hi, rfl⟩ := List.mem_map.mp h
  obtain ⟨hi, hf⟩ := List.mem_filter.mp hi
  refine ⟨of_decide_eq_true hf, ?_⟩
  have hl := List.mem_range.mp hi
  obtain ⟨g, a, y1, y2⟩ := hF.2.1 _ (List.getElem_mem hl)
  have hki : keyI kvs i = g := by unfold keyI; rw [List.getElem?_eq_getElem hl, y1]
  exact ⟨a, by rw [hki]; exact y2⟩
theorem open_pos {H0 H : Hp} {d : Addr} {kvs : List (Key × V)} {f : Int → List Nat} {g : Int} (hF : LeftAt H0 H d kvs f) (h : f g ≠ []) : 0 < (openG kvs f).length := by
  cases hv : valV kvs (.inl g) with
  | none => exact absurd (hF.2.2.2.1 g hv) h
  | some v =>
    unfold valV at hv
    cases hq : kvs.find? fun kv => decide (kv.1 = .inl g) with
    | none => rw [hq] at hv; cases hv
    | some kv =>
      have hm := List.mem_of_find?_eq_some hq
      have hk : kv.1 = .inl g := of_decide_eq_true (List.find?_some hq :)
      obtain ⟨i, hi⟩ := List.getElem?_of_mem hm
      have hki : keyI kvs i = g := by
        unfold keyI
        rw [hi]
        obtain ⟨k, u⟩ := kv
        cases hk
        rfl
      have : g ∈ openG kvs f := List.mem_map.mpr ⟨i, List.mem_filter.mpr ⟨List.mem_range.mpr (List.getElem?_eq_some_iff.mp hi).1, by rw [hki]; exact decide_eq_true h⟩, hki⟩
      exact List.length_pos_of_mem this
theorem el_open {σ : L2.St} {H0 H : Hp} {K : PySem.W.Frag} {d : Addr} {kvs : List (Key × V)} {f : Int → List Nat} {vs : List Nat} (hs : σ[2]? = some (some (.ref d))) (hw : ∀ x, wipe ((wipe σ vs).set 8 (some x)) vs = wipe σ vs) (h8 : ∀ x : V, ((wipe σ vs).set 8 (some x))[8]? = some (some x) ∧ ((wipe σ vs).set 8 (some x))[2]? = some (some (.ref d))) (hF : LeftAt H0 H d kvs f) (hk : kvs.length ≤ 9) :
    EvL (tLockE (tLc (iKeys (tVar 2)) (gName 8) (tTest (tOp (rNeD K) (tDGet (tVar 2) (tVar 8)) (tLst tNil))) (tVar 8) vs)) σ H ((openG kvs f).map V.int) := by
  obtain ⟨h1, h2, h3, h4, h5⟩ := hF
  have hg : (openG kvs f).map V.int = given kvs.length (fun i => decide (f (keyI kvs i) ≠ [])) (fun i => .int (keyI kvs i)) := by
    unfold openG given
    rw [List.map_map]
    rfl
  rw [hg]
  refine el_lock h1 True.intro fun od => el_lcKeys _ _ (ev_var hs) upd_same (by omega) hw (fun i k u H1 e hx => ?_) fun i k u H1 e hx _ => ?_
  · obtain ⟨g, a, y1, y2⟩ := h2 _ (List.mem_of_getElem? hx)
    cases y1
    obtain ⟨a', z1, z2, z3, z4⟩ := h3 g _ y2
    cases z1
    have hki : keyI kvs i = g := by unfold keyI; rw [hx]
    rw [hki]
    refine et_is (et_test (ev_neD (d := .list ((natsI (f g)).map PyData.int)) (e := .list []) (evd_of (ev_dgetR (kvs := kvs) (k := .inl g) (ev_var (h8 _).2) (ev_var (h8 _).1) (fun H2 e2 => .inr ⟨od, e2 _ _ (e _ _ upd_same)⟩) y2) fun H2 e2 => .lst (sq_of (e2 _ _ (e _ _ (by rw [upd_ne z2]; exact z4)))) (dpa_ints _)) (evd_lst (ds := []) (fun Ha _ Qa qa => qa [] Ha (Ex.refl Ha) .nil) (by decide)) (shaped_ints _) (shaped_ints []))) ?_
    rw [eqv_nil]
    simp
  · obtain ⟨g, a, y1, y2⟩ := h2 _ (List.mem_of_getElem? hx)
    cases y1
    have hki : keyI kvs i = g := by unfold keyI; rw [hx]
    rw [hki]
    exact ev_var (h8 _).1
section
variable {P : Program} {w : World} {K : PySem.W.Frag} {mg : Str → Option Value} {base : Heap}
/-- a handing in which each goal's letters stand as they were sent -/
def wovenOk (ls : List Lt) (hs : List Nat) : Prop := hs.length = ls.length ∧ ∀ g : Int, hs.filter (fun x => decide (glOf ls x = g)) = (List.range ls.length).filter (fun x => decide (glOf ls x = g))
def spWoven (K : PySem.W.Frag) : Sp := fun vs H Q _ => ∃ (p L : Addr) (rs : List Addr) (ls : List Lt), vs = [.ref p, .ref L] ∧ Dice p H ∧ L ≠ p ∧ H L = some (.lst (rs.map V.ref)) ∧ LrsAt K H rs ls ∧ ls.length ≤ 9 ∧ (∀ l ∈ ls, l.ok) ∧ ∀ a hs H', wovenOk ls hs → a ≠ p → H a = none → Exd p H H' → Dice p H' → H' a = some (.lst ((natsI hs).map V.int)) → Q (.ref a) H'
theorem ok_woven (T : Txt K mg w) : FnOk P w K mg base CX0 3 T.a_law_woven T.fd_law_woven ["dice", "letters"] (spWoven K) := by
  have G_law_lt_goal := ok_law_lt_goal (P := P) (w := w) (base := base) T
  have G_law_pick := ok_pick (P := P) (w := w) (base := base) T
  refine T.F_law_woven.ok sc_law_woven (fun vs H Q E h => ?_) (fun cdv A outer s H vs Q E hr h => ?_)
  · obtain ⟨_, _, _, _, rfl, _⟩ := h; rfl
  · obtain ⟨p, L, rs, ls, rfl, hd, hLp, hL, hR, hln, ho, q⟩ := h
    refine ⟨_, (pss_cons (ps_set (i := 2) sc_law_woven.nd rfl (.inr rfl) pe_dnewK)
  (pss_cons (ps_for PassesOwn.never rfl (pi_enum rfl T.z_enumerate (pa_cons (pv 1) pa_nil)) (pg_tup rfl (pgs_cons (pg_name (i := 3) sc_law_woven.nd rfl (.inl rfl)) (pgs_cons (pg_name (i := 4) sc_law_woven.nd rfl (.inl rfl)) pgs_nil))) (pss_one (ps_expr (pe_bm PySem.F.plainAttrs_list PySem.F.slot_list_append PySem.F.type_list_append mt_append (pe_dsetd (pv 2) (pe_call G_law_lt_goal (hr.mono (by decide)) (by rfl) T.g_law_lt_goal T.F_law_lt_goal.kp T.b_law_lt_goal .nil pass0 (pa_cons (pv 4) pa_nil)) (pe_lst pa_nil) ⟨rfl, rfl, rfl, rfl⟩) (pa_cons (pv 3) pa_nil)))))
  (pss_cons (ps_set (i := 5) sc_law_woven.nd rfl (.inl rfl) (pe_lst pa_nil))
  (pss_cons (ps_for PassesOwn.never rfl (pi_range1 rfl T.z_range (pa_cons (pe_callB c_len (by rfl) T.z_len PySem.boot_len (pa_cons (pv 1) pa_nil)) pa_nil)) (pg_name (i := 6) sc_law_woven.nd rfl (.inl rfl)) (pss_cons (ps_set (i := 7) sc_law_woven.nd rfl (.inl rfl) (pe_call G_law_pick (hr.mono (by decide)) (by rfl) T.g_law_pick T.F_law_pick.kp T.b_law_pick .nil pass0 (pa_cons (pv 0) (pa_cons (pe_callB cr_sorted (by rfl) T.z_sorted (by decide +kernel) (pa_cons (pe_lock (pe_lc (own := [("one", 8)]) (g := gName 8) (by rfl) sc_law_woven.nd (pi_keys (pv 2)) (blkOk_by (own := [("one", 8)]) (N := ["dice", "letters", "left", "number", "letter", "found", "turn", "goal", "one"]) (sc := defScope s_law_woven) (by decide +kernel)) (fun _ _ _ _ _ => pg_name (i := 8) sc_law_woven.nd rfl (by first | exact Or.inl rfl | exact Or.inr rfl)) (fun _ _ _ _ _ => (pts_one (pt_cmpR (op_neDK (K := K) hr.units rfl rfl) (pe_dget (hu_of hr) (pv 2) (pv 8) (fun _ _ => rfl)) (pe_lst pa_nil) (nomark _)))) (fun _ _ _ _ _ => (pv 8)))) pa_nil)) pa_nil))))
  (pss_one (ps_expr (pe_bm PySem.F.plainAttrs_list PySem.F.slot_list_append PySem.F.type_list_append mt_append (pv 5) (pa_cons (pe_bm PySem.F.plainAttrs_list PySem.F.slot_list_pop PySem.F.type_list_pop mt_popAt (pe_dget (hu_of hr) (pv 2) (pv 7) (fun _ _ => rfl)) (pa_cons pe_int pa_nil)) pa_nil))))))
  (pss_one (ps_ret (pv 5))))))), ?_⟩
    have hrl := hR.1
    have glx : ∀ {i : Nat} {l : Lt}, ls[i]? = some l → l.goal = glOf ls i := fun {i l} h => by
      unfold glOf
      rw [List.getD_eq_getElem?_getD, h]
      rfl
    refine fun d hd0 => ?_
    have e0 : Ex H (upd H d (.dK [])) := Ex.new hd0
    let f1 : Nat → Int → List Nat := fun i g => (List.range i).filter fun x => decide (glOf ls x = g)
    have exU : ∀ {H2 : Hp} {b : Addr} {o : HO}, Ex H H2 → H b = none → Ex H (upd H2 b o) := fun {H2 b o} e hb c oc hc => by
      rw [upd_ne (fun z => by rw [z, hb] at hc; cases hc)]
      exact e _ _ hc
    have flen : ∀ {i : Nat} {g : Int}, (f1 i g).length ≤ i := fun {i g} => Nat.le_trans (List.length_filter_le ..) (by rw [List.length_range]; exact Nat.le_refl _)
    have fsucc : ∀ {ls' : List Lt} (i : Nat), (fun x => if x = glOf ls i then f1 i (glOf ls i) ++ [i] else f1 i x) = f1 (i + 1) := fun {_} i => by
      funext x
      show _ = List.filter _ (List.range (i + 1))
      rw [List.range_succ, List.filter_append]
      by_cases hx : x = glOf ls i
      · subst hx
        rw [if_pos rfl]
        simp [f1]
      · rw [if_neg hx]
        have : decide (glOf ls i = x) = false := decide_eq_false (fun e => hx e.symm)
        simp [f1, this]
    let P1 : Nat → L2.St → Hp → Prop := fun i σ' H' => ∃ (q3 q4 : Option V) (kvs : List (Key × V)), σ' = [some (.ref p), some (.ref L), some (.ref d), q3, q4, none, none, none, none] ∧ Ex H H' ∧ LeftAt H H' d kvs (f1 i) ∧ kvs.length ≤ i
    have hH : ∀ {H' : Hp}, Ex H H' → H' L = some (.lst (rs.map V.ref)) ∧ LrsAt K H' rs ls ∧ Dice p H' := fun {H'} e => ⟨e _ _ hL, hR.ex e, hd.ex e⟩
    have hlm : (rs.map V.ref).length = ls.length := by rw [List.length_map, hrl]
    refine q_forEnumL (ev_var rfl) (sq_of (hH e0).1) P1 (fun H1 e1 => ⟨none, none, [], rfl, e0.trans e1, ⟨e1 _ _ upd_same, (fun _ h => by cases h), (fun _ _ h => by cases h), (fun _ _ => rfl), (fun _ _ _ h => by cases h)⟩, Nat.le_refl _⟩) (fun i σ' H' _ ⟨_, _, _, _, e1, _⟩ => sq_of (hH e1).1) (fun i x σ' H' H'' hx ⟨q3, q4, kvs, hσ, e1, hF, hk⟩ ex => ?_) fun σ' H' ⟨q3, q4, kvs, hσ, e1, hF, hk⟩ => ?_
    · subst hσ
      have x1 := e1.trans ex
      have hi : i < ls.length := by rw [← hlm]; exact (List.getElem?_eq_some_iff.mp hx).1
      obtain ⟨r, l, rfl, _, h1, h2⟩ := (hH x1).2.1.at hx
      have hgl := glx h1
      have hF2 := hF.ex ex
      refine ⟨.ref d, rfl, d, rfl, .inl ⟨kvs, .inl hF2.1⟩, ev_go (v := .int l.goal) (ev_callP (vs := [.ref r]) (ea_cons (ev_var rfl) ea_nil) fun H8 e8 => ⟨r, l, rfl, h2.ex e8, rfl⟩) fun H2 e2 => ⟨sz_of (by decide), fun z hz => ⟨kvs, .inl l.goal, (Ex.new hz) _ _ (e2 _ _ hF2.1), rfl, sz_lt (by omega), fun v hv => ?_, fun hv => ?_⟩⟩⟩
      · have x3 := (x1.trans e2).trans (Ex.new (o := .lst []) hz)
        have hF3 := (hF2.ex e2).ex (Ex.new (o := .lst []) hz)
        obtain ⟨a, rfl, n1, n2, ha⟩ := hF3.2.2.1 _ v hv
        refine ⟨.inl ⟨rfl, _, sq_of ha⟩, .int (i : Int), rfl, a, _, _, rfl, rfl, ha, sz_lt (by have := flen (i := i) (g := l.goal); rw [nats_len]; omega), _, _, kvs, rfl, exU x3 n2, ?_, by omega⟩
        rw [nats_snoc, ← fsucc (ls' := ls) i, ← hgl]
        exact hF3.set hv _
      · have x2 := x1.trans e2
        obtain ⟨hF3, hv3⟩ := (hF2.ex e2).new hv hz (fresh_back x2 hz)
        obtain ⟨a, y1, n1, n2, ha⟩ := hF3.2.2.1 _ _ hv3
        cases y1
        refine ⟨.inl ⟨rfl, _, sq_of ha⟩, .int (i : Int), rfl, z, _, _, rfl, rfl, ha, sz_lt (by have := flen (i := i) (g := l.goal); rw [nats_len]; omega), _, _, _, rfl, exU (exU (x2.trans (Ex.new hz)) hd0) n2, ?_, Nat.le_trans (length_putK kvs (.inl l.goal) (.ref z)) (by omega)⟩
        rw [nats_snoc, ← fsucc (ls' := ls) i, ← hgl]
        exact hF3.set hv3 _
    subst hσ
    have hHd := hH e1
    refine ⟨sz_of (by decide), fun fo hfo => ?_⟩
    have e2 := e1.trans (Ex.new (o := .lst []) hfo)
    have hF2 := hF.ex (Ex.new (o := .lst []) hfo)
    have hfd : fo ≠ d := fun z => by rw [z, hF.1] at hfo; cases hfo
    have hf0 : H fo = none := fresh_back e1 hfo
    have hfa : ∀ g a, valV kvs (.inl g) = some (.ref a) → a ≠ fo := fun g a hv z => by
      obtain ⟨a', y1, _, _, y4⟩ := hF.2.2.1 g _ hv
      cases y1
      rw [z, hfo] at y4
      cases y4
    rw [hlm] at hF hF2 hk
    let P2 : Nat → L2.St → Hp → Prop := fun i σ' H' => ∃ (q6 q7 : Option V) (f : Int → List Nat) (hs : List Nat), σ' = [some (.ref p), some (.ref L), some (.ref d), q3, q4, some (.ref fo), q6, q7, none] ∧ Exd p H H' ∧ Dice p H' ∧ LeftAt H H' d kvs f ∧ H' fo = some (.lst ((natsI hs).map V.int)) ∧ hs.length = i ∧ ∀ g, hs.filter (fun x => decide (glOf ls x = g)) ++ f g = f1 ls.length g
    refine q_forR1 (n := (ls.length : Int)) (ea_cons (ev_cb (vs := [.ref L]) (ea_cons (ev_var rfl) ea_nil) ?_) ea_nil) (by omega) P2 (fun H1 e3 => ⟨none, none, f1 ls.length, [], rfl, Exd.of (e2.trans e3), hd.ex (e2.trans e3), hF2.ex e3, e3 _ _ upd_same, rfl, fun g => rfl⟩) (fun i σ' H' hi ⟨q6, q7, f, hs, hσ, x', d', hF', hfo', hln', hg'⟩ => ?_) fun σ' H' ⟨q6, q7, f, hs, hσ, x', d', hF', hfo', hln', hg'⟩ => ?_
    · have := rc_lenL (K := K) (sq_of (hH e2).1)
      rwa [hlm] at this
    · subst hσ
      have hex : ∃ g, f g ≠ [] := Classical.byContradiction fun z => by
        have hz : ∀ g, f g = [] := fun g => Classical.byContradiction fun y => z ⟨g, y⟩
        have := len_of_goals (glOf ls) ls.length hs (List.range ls.length) (by rw [List.length_range]; exact Nat.le_refl _) fun g => by
          have := hg' g
          rw [hz g, List.append_nil] at this
          exact this
        rw [List.length_range] at this
        omega
      obtain ⟨g0, hg0⟩ := hex
      have hop := open_pos hF' hg0
      have hol : (openG kvs f).length ≤ 9 := by
        unfold openG
        rw [List.length_map]
        exact Nat.le_trans (List.length_filter_le ..) (by rw [List.length_range]; omega)
      have hsl := (srt_perm (openG kvs f)).length_eq
      have hdp : d ≠ p := hd.ne hd0
      refine q_asgDv (p := p) (R := fun v => v ∈ (srt (openG kvs f)).map V.int) (dv_pickL (xs := (srt (openG kvs f)).map V.int) rfl (fun H1 x1 _ => el_sortedN (el_open rfl (fun _ => rfl) (fun _ => ⟨rfl, rfl⟩) (hF'.dc hd hdp x1) (by omega)) (by omega)) (fun l H1 _ _ hl h => ⟨l, _, rfl, hl, sq_of h, by rw [List.length_map]; omega, by rw [List.length_map]; omega, rfl⟩)) d' fun v H7 hv x7 d7 => ?_
      obtain ⟨g, hg, rfl⟩ := List.mem_map.mp hv
      have hF7 := hF'.dc hd hdp x7
      obtain ⟨hfg, a, hva⟩ := mem_open hF7 ((srt_perm (openG kvs f)).mem_iff.mp hg)
      obtain ⟨a', y1, n1, n2, ha⟩ := hF7.2.2.1 g _ hva
      cases y1
      cases hfx : f g with
      | nil => exact absurd hfx hfg
      | cons x r =>
        rw [hfx] at ha
        have hfo7 : H7 fo = some (.lst ((natsI hs).map V.int)) := x7 _ _ (hd.ne hf0) hfo'
        have hxg : glOf ls x = g := by
          have hm : x ∈ f1 ls.length g := by
            rw [← hg' g, hfx]
            simp
          exact of_decide_eq_true (List.mem_filter.mp hm).2
        have hfa' := hfa g a hva
        have hS := (hF7.set hva r).other (b := fo) (o := .lst ((natsI (hs ++ [x])).map V.int)) hfd hfa
        refine ⟨.ref fo, rfl, .inl ⟨rfl, _, sq_of hfo7⟩, .ref d, rfl, .int g, rfl, d, .ref a, rfl, .inl ⟨kvs, .inl g, .inl hF7.1, rfl, hva.symm⟩, .inl ⟨rfl, _, sq_of ha⟩, a, _, 0, 0, .int (x : Int), rfl, rfl, ha, by decide, by decide, seq0 _, rfl, fo, _, _, rfl, rfl, by rw [upd_ne (Ne.symm hfa')]; exact hfo7, sz_lt (by rw [nats_len]; omega), ?_⟩
        rw [nats_snoc]
        refine ⟨_, _, _, hs ++ [x], rfl, fun b o hb ho => ?_, ?_, hS, upd_same, by rw [List.length_append, hln']; rfl, fun y => ?_⟩
        · rw [upd_ne (fun z => by rw [z, hf0] at ho; cases ho), upd_ne (fun z => by rw [z, n2] at ho; cases ho)]
          exact (x'.trans x7) _ _ hb ho
        · obtain ⟨w1, w2, w3, hw⟩ := d7
          exact ⟨w1, w2, w3, by rw [upd_ne (Ne.symm (hd.ne hf0)), upd_ne (Ne.symm (hd.ne n2))]; exact hw⟩
        · rw [List.filter_append]
          have hy := hg' y
          by_cases e : y = g
          · subst e
            rw [hfx] at hy
            simp only [if_pos, ← hy]
            simp [hxg]
          · have : decide (glOf ls x = y) = false := decide_eq_false (fun z => e (z ▸ hxg))
            simp only [if_neg e]
            rw [← hy]
            simp [this]
    · subst hσ
      rw [Int.toNat_natCast] at hln'
      refine ⟨.ref fo, rfl, q fo hs H' ⟨hln', fun g => ?_⟩ (hd.ne hf0) hf0 x' d' hfo'⟩
      have hs' := (short_of_goals (glOf ls) ls.length hs (List.range ls.length) f (by rw [List.length_range]; exact Nat.le_refl _) hg').2 g
      rw [List.length_range] at hs'
      have hn : f g = [] := Classical.byContradiction fun z => by
        have := hs' z
        omega
      have := hg' g
      rw [hn, List.append_nil] at this
      exact this
end
end Kz
set_option Elab.async false
set_option linter.all false
set_option maxRecDepth 100000
set_option maxHeartbeats 4000000
set_option exponentiation.threshold 500
namespace Kz
open PySem PySem.Spec PyProof.Rows L2 Evl Vr
local macro_rules | `(tactic| walk_at "sc") => `(tactic| first | (with_reducible assumption) | (with_reducible exact sc_mul (by omega)) | (with_reducible exact sc_mulr (by omega)) | (with_reducible exact sc_div (by omega) (by decide)) | (show (0 : Int) < _; omega) | (show _ ≠ (0 : Int); omega) | (with_reducible rfl) | decide)
local macro_rules | `(tactic| walk_at "sq") => `(tactic| first | assumption | exact sq_of (by assumption) | exact st_of (by assumption))
local macro_rules | `(tactic| walk_at "pl") => `(tactic| first | assumption | exact pl_int | exact pl_bl | exact pl_str | exact pl_non | exact pl_lst (by assumption) | exact pl_tup (by assumption) | exact pl_dK (by assumption))
local macro_rules | `(tactic| walk_at "rv") => `(tactic| first
  | with_reducible exact rv_I0
  | with_reducible exact ru_neg
  | ((with_reducible apply rv_I); walk_at "sc")
  | ((with_reducible apply rv_ixL); walk_at "sq"; first | rfl | assumption)
  | ((with_reducible apply rv_ixT); walk_at "sq"; first | rfl | assumption)
  | ((with_reducible apply rv_eq); rfl) | ((with_reducible apply rv_ne); rfl))
local macro_rules | `(tactic| walk_at "rc") => `(tactic| first
  | with_reducible exact rc_I1 | with_reducible exact rc_B1 | with_reducible exact rc_I2 | ((with_reducible apply rc_repr); walk_at "sc") | ((with_reducible apply rc_lenL); walk_at "sq")
  | ((with_reducible apply rc_isiInt); walk_at "pl") | ((with_reducible apply rc_isiBool); walk_at "pl"))
local macro_rules | `(tactic| walk_at "ea") => `(tactic| first
  | with_reducible exact ea_nil | ((with_reducible apply ea_cons); walk_at "ev"; walk_at "ea"))
local macro_rules | `(tactic| walk_at "pow") => `(tactic| first
  | with_reducible exact ev_pow (a := 10) (b := 9) (c := 1000000000) (by decide +kernel) (by decide +kernel)
  | with_reducible exact ev_pow (a := 10) (b := 10) (c := 10000000000) (by decide +kernel) (by decide +kernel)
  | with_reducible exact ev_pow (a := 10) (b := 12) (c := 1000000000000) (by decide +kernel) (by decide +kernel)
  | with_reducible exact ev_pow (a := 10) (b := 17) (c := 100000000000000000) (by decide +kernel) (by decide +kernel)
  | with_reducible exact ev_pow (a := 10) (b := 20) (c := 100000000000000000000) (by decide +kernel) (by decide +kernel)
  | with_reducible exact ev_pow (a := 10) (b := 29) (c := 100000000000000000000000000000) (by decide +kernel) (by decide +kernel)
  | with_reducible exact ev_pow (a := 10) (b := 30) (c := 1000000000000000000000000000000) (by decide +kernel) (by decide +kernel)
  | with_reducible exact ev_pow (a := 10) (b := 40) (c := 10000000000000000000000000000000000000000) (by decide +kernel) (by decide +kernel)
  | with_reducible exact ev_pow (a := 10) (b := 57) (c := 1000000000000000000000000000000000000000000000000000000000) (by decide +kernel) (by decide +kernel)
  | with_reducible exact ev_pow (a := 10) (b := 58) (c := 10000000000000000000000000000000000000000000000000000000000) (by decide +kernel) (by decide +kernel)
  | with_reducible exact ev_pow (a := 10) (b := 59) (c := 100000000000000000000000000000000000000000000000000000000000) (by decide +kernel) (by decide +kernel)
  | with_reducible exact ev_pow (a := 10) (b := 60) (c := 1000000000000000000000000000000000000000000000000000000000000) (by decide +kernel) (by decide +kernel))
local macro_rules | `(tactic| walk_at "call") => `(tactic| (intro H9 e9; first | exact ⟨_, rfl, rfl⟩ | exact ⟨_, _, rfl, rfl⟩ | exact ⟨_, _, _, rfl, rfl⟩ | exact ⟨_, rfl, by walk_at "pl", rfl⟩ | (refine ⟨_, _, _, rfl, ?_, rfl⟩; first | exact Plain.ex e9 (by assumption) | walk_at "pl") | (refine ⟨_, rfl, ?_, rfl⟩; first | exact Plain.ex e9 (by assumption) | walk_at "pl")))
local macro_rules | `(tactic| walk_at "ev") => `(tactic| first
  | with_reducible exact ev_c
  | exact ev_var rfl
  | walk_at "pow"
  | ((with_reducible apply ev_op); walk_at "ev"; walk_at "ev"; walk_at "rv")
  | ((with_reducible apply ev_un); walk_at "ev"; walk_at "rv")
  | ((with_reducible apply ev_cb); walk_at "ea"; walk_at "rc")
  | ((with_reducible apply ev_callP); walk_at "ea"; walk_at "call")
  | ((with_reducible apply ev_chain); walk_at "ev"; walk_at "ev"; walk_at "rv"; walk_at "ev"; walk_at "rv")
  | ((with_reducible apply ev_andV); walk_at "ev"; intro _; walk_at "ev")
  | ((with_reducible apply ev_orV); walk_at "ev"; intro _; walk_at "ev")
  | ((with_reducible apply ev_ite); walk_at "et"; intro _; walk_at "ev"; intro _; walk_at "ev")
  | ((with_reducible apply ev_notV); walk_at "ev"))
local macro_rules | `(tactic| walk_at "et") => `(tactic| first
  | ((with_reducible apply et_test); walk_at "ev")
  | ((with_reducible apply et_B); walk_at "ev")
  | ((with_reducible apply et_and); walk_at "et"; intro _; walk_at "et")
  | ((with_reducible apply et_or); walk_at "et"; intro _; walk_at "et")
  | ((with_reducible apply et_not); walk_at "et"))
open En Wo Tx
section
variable (gl : Nat → Int)
theorem pw_of_goals : ∀ l : List Nat, (∀ g : Int, (l.filter fun x => decide (gl x = g)).Pairwise (· < ·)) → l.Pairwise fun a b => gl a = gl b → a < b
  | [], _ => .nil
  | a :: l, h => by
    refine .cons (fun b hb e => ?_) (pw_of_goals l fun g => ?_)
    · have := h (gl a)
      rw [List.filter_cons, if_pos (by simp)] at this
      exact (List.pairwise_cons.mp this).1 b (List.mem_filter.mpr ⟨hb, decide_eq_true e.symm⟩)
    · have := h g
      rw [List.filter_cons] at this
      split at this
      · exact (List.pairwise_cons.mp this).2
      · exact this
theorem over_none : ∀ (hs done : List Nat), ((done ++ hs).Pairwise fun a b => gl a = gl b → a < b) → over gl done hs = []
  | [], _, _ => rfl
  | x :: hs, done, h => by
    have h1 : ahead gl done x = false := by
      unfold ahead
      rw [List.any_eq_false]
      intro o ho
      have hp := (List.pairwise_append.mp h).2.2 o ho x (List.mem_cons_self ..)
      simp only [Bool.and_eq_true, decide_eq_true_eq, not_and]
      exact fun hlt e => absurd (hp e) (by omega)
    show (if _ then [x] else []) ++ over gl (done ++ [x]) hs = []
    rw [over_none hs (done ++ [x]) (by rw [List.append_assoc]; exact h), List.append_nil, h1, Bool.and_false]
    rfl
theorem count_rng (x : Nat) : ∀ n : Nat, (List.range n).count x = if x < n then 1 else 0
  | 0 => by simp
  | n + 1 => by
    rw [List.range_succ, List.count_append, count_rng x n, List.count_singleton]
    rcases Nat.lt_trichotomy x n with h | h | h
    · have : (n == x) = false := by simp; omega
      rw [if_pos h, this, if_pos (show x < n + 1 by omega)]
      rfl
    · subst h
      simp
    · have : (n == x) = false := by simp; omega
      rw [if_neg (show ¬ x < n by omega), this, if_neg (show ¬ x < n + 1 by omega)]
      rfl
end
theorem woven_count {ls : List Lt} {hs : List Nat} (h : wovenOk ls hs) (x : Nat) : hs.count x = if x < ls.length then 1 else 0 := by
  have h1 := h.2 (glOf ls x)
  have e1 : (hs.filter fun y => decide (glOf ls y = glOf ls x)).count x = hs.count x := List.count_filter (by simp)
  have e2 : ((List.range ls.length).filter fun y => decide (glOf ls y = glOf ls x)).count x = (List.range ls.length).count x := List.count_filter (by simp)
  rw [← e1, h1, e2, count_rng]
theorem woven_lt {ls : List Lt} {hs : List Nat} (h : wovenOk ls hs) : ∀ x ∈ hs, x < ls.length := fun x hx => by
  have h1 := woven_count h x
  have h2 := List.count_pos_iff.mpr hx
  by_cases z : x < ls.length
  · exact z
  · rw [if_neg z] at h1
    omega
/-- a woven handing loses, doubles and overtakes none -/
theorem woven_jud {ls : List Lt} {hs : List Nat} (h : wovenOk ls hs) : judD (glOf ls) ls.length hs = .tuple [.tuple [], .tuple [], .tuple []] := by
  have h1 : lostL ls.length hs = [] := by
    unfold lostL
    rw [List.filter_eq_nil_iff]
    intro x hx
    rw [woven_count h, if_pos (List.mem_range.mp hx)]
    simp
  have h2 : doubL ls.length hs = [] := by
    unfold doubL
    rw [List.filter_eq_nil_iff]
    intro x hx
    rw [woven_count h, if_pos (List.mem_range.mp hx)]
    simp
  have h3 : ovr (glOf ls) hs = [] := over_none _ hs [] (pw_of_goals _ _ fun g => by
    rw [List.nil_append, h.2 g]
    exact List.pairwise_lt_range.filter _)
  unfold judD
  have h4 : srt (natsI []) = [] := by unfold srt natsI; simp
  rw [h1, h2, h3, h4]
  rfl
end Kz
set_option Elab.async false
set_option linter.all false
set_option maxRecDepth 100000
set_option maxHeartbeats 4000000
set_option exponentiation.threshold 500
namespace Kz
open PySem PySem.Spec PyProof.Rows L2 Evl Vr
local macro_rules | `(tactic| walk_at "sc") => `(tactic| first | (with_reducible assumption) | (with_reducible exact sc_mul (by omega)) | (with_reducible exact sc_mulr (by omega)) | (with_reducible exact sc_div (by omega) (by decide)) | (show (0 : Int) < _; omega) | (show _ ≠ (0 : Int); omega) | (with_reducible rfl) | decide)
local macro_rules | `(tactic| walk_at "sq") => `(tactic| first | assumption | exact sq_of (by assumption) | exact st_of (by assumption))
local macro_rules | `(tactic| walk_at "pl") => `(tactic| first | assumption | exact pl_int | exact pl_bl | exact pl_str | exact pl_non | exact pl_lst (by assumption) | exact pl_tup (by assumption) | exact pl_dK (by assumption))
local macro_rules | `(tactic| walk_at "rv") => `(tactic| first
  | with_reducible exact rv_I0
  | with_reducible exact ru_neg
  | ((with_reducible apply rv_I); walk_at "sc")
  | ((with_reducible apply rv_ixL); walk_at "sq"; first | rfl | assumption)
  | ((with_reducible apply rv_ixT); walk_at "sq"; first | rfl | assumption)
  | ((with_reducible apply rv_eq); rfl) | ((with_reducible apply rv_ne); rfl))
local macro_rules | `(tactic| walk_at "rc") => `(tactic| first
  | with_reducible exact rc_I1 | with_reducible exact rc_B1 | with_reducible exact rc_I2 | ((with_reducible apply rc_repr); walk_at "sc") | ((with_reducible apply rc_lenL); walk_at "sq")
  | ((with_reducible apply rc_isiInt); walk_at "pl") | ((with_reducible apply rc_isiBool); walk_at "pl"))
local macro_rules | `(tactic| walk_at "ea") => `(tactic| first
  | with_reducible exact ea_nil | ((with_reducible apply ea_cons); walk_at "ev"; walk_at "ea"))
local macro_rules | `(tactic| walk_at "pow") => `(tactic| first
  | with_reducible exact ev_pow (a := 10) (b := 9) (c := 1000000000) (by decide +kernel) (by decide +kernel)
  | with_reducible exact ev_pow (a := 10) (b := 10) (c := 10000000000) (by decide +kernel) (by decide +kernel)
  | with_reducible exact ev_pow (a := 10) (b := 12) (c := 1000000000000) (by decide +kernel) (by decide +kernel)
  | with_reducible exact ev_pow (a := 10) (b := 17) (c := 100000000000000000) (by decide +kernel) (by decide +kernel)
  | with_reducible exact ev_pow (a := 10) (b := 20) (c := 100000000000000000000) (by decide +kernel) (by decide +kernel)
  | with_reducible exact ev_pow (a := 10) (b := 29) (c := 100000000000000000000000000000) (by decide +kernel) (by decide +kernel)
  | with_reducible exact ev_pow (a := 10) (b := 30) (c := 1000000000000000000000000000000) (by decide +kernel) (by decide +kernel)
  | with_reducible exact ev_pow (a := 10) (b := 40) (c := 10000000000000000000000000000000000000000) (by decide +kernel) (by decide +kernel)
  | with_reducible exact ev_pow (a := 10) (b := 57) (c := 1000000000000000000000000000000000000000000000000000000000) (by decide +kernel) (by decide +kernel)
  | with_reducible exact ev_pow (a := 10) (b := 58) (c := 10000000000000000000000000000000000000000000000000000000000) (by decide +kernel) (by decide +kernel)
  | with_reducible exact ev_pow (a := 10) (b := 59) (c := 100000000000000000000000000000000000000000000000000000000000) (by decide +kernel) (by decide +kernel)
  | with_reducible exact ev_pow (a := 10) (b := 60) (c := 1000000000000000000000000000000000000000000000000000000000000) (by decide +kernel) (by decide +kernel))
local macro_rules | `(tactic| walk_at "call") => `(tactic| (intro H9 e9; first | exact ⟨_, rfl, rfl⟩ | exact ⟨_, _, rfl, rfl⟩ | exact ⟨_, _, _, rfl, rfl⟩ | exact ⟨_, rfl, by walk_at "pl", rfl⟩ | (refine ⟨_, _, _, rfl, ?_, rfl⟩; first | exact Plain.ex e9 (by assumption) | walk_at "pl") | (refine ⟨_, rfl, ?_, rfl⟩; first | exact Plain.ex e9 (by assumption) | walk_at "pl")))
local macro_rules | `(tactic| walk_at "ev") => `(tactic| first
  | with_reducible exact ev_c
  | exact ev_var rfl
  | walk_at "pow"
  | ((with_reducible apply ev_op); walk_at "ev"; walk_at "ev"; walk_at "rv")
  | ((with_reducible apply ev_un); walk_at "ev"; walk_at "rv")
  | ((with_reducible apply ev_cb); walk_at "ea"; walk_at "rc")
  | ((with_reducible apply ev_callP); walk_at "ea"; walk_at "call")
  | ((with_reducible apply ev_chain); walk_at "ev"; walk_at "ev"; walk_at "rv"; walk_at "ev"; walk_at "rv")
  | ((with_reducible apply ev_andV); walk_at "ev"; intro _; walk_at "ev")
  | ((with_reducible apply ev_orV); walk_at "ev"; intro _; walk_at "ev")
  | ((with_reducible apply ev_ite); walk_at "et"; intro _; walk_at "ev"; intro _; walk_at "ev")
  | ((with_reducible apply ev_notV); walk_at "ev"))
local macro_rules | `(tactic| walk_at "et") => `(tactic| first
  | ((with_reducible apply et_test); walk_at "ev")
  | ((with_reducible apply et_B); walk_at "ev")
  | ((with_reducible apply et_and); walk_at "et"; intro _; walk_at "et")
  | ((with_reducible apply et_or); walk_at "et"; intro _; walk_at "et")
  | ((with_reducible apply et_not); walk_at "et"))
open En Wo Tx
section
variable {σ : L2.St} {H : Hp} {te tn : TE} {tz : TS} {D : Ends} {K : PySem.W.Frag} {p : Addr}
/-- [a drawn letter for x in range(n)], n drawn -/
theorem dl_lcLt {E : XK} {j i0 : Nat} {vs : List Nat} {n : Nat} {Q : VK} (hn : Dv p tn σ H (fun v => ∃ m : Nat, v = .int m ∧ m ≤ n)) (hN : n ≤ 1000) (hw : ∀ x, wipe ((wipe σ vs).set j (some x)) vs = wipe σ vs) (h0 : ∀ x : V, ((wipe σ vs).set j (some x))[i0]? = some (some (.ref p))) (hd : Dice p H)
    (k : ∀ l (rs : List Addr) (ls : List Lt) H2, LrsAt K H2 rs ls → ls.length ≤ n → (∀ l ∈ ls, l.ok) → l ≠ p → H l = none → Exd p H H2 → Dice p H2 → H2 l = some (.lst (rs.map V.ref)) → Q (.ref l) H2) : tLc (iRng1 (tCons tn tNil)) (gName j) tYes (tCall (DrawsLt K) [] E (tCons (tVar i0) tNil)) vs σ H Q :=
  hn H (Exd.refl p H) hd _ fun v H1 hv e1 d1 => by
    obtain ⟨m, rfl, hm⟩ := hv
    refine ⟨(m : Int), rfl, by omega, by omega, fun Dl hD => ?_⟩
    have hDp : Dl ≠ p := d1.ne hD
    rw [show ((m : Int).toNat) = m from Int.toNat_natCast m]
    refine lc_range (fun i H' => Exd p H1 H' ∧ Dice p H' ∧ ∃ (rs : List Addr) (ls : List Lt), H' Dl = some (.lst (rs.map V.ref)) ∧ LrsAt K H' rs ls ∧ ls.length = i ∧ ∀ l ∈ ls, l.ok) ⟨Exd.of (Ex.new hD), d1.ex (Ex.new hD), [], [], upd_same, ⟨rfl, fun i r l h => by cases h⟩, rfl, fun _ h => by cases h⟩ ?_ ?_
    · rintro i H' hi ⟨e', d', rs, ls, hacc, hR, hlen, ho⟩
      refine ⟨hw _, ?_⟩
      unfold tYes
      dsimp only
      rw [if_pos rfl]
      refine ⟨.ref p, h0 _, p, rfl, d', fun r l H4 hl hA hr e4 d4 => ⟨_, e4 _ _ hDp hacc, sz_lt (by rw [List.length_map, hR.1]; omega), fun a o ha hoo => ?_, ?_, rs ++ [r], ls ++ [l], ?_, ?_, by rw [List.length_append, hlen]; rfl, fun x hx => ?_⟩⟩
      · rw [upd_ne (ne_of_none hoo hD)]
        exact e4 _ _ ha (e' _ _ ha hoo)
      · obtain ⟨x, y, z, h⟩ := d4
        exact ⟨x, y, z, by rw [upd_ne (Ne.symm hDp)]; exact h⟩
      · rw [upd_same, List.map_append]
        rfl
      · obtain ⟨z1, z2, z3, hz⟩ := d'
        have hacc4 := e4 _ _ hDp hacc
        have hst : ∀ b xs, SqT K H4 b xs → SqT K (upd H4 Dl (.lst (rs.map V.ref ++ [.ref r]))) b xs := fun b xs h => by
          by_cases z : b = Dl
          · subst z
            rcases h with (h | ⟨o, h⟩) | h
            · rw [hacc4] at h; cases h
            · rw [hacc4] at h; cases h
            · exact .inr h
          · rcases h with (h | ⟨o, h⟩) | h
            · exact .inl (.inl (by rw [upd_ne z]; exact h))
            · exact .inl (.inr ⟨o, by rw [upd_ne z]; exact h⟩)
            · exact .inr h
        exact ((hR.st fun b xs h => sqt_dc hz e4 h).app (LrsAt.one hA)).st hst
      · rcases List.mem_append.mp hx with z | z
        · exact ho x z
        · rw [List.mem_singleton.mp z]; exact hl
    · rintro H' ⟨e', d', rs, ls, hacc, hR, hlen, ho⟩
      exact k Dl rs ls H' hR (by omega) ho hDp (e1.none hDp hD) (e1.trans e') d' hacc
end
theorem sqt_upL {K : PySem.W.Frag} {H : Hp} {b L : Addr} {xs ys : List V} {o : HO} (hL : H L = some (.lst ys)) (h : SqT K H b xs) : SqT K (upd H L o) b xs := by
  by_cases z : b = L
  · subst z
    rcases h with (h | ⟨o, h⟩) | h
    · rw [hL] at h; cases h
    · rw [hL] at h; cases h
    · exact .inr h
  · rcases h with (h | ⟨o, h⟩) | h
    · exact .inl (.inl (by rw [upd_ne z]; exact h))
    · exact .inl (.inr ⟨o, by rw [upd_ne z]; exact h⟩)
    · exact .inr h
theorem shaped_jud (gl : Nat → Int) (n : Nat) (hs : List Nat) : SeqAt.shaped (judD gl n hs) = true := by
  have h := layAll_map intsD 1 (xs := [natsI (lostL n hs), natsI (doubL n hs), srt (natsI (ovr gl hs))]) fun x _ => lay_nsD x
  refine shaped_of_le (n := 2) ⟨h.1, ?_⟩ (by decide)
  show PyData.depthAll ([natsI (lostL n hs), natsI (doubL n hs), srt (natsI (ovr gl hs))].map intsD) + 1 ≤ 2
  have := h.2
  omega
theorem eqv_jud (gl : Nat → Int) (n : Nat) (hs : List Nat) : PyData.eqv (judD gl n hs) (judD gl n hs) = true :=
  (eqv_rows [natsI (lostL n hs), natsI (doubL n hs), srt (natsI (ovr gl hs))] [natsI (lostL n hs), natsI (doubL n hs), srt (natsI (ovr gl hs))]).trans (by simp)
theorem evd_datS {K : PySem.W.Frag} {E : XK} {σ : L2.St} {H : Hp} {ts : TA} {ok : List V → Hp → PyData → Prop} {vs : List V} {d : PyData} (h : EvA ts σ H vs) (ho : ∀ H1, Ex H H1 → ok vs H1 d) : EvD K (tCall (DatS K ok) [] E ts) σ H d := fun H1 e Q q => h H1 e _ fun H2 e2 => by
  show DatS K ok (vs ++ []) H2 Q E
  rw [List.append_nil]
  exact ⟨d, ho H2 (e.trans e2), fun v H3 e3 hv => q v H3 (e2.trans e3) hv⟩
theorem evd_datSP {K : PySem.W.Frag} {E : XK} {σ : L2.St} {H : Hp} {ts : TA} {ok : List V → Hp → PyData → Prop} {P : List V → Hp → Prop} {d : PyData} (h : EvAP ts σ H P) (ho : ∀ vs H1, Ex H H1 → P vs H1 → ok vs H1 d) : EvD K (tCall (DatS K ok) [] E ts) σ H d := fun H1 e Q q => h H1 e _ fun vs H2 e2 hp => by
  show DatS K ok (vs ++ []) H2 Q E
  rw [List.append_nil]
  exact ⟨d, ho vs H2 (e.trans e2) hp, fun v H3 e3 hv => q v H3 (e2.trans e3) hv⟩
theorem ap_consE {te : TE} {σ : L2.St} {H : Hp} {tr : TA} {v : V} {P2 : List V → Hp → Prop} (h : Ev te σ H v) (hr : EvAP tr σ H P2) : EvAP (tCons te tr) σ H (fun vs H' => ∃ ws, vs = v :: ws ∧ P2 ws H') := fun H1 e Q q => h H1 e _ fun H2 e2 => hr H2 (e.trans e2) _ fun ws H3 e3 h3 => q (v :: ws) H3 (e2.trans e3) ⟨ws, rfl, h3⟩
theorem ev_goalLetter {K : PySem.W.Frag} {C p : Addr} {to tn : TE} {E E' : XK} {σ : L2.St} {H : Hp} {ls : List Lt} {i : Nat} {l : Lt} (h : Ev to σ H (.ref p)) (hB : BgAt K C H p ls) (hl : ls.length ≤ 100) (hi : ls[i]? = some l) (hn : Ev tn σ H (.int (i : Int))) : Ev (tCall (Pure (kGoal K)) [] E (tCons (tMeth C "letter" (spLetter K C) [] E' to (tCons tn tNil)) tNil)) σ H (.int l.goal) := fun H1 e Q q =>
  h H1 e _ fun H2 e2 => by
    have hB2 := hB.ex (e.trans e2)
    obtain ⟨dx, a, hob, _⟩ := id hB2
    exact ⟨p, dx, _, rfl, hob, rfl, (ea_cons (vs := []) hn ea_nil) H2 (e.trans e2) _ fun H3 e3 => by
      rw [List.append_nil]
      exact ⟨p, ls, i, l, rfl, hB2.ex e3, hl, hi, fun r H4 e4 hr => ⟨.int l.goal, ⟨r, l, rfl, hr, rfl⟩, fun H5 e5 => q H5 (((e2.trans e3).trans e4).trans e5)⟩⟩⟩
theorem glAt {ls : List Lt} {y : Nat} (h : y < ls.length) : (ls[y]'h).goal = glOf ls y := by
  unfold glOf
  rw [List.getD_eq_getElem?_getD, List.getElem?_eq_getElem h]
  rfl
theorem go_asg {te : TE} {σ : L2.St} {H : Hp} {tz : TS} {D : Ends} {i : Nat} (h : te σ H (fun v H1 => tz D (σ.set i (some v)) H1)) : tSeq (tAsg te (gName i)) tz D σ H := h
theorem split2 {A tz : TS} {σ : L2.St} {H : Hp} {D : Ends} (P : Hp → Prop) (main : (∀ H2, P H2 → tz D σ H2) → tSeq A tz D σ H) (tail : ∀ H2, P H2 → tz D σ H2) : tSeq A tz D σ H := main tail
theorem shaped_lsL {ls : List Lt} (ho : ∀ l ∈ ls, l.ok) : SeqAt.shaped (.list (ls.map Lt.dat)) = true := shaped_ls ho
theorem eqv_lsnil (ls : List Lt) : PyData.eqv (.list (ls.map Lt.dat)) (.list []) = decide (ls = []) := by
  cases ls <;> rfl
section
variable {P : Program} {w : World} {K : PySem.W.Frag} {mg : Str → Option Value} {base : Heap}
/-- a part of the law, right whatever is drawn -/
theorem ok_right (T : Txt K mg w) : FnOk P w K mg base CX0 14 T.a_law_right T.fd_law_right ["dice"] (Draws fun vs _ p R => vs = [.ref p] ∧ R = fun v => v = .bl true) := by
  have G_law_roll := ok_roll (P := P) (w := w) (base := base) T
  have G_law_pick := ok_pick (P := P) (w := w) (base := base) T
  have G_law_lt_drawn := ok_lt_drawn (P := P) (w := w) (base := base) T
  have G_law_lt_goal := ok_law_lt_goal (P := P) (w := w) (base := base) T
  have G_law_bag_right := ok_bag_right (P := P) (w := w) (base := base) T
  have G_law_judged := ok_law_judged (P := P) (w := w) (base := base) T
  have G_law_handing_drawn := ok_handing_drawn (P := P) (w := w) (base := base) T
  have G_law_woven := ok_woven (P := P) (w := w) (base := base) T
  have G_judged_handing := ok_judged_handing (P := P) (w := w) (base := base) T
  have G_Bag___init__ := ok_init (P := P) (w := w) (base := base) T
  have G_Bag_letter := ok_letter (P := P) (w := w) (base := base) T
  have G_Bag_to := ok_to (P := P) (w := w) (base := base) T
  refine T.F_law_right.ok sc_law_right (fun vs H Q E h => ?_) (fun cdv A outer s H vs Q E hr h => ?_)
  · obtain ⟨_, _, ⟨rfl, _⟩, _⟩ := h; rfl
  · obtain ⟨p, _, ⟨rfl, rfl⟩, hd, q⟩ := h
    refine ⟨_, (pss_cons (ps_setLc (i := 2) (own := [("turn", 1)]) (g := gName 1) (by rfl) sc_law_right.nd rfl rfl (sw_true rfl rfl rfl (by decide +kernel)) (pi_range1 rfl T.z_range (pa_cons (pe_call G_law_roll (hr.mono (by decide)) (by rfl) T.g_law_roll T.F_law_roll.kp T.b_law_roll .nil pass0 (pa_cons (pv 0) (pa_cons pe_int pa_nil))) pa_nil)) (blkOk_by (own := [("turn", 1)]) (N := ["dice", "turn", "letters", "bag", "handing", "woven", "goal", "number"]) (sc := defScope s_law_right) (by decide +kernel)) (fun _ _ _ _ _ => pg_name (i := 1) sc_law_right.nd rfl (by first | exact Or.inl rfl | exact Or.inr rfl)) (fun _ _ _ _ _ => pts_nil) (fun _ _ _ _ _ => (pe_call G_law_lt_drawn (hr.mono (by decide)) (by rfl) T.g_law_lt_drawn T.F_law_lt_drawn.kp T.b_law_lt_drawn .nil pass0 (pa_cons (pv 0) pa_nil))))
  (pss_cons (ps_if (PW.pt (pw_and (pt_cmpR (op_neD hr.units) (pv 2) (pe_lst pa_nil) (nomark _)) (pw_and1 (pt_cmpR op_eq (pe_call G_law_roll (hr.mono (by decide)) (by rfl) T.g_law_roll T.F_law_roll.kp T.b_law_roll .nil pass0 (pa_cons (pv 0) (pa_cons pe_int pa_nil))) pe_int (nomark _))))) (pss_one (ps_expr (pe_bm PySem.F.plainAttrs_list PySem.F.slot_list_append PySem.F.type_list_append mt_append (pv 2) (pa_cons (pe_call G_law_pick (hr.mono (by decide)) (by rfl) T.g_law_pick T.F_law_pick.kp T.b_law_pick .nil pass0 (pa_cons (pv 0) (pa_cons (pv 2) pa_nil))) pa_nil)))) pss_nil)
  (pss_cons (ps_if (pt_not (pt_val (pe_call G_law_bag_right (hr.mono (by decide)) (by rfl) T.g_law_bag_right T.F_law_bag_right.kp T.b_law_bag_right .nil pass0 (pa_cons (pv 0) (pa_cons (pv 2) pa_nil))))) (pss_one (ps_ret pe_bl)) pss_nil)
  (pss_cons (ps_set (i := 3) sc_law_right.nd rfl (.inr rfl) (pe_make T.mk_Bag G_Bag___init__ (hr.mono (by decide)) (by rfl) T.g_Bag T.b_Bag___init__ .nil pass0 (pa_cons (pe_callTy c_tupL (by rfl) T.z_tuple (by decide +kernel) (pa_cons (pv 2) pa_nil)) pa_nil)))
  (pss_cons (ps_for PassesOwn.never rfl (pi_range1 rfl T.z_range (pa_cons pe_int pa_nil)) (pg_name (i := 1) sc_law_right.nd rfl (.inl rfl)) (pss_cons (ps_set (i := 4) sc_law_right.nd rfl (.inl rfl) (pe_callTy c_tupL (by rfl) T.z_tuple (by decide +kernel) (pa_cons (pe_call G_law_handing_drawn (hr.mono (by decide)) (by rfl) T.g_law_handing_drawn T.F_law_handing_drawn.kp T.b_law_handing_drawn .nil pass0 (pa_cons (pv 0) (pa_cons (pe_callB c_len (by rfl) T.z_len PySem.boot_len (pa_cons (pv 2) pa_nil)) pa_nil))) pa_nil)))
  (pss_one (ps_if (pt_cmpR (op_neD hr.units) (pe_call G_judged_handing (hr.mono (by decide)) (by rfl) T.g_judged_handing T.F_judged_handing.kp T.b_judged_handing .nil pass0 (pa_cons (pv 3) (pa_cons (pv 4) pa_nil))) (pe_call G_law_judged (hr.mono (by decide)) (by rfl) T.g_law_judged T.F_law_judged.kp T.b_law_judged .nil pass0 (pa_cons (pv 2) (pa_cons (pv 4) pa_nil))) (nomark _)) (pss_one (ps_ret pe_bl)) pss_nil))))
  (pss_cons (ps_set (i := 5) sc_law_right.nd rfl (.inl rfl) (pe_call G_law_woven (hr.mono (by decide)) (by rfl) T.g_law_woven T.F_law_woven.kp T.b_law_woven .nil pass0 (pa_cons (pv 0) (pa_cons (pv 2) pa_nil))))
  (pss_cons (ps_if (pt_cmpR (op_neD hr.units) (pe_call G_judged_handing (hr.mono (by decide)) (by rfl) T.g_judged_handing T.F_judged_handing.kp T.b_judged_handing .nil pass0 (pa_cons (pv 3) (pa_cons (pe_callTy c_tupL (by rfl) T.z_tuple (by decide +kernel) (pa_cons (pv 5) pa_nil)) pa_nil))) (pe_tup (pa_cons (pe_tup pa_nil) (pa_cons (pe_tup pa_nil) (pa_cons (pe_tup pa_nil) pa_nil)))) (nomark _)) (pss_one (ps_ret pe_bl)) pss_nil)
  (pss_cons (ps_for PassesOwn.never rfl (pi_range2 rfl T.z_range (pa_cons (pe_un un_neg pe_int) (pa_cons pe_int pa_nil))) (pg_name (i := 6) sc_law_right.nd rfl (.inr rfl)) (pss_one (ps_if (pt_cmpR (op_neD hr.units) (pe_callTy c_tupL (by rfl) T.z_tuple (by decide +kernel) (pa_cons (pe_lc (own := [("number", 7)]) (g := gName 7) (by rfl) sc_law_right.nd (pi_list (pv 5)) (blkOk_by (own := [("number", 7)]) (N := ["dice", "turn", "letters", "bag", "handing", "woven", "goal", "number"]) (sc := defScope s_law_right) (by decide +kernel)) (fun _ _ _ _ _ => pg_name (i := 7) sc_law_right.nd rfl (by first | exact Or.inl rfl | exact Or.inr rfl)) (fun _ _ _ _ _ => (pts_one (pt_cmpR op_eq (pe_call G_law_lt_goal (hr.mono (by decide)) (by rfl) T.g_law_lt_goal T.F_law_lt_goal.kp T.b_law_lt_goal .nil pass0 (pa_cons (pe_meth (pv 3) T.cl_Bag T.m_Bag_letter G_Bag_letter (hr.mono (by decide)) T.b_Bag_letter .nil pass0 (pa_cons (pv 7) pa_nil)) pa_nil)) (pv 6) (nomark _)))) (fun _ _ _ _ _ => (pv 7))) pa_nil)) (pe_meth (pv 3) T.cl_Bag T.m_Bag_to G_Bag_to (hr.mono (by decide)) T.b_Bag_to .nil pass0 (pa_cons (pv 6) pa_nil)) (nomark _)) (pss_one (ps_ret pe_bl)) pss_nil)))
  (pss_one (ps_ret (pe_cmpR (op_eqD hr.units) (pe_fld (pv 3) rfl) (pe_callTy c_tupL (by rfl) T.z_tuple (by decide +kernel) (pa_cons (pv 2) pa_nil)) (nomark _)))))))))))), ?_⟩
    refine go_asg (dl_lcLt (p := p) (n := 7) ((dv_roll (m := 8) rfl (fun H1 => ev_c) (by decide) (by decide)).mono fun v ⟨r, hv, r0, r1⟩ => ⟨r.toNat, by rw [hv, Int.toNat_of_nonneg r0], by omega⟩) (by omega) (fun _ => rfl) (fun _ => rfl) hd fun L rs ls H1 hR hln ho hLp hLn e1 d1 hL => ?_)
    refine split2 (fun H2 => ∃ (rs : List Addr) (ls : List Lt), LrsAt K H2 rs ls ∧ ls.length ≤ 8 ∧ (∀ l ∈ ls, l.ok) ∧ Exd p H H2 ∧ Dice p H2 ∧ H2 L = some (.lst (rs.map V.ref))) (fun tail => ?_) fun H2 ⟨rs, ls, hR, hln, ho, x2, d2, hL⟩ => ?_
    · refine (et_test (ev_neD (d := .list (ls.map Lt.dat)) (e := .list []) (evd_of (ev_var rfl) fun H2 e2 => .lst (sq_of (e2 _ _ hL)) (hR.ex e2).dpa) (evd_lst (ds := []) (fun Ha _ Qa qa => qa [] Ha (Ex.refl Ha) .nil) (by decide)) (shaped_lsL ho) (shaped_ints []))) H1 (Ex.refl H1) _ fun H2 e2 => ?_
      rw [eqv_lsnil]
      have hR2 := hR.ex e2
      have hL2 := e2 _ _ hL
      by_cases hnil : ls = []
      · rw [decide_eq_true hnil, if_neg (by decide)]
        show (if false = true then _ else _)
        rw [if_neg Bool.false_ne_true]
        exact tail H2 ⟨rs, ls, hR2, by omega, ho, e1.trans (Exd.of e2), d1.ex e2, hL2⟩
      · rw [decide_eq_false hnil, if_pos (by decide)]
        refine (dvt_eq (p := p) (k := 0) ((dv_roll (m := 2) rfl (fun H1 => ev_c) (by decide) (by decide)).mono fun v ⟨r, hv, _⟩ => ⟨r, hv⟩)) H2 (Exd.refl p H2) (d1.ex e2) _ fun c H3 x3 d3 => ?_
        have x03 := (e1.trans (Exd.of e2)).trans x3
        obtain ⟨z1, z2, z3, hz⟩ := d1.ex e2
        have hR3 := hR2.st fun b xs h => sqt_dc hz x3 h
        have hL3 := x3 _ _ hLp hL2
        cases c with
        | false =>
          rw [if_neg Bool.false_ne_true]
          exact tail H3 ⟨rs, ls, hR3, by omega, ho, x03, d3, hL3⟩
        | true =>
          rw [if_pos rfl]
          have hpos : 0 < ls.length := List.length_pos_iff.mpr hnil
          have hrl := hR3.1
          refine ⟨.ref L, rfl, .inl ⟨rfl, _, sq_of hL3⟩, .ref p, rfl, .ref L, rfl, p, _, ⟨L, _, rfl, hLp, sq_of hL3, by rw [List.length_map]; omega, by rw [List.length_map]; omega, rfl⟩, d3, fun v H4 hv x4 d4 => ?_⟩
          obtain ⟨r, hr, rfl⟩ := List.mem_map.mp hv
          obtain ⟨k, hk⟩ := List.getElem?_of_mem hr
          have hkl : k < ls.length := by have := (List.getElem?_eq_some_iff.mp hk).1; omega
          obtain ⟨w1, w2, w3, hw⟩ := id d3
          have hR4 := hR3.st fun b xs h => sqt_dc hw x4 h
          have hA := hR4.2 k r _ hk (List.getElem?_eq_getElem hkl)
          have hL4 := x4 _ _ hLp hL3
          refine ⟨L, _, .ref r, rfl, rfl, hL4, sz_lt (by rw [List.length_map]; omega), tail _ ⟨rs ++ [r], ls ++ [ls[k]], (hR4.app (LrsAt.one hA)).st fun b xs h => sqt_upL hL4 h, by rw [List.length_append]; show _ + 1 ≤ 8; omega, fun l hl => ?_, fun b o hb ho => ?_, ?_, by rw [upd_same, List.map_append]; rfl⟩⟩
          · rcases List.mem_append.mp hl with z | z
            · exact ho l z
            · rw [List.mem_singleton.mp z]
              exact ho _ (List.getElem_mem hkl)
          · rw [upd_ne (fun z => by rw [z, hLn] at ho; cases ho)]
            exact (x03.trans x4) _ _ hb ho
          · obtain ⟨u1, u2, u3, hu⟩ := d4
            exact ⟨u1, u2, u3, by rw [upd_ne (Ne.symm hLp)]; exact hu⟩
    refine ⟨.ref p, rfl, .ref L, rfl, ⟨p, L, rs, ls, rfl, d2, hLp, hL, hR, by omega, ho, fun H3 x3 d3 => ⟨true, rfl, ?_⟩⟩⟩
    show (if false = true then _ else _)
    rw [if_neg Bool.false_ne_true]
    obtain ⟨z1, z2, z3, hz⟩ := id d2
    have hR3 := hR.st fun b xs h => sqt_dc hz x3 h
    have hL3 := x3 _ _ hLp hL
    refine q_asgB (C := T.C_Bag) (ls := ls) (eb_make (ap_monoX (ap_consU (eu_tupV (ev_var rfl) (sq_of hL3)) ap_nil) fun vs H5 e5 ⟨c, ws, hv, hc, hw⟩ => ⟨c, by rw [hv, hw]; rfl, rs, st_of hc, hR3.ex e5⟩) ⟨by omega, ho⟩) fun b H4 hb e4 hB => ?_
    have d4 := d3.ex e4
    have hL4 := e4 _ _ hL3
    have hR4 := hR3.ex e4
    have hbp : b ≠ p := d3.ne hb
    have hrl := hR4.1
    obtain ⟨y1, y2, y3, hy⟩ := id d4
    have same : ∀ {H5 : Hp}, Exd p H4 H5 → H5 L = some (.lst (rs.map V.ref)) ∧ LrsAt K H5 rs ls ∧ BgAt K T.C_Bag H5 b ls := fun {H5} x => ⟨x _ _ hLp hL4, hR4.st fun b xs h => sqt_dc hy x h, hB.dc x d4 hbp⟩
    have lenL : ∀ {H5 : Hp}, Exd p H4 H5 → RC (rLenS K) [.ref L] H5 (.int (ls.length : Int)) := fun {H5} x => by
      have := rc_lenL (K := K) (H := H5) (sq_of (same x).1)
      rwa [List.length_map, hrl] at this
    let P4 : Nat → L2.St → Hp → Prop := fun _ σ' H' => ∃ q1 q4 : Option V, σ' = [some (.ref p), q1, some (.ref L), some (.ref b), q4, none, none, none] ∧ Exd p H4 H' ∧ Dice p H'
    refine q_forR1 (n := 4) (ea_cons ev_c ea_nil) (by omega) P4 (fun H5 e5 => ⟨_, _, rfl, Exd.of e5, d4.ex e5⟩) (fun i σ' H' _ ⟨q1, q4, hσ, x5, d5⟩ => ?_) fun σ' H' ⟨q1, q4, hσ, x5, d5⟩ => ?_
    · subst hσ
      refine go_asgCB1 ?_
      refine goA (vs := [.ref p, .int (ls.length : Int)]) (ea_cons (ev_var rfl) (ea_cons (ev_cb (vs := [.ref L]) (ea_cons (ev_var rfl) ea_nil) (lenL x5)) ea_nil)) fun H6 e6 => ⟨p, _, ⟨ls.length, rfl, by omega, rfl⟩, d5.ex e6, fun a hs H7 ⟨hhl, hhx⟩ hap _ x7 d7 h7 => ⟨a, _, rfl, sq_of h7, fun t ht => ?_⟩⟩
      have x8 := ((x5.trans (Exd.of e6)).trans x7).trans (Exd.of (Ex.new (o := .tup ((natsI hs).map V.int)) ht))
      have d8 := d7.ex (Ex.new (o := .tup ((natsI hs).map V.int)) ht)
      have ht8 : upd H7 t (.tup ((natsI hs).map V.int)) t = some (.tup ((natsI hs).map V.int)) := upd_same
      obtain ⟨sL, sR, sB⟩ := same x8
      exact s_when (b := false) (et_is (et_test (ev_neD (evd_datS (vs := [.ref b, .ref t]) (ea_cons (ev_var rfl) (ea_cons (ev_var rfl) ea_nil)) fun H9 e9 => ⟨b, t, ls, hs, rfl, sB.ex e9, by omega, st_of (e9 _ _ ht8), hhx, by omega, rfl⟩) (evd_datS (vs := [.ref L, .ref t]) (ea_cons (ev_var rfl) (ea_cons (ev_var rfl) ea_nil)) fun H9 e9 => ⟨L, t, rs, ls, hs, rfl, sq_of (e9 _ _ sL), sR.ex e9, by omega, st_of (e9 _ _ ht8), hhx, by omega, rfl⟩) (shaped_jud _ _ _) (shaped_jud _ _ _))) (by rw [eqv_jud]; rfl)) (fun h => by cases h) (fun _ H9 e9 => ⟨_, _, rfl, x8.trans (Exd.of e9), d8.ex e9⟩)
    subst hσ
    obtain ⟨tL, tR, tB'⟩ := same x5
    refine go_asg ⟨.ref p, rfl, .ref L, rfl, p, L, rs, ls, rfl, d5, hLp, tL, tR, by omega, ho, fun wv hs H6 hw hwp _ x6 d6 h6 => ?_⟩
    obtain ⟨sL, sR, sB⟩ := same (x5.trans x6)
    refine q_when (b := false) (et_is (et_test (ev_neD (d := judD (glOf ls) ls.length hs) (e := .tuple [.tuple [], .tuple [], .tuple []]) (evd_datSP (ap_consE (v := .ref b) (ev_var rfl) (ap_consU (eu_tupV (ev_var rfl) (sq_of h6)) ap_nil)) fun vs H7 e7 ⟨ws, hv, c, us, hv2, hc, hu⟩ => ⟨b, c, ls, hs, by rw [hv, hv2, hu], sB.ex e7, by omega, st_of hc, woven_lt hw, by have := hw.1; omega, rfl⟩) (evd_tup (evda_cons (evd_tup evda_nil (by decide)) (evda_cons (evd_tup evda_nil (by decide)) (evda_cons (evd_tup evda_nil (by decide)) evda_nil))) (by decide)) (shaped_jud _ _ _) (by rw [← woven_jud hw]; exact shaped_jud _ _ _))) (by rw [woven_jud hw]; rfl)) (fun h => by cases h) fun _ H7 e7 => ?_
    let P5 : Nat → L2.St → Hp → Prop := fun _ σ' H' => ∃ q6 q7 : Option V, σ' = [some (.ref p), q1, some (.ref L), some (.ref b), q4, some (.ref wv), q6, q7] ∧ Ex H6 H'
    refine q_forR2n (lo := -1) (n := 6) (ea_cons (ev_un ev_c (fun Ha _ Q qa => ⟨1, rfl, qa Ha (Ex.refl Ha)⟩)) (ea_cons ev_c ea_nil)) (by omega) P5 (fun H8 e8 => ⟨_, _, rfl, e7.trans e8⟩) (fun i σ' H' hi ⟨q6, q7, hσ, e8⟩ => ?_) fun σ' H' ⟨q6, q7, hσ, e8⟩ => ?_
    · subst hσ
      have hB8 := sB.ex e8
      obtain ⟨dx8, a8, hob8, _⟩ := id hB8
      have hwo := hw.2 (-1 + (i : Int))
      have e := given_filt ls.length (fun k => decide ((ls.getD k (.word 0 "")).goal = -1 + (i : Int)))
      refine s_when (b := false) (et_is (et_test (ev_neD (evd_natsU (ns := hs.filter fun k => decide (glOf ls k = -1 + (i : Int))) ?_) (evd_natsU (ns := (List.range ls.length).filter fun k => decide ((ls.getD k (.word 0 "")).goal = -1 + (i : Int))) (by
        rw [← e]
        exact eu_methT (vs := [.int (-1 + (i : Int))]) (ev_var rfl) hob8 rfl (ea_cons (ev_var rfl) ea_nil) fun H9 e9 => ⟨b, -1 + (i : Int), ls, rfl, hB8.ex e9, by omega, by omega, by omega, rfl⟩)) (shaped_tup _) (shaped_tup _))) (by
          rw [hwo]
          show (!PyData.eqv (.tuple ((natsI ((List.range ls.length).filter fun k => decide ((ls.getD k (.word 0 "")).goal = -1 + (i : Int)))).map PyData.int)) _) = false
          rw [eqv_tup]
          rfl)) (fun h => by cases h) (fun _ H9 e9 => ⟨_, _, rfl, e8.trans e9⟩)
      have eg : (natsI (hs.filter fun k => decide (glOf ls k = -1 + (i : Int)))).map V.int = given hs.length (fun k => decide (glOf ls (hs.getD k 0) = -1 + (i : Int))) (fun k => V.int ((hs.getD k 0 : Nat) : Int)) := by
        rw [given_filter hs 0 (fun k => decide (glOf ls k = -1 + (i : Int))) (fun y => V.int ((y : Nat) : Int))]
        unfold natsI
        rw [List.map_map]
        rfl
      have hl : hs.length = ((natsI hs).map V.int).length := by rw [nats_len]
      have hl9 : hs.length ≤ 9 := by have := hw.1; omega
      rw [eg, hl]
      have hat : ∀ {k : Nat} {x : V}, ((natsI hs).map V.int)[k]? = some x → hs.getD k 0 ∈ hs ∧ x = .int ((hs.getD k 0 : Nat) : Int) := fun {k x} hx => by
        rw [List.getElem?_map] at hx
        unfold natsI at hx
        rw [List.getElem?_map] at hx
        cases hq : hs[k]? with
        | none => rw [hq] at hx; cases hx
        | some y =>
          rw [hq] at hx
          obtain rfl : x = .int (y : Int) := (Option.some.inj hx).symm
          have hd : hs.getD k 0 = y := by rw [List.getD_eq_getElem?_getD, hq]; rfl
          rw [hd]
          exact ⟨List.mem_of_getElem? hq, rfl⟩
      refine eu_tupL (el_lcL _ _ (ev_var rfl) (sq_of (e8 _ _ h6)) (by rw [← hl]; omega) (fun _ => rfl) (fun k x H9 e9 hx => ?_) fun k x H9 e9 hx _ => ?_)
      · obtain ⟨hm, rfl⟩ := hat hx
        have hlt := woven_lt hw _ hm
        have hgl := glAt hlt
        rw [← hgl]
        exact et_is (et_test (ev_op (ev_goalLetter (ev_var rfl) (hB8.ex e9) (by omega) (List.getElem?_eq_getElem hlt) (ev_var rfl)) (ev_var rfl) (rv_eq rfl))) (decide_eq_decide.mpr ⟨V.int.inj, fun h => by rw [h]⟩)
      · obtain ⟨hm, rfl⟩ := hat hx
        exact ev_var rfl
    subst hσ
    have sB8 := sB.ex e8
    obtain ⟨dx8, a8, hob8, hL8⟩ := id sB8
    have sL8 := e8 _ _ sL
    have sR8 := sR.ex e8
    refine s_ret (v := .bl true) (ev_is (ev_eqD (evd_of (ev_fld (ev_var rfl) hob8 T.cl_Bag T.n_Bag_letters rfl) fun H9 e => (hL8.ex e).dp) (evd_lsU (rs := rs) (eu_tupV (ev_var rfl) (sq_of sL8)) sR8) (shaped_ls ho) (shaped_ls ho)) (by rw [eqv_ls]; simp)) fun H9 e9 => q _ H9 rfl (((((x2.trans x3).trans (Exd.of e4)).trans x5).trans x6).trans (Exd.of (e8.trans e9))) (d6.ex (e8.trans e9))
end
end Kz
set_option Elab.async false
set_option linter.all false
set_option maxRecDepth 100000
set_option maxHeartbeats 4000000
set_option exponentiation.threshold 500
namespace Kz
open PySem PySem.Spec PyProof.Rows L2 Evl Vr
local macro_rules | `(tactic| walk_at "sc") => `(tactic| first | (with_reducible assumption) | (with_reducible exact sc_mul (by omega)) | (with_reducible exact sc_mulr (by omega)) | (with_reducible exact sc_div (by omega) (by decide)) | (show (0 : Int) < _; omega) | (show _ ≠ (0 : Int); omega) | (with_reducible rfl) | decide)
local macro_rules | `(tactic| walk_at "sq") => `(tactic| first | assumption | exact sq_of (by assumption) | exact st_of (by assumption))
local macro_rules | `(tactic| walk_at "pl") => `(tactic| first | assumption | exact pl_int | exact pl_bl | exact pl_str | exact pl_non | exact pl_lst (by assumption) | exact pl_tup (by assumption) | exact pl_dK (by assumption))
local macro_rules | `(tactic| walk_at "rv") => `(tactic| first
  | with_reducible exact rv_I0
  | with_reducible exact ru_neg
  | ((with_reducible apply rv_I); walk_at "sc")
  | ((with_reducible apply rv_ixL); walk_at "sq"; first | rfl | assumption)
  | ((with_reducible apply rv_ixT); walk_at "sq"; first | rfl | assumption)
  | ((with_reducible apply rv_eq); rfl) | ((with_reducible apply rv_ne); rfl))
local macro_rules | `(tactic| walk_at "rc") => `(tactic| first
  | with_reducible exact rc_I1 | with_reducible exact rc_B1 | with_reducible exact rc_I2 | ((with_reducible apply rc_repr); walk_at "sc") | ((with_reducible apply rc_lenL); walk_at "sq")
  | ((with_reducible apply rc_isiInt); walk_at "pl") | ((with_reducible apply rc_isiBool); walk_at "pl"))
local macro_rules | `(tactic| walk_at "ea") => `(tactic| first
  | with_reducible exact ea_nil | ((with_reducible apply ea_cons); walk_at "ev"; walk_at "ea"))
local macro_rules | `(tactic| walk_at "pow") => `(tactic| first
  | with_reducible exact ev_pow (a := 10) (b := 9) (c := 1000000000) (by decide +kernel) (by decide +kernel)
  | with_reducible exact ev_pow (a := 10) (b := 10) (c := 10000000000) (by decide +kernel) (by decide +kernel)
  | with_reducible exact ev_pow (a := 10) (b := 12) (c := 1000000000000) (by decide +kernel) (by decide +kernel)
  | with_reducible exact ev_pow (a := 10) (b := 17) (c := 100000000000000000) (by decide +kernel) (by decide +kernel)
  | with_reducible exact ev_pow (a := 10) (b := 20) (c := 100000000000000000000) (by decide +kernel) (by decide +kernel)
  | with_reducible exact ev_pow (a := 10) (b := 29) (c := 100000000000000000000000000000) (by decide +kernel) (by decide +kernel)
  | with_reducible exact ev_pow (a := 10) (b := 30) (c := 1000000000000000000000000000000) (by decide +kernel) (by decide +kernel)
  | with_reducible exact ev_pow (a := 10) (b := 40) (c := 10000000000000000000000000000000000000000) (by decide +kernel) (by decide +kernel)
  | with_reducible exact ev_pow (a := 10) (b := 57) (c := 1000000000000000000000000000000000000000000000000000000000) (by decide +kernel) (by decide +kernel)
  | with_reducible exact ev_pow (a := 10) (b := 58) (c := 10000000000000000000000000000000000000000000000000000000000) (by decide +kernel) (by decide +kernel)
  | with_reducible exact ev_pow (a := 10) (b := 59) (c := 100000000000000000000000000000000000000000000000000000000000) (by decide +kernel) (by decide +kernel)
  | with_reducible exact ev_pow (a := 10) (b := 60) (c := 1000000000000000000000000000000000000000000000000000000000000) (by decide +kernel) (by decide +kernel))
local macro_rules | `(tactic| walk_at "call") => `(tactic| (intro H9 e9; first | exact ⟨_, rfl, rfl⟩ | exact ⟨_, _, rfl, rfl⟩ | exact ⟨_, _, _, rfl, rfl⟩ | exact ⟨_, rfl, by walk_at "pl", rfl⟩ | (refine ⟨_, _, _, rfl, ?_, rfl⟩; first | exact Plain.ex e9 (by assumption) | walk_at "pl") | (refine ⟨_, rfl, ?_, rfl⟩; first | exact Plain.ex e9 (by assumption) | walk_at "pl")))
local macro_rules | `(tactic| walk_at "ev") => `(tactic| first
  | with_reducible exact ev_c
  | exact ev_var rfl
  | walk_at "pow"
  | ((with_reducible apply ev_op); walk_at "ev"; walk_at "ev"; walk_at "rv")
  | ((with_reducible apply ev_un); walk_at "ev"; walk_at "rv")
  | ((with_reducible apply ev_cb); walk_at "ea"; walk_at "rc")
  | ((with_reducible apply ev_callP); walk_at "ea"; walk_at "call")
  | ((with_reducible apply ev_chain); walk_at "ev"; walk_at "ev"; walk_at "rv"; walk_at "ev"; walk_at "rv")
  | ((with_reducible apply ev_andV); walk_at "ev"; intro _; walk_at "ev")
  | ((with_reducible apply ev_orV); walk_at "ev"; intro _; walk_at "ev")
  | ((with_reducible apply ev_ite); walk_at "et"; intro _; walk_at "ev"; intro _; walk_at "ev")
  | ((with_reducible apply ev_notV); walk_at "ev"))
local macro_rules | `(tactic| walk_at "et") => `(tactic| first
  | ((with_reducible apply et_test); walk_at "ev")
  | ((with_reducible apply et_B); walk_at "ev")
  | ((with_reducible apply et_and); walk_at "et"; intro _; walk_at "et")
  | ((with_reducible apply et_or); walk_at "et"; intro _; walk_at "et")
  | ((with_reducible apply et_not); walk_at "et"))
open En Wo Tx
section
variable {σ : L2.St} {H : Hp} {te ta tb to : TE} {ts tr : TA} {tu tz : TS} {D : Ends} {K : PySem.W.Frag} {C p a : Addr} {ls ms : List Lt}
theorem eb_methB {m : Str} {ok : List V → Hp → List Lt → Prop} {E : XK} {P : List V → Hp → Prop} (h : EvB K C to σ H ms) (hl : ∀ a, (bfs a).lookup m = none) (ha : EvAP ts σ H P) (hok : ∀ p vs H1, Ex H H1 → BgAt K C H1 p ms → P vs H1 → ok (.ref p :: vs) H1 ls) : EvB K C (tMeth C m (Bnew K C ok) [] E to ts) σ H ls := fun H1 e Q q =>
  h H1 e _ fun p H2 hn e2 hB => by
    obtain ⟨dx, b, hob, _⟩ := id hB
    exact ⟨p, dx, _, rfl, hob, hl b, ha H2 (e.trans e2) _ fun vs H3 e3 hp => by
      rw [List.append_nil]
      exact ⟨ls, hok p vs H3 ((e.trans e2).trans e3) (hB.ex e3) hp, fun r H4 hn e4 h4 => q r H4 (fresh_back (e2.trans e3) hn) ((e2.trans e3).trans e4) h4⟩⟩
theorem ap_consB {P2 : List V → Hp → Prop} (h : EvB K C te σ H ls) (hr : EvAP tr σ H P2) : EvAP (tCons te tr) σ H (fun vs H' => ∃ b ws, vs = .ref b :: ws ∧ BgAt K C H' b ls ∧ P2 ws H') := fun H1 e Q q =>
  h H1 e _ fun b H2 _ e2 h2 => hr H2 (e.trans e2) _ fun ws H3 e3 h3 => q (.ref b :: ws) H3 (e2.trans e3) ⟨b, ws, rfl, h2.ex e3, h3⟩
theorem ev_opB1 {r : V → V → Hp → VK → Prop} {y z : V} (h1 : EvB K C ta σ H ls) (h2 : Ev tb σ H y) (hr : ∀ p H1, Ex H H1 → BgAt K C H1 p ls → RV r (.ref p) y H1 z) : Ev (tOp r ta tb) σ H z := fun H1 e Q q =>
  h1 H1 e _ fun p H2 _ e2 hB => h2 H2 (e.trans e2) _ fun H3 e3 => hr p H3 ((e.trans e2).trans e3) (hB.ex e3) H3 (Ex.refl H3) Q fun H4 e4 => q H4 ((e2.trans e3).trans e4)
theorem q_asgDat {i : Nat} {d : PyData} (h : EvD K te σ H d) (k : ∀ v H1, Ex H H1 → Dp K H1 v d → tz D (σ.set i (some v)) H1) : tSeq (tAsg te (gName i)) tz D σ H := h H (Ex.refl H) _ fun v H1 e hd => k v H1 e hd
theorem dp_ref {v : V} {ds : List PyData} (h : Dp K H v (.tuple ds)) : ∃ r, v = .ref r := by
  cases h
  exact ⟨_, rfl⟩
theorem q_asg2D {i j : Nat} {d e : PyData} (h1 : EvD K ta σ H d) (h2 : EvD K tb σ H e) (k : ∀ v y H1, Ex H H1 → Dp K H1 v d → Dp K H1 y e → tz D ((σ.set i (some v)).set j (some y)) H1) : tSeq (tAsg (tTup (tCons ta (tCons tb tNil))) (gTup K 2 (gCons (gName i) (gCons (gName j) gNil)))) tz D σ H :=
  h1 H (Ex.refl H) _ fun v H1 e1 d1 => h2 H1 e1 _ fun y H2 e2 d2 => ⟨sz_of (by show 2 ≤ 100000; decide), fun r hr =>
    ⟨r, [v, y], rfl, st_of upd_same, rfl, v, [y], rfl, y, [], rfl, rfl, k v y _ ((e1.trans e2).trans (Ex.new hr)) (dp_ex (e2.trans (Ex.new hr)) d1) (dp_ex (Ex.new hr) d2)⟩⟩
theorem q_asgCall {sp : Sp} {E : XK} {ts : TA} {vs : List V} {i : Nat} (h : EvA ts σ H vs) (k : ∀ H1, Ex H H1 → sp vs H1 (fun v H2 => tz D (σ.set i (some v)) H2) E) : tSeq (tAsg (tCall sp [] E ts) (gName i)) tz D σ H := h H (Ex.refl H) _ fun H1 e1 => by
  show sp (vs ++ []) H1 _ E
  rw [List.append_nil]
  exact k H1 e1
/-- if not right(dice): return False -/
theorem s_whenR {E : XK} {i : Nat} (hs : σ[i]? = some (some (.ref p))) (d : Dice p H) (k : ∀ H1, Exd p H H1 → Dice p H1 → D.nx σ H1) :
    tIfS (tNot (tB (tCall (Draws fun vs _ p R => vs = [.ref p] ∧ R = fun v => v = .bl true) [] E (tCons (tVar i) tNil)))) tu tNext D σ H :=
  ⟨.ref p, hs, ⟨p, _, ⟨rfl, rfl⟩, d, fun v H1 hv e1 d1 => ⟨true, hv, by
    show (if (!true) = true then tu D σ H1 else tNext D σ H1)
    rw [if_neg (by decide)]
    exact k H1 e1 d1⟩⟩⟩
end
def ltK : Lt := .keys 1 3 [0, 5] 77
def ltR : Lt := .rows 1 0 [[0, 5], [64, -1]]
def lts : List Lt := [ltK, ltR, ltK]
theorem ltK_ok : ltK.ok := ⟨by decide, by decide, ⟨by decide, by decide⟩, by decide, by decide, by decide, by decide⟩
theorem ltR_ok : ltR.ok := ⟨by decide, by decide, ⟨by decide, by decide⟩, by decide, 2, fun e h => by
  simp only [List.mem_cons, List.not_mem_nil, or_false] at h
  rcases h with rfl | rfl
  · exact ⟨rfl, by decide, by decide, by decide⟩
  · exact ⟨rfl, by decide, by decide, by decide⟩⟩
theorem lts_ok : ∀ l ∈ lts, l.ok := fun l h => by
  simp only [lts, List.mem_cons, List.not_mem_nil, or_false] at h
  rcases h with rfl | rfl | rfl
  · exact ltK_ok
  · exact ltR_ok
  · exact ltK_ok
theorem srt_one (x : Int) : srt [x] = [x] := (srt_is (ms := [x]) (List.Perm.refl _) (by simp)).symm
theorem srt_nil : srt [] = [] := (srt_is (ms := []) (List.Perm.refl _) (by simp)).symm
theorem jud_is {gl : Nat → Int} {n : Nat} {hs a b c : List Nat} (h1 : lostL n hs = a) (h2 : doubL n hs = b) (h3 : ovr gl hs = c) (h4 : srt (natsI c) = natsI c) : judD gl n hs = .tuple [intsD (natsI a), intsD (natsI b), intsD (natsI c)] := by
  unfold judD
  rw [h1, h2, h3, h4]
theorem jud1 : judD (glOf lts) 3 [1, 2, 0, 2] = .tuple [.tuple [], .tuple [.int 2], .tuple [.int 0]] := jud_is (a := []) (b := [2]) (c := [0]) (by decide +kernel) (by decide +kernel) (by decide +kernel) (srt_one 0)
theorem jud2 : judD (glOf lts) 3 [1, 0, 2] = .tuple [.tuple [], .tuple [], .tuple []] := jud_is (a := []) (b := []) (c := []) (by decide +kernel) (by decide +kernel) (by decide +kernel) srt_nil
theorem jud3 : judD (glOf lts) 3 [] = .tuple [.tuple [.int 0, .int 1, .int 2], .tuple [], .tuple []] := jud_is (a := [0, 1, 2]) (b := []) (c := []) (by decide +kernel) (by decide +kernel) (by decide +kernel) srt_nil
theorem jud4 : judD (glOf []) 0 [] = .tuple [.tuple [], .tuple [], .tuple []] := jud_is (a := []) (b := []) (c := []) (by decide +kernel) (by decide +kernel) (by decide +kernel) srt_nil
theorem jud5 : judD (glOf lts) 3 [2, 0, 2, 1, 0] = .tuple [.tuple [], .tuple [.int 0, .int 2], .tuple [.int 0]] := jud_is (a := []) (b := [0, 2]) (c := [0]) (by decide +kernel) (by decide +kernel) (by decide +kernel) (srt_one 0)
def dTold : List PyData := [.tuple [.tuple [], .tuple [.int 2], .tuple [.int 0]], .tuple [.tuple [], .tuple [], .tuple []], .tuple [.tuple [.int 0, .int 1, .int 2], .tuple [], .tuple []], .tuple [.tuple [], .tuple [], .tuple []]]
section
variable {σ : L2.St} {H : Hp} {te : TE} {ts : TA} {K : PySem.W.Frag} {C p : Addr} {ls : List Lt} {E : XK}
theorem evd_jud {d : PyData} {hs : List Nat} (h : Ev te σ H (.ref p)) (hB : BgAt K C H p ls) (ht : EvA ts σ H ((natsI hs).map V.int)) (hl : ls.length ≤ 100) (hx : ∀ x ∈ hs, x < ls.length) (hh : hs.length ≤ 60) (hd : judD (glOf ls) ls.length hs = d) : EvD K (tCall (DatS K (kJud K C)) [] E (tCons te (tCons (tTup ts) tNil))) σ H d := by
  subst hd
  exact evd_datSP (ap_consE h (ap_consU (eu_tup ht (by rw [nats_len]; omega)) ap_nil)) fun vs H7 e7 ⟨ws, hv, c, us, hv2, hc, hu⟩ => ⟨p, c, ls, hs, by rw [hv, hv2, hu], hB.ex e7, hl, st_of hc, hx, hh, rfl⟩
theorem evd_judB {d : PyData} {hs : List Nat} (h : EvB K C te σ H ls) (ht : EvA ts σ H ((natsI hs).map V.int)) (hl : ls.length ≤ 100) (hx : ∀ x ∈ hs, x < ls.length) (hh : hs.length ≤ 60) (hd : judD (glOf ls) ls.length hs = d) : EvD K (tCall (DatS K (kJud K C)) [] E (tCons te (tCons (tTup ts) tNil))) σ H d := by
  subst hd
  exact evd_datSP (ap_consB h (ap_consU (eu_tup ht (by rw [nats_len]; omega)) ap_nil)) fun vs H7 e7 ⟨p, ws, hv, hB, c, us, hv2, hc, hu⟩ => ⟨p, c, ls, hs, by rw [hv, hv2, hu], hB, hl, st_of hc, hx, hh, rfl⟩
end
section
variable {P : Program} {w : World} {K : PySem.W.Frag} {mg : Str → Option Value} {base : Heap}
def spLaw (K : PySem.W.Frag) : Sp := fun vs H Q _ => ∃ (a : Addr) (ns : List Int), vs = [.ref a] ∧ SqL K H a (ns.map V.int) ∧ ns.length ≤ 63 ∧ ∀ H', Q (.bl true) H'
theorem ok_law (T : Txt K mg w) {f : Addr} {fd : FuncData} (F : Fun K "law" "law" s_law f fd) : FnOk P w K mg base CX0 15 f fd ["script"] (spLaw K) := by
  have G_law_dice := ok_dice (P := P) (w := w) (base := base) T
  have G_law_right := ok_right (P := P) (w := w) (base := base) T
  have G_judged_handing := ok_judged_handing (P := P) (w := w) (base := base) T
  have G_Bag___init__ := ok_init (P := P) (w := w) (base := base) T
  have G_Bag___eq__ := ok_eq (P := P) (w := w) (base := base) T
  have G_Bag_sent := ok_sent (P := P) (w := w) (base := base) T
  have G_Bag_to := ok_to (P := P) (w := w) (base := base) T
  refine F.ok sc_law (fun vs H Q E h => ?_) (fun cdv A outer s H vs Q E hr h => ?_)
  · obtain ⟨_, _, rfl, _⟩ := h; rfl
  · obtain ⟨a, ns, rfl, hS, hlen, q⟩ := h
    refine ⟨_, (pss_cons (ps_for PassesOwn.never rfl (pi_range1 rfl T.z_range (pa_cons (pe_callB (c_max rfl) (by rfl) T.z_max (by decide +kernel) (pa_cons pe_int (pa_cons (pe_callB (c_min rfl) (by rfl) T.z_min (by decide +kernel) (pa_cons pe_int (pa_cons (pe_callB c_len (by rfl) T.z_len PySem.boot_len (pa_cons (pv 0) pa_nil)) pa_nil))) pa_nil))) pa_nil)) (pg_name (i := 1) sc_law.nd rfl (.inl rfl)) (pss_cons (ps_set (i := 2) sc_law.nd rfl (.inl rfl) (pe_call G_law_dice (hr.mono (by decide)) (by rfl) T.g_law_dice T.F_law_dice.kp T.b_law_dice .nil pass0 (pa_cons (pv 0) (pa_cons (pv 1) pa_nil))))
  (pss_one (ps_for PassesOwn.never rfl (pi_range1 rfl T.z_range (pa_cons pe_int pa_nil)) (pg_name (i := 3) sc_law.nd rfl (.inl rfl)) (pss_one (ps_if (pt_not (pt_val (pe_call G_law_right (hr.mono (by decide)) (by rfl) T.g_law_right T.F_law_right.kp T.b_law_right .nil pass0 (pa_cons (pv 2) pa_nil)))) (pss_one (ps_ret pe_bl)) pss_nil))))))
  (pss_cons (ps_asg (pe_tup (pa_cons (pe_tup (pa_cons pe_str (pa_cons pe_int (pa_cons pe_int (pa_cons (pe_tup (pa_cons pe_int (pa_cons pe_int pa_nil))) (pa_cons pe_int pa_nil)))))) (pa_cons (pe_tup (pa_cons pe_str (pa_cons pe_int (pa_cons pe_int (pa_cons (pe_tup (pa_cons (pe_tup (pa_cons pe_int (pa_cons pe_int pa_nil))) (pa_cons (pe_tup (pa_cons pe_int (pa_cons (pe_un un_neg pe_int) pa_nil))) pa_nil))) pa_nil))))) pa_nil))) (pg_tup rfl (pgs_cons (pg_name (i := 4) sc_law.nd rfl (.inl rfl)) (pgs_cons (pg_name (i := 5) sc_law.nd rfl (.inl rfl)) pgs_nil))))
  (pss_cons (ps_set (i := 6) sc_law.nd rfl (.inl rfl) (pe_meth (pe_meth (pe_make T.mk_Bag G_Bag___init__ (hr.mono (by decide)) (by rfl) T.g_Bag T.b_Bag___init__ .nil pass0 (pa_cons (pe_tup (pa_cons (pv 4) pa_nil)) pa_nil)) T.cl_Bag T.m_Bag_sent G_Bag_sent (hr.mono (by decide)) T.b_Bag_sent .nil pass0 (pa_cons (pv 5) pa_nil)) T.cl_Bag T.m_Bag_sent G_Bag_sent (hr.mono (by decide)) T.b_Bag_sent .nil pass0 (pa_cons (pv 4) pa_nil)))
  (pss_cons (ps_set (i := 7) sc_law.nd rfl (.inl rfl) (pe_lst (pa_cons (pe_call G_judged_handing (hr.mono (by decide)) (by rfl) T.g_judged_handing T.F_judged_handing.kp T.b_judged_handing .nil pass0 (pa_cons (pv 6) (pa_cons (pe_tup (pa_cons pe_int (pa_cons pe_int (pa_cons pe_int (pa_cons pe_int pa_nil))))) pa_nil))) (pa_cons (pe_call G_judged_handing (hr.mono (by decide)) (by rfl) T.g_judged_handing T.F_judged_handing.kp T.b_judged_handing .nil pass0 (pa_cons (pv 6) (pa_cons (pe_tup (pa_cons pe_int (pa_cons pe_int (pa_cons pe_int pa_nil)))) pa_nil))) (pa_cons (pe_call G_judged_handing (hr.mono (by decide)) (by rfl) T.g_judged_handing T.F_judged_handing.kp T.b_judged_handing .nil pass0 (pa_cons (pv 6) (pa_cons (pe_tup pa_nil) pa_nil))) (pa_cons (pe_call G_judged_handing (hr.mono (by decide)) (by rfl) T.g_judged_handing T.F_judged_handing.kp T.b_judged_handing .nil pass0 (pa_cons (pe_make0 T.mk_Bag G_Bag___init__ (hr.mono (by decide)) (by rfl) T.g_Bag T.bd_Bag___init__ (.cons (a := V.ref T.e_Bag___init__) rfl .nil) pass0) (pa_cons (pe_tup pa_nil) pa_nil))) pa_nil))))))
  (pss_cons (ps_if (pt_cmpR (op_neD hr.units) (pv 7) (pe_lst (pa_cons (pe_tup (pa_cons (pe_tup pa_nil) (pa_cons (pe_tup (pa_cons pe_int pa_nil)) (pa_cons (pe_tup (pa_cons pe_int pa_nil)) pa_nil)))) (pa_cons (pe_tup (pa_cons (pe_tup pa_nil) (pa_cons (pe_tup pa_nil) (pa_cons (pe_tup pa_nil) pa_nil)))) (pa_cons (pe_tup (pa_cons (pe_tup (pa_cons pe_int (pa_cons pe_int (pa_cons pe_int pa_nil)))) (pa_cons (pe_tup pa_nil) (pa_cons (pe_tup pa_nil) pa_nil)))) (pa_cons (pe_tup (pa_cons (pe_tup pa_nil) (pa_cons (pe_tup pa_nil) (pa_cons (pe_tup pa_nil) pa_nil)))) pa_nil))))) (nomark _)) (pss_one (ps_ret pe_bl)) pss_nil)
  (pss_one (ps_ret (pe_and (pe_cmpR (op_eqD hr.units) (pe_call G_judged_handing (hr.mono (by decide)) (by rfl) T.g_judged_handing T.F_judged_handing.kp T.b_judged_handing .nil pass0 (pa_cons (pv 6) (pa_cons (pe_tup (pa_cons pe_int (pa_cons pe_int (pa_cons pe_int (pa_cons pe_int (pa_cons pe_int pa_nil)))))) pa_nil))) (pe_tup (pa_cons (pe_tup pa_nil) (pa_cons (pe_tup (pa_cons pe_int (pa_cons pe_int pa_nil))) (pa_cons (pe_tup (pa_cons pe_int pa_nil)) pa_nil)))) (nomark _)) (pe_and (pe_cmpR (op_eqD hr.units) (pe_meth (pv 6) T.cl_Bag T.m_Bag_to G_Bag_to (hr.mono (by decide)) T.b_Bag_to .nil pass0 (pa_cons (pe_un un_neg pe_int) pa_nil)) (pe_tup (pa_cons pe_int (pa_cons pe_int pa_nil))) (nomark _)) (pe_and (pe_cmpR (op_eqD hr.units) (pe_meth (pv 6) T.cl_Bag T.m_Bag_to G_Bag_to (hr.mono (by decide)) T.b_Bag_to .nil pass0 (pa_cons pe_int pa_nil)) (pe_tup pa_nil) (nomark _)) (pe_one (pe_cmpR (op_neOK (K := K) rfl G_Bag___eq__ (hr.mono (by decide)) T.m_Bag___eq__ T.ne_Bag T.ob_Bag T.b_Bag___eq__ pass0) (pe_make0 T.mk_Bag G_Bag___init__ (hr.mono (by decide)) (by rfl) T.g_Bag T.bd_Bag___init__ (.cons (a := V.ref T.e_Bag___init__) rfl .nil) pass0) (pv 6) (nomark _))))))))))))), ?_⟩
    have hcnt : ∃ m : Int, 0 ≤ m ∧ m ≤ 1000 ∧ (if (if (ns.map V.int).length < (3 : Int) then ((ns.map V.int).length : Int) else 3) > 1 then (if (ns.map V.int).length < (3 : Int) then ((ns.map V.int).length : Int) else 3) else 1) = m := ⟨_, by split <;> split <;> omega, by split <;> split <;> omega, rfl⟩
    obtain ⟨m, hm0, hm1, hm⟩ := hcnt
    refine q_forR1 (n := m) (ea_cons (ev_is (by walk_at "ev") (by rw [← hm])) ea_nil) ⟨hm0, by omega⟩ (fun i σ' H' => Ex H H' ∧ ∃ z1 z2 z3, σ' = [some (.ref a), z1, z2, z3, none, none, none, none]) (fun H1 e1 => ⟨e1, none, none, none, rfl⟩) ?_ ?_
    · rintro i σ' H1 hi ⟨e1, z1, z2, z3, rfl⟩
      refine q_asgCall (vs := [.ref a, .int i]) (by walk_at "ea") fun H2 e2 => ⟨a, ns, i, rfl, ex_l (e1.trans e2) hS, fun p H3 hp e3 d3 => ?_⟩
      refine s_forR1 (n := 3) (ea_cons ev_c ea_nil) ⟨by decide, by decide⟩ (fun j σ' H' => Exd p H2 H' ∧ Dice p H' ∧ ∃ z3, σ' = [some (.ref a), some (.int i), some (.ref p), z3, none, none, none, none]) (fun H4 e4 => ⟨Exd.of (e3.trans e4), d3.ex e4, _, rfl⟩) ?_ ?_
      · rintro j σ' H4 hj ⟨x4, d4, z3, rfl⟩
        exact s_whenR (p := p) rfl d4 fun H5 x5 d5 => ⟨x4.trans x5, d5, _, rfl⟩
      · rintro σ' H4 ⟨x4, d4, z3, rfl⟩
        exact ⟨Exd.out x4 (e1.trans e2) (fresh_back (e1.trans e2) hp), _, _, _, rfl⟩
    rintro σ' H1 ⟨e1, z1, z2, z3, rfl⟩
    refine q_asg2D (d := ltK.dat) (e := ltR.dat) (evd_tup (evda_cons (evd_str ev_c) (evda_cons (evd_int ev_c) (evda_cons (evd_int ev_c) (evda_cons (evd_tup (evda_cons (evd_int ev_c) (evda_cons (evd_int ev_c) evda_nil)) (by decide)) (evda_cons (evd_int ev_c) evda_nil))))) (by show 5 ≤ 100000; decide)) (evd_tup (evda_cons (evd_str ev_c) (evda_cons (evd_int ev_c) (evda_cons (evd_int ev_c) (evda_cons (evd_tup (evda_cons (evd_tup (evda_cons (evd_int ev_c) (evda_cons (evd_int ev_c) evda_nil)) (by decide)) (evda_cons (evd_tup (evda_cons (evd_int ev_c) (evda_cons (evd_int (by walk_at "ev")) evda_nil)) (by decide)) evda_nil)) (by decide)) evda_nil)))) (by show 4 ≤ 100000; decide)) fun vk vr H2 e2 hk hr => ?_
    obtain ⟨rk, rfl⟩ := dp_ref hk
    obtain ⟨rr, rfl⟩ := dp_ref hr
    have hk : LtAt K H2 rk ltK := hk
    have hr : LtAt K H2 rr ltR := hr
    refine q_asgB (C := T.C_Bag) (ls := lts) (eb_methB (ms := [ltK, ltR]) (eb_methB (ms := [ltK]) (eb_make (ap_monoX (ap_consU (eu_tup (ea_cons (ev_var rfl) ea_nil) (by show 1 ≤ 100000; decide)) ap_nil) fun vs H5 e5 ⟨c, ws, hv, hc, hw⟩ => ⟨c, by rw [hv, hw]; rfl, [rk], st_of hc, LrsAt.one (hk.ex e5)⟩) ⟨by decide, fun l h => by rw [List.mem_singleton.mp h]; exact ltK_ok⟩) (fun _ => rfl) (ap_of (ea_cons (ev_var rfl) ea_nil)) fun p vs H3 e3 hB hv => ⟨p, rr, [ltK], ltR, by rw [hv], hB, by decide, hr.ex e3, ltR_ok, rfl⟩) (fun _ => rfl) (ap_of (ea_cons (ev_var rfl) ea_nil)) fun p vs H3 e3 hB hv => ⟨p, rk, [ltK, ltR], ltK, by rw [hv], hB, by decide, hk.ex e3, ltK_ok, rfl⟩) fun b H3 hb e3 hB => ?_
    have mkE : ∀ {σ' : L2.St} {H' : Hp} {E' : XK}, EvB K T.C_Bag (tMake T.C_Bag (spInit K T.C_Bag) [V.ref T.e_Bag___init__] E' tNil) σ' H' [] := fun {_ _ _} => eb_make (ap_nil.mono fun vs H1 h1 => ⟨T.e_Bag___init__, by rw [h1]; rfl, [], T.oe_Bag___init__ H1, rfl, fun i r l h => by cases h⟩) ⟨by decide, fun _ h => by cases h⟩
    refine q_asgDat (d := .list dTold) (evd_lst (evda_cons (evd_jud (hs := [1, 2, 0, 2]) (ev_var rfl) hB (ea_cons ev_c (ea_cons ev_c (ea_cons ev_c (ea_cons ev_c ea_nil)))) (by decide) (by decide) (by decide) jud1) (evda_cons (evd_jud (hs := [1, 0, 2]) (ev_var rfl) hB (ea_cons ev_c (ea_cons ev_c (ea_cons ev_c ea_nil))) (by decide) (by decide) (by decide) jud2) (evda_cons (evd_jud (hs := []) (ev_var rfl) hB ea_nil (by decide) (by decide) (by decide) jud3) (evda_cons (evd_judB (hs := []) mkE ea_nil (by decide) (by decide) (by decide) jud4) evda_nil)))) (by show 4 ≤ 100000; decide)) fun vt H4 e4 ht => ?_
    refine q_when (b := false) (et_is (et_test (ev_neD (d := .list dTold) (e := .list dTold) (evd_var rfl ht) (evd_lst (evda_cons ?w1 (evda_cons ?w2 (evda_cons ?w3 (evda_cons ?w4 evda_nil)))) (by show 4 ≤ 100000; decide)) (by decide +kernel) (by decide +kernel))) (by decide +kernel)) (fun h => by cases h) fun _ H5 e5 => ?_
    case w1 => exact evd_tup (evda_cons (evd_tup evda_nil (by decide)) (evda_cons (evd_tup (evda_cons (evd_int ev_c) evda_nil) (by decide)) (evda_cons (evd_tup (evda_cons (evd_int ev_c) evda_nil) (by decide)) evda_nil))) (by show 3 ≤ 100000; decide)
    case w2 => exact evd_tup (evda_cons (evd_tup evda_nil (by decide)) (evda_cons (evd_tup evda_nil (by decide)) (evda_cons (evd_tup evda_nil (by decide)) evda_nil))) (by show 3 ≤ 100000; decide)
    case w3 => exact evd_tup (evda_cons (evd_tup (evda_cons (evd_int ev_c) (evda_cons (evd_int ev_c) (evda_cons (evd_int ev_c) evda_nil))) (by decide)) (evda_cons (evd_tup evda_nil (by decide)) (evda_cons (evd_tup evda_nil (by decide)) evda_nil))) (by show 3 ≤ 100000; decide)
    case w4 => exact evd_tup (evda_cons (evd_tup evda_nil (by decide)) (evda_cons (evd_tup evda_nil (by decide)) (evda_cons (evd_tup evda_nil (by decide)) evda_nil))) (by show 3 ≤ 100000; decide)
    have hB5 := (hB.ex e4).ex e5
    obtain ⟨dx5, a5, hob5, _⟩ := id hB5
    refine s_ret (v := .bl true) (ev_is (ev_andV (a := true) (b := true) (ev_is (ev_eqD (d := .tuple [.tuple [], .tuple [.int 0, .int 2], .tuple [.int 0]]) (e := .tuple [.tuple [], .tuple [.int 0, .int 2], .tuple [.int 0]]) (evd_jud (hs := [2, 0, 2, 1, 0]) (ev_var rfl) hB5 (ea_cons ev_c (ea_cons ev_c (ea_cons ev_c (ea_cons ev_c (ea_cons ev_c ea_nil))))) (by decide) (by decide) (by decide) jud5) (evd_tup (evda_cons (evd_tup evda_nil (by decide)) (evda_cons (evd_tup (evda_cons (evd_int ev_c) (evda_cons (evd_int ev_c) evda_nil)) (by decide)) (evda_cons (evd_tup (evda_cons (evd_int ev_c) evda_nil) (by decide)) evda_nil))) (by show 3 ≤ 100000; decide)) (by decide +kernel) (by decide +kernel)) (by decide +kernel)) fun _ => ?_) rfl) fun H6 e6 => q H6
    refine ev_is (ev_andV (a := true) (b := true) (ev_is (ev_eqD (d := .tuple [.int 0, .int 2]) (e := .tuple [.int 0, .int 2]) (evd_intsU (ns := [0, 2]) (eu_methT (vs := [.int (-1)]) (ev_var rfl) hob5 rfl (ea_cons (by walk_at "ev") ea_nil) fun H6 e6 => ⟨b, -1, lts, rfl, hB5.ex e6, by decide, by decide, by decide, by decide +kernel⟩)) (evd_tup (evda_cons (evd_int ev_c) (evda_cons (evd_int ev_c) evda_nil)) (by show 2 ≤ 100000; decide)) (by decide +kernel) (by decide +kernel)) (by decide +kernel)) fun _ => ?_) rfl
    refine ev_is (ev_andV (a := true) (b := true) (ev_is (ev_eqD (d := .tuple []) (e := .tuple []) (evd_intsU (ns := []) (eu_methT (vs := [.int 0]) (ev_var rfl) hob5 rfl (ea_cons ev_c ea_nil) fun H6 e6 => ⟨b, 0, lts, rfl, hB5.ex e6, by decide, by decide, by decide, by decide +kernel⟩)) (evd_tup evda_nil (by decide)) (by decide +kernel) (by decide +kernel)) (by decide +kernel)) fun _ => ?_) rfl
    exact ev_is (ev_opB1 mkE (ev_var rfl) fun p H6 e6 hE => ne_bag T hE (hB5.ex e6) (fun _ h => by cases h) lts_ok) (by decide +kernel)
end
end Kz
set_option Elab.async false
set_option linter.all false
set_option maxRecDepth 100000
set_option maxHeartbeats 4000000
set_option exponentiation.threshold 500
namespace Kz
open PySem PySem.Spec PyProof.Rows L2 Evl Vr
open En Wo
theorem vals_ref {e : Addr} {ds : List Value} (h : Vals [V.ref e] ds) : ds = [Value.ref e] := by
  cases h with
  | cons h t =>
    cases t
    cases h
    rfl
theorem vals_nil {ds : List Value} (h : Vals [] ds) : ds = [] := by
  cases h
  rfl
theorem all_mk {l : PySem.W.OpenLaw} {w : World} {K : PySem.W.Frag} {h : Heap} {mg : Str → Option Value} {fa f0 f1 f2 f3 f4 f5 f6 f7 f8 f9 f10 f11 f12 f13 f14 f15 f16 f17 f18 f19 f20 f21 f22 f23 f24 f25 f26 f27 f28 f29 f30 f31 f32 f33 f34 f35 f36 f37 f38 f39 : Addr} (X : K.In h) (G : h.Ns mainGlobals mg) (hfa : mg "law" = some (.ref fa)) {aFM : Addr} {esFM : Array DictEntry} {nFM : Nat} {aTH : Addr} {odTH : Option Addr} {tTH0 tTH1 : Tok} {nTH : Nat} {slTH : Array (Option Value)} {aWI : Addr} {odWI : Option Addr} {tWI0 tWI1 : Tok} {nWI : Nat} {slWI : Array (Option Value)} {C_Bag : Addr} {t_MAX_SEATS : Tok} {t_MOST_ENTRY : Tok} {t_PRINT_MODULUS : Tok} {t_MOST_WORD : Tok} {t_HOST : Tok} {t_MOST_SEAT : Tok} {t_MOST_WORDS : Tok} {t_MOST_STRETCH : Tok} {t_MOST_PIECES : Tok} {t_MOST_PIECE : Tok}
    {od0 an0 od1 an1 od2 an2 od3 an3 od4 an4 od5 an5 od6 an6 od7 an7 od8 an8 od9 an9 od10 an10 od11 an11 od12 an12 od13 an13 od14 an14 od15 an15 od16 an16 od17 an17 od18 an18 od19 an19 od20 an20 od21 an21 od22 an22 od23 an23 od24 an24 od25 an25 od26 an26 od27 an27 od28 an28 od29 an29 od30 an30 od31 an31 od32 an32 od33 an33 od34 an34 od35 an35 od36 an36 od37 an37 od38 an38 od39 an39 : Option Addr} {sl0 sl1 sl2 sl3 sl4 sl5 sl6 sl7 sl8 sl9 sl10 sl11 sl12 sl13 sl14 sl15 sl16 sl17 sl18 sl19 sl20 sl21 sl22 sl23 sl24 sl25 sl26 sl27 sl28 sl29 sl30 sl31 sl32 sl33 sl34 sl35 sl36 sl37 sl38 sl39 : Array (Option Value)} {oc0 kV0 dc0 pm0 cd0 ct0 oc1 kV1 dc1 pm1 cd1 ct1 oc2 kV2 dc2 pm2 cd2 ct2 oc3 kV3 dc3 pm3 cd3 ct3 oc4 kV4 dc4 pm4 cd4 ct4 oc5 kV5 dc5 pm5 cd5 ct5 oc6 kV6 dc6 pm6 cd6 ct6 oc7 kV7 dc7 pm7 cd7 ct7 oc8 kV8 dc8 pm8 cd8 ct8 oc9 kV9 dc9 pm9 cd9 ct9 oc10 kV10 dc10 pm10 cd10 ct10 oc11 kV11 dc11 pm11 cd11 ct11 oc12 kV12 dc12 pm12 cd12 ct12 oc13 kV13 dc13 pm13 cd13 ct13 oc14 kV14 dc14 pm14 cd14 ct14 oc15 kV15 dc15 pm15 cd15 ct15 oc16 kV16 dc16 pm16 cd16 ct16 oc17 kV17 dc17 pm17 cd17 ct17 oc18 kV18 dc18 pm18 cd18 ct18 oc19 kV19 dc19 pm19 cd19 ct19 oc20 kV20 dc20 pm20 cd20 ct20 oc21 kV21 dc21 pm21 cd21 ct21 oc22 kV22 dc22 pm22 cd22 ct22 oc23 kV23 dc23 pm23 cd23 ct23 oc24 kV24 dc24 pm24 cd24 ct24 oc25 kV25 dc25 pm25 cd25 ct25 oc26 kV26 dc26 pm26 cd26 ct26 oc27 kV27 dc27 pm27 cd27 ct27 oc28 kV28 dc28 pm28 cd28 ct28 oc29 kV29 dc29 pm29 cd29 ct29 oc30 kV30 dc30 pm30 cd30 ct30 oc31 kV31 dc31 pm31 cd31 ct31 oc32 kV32 dc32 pm32 cd32 ct32 oc33 kV33 dc33 pm33 cd33 ct33 oc34 kV34 dc34 pm34 cd34 ct34 oc35 kV35 dc35 pm35 cd35 ct35 oc36 kV36 dc36 pm36 cd36 ct36 oc37 kV37 dc37 pm37 cd37 ct37 oc38 kV38 dc38 pm38 cd38 ct38 oc39 kV39 dc39 pm39 cd39 ct39 : Value}
    (aC_Bag : PySem.W.nsIn K mainGlobals "Bag" = some (some (.ref C_Bag))) (pg_Bag : PySem.W.plainGet K C_Bag Str.empty = true) (hd_Bag : PySem.W.hasDictIn K C_Bag = true) (po_Bag : PySem.W.plainOver K C_Bag = true) (sa_Bag : PySem.W.findIn K (.ref C_Bag) "__setattr__" = some (some (.builtin "object.__setattr__"))) (mi_Bag : PySem.W.makesIn K C_Bag = true) (kc_Bag : PySem.W.keepIn K (.ref C_Bag) = true)
    (nA_Bag_letters : PySem.W.findIn K (.ref C_Bag) "letters" = some none)
    (a0 : PySem.W.nsIn K mainGlobals "is_integer" = some (some (.ref f0))) (l0 : K.lookup f0 = some ⟨oc0, od0, .func (PySem.W.fnOf "is_integer" "is_integer" (defArgs s_is_integer) (defBody s_is_integer) (defScope s_is_integer) .none kV0 dc0 pm0 an0 cd0 ct0), sl0⟩) (c0 : PySem.W.codeIn K cd0 "is_integer" = true) (k0 : PySem.W.keepIn K (.ref f0) = true)
    (a1 : PySem.W.nsIn K mainGlobals "is_within" = some (some (.ref f1))) (l1 : K.lookup f1 = some ⟨oc1, od1, .func (PySem.W.fnOf "is_within" "is_within" (defArgs s_is_within) (defBody s_is_within) (defScope s_is_within) .none kV1 dc1 pm1 an1 cd1 ct1), sl1⟩) (c1 : PySem.W.codeIn K cd1 "is_within" = true) (k1 : PySem.W.keepIn K (.ref f1) = true)
    (a2 : PySem.W.nsIn K mainGlobals "is_whole" = some (some (.ref f2))) (l2 : K.lookup f2 = some ⟨oc2, od2, .func (PySem.W.fnOf "is_whole" "is_whole" (defArgs s_is_whole) (defBody s_is_whole) (defScope s_is_whole) .none kV2 dc2 pm2 an2 cd2 ct2), sl2⟩) (c2 : PySem.W.codeIn K cd2 "is_whole" = true) (k2 : PySem.W.keepIn K (.ref f2) = true)
    (a3 : PySem.W.nsIn K mainGlobals "has_signs" = some (some (.ref f3))) (l3 : K.lookup f3 = some ⟨oc3, od3, .func (PySem.W.fnOf "has_signs" "has_signs" (defArgs s_has_signs) (defBody s_has_signs) (defScope s_has_signs) .none kV3 dc3 pm3 an3 cd3 ct3), sl3⟩) (c3 : PySem.W.codeIn K cd3 "has_signs" = true) (k3 : PySem.W.keepIn K (.ref f3) = true)
    (a4 : PySem.W.nsIn K mainGlobals "is_entry_of_seat" = some (some (.ref f4))) (l4 : K.lookup f4 = some ⟨oc4, od4, .func (PySem.W.fnOf "is_entry_of_seat" "is_entry_of_seat" (defArgs s_is_entry_of_seat) (defBody s_is_entry_of_seat) (defScope s_is_entry_of_seat) .none kV4 dc4 pm4 an4 cd4 ct4), sl4⟩) (c4 : PySem.W.codeIn K cd4 "is_entry_of_seat" = true) (k4 : PySem.W.keepIn K (.ref f4) = true)
    (a5 : PySem.W.nsIn K mainGlobals "is_joint_of_some" = some (some (.ref f5))) (l5 : K.lookup f5 = some ⟨oc5, od5, .func (PySem.W.fnOf "is_joint_of_some" "is_joint_of_some" (defArgs s_is_joint_of_some) (defBody s_is_joint_of_some) (defScope s_is_joint_of_some) .none kV5 dc5 pm5 an5 cd5 ct5), sl5⟩) (c5 : PySem.W.codeIn K cd5 "is_joint_of_some" = true) (k5 : PySem.W.keepIn K (.ref f5) = true)
    (a6 : PySem.W.nsIn K mainGlobals "is_print" = some (some (.ref f6))) (l6 : K.lookup f6 = some ⟨oc6, od6, .func (PySem.W.fnOf "is_print" "is_print" (defArgs s_is_print) (defBody s_is_print) (defScope s_is_print) .none kV6 dc6 pm6 an6 cd6 ct6), sl6⟩) (c6 : PySem.W.codeIn K cd6 "is_print" = true) (k6 : PySem.W.keepIn K (.ref f6) = true)
    (a7 : PySem.W.nsIn K mainGlobals "is_word" = some (some (.ref f7))) (l7 : K.lookup f7 = some ⟨oc7, od7, .func (PySem.W.fnOf "is_word" "is_word" (defArgs s_is_word) (defBody s_is_word) (defScope s_is_word) .none kV7 dc7 pm7 an7 cd7 ct7), sl7⟩) (c7 : PySem.W.codeIn K cd7 "is_word" = true) (k7 : PySem.W.keepIn K (.ref f7) = true)
    (a8 : PySem.W.nsIn K mainGlobals "is_keys_letter" = some (some (.ref f8))) (l8 : K.lookup f8 = some ⟨oc8, od8, .func (PySem.W.fnOf "is_keys_letter" "is_keys_letter" (defArgs s_is_keys_letter) (defBody s_is_keys_letter) (defScope s_is_keys_letter) .none kV8 dc8 pm8 an8 cd8 ct8), sl8⟩) (c8 : PySem.W.codeIn K cd8 "is_keys_letter" = true) (k8 : PySem.W.keepIn K (.ref f8) = true)
    (a9 : PySem.W.nsIn K mainGlobals "is_rows_letter" = some (some (.ref f9))) (l9 : K.lookup f9 = some ⟨oc9, od9, .func (PySem.W.fnOf "is_rows_letter" "is_rows_letter" (defArgs s_is_rows_letter) (defBody s_is_rows_letter) (defScope s_is_rows_letter) .none kV9 dc9 pm9 an9 cd9 ct9), sl9⟩) (c9 : PySem.W.codeIn K cd9 "is_rows_letter" = true) (k9 : PySem.W.keepIn K (.ref f9) = true)
    (a10 : PySem.W.nsIn K mainGlobals "is_piece_letter" = some (some (.ref f10))) (l10 : K.lookup f10 = some ⟨oc10, od10, .func (PySem.W.fnOf "is_piece_letter" "is_piece_letter" (defArgs s_is_piece_letter) (defBody s_is_piece_letter) (defScope s_is_piece_letter) .none kV10 dc10 pm10 an10 cd10 ct10), sl10⟩) (c10 : PySem.W.codeIn K cd10 "is_piece_letter" = true) (k10 : PySem.W.keepIn K (.ref f10) = true)
    (a11 : PySem.W.nsIn K mainGlobals "is_word_letter" = some (some (.ref f11))) (l11 : K.lookup f11 = some ⟨oc11, od11, .func (PySem.W.fnOf "is_word_letter" "is_word_letter" (defArgs s_is_word_letter) (defBody s_is_word_letter) (defScope s_is_word_letter) .none kV11 dc11 pm11 an11 cd11 ct11), sl11⟩) (c11 : PySem.W.codeIn K cd11 "is_word_letter" = true) (k11 : PySem.W.keepIn K (.ref f11) = true)
    (a12 : PySem.W.nsIn K mainGlobals "is_letter" = some (some (.ref f12))) (l12 : K.lookup f12 = some ⟨oc12, od12, .func (PySem.W.fnOf "is_letter" "is_letter" (defArgs s_is_letter) (defBody s_is_letter) (defScope s_is_letter) .none kV12 dc12 pm12 an12 cd12 ct12), sl12⟩) (c12 : PySem.W.codeIn K cd12 "is_letter" = true) (k12 : PySem.W.keepIn K (.ref f12) = true)
    (a13 : PySem.W.nsIn K mainGlobals "need_letter" = some (some (.ref f13))) (l13 : K.lookup f13 = some ⟨oc13, od13, .func (PySem.W.fnOf "need_letter" "need_letter" (defArgs s_need_letter) (defBody s_need_letter) (defScope s_need_letter) .none kV13 dc13 pm13 an13 cd13 ct13), sl13⟩) (c13 : PySem.W.codeIn K cd13 "need_letter" = true) (k13 : PySem.W.keepIn K (.ref f13) = true)
    (a14 : PySem.W.nsIn K mainGlobals "goal_of" = some (some (.ref f14))) (l14 : K.lookup f14 = some ⟨oc14, od14, .func (PySem.W.fnOf "goal_of" "goal_of" (defArgs s_goal_of) (defBody s_goal_of) (defScope s_goal_of) .none kV14 dc14 pm14 an14 cd14 ct14), sl14⟩) (c14 : PySem.W.codeIn K cd14 "goal_of" = true) (k14 : PySem.W.keepIn K (.ref f14) = true)
    {dT15 dE15 : Addr} {oT15 oE15 : Option Addr} {nT15 nE15 : Nat} {xT15 xE15 : Array (Option Value)}
    (a15 : PySem.W.findIn K (.ref C_Bag) "__init__" = some (some (.ref f15))) (i15 : PySem.W.isFn K (.ref f15) = true) (l15 : K.lookup f15 = some ⟨oc15, od15, .func (PySem.W.fnOf "__init__" "Bag.__init__" (defArgs s_Bag___init__) (defBody s_Bag___init__) (defScope s_Bag___init__) (.ref dT15) kV15 dc15 pm15 an15 cd15 ct15), sl15⟩) (c15 : PySem.W.codeIn K cd15 "Bag.__init__" = true) (k15 : PySem.W.keepIn K (.ref f15) = true)
    (lT15 : K.lookup dT15 = some ⟨.type "tuple", oT15, .seq #[.ref dE15] nT15, xT15⟩) (lE15 : K.lookup dE15 = some ⟨.type "tuple", oE15, .seq #[] nE15, xE15⟩)
    (a16 : PySem.W.findIn K (.ref C_Bag) "_fill" = some (some (.ref f16))) (i16 : PySem.W.isFn K (.ref f16) = true) (l16 : K.lookup f16 = some ⟨oc16, od16, .func (PySem.W.fnOf "_fill" "Bag._fill" (defArgs s_Bag__fill) (defBody s_Bag__fill) (defScope s_Bag__fill) .none kV16 dc16 pm16 an16 cd16 ct16), sl16⟩) (c16 : PySem.W.codeIn K cd16 "Bag._fill" = true) (k16 : PySem.W.keepIn K (.ref f16) = true)
    (a17 : PySem.W.findIn K (.ref C_Bag) "sent" = some (some (.ref f17))) (i17 : PySem.W.isFn K (.ref f17) = true) (l17 : K.lookup f17 = some ⟨oc17, od17, .func (PySem.W.fnOf "sent" "Bag.sent" (defArgs s_Bag_sent) (defBody s_Bag_sent) (defScope s_Bag_sent) .none kV17 dc17 pm17 an17 cd17 ct17), sl17⟩) (c17 : PySem.W.codeIn K cd17 "Bag.sent" = true) (k17 : PySem.W.keepIn K (.ref f17) = true)
    (a18 : PySem.W.findIn K (.ref C_Bag) "sent_all" = some (some (.ref f18))) (i18 : PySem.W.isFn K (.ref f18) = true) (l18 : K.lookup f18 = some ⟨oc18, od18, .func (PySem.W.fnOf "sent_all" "Bag.sent_all" (defArgs s_Bag_sent_all) (defBody s_Bag_sent_all) (defScope s_Bag_sent_all) .none kV18 dc18 pm18 an18 cd18 ct18), sl18⟩) (c18 : PySem.W.codeIn K cd18 "Bag.sent_all" = true) (k18 : PySem.W.keepIn K (.ref f18) = true)
    (a19 : PySem.W.findIn K (.ref C_Bag) "letter" = some (some (.ref f19))) (i19 : PySem.W.isFn K (.ref f19) = true) (l19 : K.lookup f19 = some ⟨oc19, od19, .func (PySem.W.fnOf "letter" "Bag.letter" (defArgs s_Bag_letter) (defBody s_Bag_letter) (defScope s_Bag_letter) .none kV19 dc19 pm19 an19 cd19 ct19), sl19⟩) (c19 : PySem.W.codeIn K cd19 "Bag.letter" = true) (k19 : PySem.W.keepIn K (.ref f19) = true)
    (a20 : PySem.W.findIn K (.ref C_Bag) "to" = some (some (.ref f20))) (i20 : PySem.W.isFn K (.ref f20) = true) (l20 : K.lookup f20 = some ⟨oc20, od20, .func (PySem.W.fnOf "to" "Bag.to" (defArgs s_Bag_to) (defBody s_Bag_to) (defScope s_Bag_to) .none kV20 dc20 pm20 an20 cd20 ct20), sl20⟩) (c20 : PySem.W.codeIn K cd20 "Bag.to" = true) (k20 : PySem.W.keepIn K (.ref f20) = true)
    (a21 : PySem.W.findIn K (.ref C_Bag) "__len__" = some (some (.ref f21))) (i21 : PySem.W.isFn K (.ref f21) = true) (l21 : K.lookup f21 = some ⟨oc21, od21, .func (PySem.W.fnOf "__len__" "Bag.__len__" (defArgs s_Bag___len__) (defBody s_Bag___len__) (defScope s_Bag___len__) .none kV21 dc21 pm21 an21 cd21 ct21), sl21⟩) (c21 : PySem.W.codeIn K cd21 "Bag.__len__" = true) (k21 : PySem.W.keepIn K (.ref f21) = true)
    (a22 : PySem.W.findIn K (.ref C_Bag) "__eq__" = some (some (.ref f22))) (i22 : PySem.W.isFn K (.ref f22) = true) (l22 : K.lookup f22 = some ⟨oc22, od22, .func (PySem.W.fnOf "__eq__" "Bag.__eq__" (defArgs s_Bag___eq__) (defBody s_Bag___eq__) (defScope s_Bag___eq__) .none kV22 dc22 pm22 an22 cd22 ct22), sl22⟩) (c22 : PySem.W.codeIn K cd22 "Bag.__eq__" = true) (k22 : PySem.W.keepIn K (.ref f22) = true)
    (a23 : PySem.W.findIn K (.ref C_Bag) "__str__" = some (some (.ref f23))) (i23 : PySem.W.isFn K (.ref f23) = true) (l23 : K.lookup f23 = some ⟨oc23, od23, .func (PySem.W.fnOf "__str__" "Bag.__str__" (defArgs s_Bag___str__) (defBody s_Bag___str__) (defScope s_Bag___str__) .none kV23 dc23 pm23 an23 cd23 ct23), sl23⟩) (c23 : PySem.W.codeIn K cd23 "Bag.__str__" = true) (k23 : PySem.W.keepIn K (.ref f23) = true)
    (a24 : PySem.W.nsIn K mainGlobals "bag_of" = some (some (.ref f24))) (l24 : K.lookup f24 = some ⟨oc24, od24, .func (PySem.W.fnOf "bag_of" "bag_of" (defArgs s_bag_of) (defBody s_bag_of) (defScope s_bag_of) .none kV24 dc24 pm24 an24 cd24 ct24), sl24⟩) (c24 : PySem.W.codeIn K cd24 "bag_of" = true) (k24 : PySem.W.keepIn K (.ref f24) = true)
    (a25 : PySem.W.nsIn K mainGlobals "need_letters" = some (some (.ref f25))) (l25 : K.lookup f25 = some ⟨oc25, od25, .func (PySem.W.fnOf "need_letters" "need_letters" (defArgs s_need_letters) (defBody s_need_letters) (defScope s_need_letters) .none kV25 dc25 pm25 an25 cd25 ct25), sl25⟩) (c25 : PySem.W.codeIn K cd25 "need_letters" = true) (k25 : PySem.W.keepIn K (.ref f25) = true)
    (a26 : PySem.W.nsIn K mainGlobals "is_number_of" = some (some (.ref f26))) (l26 : K.lookup f26 = some ⟨oc26, od26, .func (PySem.W.fnOf "is_number_of" "is_number_of" (defArgs s_is_number_of) (defBody s_is_number_of) (defScope s_is_number_of) .none kV26 dc26 pm26 an26 cd26 ct26), sl26⟩) (c26 : PySem.W.codeIn K cd26 "is_number_of" = true) (k26 : PySem.W.keepIn K (.ref f26) = true)
    (a27 : PySem.W.nsIn K mainGlobals "judged_handing" = some (some (.ref f27))) (l27 : K.lookup f27 = some ⟨oc27, od27, .func (PySem.W.fnOf "judged_handing" "judged_handing" (defArgs s_judged_handing) (defBody s_judged_handing) (defScope s_judged_handing) .none kV27 dc27 pm27 an27 cd27 ct27), sl27⟩) (c27 : PySem.W.codeIn K cd27 "judged_handing" = true) (k27 : PySem.W.keepIn K (.ref f27) = true)
    (a28 : PySem.W.nsIn K mainGlobals "_law_dice" = some (some (.ref f28))) (l28 : K.lookup f28 = some ⟨oc28, od28, .func (PySem.W.fnOf "_law_dice" "_law_dice" (defArgs s_law_dice) (defBody s_law_dice) (defScope s_law_dice) .none kV28 dc28 pm28 an28 cd28 ct28), sl28⟩) (c28 : PySem.W.codeIn K cd28 "_law_dice" = true) (k28 : PySem.W.keepIn K (.ref f28) = true)
    (a29 : PySem.W.nsIn K mainGlobals "_law_roll" = some (some (.ref f29))) (l29 : K.lookup f29 = some ⟨oc29, od29, .func (PySem.W.fnOf "_law_roll" "_law_roll" (defArgs s_law_roll) (defBody s_law_roll) (defScope s_law_roll) .none kV29 dc29 pm29 an29 cd29 ct29), sl29⟩) (c29 : PySem.W.codeIn K cd29 "_law_roll" = true) (k29 : PySem.W.keepIn K (.ref f29) = true)
    (a30 : PySem.W.nsIn K mainGlobals "_law_pick" = some (some (.ref f30))) (l30 : K.lookup f30 = some ⟨oc30, od30, .func (PySem.W.fnOf "_law_pick" "_law_pick" (defArgs s_law_pick) (defBody s_law_pick) (defScope s_law_pick) .none kV30 dc30 pm30 an30 cd30 ct30), sl30⟩) (c30 : PySem.W.codeIn K cd30 "_law_pick" = true) (k30 : PySem.W.keepIn K (.ref f30) = true)
    (a31 : PySem.W.nsIn K mainGlobals "_law_shuffled" = some (some (.ref f31))) (l31 : K.lookup f31 = some ⟨oc31, od31, .func (PySem.W.fnOf "_law_shuffled" "_law_shuffled" (defArgs s_law_shuffled) (defBody s_law_shuffled) (defScope s_law_shuffled) .none kV31 dc31 pm31 an31 cd31 ct31), sl31⟩) (c31 : PySem.W.codeIn K cd31 "_law_shuffled" = true) (k31 : PySem.W.keepIn K (.ref f31) = true)
    (a32 : PySem.W.nsIn K mainGlobals "_law_lt_goal" = some (some (.ref f32))) (l32 : K.lookup f32 = some ⟨oc32, od32, .func (PySem.W.fnOf "_law_lt_goal" "_law_lt_goal" (defArgs s_law_lt_goal) (defBody s_law_lt_goal) (defScope s_law_lt_goal) .none kV32 dc32 pm32 an32 cd32 ct32), sl32⟩) (c32 : PySem.W.codeIn K cd32 "_law_lt_goal" = true) (k32 : PySem.W.keepIn K (.ref f32) = true)
    (a33 : PySem.W.nsIn K mainGlobals "_law_lt_drawn" = some (some (.ref f33))) (l33 : K.lookup f33 = some ⟨oc33, od33, .func (PySem.W.fnOf "_law_lt_drawn" "_law_lt_drawn" (defArgs s_law_lt_drawn) (defBody s_law_lt_drawn) (defScope s_law_lt_drawn) .none kV33 dc33 pm33 an33 cd33 ct33), sl33⟩) (c33 : PySem.W.codeIn K cd33 "_law_lt_drawn" = true) (k33 : PySem.W.keepIn K (.ref f33) = true)
    (a34 : PySem.W.nsIn K mainGlobals "_law_bag_right" = some (some (.ref f34))) (l34 : K.lookup f34 = some ⟨oc34, od34, .func (PySem.W.fnOf "_law_bag_right" "_law_bag_right" (defArgs s_law_bag_right) (defBody s_law_bag_right) (defScope s_law_bag_right) .none kV34 dc34 pm34 an34 cd34 ct34), sl34⟩) (c34 : PySem.W.codeIn K cd34 "_law_bag_right" = true) (k34 : PySem.W.keepIn K (.ref f34) = true)
    (a35 : PySem.W.nsIn K mainGlobals "_law_judged" = some (some (.ref f35))) (l35 : K.lookup f35 = some ⟨oc35, od35, .func (PySem.W.fnOf "_law_judged" "_law_judged" (defArgs s_law_judged) (defBody s_law_judged) (defScope s_law_judged) .none kV35 dc35 pm35 an35 cd35 ct35), sl35⟩) (c35 : PySem.W.codeIn K cd35 "_law_judged" = true) (k35 : PySem.W.keepIn K (.ref f35) = true)
    (a36 : PySem.W.nsIn K mainGlobals "_law_handing_drawn" = some (some (.ref f36))) (l36 : K.lookup f36 = some ⟨oc36, od36, .func (PySem.W.fnOf "_law_handing_drawn" "_law_handing_drawn" (defArgs s_law_handing_drawn) (defBody s_law_handing_drawn) (defScope s_law_handing_drawn) .none kV36 dc36 pm36 an36 cd36 ct36), sl36⟩) (c36 : PySem.W.codeIn K cd36 "_law_handing_drawn" = true) (k36 : PySem.W.keepIn K (.ref f36) = true)
    (a37 : PySem.W.nsIn K mainGlobals "_law_woven" = some (some (.ref f37))) (l37 : K.lookup f37 = some ⟨oc37, od37, .func (PySem.W.fnOf "_law_woven" "_law_woven" (defArgs s_law_woven) (defBody s_law_woven) (defScope s_law_woven) .none kV37 dc37 pm37 an37 cd37 ct37), sl37⟩) (c37 : PySem.W.codeIn K cd37 "_law_woven" = true) (k37 : PySem.W.keepIn K (.ref f37) = true)
    (a38 : PySem.W.nsIn K mainGlobals "_law_right" = some (some (.ref f38))) (l38 : K.lookup f38 = some ⟨oc38, od38, .func (PySem.W.fnOf "_law_right" "_law_right" (defArgs s_law_right) (defBody s_law_right) (defScope s_law_right) .none kV38 dc38 pm38 an38 cd38 ct38), sl38⟩) (c38 : PySem.W.codeIn K cd38 "_law_right" = true) (k38 : PySem.W.keepIn K (.ref f38) = true)
    (a39 : PySem.W.nsIn K mainGlobals "law" = some (some (.ref f39))) (l39 : K.lookup f39 = some ⟨oc39, od39, .func (PySem.W.fnOf "law" "law" (defArgs s_law) (defBody s_law) (defScope s_law) .none kV39 dc39 pm39 an39 cd39 ct39), sl39⟩) (c39 : PySem.W.codeIn K cd39 "law" = true) (k39 : PySem.W.keepIn K (.ref f39) = true)
    (z_abs : PySem.W.nsIn K mainGlobals "abs" = some none)
    (z_max : PySem.W.nsIn K mainGlobals "max" = some none)
    (z_min : PySem.W.nsIn K mainGlobals "min" = some none)
    (z_int : PySem.W.nsIn K mainGlobals "int" = some none)
    (z_len : PySem.W.nsIn K mainGlobals "len" = some none)
    (z_range : PySem.W.nsIn K mainGlobals "range" = some none)
    (z_isinstance : PySem.W.nsIn K mainGlobals "isinstance" = some none)
    (z_sorted : PySem.W.nsIn K mainGlobals "sorted" = some none)
    (z_str : PySem.W.nsIn K mainGlobals "str" = some none)
    (z_bool : PySem.W.nsIn K mainGlobals "bool" = some none)
    (z_tuple : PySem.W.nsIn K mainGlobals "tuple" = some none)
    (z_list : PySem.W.nsIn K mainGlobals "list" = some none)
    (z_all : PySem.W.nsIn K mainGlobals "all" = some none)
    (z_enumerate : PySem.W.nsIn K mainGlobals "enumerate" = some none)
    (v_MAX_SEATS : PySem.W.nsIn K mainGlobals "MAX_SEATS" = some (some (.int (4) t_MAX_SEATS)))
    (v_MOST_ENTRY : PySem.W.nsIn K mainGlobals "MOST_ENTRY" = some (some (.int (127) t_MOST_ENTRY)))
    (v_PRINT_MODULUS : PySem.W.nsIn K mainGlobals "PRINT_MODULUS" = some (some (.int (999999937) t_PRINT_MODULUS)))
    (v_MOST_WORD : PySem.W.nsIn K mainGlobals "MOST_WORD" = some (some (.int (63) t_MOST_WORD)))
    (v_HOST : PySem.W.nsIn K mainGlobals "HOST" = some (some (.int (-1) t_HOST)))
    (v_MOST_SEAT : PySem.W.nsIn K mainGlobals "MOST_SEAT" = some (some (.int (5) t_MOST_SEAT)))
    (v_MOST_WORDS : PySem.W.nsIn K mainGlobals "MOST_WORDS" = some (some (.int (20) t_MOST_WORDS)))
    (v_MOST_STRETCH : PySem.W.nsIn K mainGlobals "MOST_STRETCH" = some (some (.int (32) t_MOST_STRETCH)))
    (v_MOST_PIECES : PySem.W.nsIn K mainGlobals "MOST_PIECES" = some (some (.int (100) t_MOST_PIECES)))
    (v_MOST_PIECE : PySem.W.nsIn K mainGlobals "MOST_PIECE" = some (some (.int (200) t_MOST_PIECE)))
    (fA : PySem.W.nsIn K mainGlobals "FORMS" = some (some (.ref aFM)))
    (fL : K.lookup aFM = some ⟨.type "dict", none, .dict esFM nFM, #[]⟩)
    (fK : PySem.W.KeysLit w.params esFM.toList)
    (fS : (aFM == sysModules) = false)
    (tA : PySem.W.nsIn K mainGlobals "TO_HOST" = some (some (.ref aTH)))
    (tL : K.lookup aTH = some ⟨.type "tuple", odTH, .seq #[.str "keys" tTH0, .str "word" tTH1] nTH, slTH⟩)
    (wA : PySem.W.nsIn K mainGlobals "WISHES" = some (some (.ref aWI)))
    (wL : K.lookup aWI = some ⟨.type "tuple", odWI, .seq #[.str "come" tWI0, .str "go" tWI1] nWI, slWI⟩)
    (fkkeys : PySem.W.nsIn K aFM "keys" = some (some (.ref f8)))
    (fkrows : PySem.W.nsIn K aFM "rows" = some (some (.ref f9)))
    (fkpiece : PySem.W.nsIn K aFM "piece" = some (some (.ref f10)))
    (fkword : PySem.W.nsIn K aFM "word" = some (some (.ref f11)))
    (vha_Bag : PySem.W.findIn K (.ref C_Bag) "__class__" = some (some (.builtin "object.__class__")))
    (vhn_Bag : PySem.W.specialIn K (.builtin "object.__class__") "__get__" = some (some (.builtin "getset_descriptor.__get__")))
    (vht_Bag : PySem.W.takesIn K (.builtin "object.__class__") = some true)
    (vhm_Bag : PySem.W.mroIn K C_Bag (.type "object") = some true)
    (vhy_Bag : PySem.W.typeIn K (.ref C_Bag) = some (.type "type"))
    (vhs_Bag_tuple : PySem.W.subIn K (.type "tuple") (.ref C_Bag) = some false)
    (vne_Bag : PySem.W.findIn K (.ref C_Bag) "__ne__" = some (some (.builtin "object.__ne__")))
    (vob_Bag : PySem.W.subIn K (.ref C_Bag) (.type "object") = some true)
    : ∃ fd : FuncData, (∀ (s : Shared) (v : Value), BindsTo s fd ⟨[v], []⟩ [("script", v)]) ∧ ∀ base : Heap, K.In base → base.Ns mainGlobals mg → FnOk l.prog w K mg base CX0 15 fa fd ["script"] (spLaw K) := by
  have e := hfa.symm.trans (PySem.W.mg_of X G a39)
  cases e
  have F0 := fun_mk (st := s_is_integer) l0 c0 k0
  have b0 := F0.binds (ps := ["value"]) fun _ _ _ _ _ _ us hl => match us, hl with | [_], _ => rfl
  have F1 := fun_mk (st := s_is_within) l1 c1 k1
  have b1 := F1.binds (ps := ["value", "low", "high"]) fun _ _ _ _ _ _ us hl => match us, hl with | [_, _, _], _ => rfl
  have F2 := fun_mk (st := s_is_whole) l2 c2 k2
  have b2 := F2.binds (ps := ["value"]) fun _ _ _ _ _ _ us hl => match us, hl with | [_], _ => rfl
  have F3 := fun_mk (st := s_has_signs) l3 c3 k3
  have b3 := F3.binds (ps := ["value", "least", "most"]) fun _ _ _ _ _ _ us hl => match us, hl with | [_, _, _], _ => rfl
  have F4 := fun_mk (st := s_is_entry_of_seat) l4 c4 k4
  have b4 := F4.binds (ps := ["value"]) fun _ _ _ _ _ _ us hl => match us, hl with | [_], _ => rfl
  have F5 := fun_mk (st := s_is_joint_of_some) l5 c5 k5
  have b5 := F5.binds (ps := ["value"]) fun _ _ _ _ _ _ us hl => match us, hl with | [_], _ => rfl
  have F6 := fun_mk (st := s_is_print) l6 c6 k6
  have b6 := F6.binds (ps := ["value"]) fun _ _ _ _ _ _ us hl => match us, hl with | [_], _ => rfl
  have F7 := fun_mk (st := s_is_word) l7 c7 k7
  have b7 := F7.binds (ps := ["value"]) fun _ _ _ _ _ _ us hl => match us, hl with | [_], _ => rfl
  have F8 := fun_mk (st := s_is_keys_letter) l8 c8 k8
  have b8 := F8.binds (ps := ["value"]) fun _ _ _ _ _ _ us hl => match us, hl with | [_], _ => rfl
  have F9 := fun_mk (st := s_is_rows_letter) l9 c9 k9
  have b9 := F9.binds (ps := ["value"]) fun _ _ _ _ _ _ us hl => match us, hl with | [_], _ => rfl
  have F10 := fun_mk (st := s_is_piece_letter) l10 c10 k10
  have b10 := F10.binds (ps := ["value"]) fun _ _ _ _ _ _ us hl => match us, hl with | [_], _ => rfl
  have F11 := fun_mk (st := s_is_word_letter) l11 c11 k11
  have b11 := F11.binds (ps := ["value"]) fun _ _ _ _ _ _ us hl => match us, hl with | [_], _ => rfl
  have F12 := fun_mk (st := s_is_letter) l12 c12 k12
  have b12 := F12.binds (ps := ["value"]) fun _ _ _ _ _ _ us hl => match us, hl with | [_], _ => rfl
  have F13 := fun_mk (st := s_need_letter) l13 c13 k13
  have b13 := F13.binds (ps := ["value"]) fun _ _ _ _ _ _ us hl => match us, hl with | [_], _ => rfl
  have F14 := fun_mk (st := s_goal_of) l14 c14 k14
  have b14 := F14.binds (ps := ["letter"]) fun _ _ _ _ _ _ us hl => match us, hl with | [_], _ => rfl
  have F15 : FunD K "__init__" "Bag.__init__" (defArgs s_Bag___init__) (defBody s_Bag___init__) (defScope s_Bag___init__) [V.ref dE15] [] f15 _ := ⟨⟨_, _, _, _, _, _, _, _, _, _, rfl, l15, c15, .inr ⟨by simp, dT15, _, [.ref dE15], _, rfl, lT15, rfl, .cons rfl .nil⟩, .inl rfl⟩, k15⟩
  obtain ⟨ds, hv, bd15⟩ := F15.binds1 (ps := ["self", "letters"]) 1 0 (by simp) rfl fun _ _ _ _ _ _ _ us its hu hi => match us, hu, its, hi with | [_], _, [_], _ => ⟨_, rfl, rfl⟩
  obtain rfl := vals_ref hv
  obtain ⟨ds, hv, b15⟩ := F15.binds1 (ps := ["self", "letters"]) 2 1 (by simp) rfl fun _ _ _ _ _ _ _ us its hu hi => match us, hu, its, hi with | [_, _], _, [_], _ => ⟨_, rfl, rfl⟩
  obtain rfl := vals_nil hv
  have F16 := fun_mk (st := s_Bag__fill) l16 c16 k16
  have b16 := F16.binds (ps := ["self", "letters"]) fun _ _ _ _ _ _ us hl => match us, hl with | [_, _], _ => rfl
  have F17 := fun_mk (st := s_Bag_sent) l17 c17 k17
  have b17 := F17.binds (ps := ["self", "letter"]) fun _ _ _ _ _ _ us hl => match us, hl with | [_, _], _ => rfl
  have F18 := fun_mk (st := s_Bag_sent_all) l18 c18 k18
  have b18 := F18.binds (ps := ["self", "letters"]) fun _ _ _ _ _ _ us hl => match us, hl with | [_, _], _ => rfl
  have F19 := fun_mk (st := s_Bag_letter) l19 c19 k19
  have b19 := F19.binds (ps := ["self", "number"]) fun _ _ _ _ _ _ us hl => match us, hl with | [_, _], _ => rfl
  have F20 := fun_mk (st := s_Bag_to) l20 c20 k20
  have b20 := F20.binds (ps := ["self", "goal"]) fun _ _ _ _ _ _ us hl => match us, hl with | [_, _], _ => rfl
  have F21 := fun_mk (st := s_Bag___len__) l21 c21 k21
  have b21 := F21.binds (ps := ["self"]) fun _ _ _ _ _ _ us hl => match us, hl with | [_], _ => rfl
  have F22 := fun_mk (st := s_Bag___eq__) l22 c22 k22
  have b22 := F22.binds (ps := ["self", "other"]) fun _ _ _ _ _ _ us hl => match us, hl with | [_, _], _ => rfl
  have F23 := fun_mk (st := s_Bag___str__) l23 c23 k23
  have b23 := F23.binds (ps := ["self"]) fun _ _ _ _ _ _ us hl => match us, hl with | [_], _ => rfl
  have F24 := fun_mk (st := s_bag_of) l24 c24 k24
  have b24 := F24.binds (ps := ["letters"]) fun _ _ _ _ _ _ us hl => match us, hl with | [_], _ => rfl
  have F25 := fun_mk (st := s_need_letters) l25 c25 k25
  have b25 := F25.binds (ps := ["value"]) fun _ _ _ _ _ _ us hl => match us, hl with | [_], _ => rfl
  have F26 := fun_mk (st := s_is_number_of) l26 c26 k26
  have b26 := F26.binds (ps := ["bag", "value"]) fun _ _ _ _ _ _ us hl => match us, hl with | [_, _], _ => rfl
  have F27 := fun_mk (st := s_judged_handing) l27 c27 k27
  have b27 := F27.binds (ps := ["bag", "handing"]) fun _ _ _ _ _ _ us hl => match us, hl with | [_, _], _ => rfl
  have F28 := fun_mk (st := s_law_dice) l28 c28 k28
  have b28 := F28.binds (ps := ["script", "spot"]) fun _ _ _ _ _ _ us hl => match us, hl with | [_, _], _ => rfl
  have F29 := fun_mk (st := s_law_roll) l29 c29 k29
  have b29 := F29.binds (ps := ["dice", "total"]) fun _ _ _ _ _ _ us hl => match us, hl with | [_, _], _ => rfl
  have F30 := fun_mk (st := s_law_pick) l30 c30 k30
  have b30 := F30.binds (ps := ["dice", "items"]) fun _ _ _ _ _ _ us hl => match us, hl with | [_, _], _ => rfl
  have F31 := fun_mk (st := s_law_shuffled) l31 c31 k31
  have b31 := F31.binds (ps := ["dice", "items"]) fun _ _ _ _ _ _ us hl => match us, hl with | [_, _], _ => rfl
  have F32 := fun_mk (st := s_law_lt_goal) l32 c32 k32
  have b32 := F32.binds (ps := ["letter"]) fun _ _ _ _ _ _ us hl => match us, hl with | [_], _ => rfl
  have F33 := fun_mk (st := s_law_lt_drawn) l33 c33 k33
  have b33 := F33.binds (ps := ["dice"]) fun _ _ _ _ _ _ us hl => match us, hl with | [_], _ => rfl
  have F34 := fun_mk (st := s_law_bag_right) l34 c34 k34
  have b34 := F34.binds (ps := ["dice", "letters"]) fun _ _ _ _ _ _ us hl => match us, hl with | [_, _], _ => rfl
  have F35 := fun_mk (st := s_law_judged) l35 c35 k35
  have b35 := F35.binds (ps := ["letters", "handing"]) fun _ _ _ _ _ _ us hl => match us, hl with | [_, _], _ => rfl
  have F36 := fun_mk (st := s_law_handing_drawn) l36 c36 k36
  have b36 := F36.binds (ps := ["dice", "many"]) fun _ _ _ _ _ _ us hl => match us, hl with | [_, _], _ => rfl
  have F37 := fun_mk (st := s_law_woven) l37 c37 k37
  have b37 := F37.binds (ps := ["dice", "letters"]) fun _ _ _ _ _ _ us hl => match us, hl with | [_, _], _ => rfl
  have F38 := fun_mk (st := s_law_right) l38 c38 k38
  have b38 := F38.binds (ps := ["dice"]) fun _ _ _ _ _ _ us hl => match us, hl with | [_], _ => rfl
  have F39 := fun_mk (st := s_law) l39 c39 k39
  let T : Txt K mg w := {
    a_is_integer := f0
    fd_is_integer := _
    F_is_integer := F0
    g_is_integer := PySem.W.mg_of X G a0
    b_is_integer := b0
    a_is_within := f1
    fd_is_within := _
    F_is_within := F1
    g_is_within := PySem.W.mg_of X G a1
    b_is_within := b1
    a_is_whole := f2
    fd_is_whole := _
    F_is_whole := F2
    g_is_whole := PySem.W.mg_of X G a2
    b_is_whole := b2
    a_has_signs := f3
    fd_has_signs := _
    F_has_signs := F3
    g_has_signs := PySem.W.mg_of X G a3
    b_has_signs := b3
    a_is_entry_of_seat := f4
    fd_is_entry_of_seat := _
    F_is_entry_of_seat := F4
    g_is_entry_of_seat := PySem.W.mg_of X G a4
    b_is_entry_of_seat := b4
    a_is_joint_of_some := f5
    fd_is_joint_of_some := _
    F_is_joint_of_some := F5
    g_is_joint_of_some := PySem.W.mg_of X G a5
    b_is_joint_of_some := b5
    a_is_print := f6
    fd_is_print := _
    F_is_print := F6
    g_is_print := PySem.W.mg_of X G a6
    b_is_print := b6
    a_is_word := f7
    fd_is_word := _
    F_is_word := F7
    g_is_word := PySem.W.mg_of X G a7
    b_is_word := b7
    a_is_keys_letter := f8
    fd_is_keys_letter := _
    F_is_keys_letter := F8
    g_is_keys_letter := PySem.W.mg_of X G a8
    b_is_keys_letter := b8
    a_is_rows_letter := f9
    fd_is_rows_letter := _
    F_is_rows_letter := F9
    g_is_rows_letter := PySem.W.mg_of X G a9
    b_is_rows_letter := b9
    a_is_piece_letter := f10
    fd_is_piece_letter := _
    F_is_piece_letter := F10
    g_is_piece_letter := PySem.W.mg_of X G a10
    b_is_piece_letter := b10
    a_is_word_letter := f11
    fd_is_word_letter := _
    F_is_word_letter := F11
    g_is_word_letter := PySem.W.mg_of X G a11
    b_is_word_letter := b11
    a_is_letter := f12
    fd_is_letter := _
    F_is_letter := F12
    g_is_letter := PySem.W.mg_of X G a12
    b_is_letter := b12
    a_need_letter := f13
    fd_need_letter := _
    F_need_letter := F13
    g_need_letter := PySem.W.mg_of X G a13
    b_need_letter := b13
    a_goal_of := f14
    fd_goal_of := _
    F_goal_of := F14
    g_goal_of := PySem.W.mg_of X G a14
    b_goal_of := b14
    e_Bag___init__ := dE15
    oe_Bag___init__ := fun H => .inr ⟨_, _, _, lE15, rfl, rfl, sz_of (by show 0 ≤ 100000; decide), .nil⟩
    bd_Bag___init__ := bd15
    a_Bag___init__ := f15
    fd_Bag___init__ := _
    F_Bag___init__ := F15
    m_Bag___init__ := ⟨a15, i15, k15⟩
    b_Bag___init__ := b15
    mk_Bag := ⟨mi_Bag, a15, i15, kc_Bag⟩
    a_Bag__fill := f16
    fd_Bag__fill := _
    F_Bag__fill := F16
    m_Bag__fill := ⟨a16, i16, k16⟩
    b_Bag__fill := b16
    a_Bag_sent := f17
    fd_Bag_sent := _
    F_Bag_sent := F17
    m_Bag_sent := ⟨a17, i17, k17⟩
    b_Bag_sent := b17
    a_Bag_sent_all := f18
    fd_Bag_sent_all := _
    F_Bag_sent_all := F18
    m_Bag_sent_all := ⟨a18, i18, k18⟩
    b_Bag_sent_all := b18
    a_Bag_letter := f19
    fd_Bag_letter := _
    F_Bag_letter := F19
    m_Bag_letter := ⟨a19, i19, k19⟩
    b_Bag_letter := b19
    a_Bag_to := f20
    fd_Bag_to := _
    F_Bag_to := F20
    m_Bag_to := ⟨a20, i20, k20⟩
    b_Bag_to := b20
    a_Bag___len__ := f21
    fd_Bag___len__ := _
    F_Bag___len__ := F21
    m_Bag___len__ := ⟨a21, i21, k21⟩
    b_Bag___len__ := b21
    a_Bag___eq__ := f22
    fd_Bag___eq__ := _
    F_Bag___eq__ := F22
    m_Bag___eq__ := ⟨a22, i22, k22⟩
    b_Bag___eq__ := b22
    a_Bag___str__ := f23
    fd_Bag___str__ := _
    F_Bag___str__ := F23
    m_Bag___str__ := ⟨a23, i23, k23⟩
    b_Bag___str__ := b23
    a_bag_of := f24
    fd_bag_of := _
    F_bag_of := F24
    g_bag_of := PySem.W.mg_of X G a24
    b_bag_of := b24
    a_need_letters := f25
    fd_need_letters := _
    F_need_letters := F25
    g_need_letters := PySem.W.mg_of X G a25
    b_need_letters := b25
    a_is_number_of := f26
    fd_is_number_of := _
    F_is_number_of := F26
    g_is_number_of := PySem.W.mg_of X G a26
    b_is_number_of := b26
    a_judged_handing := f27
    fd_judged_handing := _
    F_judged_handing := F27
    g_judged_handing := PySem.W.mg_of X G a27
    b_judged_handing := b27
    a_law_dice := f28
    fd_law_dice := _
    F_law_dice := F28
    g_law_dice := PySem.W.mg_of X G a28
    b_law_dice := b28
    a_law_roll := f29
    fd_law_roll := _
    F_law_roll := F29
    g_law_roll := PySem.W.mg_of X G a29
    b_law_roll := b29
    a_law_pick := f30
    fd_law_pick := _
    F_law_pick := F30
    g_law_pick := PySem.W.mg_of X G a30
    b_law_pick := b30
    a_law_shuffled := f31
    fd_law_shuffled := _
    F_law_shuffled := F31
    g_law_shuffled := PySem.W.mg_of X G a31
    b_law_shuffled := b31
    a_law_lt_goal := f32
    fd_law_lt_goal := _
    F_law_lt_goal := F32
    g_law_lt_goal := PySem.W.mg_of X G a32
    b_law_lt_goal := b32
    a_law_lt_drawn := f33
    fd_law_lt_drawn := _
    F_law_lt_drawn := F33
    g_law_lt_drawn := PySem.W.mg_of X G a33
    b_law_lt_drawn := b33
    a_law_bag_right := f34
    fd_law_bag_right := _
    F_law_bag_right := F34
    g_law_bag_right := PySem.W.mg_of X G a34
    b_law_bag_right := b34
    a_law_judged := f35
    fd_law_judged := _
    F_law_judged := F35
    g_law_judged := PySem.W.mg_of X G a35
    b_law_judged := b35
    a_law_handing_drawn := f36
    fd_law_handing_drawn := _
    F_law_handing_drawn := F36
    g_law_handing_drawn := PySem.W.mg_of X G a36
    b_law_handing_drawn := b36
    a_law_woven := f37
    fd_law_woven := _
    F_law_woven := F37
    g_law_woven := PySem.W.mg_of X G a37
    b_law_woven := b37
    a_law_right := f38
    fd_law_right := _
    F_law_right := F38
    g_law_right := PySem.W.mg_of X G a38
    b_law_right := b38
    C_Bag := C_Bag
    cl_Bag := ⟨pg_Bag, hd_Bag, po_Bag, sa_Bag⟩
    g_Bag := PySem.W.mg_of X G aC_Bag
    n_Bag_letters := nA_Bag_letters
    z_abs := PySem.W.mg_none_of X G z_abs
    z_max := PySem.W.mg_none_of X G z_max
    z_min := PySem.W.mg_none_of X G z_min
    z_int := PySem.W.mg_none_of X G z_int
    z_len := PySem.W.mg_none_of X G z_len
    z_range := PySem.W.mg_none_of X G z_range
    z_isinstance := PySem.W.mg_none_of X G z_isinstance
    z_sorted := PySem.W.mg_none_of X G z_sorted
    z_str := PySem.W.mg_none_of X G z_str
    z_bool := PySem.W.mg_none_of X G z_bool
    z_tuple := PySem.W.mg_none_of X G z_tuple
    z_list := PySem.W.mg_none_of X G z_list
    z_all := PySem.W.mg_none_of X G z_all
    z_enumerate := PySem.W.mg_none_of X G z_enumerate
    t_MAX_SEATS := t_MAX_SEATS
    g_MAX_SEATS := PySem.W.mg_of X G v_MAX_SEATS
    t_MOST_ENTRY := t_MOST_ENTRY
    g_MOST_ENTRY := PySem.W.mg_of X G v_MOST_ENTRY
    t_PRINT_MODULUS := t_PRINT_MODULUS
    g_PRINT_MODULUS := PySem.W.mg_of X G v_PRINT_MODULUS
    t_MOST_WORD := t_MOST_WORD
    g_MOST_WORD := PySem.W.mg_of X G v_MOST_WORD
    t_HOST := t_HOST
    g_HOST := PySem.W.mg_of X G v_HOST
    t_MOST_SEAT := t_MOST_SEAT
    g_MOST_SEAT := PySem.W.mg_of X G v_MOST_SEAT
    t_MOST_WORDS := t_MOST_WORDS
    g_MOST_WORDS := PySem.W.mg_of X G v_MOST_WORDS
    t_MOST_STRETCH := t_MOST_STRETCH
    g_MOST_STRETCH := PySem.W.mg_of X G v_MOST_STRETCH
    t_MOST_PIECES := t_MOST_PIECES
    g_MOST_PIECES := PySem.W.mg_of X G v_MOST_PIECES
    t_MOST_PIECE := t_MOST_PIECE
    g_MOST_PIECE := PySem.W.mg_of X G v_MOST_PIECE
    a_FORMS := aFM
    g_FORMS := PySem.W.mg_of X G fA
    es_FORMS := esFM
    n_FORMS := nFM
    d_FORMS := ⟨fL, fK, fS⟩
    k_keys := fkkeys
    k_rows := fkrows
    k_piece := fkpiece
    k_word := fkword
    a_TO_HOST := aTH
    g_TO_HOST := PySem.W.mg_of X G tA
    o_TO_HOST := fun H => .inr ⟨_, _, _, tL, rfl, rfl, sz_of (by show 2 ≤ 100000; decide), .cons ⟨_, rfl⟩ (.cons ⟨_, rfl⟩ .nil)⟩
    a_WISHES := aWI
    g_WISHES := PySem.W.mg_of X G wA
    o_WISHES := fun H => .inr ⟨_, _, _, wL, rfl, rfl, sz_of (by show 2 ≤ 100000; decide), .cons ⟨_, rfl⟩ (.cons ⟨_, rfl⟩ .nil)⟩
    ha_Bag := vha_Bag
    hn_Bag := vhn_Bag
    ht_Bag := vht_Bag
    hm_Bag := vhm_Bag
    hc_Bag := (by obtain ⟨cd, hc, _⟩ := PySem.W.any_some hd_Bag; rw [hc]; rfl)
    hy_Bag := vhy_Bag
    hs_Bag_tuple := vhs_Bag_tuple
    ne_Bag := vne_Bag
    ob_Bag := vob_Bag
  }
  exact ⟨PySem.W.fnOf "law" "law" (defArgs s_law) (defBody s_law) (defScope s_law) .none kV39 dc39 pm39 an39 cd39 ct39, fun s v => .of_eq rfl, fun base _ _ => ok_law T F39⟩
end Kz
open PySem PySem.W PyProof.Rows
set_option maxHeartbeats 0 in
theorem PySem.Challenge.cw_settledplay_k43_whole_bags_and_handings_holds : PySem.Challenge.rw_settledplay_k43_whole_bags_and_handings.Holds := by
  w_on; o_law; k_head; (case hw => w_witness2)
  k_fill
  refine L2.walk_of (l := PySem.Challenge.rw_settledplay_k43_whole_bags_and_handings) (n := 63) (k := 15) (x := "script") (CX := fun _ => L2.CX0) (sp := fun w => Kz.spLaw _) rfl (by decide) rfl ⟨rfl, by decide, by decide⟩ (fun w h Y => PySem.W.kIn_of Y) ?F (fun _ _ a ns hl _ hS => ⟨a, ns, rfl, hS, hl, fun _ => rfl⟩) (fun _ _ _ _ _ h => h)
  case F =>
    intro w mg fa h KX G hmg
    refine' Kz.all_mk KX G hmg ?aC_Bag ?pg_Bag ?hd_Bag ?po_Bag ?sa_Bag ?mi_Bag ?kc_Bag ?nA_Bag_letters ?a0 ?l0 ?c0 ?k0 ?a1 ?l1 ?c1 ?k1 ?a2 ?l2 ?c2 ?k2 ?a3 ?l3 ?c3 ?k3 ?a4 ?l4 ?c4 ?k4 ?a5 ?l5 ?c5 ?k5 ?a6 ?l6 ?c6 ?k6 ?a7 ?l7 ?c7 ?k7 ?a8 ?l8 ?c8 ?k8 ?a9 ?l9 ?c9 ?k9 ?a10 ?l10 ?c10 ?k10 ?a11 ?l11 ?c11 ?k11 ?a12 ?l12 ?c12 ?k12 ?a13 ?l13 ?c13 ?k13 ?a14 ?l14 ?c14 ?k14 ?a15 ?i15 ?l15 ?c15 ?k15 ?lT15 ?lE15 ?a16 ?i16 ?l16 ?c16 ?k16 ?a17 ?i17 ?l17 ?c17 ?k17 ?a18 ?i18 ?l18 ?c18 ?k18 ?a19 ?i19 ?l19 ?c19 ?k19 ?a20 ?i20 ?l20 ?c20 ?k20 ?a21 ?i21 ?l21 ?c21 ?k21 ?a22 ?i22 ?l22 ?c22 ?k22 ?a23 ?i23 ?l23 ?c23 ?k23 ?a24 ?l24 ?c24 ?k24 ?a25 ?l25 ?c25 ?k25 ?a26 ?l26 ?c26 ?k26 ?a27 ?l27 ?c27 ?k27 ?a28 ?l28 ?c28 ?k28 ?a29 ?l29 ?c29 ?k29 ?a30 ?l30 ?c30 ?k30 ?a31 ?l31 ?c31 ?k31 ?a32 ?l32 ?c32 ?k32 ?a33 ?l33 ?c33 ?k33 ?a34 ?l34 ?c34 ?k34 ?a35 ?l35 ?c35 ?k35 ?a36 ?l36 ?c36 ?k36 ?a37 ?l37 ?c37 ?k37 ?a38 ?l38 ?c38 ?k38 ?a39 ?l39 ?c39 ?k39 ?z_abs ?z_max ?z_min ?z_int ?z_len ?z_range ?z_isinstance ?z_sorted ?z_str ?z_bool ?z_tuple ?z_list ?z_all ?z_enumerate ?v_MAX_SEATS ?v_MOST_ENTRY ?v_PRINT_MODULUS ?v_MOST_WORD ?v_HOST ?v_MOST_SEAT ?v_MOST_WORDS ?v_MOST_STRETCH ?v_MOST_PIECES ?v_MOST_PIECE ?fA ?fL ?fK ?fS ?tA ?tL ?wA ?wL ?fkkeys ?fkrows ?fkpiece ?fkword ?vha_Bag ?vhn_Bag ?vht_Bag ?vhm_Bag ?vhy_Bag ?vhs_Bag_tuple ?vne_Bag ?vob_Bag
    (case aC_Bag => k_is)
    (case pg_Bag => k_is)
    (case hd_Bag => k_is)
    (case po_Bag => k_is)
    (case sa_Bag => k_is)
    (case mi_Bag => k_is)
    (case kc_Bag => k_is)
    (case nA_Bag_letters => k_is)
    (case a0 => k_is)
    (case l0 => k_is)
    (case c0 => k_is)
    (case k0 => k_is)
    (case a1 => k_is)
    (case l1 => k_is)
    (case c1 => k_is)
    (case k1 => k_is)
    (case a2 => k_is)
    (case l2 => k_is)
    (case c2 => k_is)
    (case k2 => k_is)
    (case a3 => k_is)
    (case l3 => k_is)
    (case c3 => k_is)
    (case k3 => k_is)
    (case a4 => k_is)
    (case l4 => k_is)
    (case c4 => k_is)
    (case k4 => k_is)
    (case a5 => k_is)
    (case l5 => k_is)
    (case c5 => k_is)
    (case k5 => k_is)
    (case a6 => k_is)
    (case l6 => k_is)
    (case c6 => k_is)
    (case k6 => k_is)
    (case a7 => k_is)
    (case l7 => k_is)
    (case c7 => k_is)
    (case k7 => k_is)
    (case a8 => k_is)
    (case l8 => k_is)
    (case c8 => k_is)
    (case k8 => k_is)
    (case a9 => k_is)
    (case l9 => k_is)
    (case c9 => k_is)
    (case k9 => k_is)
    (case a10 => k_is)
    (case l10 => k_is)
    (case c10 => k_is)
    (case k10 => k_is)
    (case a11 => k_is)
    (case l11 => k_is)
    (case c11 => k_is)
    (case k11 => k_is)
    (case a12 => k_is)
    (case l12 => k_is)
    (case c12 => k_is)
    (case k12 => k_is)
    (case a13 => k_is)
    (case l13 => k_is)
    (case c13 => k_is)
    (case k13 => k_is)
    (case a14 => k_is)
    (case l14 => k_is)
    (case c14 => k_is)
    (case k14 => k_is)
    (case a15 => k_is)
    (case i15 => k_is)
    (case l15 => k_is)
    (case c15 => k_is)
    (case k15 => k_is)
    (case lT15 => k_is)
    (case lE15 => k_is)
    (case a16 => k_is)
    (case i16 => k_is)
    (case l16 => k_is)
    (case c16 => k_is)
    (case k16 => k_is)
    (case a17 => k_is)
    (case i17 => k_is)
    (case l17 => k_is)
    (case c17 => k_is)
    (case k17 => k_is)
    (case a18 => k_is)
    (case i18 => k_is)
    (case l18 => k_is)
    (case c18 => k_is)
    (case k18 => k_is)
    (case a19 => k_is)
    (case i19 => k_is)
    (case l19 => k_is)
    (case c19 => k_is)
    (case k19 => k_is)
    (case a20 => k_is)
    (case i20 => k_is)
    (case l20 => k_is)
    (case c20 => k_is)
    (case k20 => k_is)
    (case a21 => k_is)
    (case i21 => k_is)
    (case l21 => k_is)
    (case c21 => k_is)
    (case k21 => k_is)
    (case a22 => k_is)
    (case i22 => k_is)
    (case l22 => k_is)
    (case c22 => k_is)
    (case k22 => k_is)
    (case a23 => k_is)
    (case i23 => k_is)
    (case l23 => k_is)
    (case c23 => k_is)
    (case k23 => k_is)
    (case a24 => k_is)
    (case l24 => k_is)
    (case c24 => k_is)
    (case k24 => k_is)
    (case a25 => k_is)
    (case l25 => k_is)
    (case c25 => k_is)
    (case k25 => k_is)
    (case a26 => k_is)
    (case l26 => k_is)
    (case c26 => k_is)
    (case k26 => k_is)
    (case a27 => k_is)
    (case l27 => k_is)
    (case c27 => k_is)
    (case k27 => k_is)
    (case a28 => k_is)
    (case l28 => k_is)
    (case c28 => k_is)
    (case k28 => k_is)
    (case a29 => k_is)
    (case l29 => k_is)
    (case c29 => k_is)
    (case k29 => k_is)
    (case a30 => k_is)
    (case l30 => k_is)
    (case c30 => k_is)
    (case k30 => k_is)
    (case a31 => k_is)
    (case l31 => k_is)
    (case c31 => k_is)
    (case k31 => k_is)
    (case a32 => k_is)
    (case l32 => k_is)
    (case c32 => k_is)
    (case k32 => k_is)
    (case a33 => k_is)
    (case l33 => k_is)
    (case c33 => k_is)
    (case k33 => k_is)
    (case a34 => k_is)
    (case l34 => k_is)
    (case c34 => k_is)
    (case k34 => k_is)
    (case a35 => k_is)
    (case l35 => k_is)
    (case c35 => k_is)
    (case k35 => k_is)
    (case a36 => k_is)
    (case l36 => k_is)
    (case c36 => k_is)
    (case k36 => k_is)
    (case a37 => k_is)
    (case l37 => k_is)
    (case c37 => k_is)
    (case k37 => k_is)
    (case a38 => k_is)
    (case l38 => k_is)
    (case c38 => k_is)
    (case k38 => k_is)
    (case a39 => k_is)
    (case l39 => k_is)
    (case c39 => k_is)
    (case k39 => k_is)
    (case z_abs => k_is)
    (case z_max => k_is)
    (case z_min => k_is)
    (case z_int => k_is)
    (case z_len => k_is)
    (case z_range => k_is)
    (case z_isinstance => k_is)
    (case z_sorted => k_is)
    (case z_str => k_is)
    (case z_bool => k_is)
    (case z_tuple => k_is)
    (case z_list => k_is)
    (case z_all => k_is)
    (case z_enumerate => k_is)
    (case v_MAX_SEATS => k_is)
    (case v_MOST_ENTRY => k_is)
    (case v_PRINT_MODULUS => k_is)
    (case v_MOST_WORD => k_is)
    (case v_HOST => k_is)
    (case v_MOST_SEAT => k_is)
    (case v_MOST_WORDS => k_is)
    (case v_MOST_STRETCH => k_is)
    (case v_MOST_PIECES => k_is)
    (case v_MOST_PIECE => k_is)
    (case fA => k_is)
    (case fL => k_is)
    (case fK => k_keys)
    (case fS => first | rfl | decide +kernel)
    (case tA => k_is)
    (case tL => k_is)
    (case wA => k_is)
    (case wL => k_is)
    (case fkkeys => k_is)
    (case fkrows => k_is)
    (case fkpiece => k_is)
    (case fkword => k_is)
    (case vha_Bag => k_is)
    (case vhn_Bag => k_is)
    (case vht_Bag => k_is)
    (case vhm_Bag => k_is)
    (case vhy_Bag => k_is)
    (case vhs_Bag_tuple => k_is)
    (case vne_Bag => k_is)
    (case vob_Bag => k_is)
