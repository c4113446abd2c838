import PyProof.Rows.All
import Wide.All
import OpenK.AllK
import Wide.FinOn
import HandS.ForMost
import HandS.More
import HandS.Wide
import HandS.IsInst
import HandS.Codes
import HandS.Text
import HandS.Walk
import HandS.Ends
import HandS.Deep
import PyProof.ReprRoads
import PyProof.Rows.NestShow
import HandS.Set
import HandS.SetFor
import HandS.Strs
import HandS.SortInts
import PyProof.Rows.SetFrom
import HandS.TupAny
import HandS.DictComp
import HandS.SortRule
import PyProof.ListMulRight
import PyProof.AutoIntG3
import Wide.More
import KE.GoesSet
import HandS.SetBool
import HandS.ForExc
import HandS.ExcIs
import HandS.Property
import HandS.DictTup
import HandS.SlotsOwn
import HandS.IterVal
import HandS.Style
import HandS.ClsMeth
import PySem.Challenge.RW_ringheld_k25_rings_that_are_made
set_option Elab.async false
set_option linter.all false
set_option maxRecDepth 100000
set_option maxHeartbeats 4000000
namespace RH
open PySem L2
/-! ### heaps -/
/-- the heap without the row at r -/
def wo (H : Hp) (r : Addr) : Hp := fun b => if b = r then none else H b
theorem wo_ne {H : Hp} {r b : Addr} (h : b ≠ r) : wo H r b = H b := by unfold wo; rw [if_neg h]
theorem wo_at {H : Hp} {r : Addr} : wo H r r = none := by unfold wo; rw [if_pos rfl]
theorem wo_some {H : Hp} {r b : Addr} {o : HO} (h : wo H r b = some o) : H b = some o ∧ b ≠ r := by
  by_cases e : b = r
  · rw [e, wo_at] at h; cases h
  · rw [wo_ne e] at h; exact ⟨h, e⟩
theorem same_wo (H : Hp) (r : Addr) : Same (wo H r) H := fun _ _ h => (wo_some h).1
theorem same_new {H : Hp} {p : Addr} {o : HO} (h : H p = none) : Same H (upd H p o) := fun b x e => by
  rw [upd_ne (ne_of_none e h)]
  exact e
/-- a step that leaves all but the row -/
def Fr (r : Addr) (H H' : Hp) : Prop := ∀ b o, b ≠ r → H b = some o → H' b = some o
theorem Fr.refl (r : Addr) (H : Hp) : Fr r H H := fun _ _ _ h => h
theorem Fr.trans {r : Addr} {H H1 H2 : Hp} (a : Fr r H H1) (b : Fr r H1 H2) : Fr r H H2 := fun c o n h => b c o n (a c o n h)
theorem Fr.wo {r : Addr} {H H' : Hp} (a : Fr r H H') : Same (wo H r) (wo H' r) := fun b o h => by
  obtain ⟨e, n⟩ := wo_some h
  rw [wo_ne n]
  exact a b o n e
theorem Fr.of {r : Addr} {H H' : Hp} (a : Same H H') : Fr r H H' := fun b o _ h => a b o h
theorem Fr.row {r : Addr} {H : Hp} {o : HO} : Fr r H (upd H r o) := fun b x n h => by rw [upd_ne n]; exact h
theorem Fr.new {r p : Addr} {H : Hp} {o : HO} (h : H p = none) : Fr r H (upd H p o) := Fr.of (same_new h)
/-- an object that the first heap does not know may change -/
theorem Fr.mut {r p : Addr} {H H' : Hp} {o : HO} (a : Fr r H H') (h : H p = none) : Fr r H (upd H' p o) := fun b x n e => by
  rw [upd_ne (ne_of_none e h)]
  exact a b x n e
/-- the row of a draw: a list of three ints -/
def Row (H : Hp) (r : Addr) : Prop := ∃ a b c : Int, H r = some (.lst [.int a, .int b, .int c])
theorem Row.keep {H H' : Hp} {r : Addr} (h : Row H r) (s : Same H H') : Row H' r := by
  obtain ⟨a, b, c, e⟩ := h
  exact ⟨a, b, c, s _ _ e⟩
theorem same_t {K : PySem.W.Frag} {H H' : Hp} {a : Addr} {xs : List V} (e : Same H H') (h : SqT K H a xs) : SqT K H' a xs := by
  rcases h with (h | ⟨o, h⟩) | h
  · exact .inl (.inl (e _ _ h))
  · exact .inl (.inr ⟨o, e _ _ h⟩)
  · exact .inr h
/-! ### rules of this program's own -/
section
variable {X : Cx}
def rIsTyG : R2 := fun x y H Q => ∃ b, y = .ty b ∧ ((∃ a, x = .ty a ∧ Q (.bl (decide (a = b))) H) ∨ ∃ C, x = .ref C ∧ Q (.bl false) H)
theorem op_isTyG : OpR X (compareOp .Is) rIsTyG := by
  intro pins s σ H x y v u Q I rx ry h
  obtain ⟨b, rfl, h⟩ := h
  rcases h with ⟨a, rfl, q⟩ | ⟨C, rfl, q⟩
  · exact op_isTyB pins s σ H _ _ v u Q I rx ry ⟨a, b, rfl, rfl, q⟩
  · cases (show v = Value.ref C from rx)
    cases (show u = Value.type b from ry)
    exact PySem.wpAny_is_plain rfl (fin_bl I q rfl)
def rTypG (K : PySem.W.Frag) : List V → Hp → VK → Prop := fun xs H Q => rTyp K xs H Q ∨ ∃ a C dx fs, xs = [V.ref a] ∧ H a = some (.ins C dx fs) ∧ Q (.ref C) H
theorem call_typeG : CallR X (.type "type") (rTypG X.K) := CallR.or call_type1 cr_type
/-! the library's rules under names of their own -/
def rLenG (K : PySem.W.Frag) : List V → Hp → VK → Prop := fun xs H Q => ∃ x n, xs = [x] ∧ LenV K x H n ∧ Q (.int n) H
theorem call_lenG : CallR X (.builtin "len") (rLenG X.K) := call_len
def rInt1 : List V → Hp → VK → Prop := fun xs H Q => (∃ i, xs = [.int i] ∧ Q (.int i) H) ∨ ∃ k, xs = [.bl k] ∧ Q (.int (if k then 1 else 0)) H
theorem call_int1G : CallR X (.type "int") rInt1 := call_int1
def rOrd : List V → Hp → VK → Prop := fun xs H Q => ∃ x, xs = [.str x] ∧ x.length = 1 ∧ Q (.int (x.cps.getD 0 0 : Nat)) H
theorem call_ordG : CallR X (.builtin "ord") rOrd := call_ord
def rAbs : List V → Hp → VK → Prop := fun xs H Q => ∃ i, xs = [.int i] ∧ Q (.int (if i < 0 then -i else i)) H
theorem call_absG : CallR X (.builtin "abs") rAbs := call_abs
def rMin2 : List V → Hp → VK → Prop := fun xs H Q => ∃ i j, xs = [.int i, .int j] ∧ Q (.int (if j < i then j else i)) H
theorem call_min2G (hc : X.calm = true) : CallR X (.builtin "min") rMin2 := call_min2 hc
def rMax2 : List V → Hp → VK → Prop := fun xs H Q => ∃ i j, xs = [.int i, .int j] ∧ Q (.int (if j > i then j else i)) H
theorem call_max2G (hc : X.calm = true) : CallR X (.builtin "max") rMax2 := call_max2 hc
def rListOf (K : PySem.W.Frag) : List V → Hp → VK → Prop := fun xs H Q => ∃ p ys, xs = [.ref p] ∧ (SqL K H p ys ∨ SqT K H p ys) ∧ ∀ l, H l = none → Q (.ref l) (upd H l (.lst ys))
theorem call_listG : CallR X (.type "list") (rListOf X.K) := call_list_of
def rTupOf (K : PySem.W.Frag) : List V → Hp → VK → Prop := fun xs H Q => ∃ p ys, xs = [.ref p] ∧ ((SqL K H p ys ∧ ∀ l, H l = none → Q (.ref l) (upd H l (.tup ys))) ∨ (SqT K H p ys ∧ Q (.ref p) H))
theorem call_tupleG : CallR X (.type "tuple") (rTupOf X.K) := call_tuple_of
def rAddStr : R2 := fun x y H Q => ∃ i j, x = .str i ∧ y = .str j ∧ i.length + j.length ≤ sizeLine ∧ Q (.str (i ++ j)) H
theorem op_addStrG : OpR X (binaryOp .Add) rAddStr := op_add_str
def rLeStr : R2 := fun x y H Q => ∃ i j, x = .str i ∧ y = .str j ∧ Q (.bl (!decide (j.cps.toList < i.cps.toList))) H
theorem op_leStrG : OpR X (compareOp .LtE) rLeStr := op_le_str
def rInSign : R2 := fun x y H Q => ∃ (c : Nat) (z : Str), x = .str ⟨#[c]⟩ ∧ y = .str z ∧ Q (.bl (decide (c ∈ z.cps.toList))) H
theorem op_inSignG : OpR X (compareOp .In) rInSign := op_in_sign
def rNotInSign : R2 := fun x y H Q => ∃ (c : Nat) (z : Str), x = .str ⟨#[c]⟩ ∧ y = .str z ∧ Q (.bl (!decide (c ∈ z.cps.toList))) H
theorem op_notInSignG : OpR X (compareOp .NotIn) rNotInSign := op_notIn_sign
end
end RH
namespace RH
open PySem L2
/-! ### readings, one step each -/
section
variable {K : PySem.W.Frag} {σ : St} {H : Hp} {Q : VK} {ta tb tc te : TE} {t u : TS} {tt tu : TT} {r : R2} {D : Ends} {g : TG} {x y v : V} {i j : Int} {n : Nat} {p a : Addr} {xs ys : List V} {b : Bool}
theorem r_seq {nx bk ct : St → Hp → Prop} {rt : VK} (h : t ⟨u ⟨nx, rt, bk, ct⟩, rt, bk, ct⟩ σ H) : tSeq t u ⟨nx, rt, bk, ct⟩ σ H := h
theorem r_next {nx bk ct : St → Hp → Prop} {rt : VK} (h : nx σ H) : tNext ⟨nx, rt, bk, ct⟩ σ H := h
theorem r_asg {nx bk ct : St → Hp → Prop} {rt : VK} (h : te σ H fun x H1 => g x σ H1 nx) : tAsg te g ⟨nx, rt, bk, ct⟩ σ H := h
theorem r_drop {nx bk ct : St → Hp → Prop} {rt : VK} (h : te σ H fun _ H1 => nx σ H1) : tDrop te ⟨nx, rt, bk, ct⟩ σ H := h
theorem r_ret {nx bk ct : St → Hp → Prop} {rt : VK} (h : te σ H rt) : tRet te ⟨nx, rt, bk, ct⟩ σ H := h
theorem r_ifS {nx bk ct : St → Hp → Prop} {rt : VK} (h : tt σ H fun b H1 => if b = true then t ⟨nx, rt, bk, ct⟩ σ H1 else u ⟨nx, rt, bk, ct⟩ σ H1) : tIfS tt t u ⟨nx, rt, bk, ct⟩ σ H := h
theorem r_name {Q : St → Hp → Prop} (h : Q (σ.set n (some v)) H) : gName n v σ H Q := h
theorem r_op (h : ta σ H fun x H1 => tb σ H1 fun y H2 => r x y H2 Q) : tOp r ta tb σ H Q := h
theorem r_un {r : V → Hp → VK → Prop} (h : ta σ H fun x H1 => r x H1 Q) : tUn r ta σ H Q := h
theorem r_var (h : σ[n]? = some (some v)) (q : Q v H) : tVar n σ H Q := ⟨v, h, q⟩
theorem r_c (q : Q v H) : tC v σ H Q := q
theorem r_I0 {g : Int → Int → V} (q : Q (g i j) H) : rI0 g (.int i) (.int j) H Q := ⟨i, j, rfl, rfl, q⟩
theorem r_I {C : Int → Int → Prop} {g : Int → Int → V} (c : C i j) (q : Q (g i j) H) : rI C g (.int i) (.int j) H Q := ⟨i, j, rfl, rfl, c, q⟩
theorem r_U {g : Int → V} (q : Q (g i) H) : rU g (.int i) H Q := ⟨i, rfl, q⟩
theorem r_eq (h : scal x y = true) (q : Q (.bl (decide (x = y))) H) : rEq x y H Q := ⟨h, q⟩
theorem r_ne (h : scal x y = true) (q : Q (.bl (!decide (x = y))) H) : rNe x y H Q := ⟨h, q⟩
theorem r_test {Q : Bool → Hp → Prop} (h : te σ H fun x H' => ∃ k, x = .bl k ∧ Q k H') : tTest te σ H Q := h
theorem r_B {Q : Bool → Hp → Prop} (h : te σ H fun x H' => ∃ k, x = .bl k ∧ Q k H') : tB te σ H Q := h
theorem r_k {Q : Bool → Prop} (h : Q b) : ∃ k, V.bl b = .bl k ∧ Q k := ⟨b, rfl, h⟩
theorem r_and {Q : Bool → Hp → Prop} (h : tt σ H fun c H1 => if c = true then tu σ H1 Q else Q false H1) : tAnd tt tu σ H Q := h
theorem r_or {Q : Bool → Hp → Prop} (h : tt σ H fun c H1 => if c = true then Q true H1 else tu σ H1 Q) : tOr tt tu σ H Q := h
theorem r_not {Q : Bool → Hp → Prop} (h : tt σ H fun c H1 => Q (!c) H1) : tNot tt σ H Q := h
theorem r_andV (h : ta σ H fun x H1 => ∃ c, x = .bl c ∧ if c = true then tb σ H1 Q else Q (.bl false) H1) : tAndV ta tb σ H Q := h
theorem r_orV (h : ta σ H fun x H1 => ∃ c, x = .bl c ∧ if c = true then Q (.bl true) H1 else tb σ H1 Q) : tOrV ta tb σ H Q := h
theorem r_notV (h : ta σ H fun x H1 => ∃ c, x = .bl c ∧ Q (.bl (!c)) H1) : tNotV ta σ H Q := h
theorem r_if (h : tt σ H fun c H1 => if c = true then ta σ H1 Q else tb σ H1 Q) : tIf tt ta tb σ H Q := h
theorem r_cb {r : List V → Hp → VK → Prop} {t : TA} (h : t σ H fun vs H1 => r vs H1 Q) : tCB r t σ H Q := h
theorem r_nil {Q : List V → Hp → Prop} (h : Q [] H) : tNil σ H Q := h
theorem r_cons {Q : List V → Hp → Prop} {t : TA} (h : ta σ H fun x H1 => t σ H1 fun xs H2 => Q (x :: xs) H2) : tCons ta t σ H Q := h
theorem r_tup {t : TA} (h : t σ H fun xs H1 => xs.length ≤ sizeLine ∧ ∀ p, H1 p = none → Q (.ref p) (upd H1 p (.tup xs))) : tTup t σ H Q := h
theorem r_lst {t : TA} (h : t σ H fun xs H1 => xs.length ≤ sizeLine ∧ ∀ p, H1 p = none → Q (.ref p) (upd H1 p (.lst xs))) : tLst t σ H Q := h
theorem r_call {sp : Sp} {dvs : List V} {E : XK} {t : TA} (h : t σ H fun vs H1 => sp (vs ++ dvs) H1 Q E) : tCall sp dvs E t σ H Q := h
theorem r_ixL (h : H p = some (.lst xs)) (e : atI xs i = some v) (q : Q v H) : rIxL K (.ref p) (.int i) H Q := ⟨p, xs, i, v, rfl, rfl, SqL.of h, e, q⟩
theorem r_ixT (h : H p = some (.tup xs)) (e : atI xs i = some v) (q : Q v H) : rIxT K (.ref p) (.int i) H Q := ⟨p, xs, i, v, rfl, rfl, SqT.of h, e, q⟩
theorem r_ixgL (h : H p = some (.lst xs)) (e : atI xs i = some v) (q : Q v H) : rIx K (.ref p) (.int i) H Q := .inl ⟨p, xs, i, v, rfl, rfl, SqL.of h, e, q⟩
theorem r_ixgT (h : H p = some (.tup xs)) (e : atI xs i = some v) (q : Q v H) : rIx K (.ref p) (.int i) H Q := .inr (.inl ⟨p, xs, i, v, rfl, rfl, SqT.of h, e, q⟩)
theorem r_sub {to ti : TE} {t : TSet} {Q : St → Hp → Prop} (h : to σ H fun o H1 => ti σ H1 fun i H2 => t o i v H2 fun H3 => Q σ H3) : gSub to ti t v σ H Q := h
theorem r_setL {Q : Hp → Prop} {m : Nat} (h : H p = some (.lst xs)) (e : ixN xs.length i = some m) (q : Q (upd H p (.lst (xs.set m v)))) : rSetL (.ref p) (.int i) v H Q := ⟨p, xs, i, m, rfl, rfl, h, e, q⟩
theorem r_int1 (q : Q (.int i) H) : rInt1 [.int i] H Q := .inl ⟨i, rfl, q⟩
theorem r_ord {c : Nat} (q : Q (.int (c : Int)) H) : rOrd [.str ⟨#[c]⟩] H Q := ⟨_, rfl, rfl, q⟩
theorem r_abs (q : Q (.int (if i < 0 then -i else i)) H) : rAbs [.int i] H Q := ⟨i, rfl, q⟩
theorem r_min2 (q : Q (.int (if j < i then j else i)) H) : rMin2 [.int i, .int j] H Q := ⟨i, j, rfl, q⟩
theorem r_max2 (q : Q (.int (if j > i then j else i)) H) : rMax2 [.int i, .int j] H Q := ⟨i, j, rfl, q⟩
theorem r_addStr {x y : Str} (h : x.length + y.length ≤ sizeLine) (q : Q (.str (x ++ y)) H) : rAddStr (.str x) (.str y) H Q := ⟨x, y, rfl, rfl, h, q⟩
theorem r_leStr {x y : Str} (q : Q (.bl (!decide (y.cps.toList < x.cps.toList))) H) : rLeStr (.str x) (.str y) H Q := ⟨x, y, rfl, rfl, q⟩
theorem r_inSign {c : Nat} {z : Str} (q : Q (.bl (decide (c ∈ z.cps.toList))) H) : rInSign (.str ⟨#[c]⟩) (.str z) H Q := ⟨c, z, rfl, rfl, q⟩
theorem r_notInSign {c : Nat} {z : Str} (q : Q (.bl (!decide (c ∈ z.cps.toList))) H) : rNotInSign (.str ⟨#[c]⟩) (.str z) H Q := ⟨c, z, rfl, rfl, q⟩
theorem r_lenL (h : H p = some (.lst xs)) (q : Q (.int xs.length) H) : rLenG K [.ref p] H Q := ⟨_, _, rfl, .inl ⟨xs, SqL.of h, rfl⟩, q⟩
theorem r_lenT (h : H p = some (.tup xs)) (q : Q (.int xs.length) H) : rLenG K [.ref p] H Q := ⟨_, _, rfl, .inr ⟨xs, SqT.of h, rfl⟩, q⟩
theorem r_lenS {z : Str} (h : z.length ≤ sizeLine) (q : Q (.int z.length) H) : rLenG K [.str z] H Q := ⟨_, _, rfl, ⟨h, rfl⟩, q⟩
theorem r_listL (h : H p = some (.lst xs)) (q : ∀ l, H l = none → Q (.ref l) (upd H l (.lst xs))) : rListOf K [.ref p] H Q := ⟨p, xs, rfl, .inl (SqL.of h), q⟩
theorem r_listT (h : H p = some (.tup xs)) (q : ∀ l, H l = none → Q (.ref l) (upd H l (.lst xs))) : rListOf K [.ref p] H Q := ⟨p, xs, rfl, .inr (SqT.of h), q⟩
theorem r_tupL (h : H p = some (.lst xs)) (q : ∀ l, H l = none → Q (.ref l) (upd H l (.tup xs))) : rTupOf K [.ref p] H Q := ⟨p, xs, rfl, .inl ⟨SqL.of h, q⟩⟩
theorem r_chain {r' : R2} (h : ta σ H fun x H1 => tb σ H1 fun y H2 => r x y H2 fun z H3 => ∃ k, z = .bl k ∧ (if k = true then tc σ H3 fun w' H4 => r' y w' H4 Q else Q (.bl false) H3)) : tChain r r' ta tb tc σ H Q := h
theorem cdiv (h : 0 < j) (h2 : j < 1073741824) : CDiv i j := ⟨h, h2⟩
theorem cmul_r (h : -(2 ^ 64) < j) (h2 : j < 2 ^ 64) : CMul i j := .inr ⟨h, h2⟩
theorem cmul_l (h : -(2 ^ 64) < i) (h2 : i < 2 ^ 64) : CMul i j := .inl ⟨h, h2⟩
theorem cpow (h : 0 ≤ j) (h1 : j ≤ 1000000) (h2 : i.natAbs < 2 ^ 64) : CPow i j := ⟨h, h1, h2⟩
end
end RH
namespace RH
open PySem L2
/-! ### data as the laws draw it -/
inductive D where
  | non | bl (b : Bool) | int (i : Int) | str (s : Str) | tup (xs : List D) | lst (xs : List D)
  /-- an instance of an own class; an empty dict or such -/
  | oth | dct
def tyD : D → Option String
  | .non => some "NoneType" | .bl _ => some "bool" | .int _ => some "int" | .str _ => some "str" | .tup _ => some "tuple" | .lst _ => some "list" | .oth => none | .dct => some "dict"
/-- a sign that a law writes -/
def okc (c : Nat) : Bool := (decide (32 ≤ c) && decide (c ≤ 126) && decide (c ≠ 37)) || decide (c = 10) || decide (c = 9)
structure OkS (s : Str) : Prop where
  len : s.length ≤ 1000
  ok : ∀ c ∈ s.cps.toList, okc c = true
theorem kit_ref {K : PySem.W.Frag} {C : Addr} {T : String} {b : Bool} (h : PySem.W.mroIn K C (.type T) = some b) (hm : PySem.W.kitMeta T = true) : PySem.W.kitOne K (.ref C) (.type T) = some b := by
  unfold PySem.W.kitOne
  rw [if_neg (by intro z; cases (eq_of_beq z))]
  show (if PySem.W.kitMeta T = true then PySem.W.subIn K (.ref C) (.type T) else none) = some b
  rw [if_pos hm]
  exact h
/-- what isinstance asks of an own class -/
structure ClsI (K : PySem.W.Frag) (C : Addr) : Prop where
  cl : Cls K C
  ha : PySem.W.findIn K (.ref C) "__class__" = some (some (.builtin "object.__class__"))
  hn : PySem.W.specialIn K (.builtin "object.__class__") "__get__" = some (some (.builtin "getset_descriptor.__get__"))
  htk : PySem.W.takesIn K (.builtin "object.__class__") = some true
  hm : PySem.W.mroIn K C (.type "object") = some true
  kInt : PySem.W.kitOne K (.ref C) (.type "int") = some false
  kBool : PySem.W.kitOne K (.ref C) (.type "bool") = some false
  kStr : PySem.W.kitOne K (.ref C) (.type "str") = some false
  kTup : PySem.W.kitOne K (.ref C) (.type "tuple") = some false
  kLst : PySem.W.kitOne K (.ref C) (.type "list") = some false
/-- x stands for d -/
inductive Rep (K : PySem.W.Frag) (CC : Addr → Prop) (H : Hp) : V → D → Prop where
  | non : Rep K CC H .non .non
  | bl (b : Bool) : Rep K CC H (.bl b) (.bl b)
  | int (i : Int) : Rep K CC H (.int i) (.int i)
  | str (s : Str) (ok : OkS s) : Rep K CC H (.str s) (.str s)
  | tup {a : Addr} {xs : List V} {ds : List D} (h : H a = some (.tup xs)) (hl : xs.length = ds.length) (hs : xs.length ≤ 1000) (hi : ∀ (i : Nat) (x : V) (d : D), xs[i]? = some x → ds[i]? = some d → Rep K CC H x d) : Rep K CC H (.ref a) (.tup ds)
  | lst {a : Addr} {xs : List V} {ds : List D} (h : H a = some (.lst xs)) (hl : xs.length = ds.length) (hs : xs.length ≤ 1000) (hi : ∀ (i : Nat) (x : V) (d : D), xs[i]? = some x → ds[i]? = some d → Rep K CC H x d) : Rep K CC H (.ref a) (.lst ds)
  | oth {a C dx : Addr} {fs : List (Str × V)} (h : H a = some (.ins C dx fs)) (hc : CC C) : Rep K CC H (.ref a) .oth
  | dct {a : Addr} {kvs : List (Key × V)} (h : H a = some (.dK kvs)) : Rep K CC H (.ref a) .dct
section
variable {K : PySem.W.Frag} {CC : Addr → Prop} {H H' : Hp} {x : V} {d : D}
theorem Rep.mono (h : Rep K CC H x d) (s : Same H H') : Rep K CC H' x d := by
  induction h with
  | non => exact .non
  | bl b => exact .bl b
  | int i => exact .int i
  | str z ok => exact .str z ok
  | tup h hl hs hi ih => exact .tup (s _ _ h) hl hs ih
  | lst h hl hs hi ih => exact .lst (s _ _ h) hl hs ih
  | oth h hc => exact .oth (s _ _ h) hc
  | dct h => exact .dct (s _ _ h)
/-- the type of x as type(x) gives it -/
def TyV (d : D) (y : V) : Prop := match tyD d with
  | some T => y = .ty T
  | none => ∃ C, y = .ref C
theorem Rep.typ {Q : VK} (h : Rep K CC H x d) (q : ∀ y, TyV d y → Q y H) : rTypG K [x] H Q := by
  cases h with
  | non => exact .inl ⟨_, _, rfl, .non, q _ rfl⟩
  | bl b => exact .inl ⟨_, _, rfl, .bl b, q _ rfl⟩
  | int i => exact .inl ⟨_, _, rfl, .int i, q _ rfl⟩
  | str z ok => exact .inl ⟨_, _, rfl, .str z, q _ rfl⟩
  | tup h => exact .inl ⟨_, _, rfl, .tup (SqT.of h), q _ rfl⟩
  | lst h => exact .inl ⟨_, _, rfl, .lst (SqL.of h), q _ rfl⟩
  | oth h hc => exact .inr ⟨_, _, _, _, rfl, h, q _ ⟨_, rfl⟩⟩
  | dct h => exact .inl ⟨_, _, rfl, .dK h, q _ rfl⟩
def tyB (d : D) (T : String) : Bool := decide (tyD d = some T)
theorem r_isTy {Q : VK} {y : V} {T : String} (h : TyV d y) (q : Q (.bl (tyB d T)) H) : rIsTyG y (.ty T) H Q := by
  refine ⟨T, rfl, ?_⟩
  unfold TyV at h
  unfold tyB at q
  cases e : tyD d with
  | none =>
    rw [e] at h q
    obtain ⟨C, rfl⟩ := h
    exact .inr ⟨C, rfl, q⟩
  | some S =>
    rw [e] at h q
    subst h
    refine .inl ⟨S, rfl, ?_⟩
    by_cases z : S = T
    · subst z
      rw [decide_eq_true rfl] at q ⊢
      exact q
    · have z2 : ¬ (some S = some T) := fun w => z (Option.some.inj w)
      rw [decide_eq_false z2] at q
      rw [decide_eq_false z]
      exact q
/-- isinstance(x, T) -/
def isD (d : D) (T : String) : Bool := tyB d T || (decide (T = "int") && tyB d "bool")
theorem kit5 {T : String} (hT : T = "int" ∨ T = "bool" ∨ T = "str" ∨ T = "tuple" ∨ T = "list") {S : String} (hS : S = "int" ∨ S = "bool" ∨ S = "str" ∨ S = "tuple" ∨ S = "list" ∨ S = "NoneType" ∨ S = "dict") :
    kitB S T = some (decide (some S = some T) || (decide (T = "int") && decide (some S = some "bool"))) := by
  rcases hT with rfl | rfl | rfl | rfl | rfl <;> rcases hS with rfl | rfl | rfl | rfl | rfl | rfl | rfl <;> decide +kernel
theorem r_isi {Q : VK} {T : String} (hc : ∀ C, CC C → ClsI K C) (h : Rep K CC H x d) (hT : T = "int" ∨ T = "bool" ∨ T = "str" ∨ T = "tuple" ∨ T = "list") (q : Q (.bl (isD d T)) H) : rIsi K [x, .ty T] H Q := by
  have go : ∀ (S : String) (hS : S = "int" ∨ S = "bool" ∨ S = "str" ∨ S = "tuple" ∨ S = "list" ∨ S = "NoneType" ∨ S = "dict"), tyD d = some S → TyOf K H x (.type S) → rIsi K [x, .ty T] H Q := fun S hS e t => by
    refine ⟨x, .ty T, _, _, _, rfl, .ty T, .base t, kit_ty (kit5 hT hS), ?_⟩
    have e2 : isD d T = (decide (some S = some T) || (decide (T = "int") && decide (some S = some "bool"))) := by
      unfold isD tyB
      rw [e]
    rw [e2] at q
    exact q
  cases h with
  | non => exact go "NoneType" (by decide) rfl .non
  | bl b => exact go "bool" (by decide) rfl (.bl b)
  | int i => exact go "int" (by decide) rfl (.int i)
  | str z ok => exact go "str" (by decide) rfl (.str z)
  | tup h => exact go "tuple" (by decide) rfl (.tup h)
  | lst h => exact go "list" (by decide) rfl (.lst h)
  | dct h => exact go "dict" (by decide) rfl (.dK h)
  | oth h c =>
    have I := hc _ c
    refine ⟨_, .ty T, _, _, false, rfl, .ty T, .base (.ins h I.cl I.ha I.hn I.htk I.hm), ?_, ?_⟩
    · rcases hT with rfl | rfl | rfl | rfl | rfl
      · exact I.kInt
      · exact I.kBool
      · exact I.kStr
      · exact I.kTup
      · exact I.kLst
    · have e2 : isD .oth T = false := by
        rcases hT with rfl | rfl | rfl | rfl | rfl <;> decide
      rw [e2] at q
      exact q
end
/-- len(x) of a text, a tuple, a list -/
def lenD : D → Option Nat
  | .str s => some s.length | .tup xs => some xs.length | .lst xs => some xs.length | _ => none
section
variable {K : PySem.W.Frag} {CC : Addr → Prop} {H H' : Hp} {x : V} {d : D}
theorem sz1000 {n : Nat} (h : n ≤ 1000) : n ≤ sizeLine := Nat.le_of_lt (small1000 h)
theorem r_len {Q : VK} {n : Nat} (h : Rep K CC H x d) (e : lenD d = some n) (q : Q (.int n) H) : rLenG K [x] H Q := by
  cases h with
  | non => cases e
  | bl b => cases e
  | int i => cases e
  | oth h c => cases e
  | dct h => cases e
  | str z ok =>
    cases e
    exact ⟨_, _, rfl, ⟨sz1000 ok.len, rfl⟩, q⟩
  | tup h hl =>
    cases e
    exact ⟨_, _, rfl, .inr ⟨_, SqT.of h, hl.symm⟩, q⟩
  | lst h hl =>
    cases e
    exact ⟨_, _, rfl, .inl ⟨_, SqL.of h, hl.symm⟩, q⟩
end
end RH
namespace RH
open PySem L2
/-! ### what is new between two heaps -/
def fresh (H H' : Hp) : Hp := fun b => if H b = none then H' b else none
theorem fresh_some {H H' : Hp} {b : Addr} {o : HO} (h : fresh H H' b = some o) : H b = none ∧ H' b = some o := by
  unfold fresh at h
  by_cases e : H b = none
  · rw [if_pos e] at h; exact ⟨e, h⟩
  · rw [if_neg e] at h; cases h
theorem fresh_of {H H' : Hp} {b : Addr} {o : HO} (e : H b = none) (h : H' b = some o) : fresh H H' b = some o := by
  unfold fresh
  rw [if_pos e]
  exact h
theorem fresh_same (H H' : Hp) : Same (fresh H H') H' := fun _ _ h => (fresh_some h).2
/-- what is tracked stays tracked -/
def Dom (H H' : Hp) : Prop := ∀ b, H' b = none → H b = none
theorem Dom.refl (H : Hp) : Dom H H := fun _ h => h
theorem Dom.trans {H H1 H2 : Hp} (a : Dom H H1) (b : Dom H1 H2) : Dom H H2 := fun c h => a c (b c h)
theorem Dom.same {H H' : Hp} (s : Same H H') : Dom H H' := fun _ h => s.free h
theorem Dom.upd {H H' : Hp} {p : Addr} {o : HO} (a : Dom H H') : Dom H (upd H' p o) := fun b h => by
  by_cases e : b = p
  · rw [e, upd_same] at h; cases h
  · rw [upd_ne e] at h; exact a b h
theorem Fr.dom {r : Addr} {H H' : Hp} (a : Fr r H H') (h : Row H' r) : Dom H H' := fun b e => by
  cases q : H b with
  | none => rfl
  | some o =>
    by_cases n : b = r
    · obtain ⟨x, y, z, w⟩ := h
      rw [n, w] at e; cases e
    · rw [a b o n q] at e; cases e
theorem fresh_step {H0 H1 H2 H3 : Hp} (d : Dom H0 H1) (s : ∀ b o, H0 b = none → H2 b = some o → H3 b = some o) : Same (fresh H1 H2) (fresh H0 H3) := fun b o h => by
  obtain ⟨e, q⟩ := fresh_some h
  have e0 := d b e
  exact fresh_of e0 (s b o e0 q)
theorem fresh_fr {r : Addr} {H0 H1 H2 H3 : Hp} (d : Dom H0 H1) (h : H0 r ≠ none) (s : Fr r H2 H3) : Same (fresh H1 H2) (fresh H0 H3) :=
  fresh_step d fun b o e q => s b o (fun z => h (z ▸ e)) q
theorem Row.ne {H : Hp} {r : Addr} (h : Row H r) : H r ≠ none := by
  obtain ⟨a, b, c, e⟩ := h
  rw [e]
  exact fun z => nomatch z
theorem Row.upd {H : Hp} {r p : Addr} {o : HO} (h : Row H r) (n : H p = none) : Row (upd H p o) r := h.keep (same_new n)
/-- what a comprehension asks, from its walk on -/
def LcGo (J : It) (g : TG) (tt : TT) (te : TE) (vs : List Nat) (σ : St) (D : Addr) (Qd : Hp → Prop) (H1 : Hp) : Prop :=
  ∃ W : Nat → Nat → Hp → Prop, (∃ m, W 0 m (upd H1 D (.lst []))) ∧ ∀ i m H, W i m H →
    (J.stop i H ∧ Qd H) ∨ (J.go i H ∧ ∃ Nx : Hp → Prop, (∀ H', Nx H' → ∃ m', m' < m ∧ W (i + 1) m' H') ∧ ∀ x H', J.yld i H x H' → g x (wipe σ vs) H' fun σ2 H2 => wipe σ2 vs = wipe σ vs ∧ tt σ2 H2 fun b H3 =>
      if b = true then te σ2 H3 fun y H4 => ∃ acc, H4 D = some (.lst acc) ∧ acc.length < sizeLine ∧ Nx (upd H4 D (.lst (acc ++ [y]))) else Nx H3)
theorem r_lc {wi : TI} {g : TG} {tt : TT} {te : TE} {vs : List Nat} {σ : St} {H : Hp} {Q : VK} (h : wi σ H fun J H1 => ∀ D, H1 D = none → LcGo J g tt te vs σ D (Q (.ref D)) H1) : tLc wi g tt te vs σ H Q := h
/-! ### comprehensions over one name, no test -/
section
variable {J : It} {n : Nat} {G : Hp → Prop} {Y : Nat → Hp → V → Hp → Prop} {Y' : Nat → V → Prop} {te : TE} {vs : List Nat} {σ : St} {k : Nat} {H1 : Hp} {D : Addr} {Qd : Hp → Prop}
/-- the items are reckoned, nothing that stood is changed -/
theorem lc_pure (w : Walk J n G Y) (hY : ∀ i H x H', Y i H x H' → H' = H ∧ Y' i x) (ys : List V) (hn : ys.length = n) (hs : n ≤ 1000) (hD : H1 D = none) (hG : ∀ H, Same H1 H → G H)
    (hw : ∀ x, wipe ((wipe σ vs).set k (some x)) vs = wipe σ vs)
    (step : ∀ i x y H, Y' i x → ys[i]? = some y → Same H1 H → ∀ Q : VK, (∀ H', Same H H' → Q y H') → te ((wipe σ vs).set k (some x)) H Q)
    (hd : ∀ H, Same H1 H → H D = some (.lst ys) → Qd H) :
    LcGo J (gName k) tYes te vs σ D Qd H1 := by
  refine lc_it w (g := gName k) (tt := tYes) (te := te) (fun i H => Same H1 H ∧ H D = some (.lst (ys.take i))) ⟨same_new hD, ?_⟩ (fun i H _ p => hG H p.1) ?_ ?_
  · rw [upd_same]; simp
  · intro i x H H' hi p y
    obtain ⟨rfl, y'⟩ := hY i H x H' y
    refine ⟨hw x, ?_⟩
    unfold tYes
    dsimp only
    rw [if_pos rfl]
    have hi' : i < ys.length := by omega
    have hy : ys[i]? = some ys[i] := List.getElem?_eq_getElem hi'
    refine step i x ys[i] H' y' hy p.1 _ fun H4 s => ?_
    refine ⟨_, s _ _ p.2, ?_, ?_, ?_⟩
    · rw [List.length_take]
      exact Nat.lt_of_le_of_lt (Nat.min_le_left _ _) (small1000 (by omega))
    · intro b o e
      rw [upd_ne (ne_of_none e hD)]
      exact s _ _ (p.1 _ _ e)
    · rw [upd_same, List.take_add_one, hy]
      rfl
  · intro H p
    refine hd H p.1 ?_
    rw [p.2, ← hn, List.take_length]
/-- the items are drawn off the row at r -/
theorem lc_row {r : Addr} (w : Walk J n G Y) (hY : ∀ i H x H', Y i H x H' → H' = H ∧ Y' i x) (P : Hp → V → Prop) (hP : ∀ H H' y, Same H H' → P H y → P H' y) (hs : n ≤ 1000) (hD : H1 D = none) (hr : Row H1 r) (hG : ∀ H, Fr r H1 H → G H)
    (hw : ∀ x, wipe ((wipe σ vs).set k (some x)) vs = wipe σ vs)
    (step : ∀ i x H, Y' i x → Fr r H1 H → Row H r → ∀ Q : VK, (∀ y H', Fr r H H' → Row H' r → P (fresh H H') y → Q y H') → te ((wipe σ vs).set k (some x)) H Q)
    (hd : ∀ H ys, ys.length = n → Fr r H1 H → Row H r → H D = some (.lst ys) → (∀ y, y ∈ ys → P (fresh (upd H1 D (.lst [])) H) y) → Qd H) :
    LcGo J (gName k) tYes te vs σ D Qd H1 := by
  have rD : D ≠ r := fun z => hr.ne (z ▸ hD)
  have h0r : (upd H1 D (.lst [])) r ≠ none := by
    rw [upd_ne rD.symm]
    exact hr.ne
  refine lc_it w (g := gName k) (tt := tYes) (te := te) (fun i H => Fr r H1 H ∧ Row H r ∧ Dom (upd H1 D (.lst [])) H ∧ ∃ ys : List V, ys.length = i ∧ H D = some (.lst ys) ∧ ∀ y, y ∈ ys → P (fresh (upd H1 D (.lst [])) H) y) ⟨Fr.new hD, hr.upd hD, Dom.refl _, [], rfl, upd_same, fun y hy => nomatch hy⟩ (fun i H _ p => hG H p.1) ?_ ?_
  · rintro i x H H' hi ⟨f, hrow, dm, ys, hl, hL, hP2⟩ y
    obtain ⟨rfl, y'⟩ := hY i H x H' y
    refine ⟨hw x, ?_⟩
    unfold tYes
    dsimp only
    rw [if_pos rfl]
    refine step i x H' y' f hrow _ fun y H4 f4 row4 py => ?_
    · have hL4 : H4 D = some (.lst ys) := f4 _ _ rD hL
      have d4 : Dom H' H4 := f4.dom row4
      refine ⟨_, hL4, Nat.lt_of_le_of_lt (by omega) (small1000 hs), (f.trans f4).mut hD, ?_, (dm.trans d4).upd, ys ++ [y], by simp [hl], upd_same, ?_⟩
      · obtain ⟨a, b, c, e⟩ := row4
        exact ⟨a, b, c, by rw [upd_ne rD.symm]; exact e⟩
      · have st : ∀ b o, (upd H1 D (.lst [])) b = none → H4 b = some o → (upd H4 D (.lst (ys ++ [y]))) b = some o := fun b o e q => by
          have nb : b ≠ D := fun z => by rw [z, upd_same] at e; cases e
          rw [upd_ne nb]
          exact q
        intro z hz
        rcases List.mem_append.mp hz with hz | hz
        · refine hP _ _ z ?_ (hP2 z hz)
          exact fresh_step (Dom.refl _) fun b o e q => st b o e (f4 b o (fun w => h0r (w ▸ e)) q)
        · have e : z = y := by simpa using hz
          subst e
          exact hP _ _ z (fresh_step dm st) py
  · rintro H ⟨f, hrow, dm, ys, hl, hL, hP2⟩
    exact hd H ys hl f hrow hL hP2
end
end RH
namespace RH
open PySem L2
/-- a loop that leaves by a return at the first item that is not ok -/
theorem for_all {J : It} {n : Nat} {G : Hp → Prop} {Y : Nat → Hp → V → Hp → Prop} {Y' : Nat → V → Prop} {tb : TS} {nx : St → Hp → Prop} {rt : VK} {σ : St} {k : Nat} {H : Hp} (w : Walk J n G Y) (hY : ∀ i H x H', Y i H x H' → H' = H ∧ Y' i x) (ok : Nat → Prop) (hG : ∀ H1, Same H H1 → G H1)
    (step : ∀ i x H1, i < n → Y' i x → Same H H1 → ∀ N : St → Hp → Prop, (ok i → ∀ H2, Same H1 H2 → N (σ.set k (some x)) H2) → tb ⟨N, rt, nx, N⟩ (σ.set k (some x)) H1)
    (hd : (∀ i, i < n → ok i) → ∀ σ' H1, Same H H1 → nx σ' H1) :
    ∃ W : Nat → Nat → St → Hp → Prop, (∃ m, W 0 m σ H) ∧ ∀ i m σ H, W i m σ H →
      (J.stop i H ∧ nx σ H) ∨ (J.go i H ∧ ∃ N : St → Hp → Prop, (∀ σ' H', N σ' H' → ∃ m', m' < m ∧ W (i + 1) m' σ' H') ∧ ∀ x H', J.yld i H x H' → gName k x σ H' fun σ2 H2 => tb ⟨N, rt, nx, N⟩ σ2 H2) := by
  refine for_it (D := ⟨nx, rt, fun _ _ => False, fun _ _ => False⟩) w (g := gName k) (fun i σ' H' => (∀ x, σ'.set k (some x) = σ.set k (some x)) ∧ Same H H' ∧ ∀ m, m < i → ok m) ⟨fun _ => rfl, Same.refl H, fun m hm => absurd hm (Nat.not_lt_zero m)⟩ (fun i σ' H' _ p => hG H' p.2.1) ?_ ?_
  · rintro i x σ' H1 H2 hi ⟨e, s, a⟩ y
    obtain ⟨rfl, y'⟩ := hY i H1 x H2 y
    show tb _ (σ'.set k (some x)) H2
    rw [e x]
    refine step i x H2 hi y' s _ fun o H3 s3 => ⟨fun z => by rw [List.set_set], s.trans s3, fun m hm => ?_⟩
    rcases Nat.lt_succ_iff_lt_or_eq.mp hm with h | h
    · exact a m h
    · rw [h]; exact o
  · rintro σ' H' ⟨_, s, a⟩
    exact hd a σ' H' s
end RH
namespace RH
open PySem L2
/-- with a test: of the items those whose test is true, nothing that stood is changed -/
theorem lc_filter {J : It} {n : Nat} {G : Hp → Prop} {Y : Nat → Hp → V → Hp → Prop} {Y' : Nat → V → Prop} {tt : TT} {te : TE} {vs : List Nat} {σ : St} {k : Nat} {H1 : Hp} {D : Addr} {Qd : Hp → Prop}
    (w : Walk J n G Y) (hY : ∀ i H x H', Y i H x H' → H' = H ∧ Y' i x) (ys : List (Bool × V)) (hn : ys.length = n) (hs : n ≤ 1000) (hD : H1 D = none) (hG : ∀ H, Same H1 H → G H)
    (hw : ∀ x, wipe ((wipe σ vs).set k (some x)) vs = wipe σ vs)
    (test : ∀ i x b y H, Y' i x → ys[i]? = some (b, y) → Same H1 H → ∀ Q : Bool → Hp → Prop, (∀ H', Same H H' → Q b H') → tt ((wipe σ vs).set k (some x)) H Q)
    (step : ∀ i x y H, Y' i x → ys[i]? = some (true, y) → Same H1 H → ∀ Q : VK, (∀ H', Same H H' → Q y H') → te ((wipe σ vs).set k (some x)) H Q)
    (hd : ∀ H, Same H1 H → H D = some (.lst ((ys.filter (·.1)).map (·.2))) → Qd H) : LcGo J (gName k) tt te vs σ D Qd H1 := by
  refine lc_it w (g := gName k) (tt := tt) (te := te) (fun i H => Same H1 H ∧ H D = some (.lst (((ys.take i).filter (·.1)).map (·.2)))) ⟨same_new hD, ?_⟩ (fun i H _ p => hG H p.1) ?_ ?_
  · rw [upd_same]; simp
  · intro i x H H' hi p y
    obtain ⟨rfl, y'⟩ := hY i H x H' y
    refine ⟨hw x, ?_⟩
    have hi' : i < ys.length := by omega
    obtain ⟨b, z, hbz⟩ : ∃ b z, ys[i] = (b, z) := ⟨_, _, rfl⟩
    have hy : ys[i]? = some (b, z) := by rw [List.getElem?_eq_getElem hi', hbz]
    refine test i x b z H' y' hy p.1 _ fun H4 s => ?_
    cases b with
    | true =>
      rw [if_pos rfl]
      refine step i x z H4 y' hy (p.1.trans s) _ fun H5 s5 => ?_
      refine ⟨_, s5 _ _ (s _ _ p.2), ?_, ?_, ?_⟩
      · rw [List.length_map]
        exact Nat.lt_of_le_of_lt (Nat.le_trans (List.length_filter_le ..) (by rw [List.length_take]; exact Nat.min_le_left _ _)) (small1000 (by omega))
      · intro c o e
        rw [upd_ne (ne_of_none e hD)]
        exact s5 _ _ (s _ _ (p.1 _ _ e))
      · rw [upd_same, List.take_add_one, hy]
        simp
    | false =>
      rw [if_neg Bool.false_ne_true]
      refine ⟨p.1.trans s, ?_⟩
      rw [s _ _ p.2, List.take_add_one, hy]
      simp
  · intro H p
    refine hd H p.1 ?_
    rw [p.2, ← hn, List.take_length]
end RH
namespace RH
open PySem L2
/-! ### the tests of values, over data -/
def limI (i : Int) : Bool := decide (-1000000000000 ≤ i) && decide (i ≤ 1000000000000)
def isInt : D → Bool | .int i => limI i | _ => false
def isNum : D → Bool | .int i => limI i && decide (0 ≤ i) | _ => false
def sgn (c : Nat) : Bool := decide (32 ≤ c) && decide (c ≤ 126) && decide (c ≠ 37)
def low (c : Nat) : Bool := decide (97 ≤ c) && decide (c ≤ 122)
def isText : D → Bool | .str s => decide (s.length ≤ 60) && s.cps.toList.all sgn | _ => false
def isKey : D → Bool | .str s => isText (.str s) && (decide (1 ≤ s.length) && decide (s.length ≤ 20)) | _ => false
def isName : D → Bool | .str s => (decide (1 ≤ s.length) && decide (s.length ≤ 12)) && s.cps.toList.all low | _ => false
def isPath : D → Bool | .tup xs => decide (xs.length ≤ 4) && xs.all isName | _ => false
def nz : D → Bool | .int i => !decide (i = 0) | _ => false
def isDot : D → Bool | .tup [a, b] => isNum a && (isNum b && nz b) | _ => false
def isItem (d : D) : Bool := isInt d || isText d
/-- the promise of a test -/
def spB (K : PySem.W.Frag) (CC : Addr → Prop) (f : D → Bool) : Sp := fun vs H Q _ => ∃ x d, vs = [x] ∧ Rep K CC H x d ∧ ∀ H', Same H H' → Q (.bl (f d)) H'
theorem tyB_of {d : D} {T : String} (h : tyB d T = true) : tyD d = some T := of_decide_eq_true h
theorem tyB_int {d : D} (h : tyB d "int" = true) : ∃ i, d = .int i := by
  have e := tyB_of h
  cases d <;> simp [tyD] at e ⊢
theorem tyB_str {d : D} (h : tyB d "str" = true) : ∃ i, d = .str i := by
  have e := tyB_of h
  cases d <;> simp [tyD] at e ⊢
theorem tyB_tup {d : D} (h : tyB d "tuple" = true) : ∃ i, d = .tup i := by
  have e := tyB_of h
  cases d <;> simp [tyD] at e ⊢
theorem nint {d : D} (h : ¬ tyB d "int" = true) : isInt d = false := by
  cases d <;> first | rfl | exact absurd (decide_eq_true rfl) h
theorem nstrT {d : D} (h : ¬ tyB d "str" = true) : isText d = false := by
  cases d <;> first | rfl | exact absurd (decide_eq_true rfl) h
theorem nstrN {d : D} (h : ¬ tyB d "str" = true) : isName d = false := by
  cases d <;> first | rfl | exact absurd (decide_eq_true rfl) h
theorem ntupP {d : D} (h : ¬ tyB d "tuple" = true) : isPath d = false := by
  cases d <;> first | rfl | exact absurd (decide_eq_true rfl) h
theorem ntupD {d : D} (h : ¬ tyB d "tuple" = true) : isDot d = false := by
  cases d <;> first | rfl | exact absurd (decide_eq_true rfl) h
end RH
namespace RH
open PySem L2
theorem qbl {Q : VK} {H : Hp} {a b : Bool} (q : Q (.bl a) H) (e : a = b) : Q (.bl b) H := e ▸ q
/-! ### all([.. for x in ..]) -/
section
variable {K : PySem.W.Frag} {CC : Addr → Prop} {σ : St} {H : Hp} {Q : VK} {te : TE} {vs : List Nat} {j k : Nat}
theorem all_map (bs : List Bool) : (bs.map V.bl).length = bs.length := List.length_map ..
theorem r_allS {z : Str} {f : Nat → Bool} (hj : σ[j]? = some (some (.str z))) (hl : z.length ≤ 1000) (hw : ∀ x, wipe ((wipe σ vs).set k (some x)) vs = wipe σ vs)
    (step : ∀ c H1, Same H H1 → ∀ Q : VK, (∀ H', Same H1 H' → Q (.bl (f c)) H') → te ((wipe σ vs).set k (some (.str ⟨#[c]⟩))) H1 Q)
    (q : ∀ H', Same H H' → Q (.bl (z.cps.toList.all f)) H') : tCB (rAll K) (tCons (tLc (iStr (tVar j)) (gName k) tYes te vs) tNil) σ H Q := by
  refine ⟨_, hj, z, rfl, fun D hD => ?_⟩
  have hsz : z.cps.size = z.length := rfl
  refine lc_pure (n := z.cps.size) walk_str (Y' := fun i x => ∃ c, z.cps[i]? = some c ∧ x = .str ⟨#[c]⟩) (fun i H x H' y => y) ((z.cps.toList.map f).map V.bl) (by simp) (by omega) hD (fun _ _ => trivial) hw ?_ ?_
  · rintro i x y H1 ⟨c, hc, rfl⟩ hy s1 Q1 q1
    have e : y = V.bl (f c) := by
      rw [List.getElem?_map, List.getElem?_map] at hy
      have hc2 : z.cps.toList[i]? = some c := by rw [Array.getElem?_toList]; exact hc
      rw [hc2] at hy
      exact (Option.some.inj hy).symm
    subst e
    exact step c H1 s1 Q1 q1
  · intro H1 s1 hL
    refine ⟨D, z.cps.toList.map f, rfl, SqL.of hL, ?_⟩
    exact qbl (q H1 s1) (by simp [List.all_map, Function.comp_def])
theorem r_allT {a : Addr} {xs : List V} {ds : List D} {f : D → Bool} (hj : σ[j]? = some (some (.ref a))) (ha : H a = some (.tup xs)) (hl : xs.length = ds.length) (hs : xs.length ≤ 1000)
    (hi : ∀ (i : Nat) (x : V) (d : D), xs[i]? = some x → ds[i]? = some d → Rep K CC H x d) (hw : ∀ x, wipe ((wipe σ vs).set k (some x)) vs = wipe σ vs)
    (step : ∀ x d H1, d ∈ ds → Same H H1 → Rep K CC H1 x d → ∀ Q : VK, (∀ H', Same H1 H' → Q (.bl (f d)) H') → te ((wipe σ vs).set k (some x)) H1 Q)
    (q : ∀ H', Same H H' → Q (.bl (ds.all f)) H') : tCB (rAll K) (tCons (tLc (iTup K (tVar j)) (gName k) tYes te vs) tNil) σ H Q := by
  refine ⟨_, hj, a, rfl, ⟨xs, SqT.of ha⟩, fun D hD => ?_⟩
  refine lc_pure (n := xs.length) walk_tup (Y' := fun i x => xs[i]? = some x) (fun i H x H' y => y) ((ds.map f).map V.bl) (by simp [hl]) hs hD (fun H1 s1 => SqT.of (s1 _ _ ha)) hw ?_ ?_
  · intro i x y H1 hx hy s1 Q1 q1
    have hlt : i < ds.length := by
      rw [← hl]
      exact (List.getElem?_eq_some_iff.mp hx).1
    have hd : ds[i]? = some ds[i] := List.getElem?_eq_getElem hlt
    have e : y = V.bl (f ds[i]) := by
      rw [List.getElem?_map, List.getElem?_map, hd] at hy
      exact (Option.some.inj hy).symm
    subst e
    exact step x ds[i] H1 (List.getElem_mem hlt) s1 ((hi i x _ hx hd).mono s1) Q1 q1
  · intro H1 s1 hL
    refine ⟨D, ds.map f, rfl, SqL.of hL, ?_⟩
    exact qbl (q H1 s1) (by simp [List.all_map, Function.comp_def])
end
end RH
namespace RH
open PySem L2
def spSign : Sp := fun vs H Q _ => ∃ c : Nat, vs = [.str ⟨#[c]⟩] ∧ Q (.bl (sgn c)) H
theorem lt1 (a b : Nat) : ((⟨#[a]⟩ : Str).cps.toList < (⟨#[b]⟩ : Str).cps.toList) ↔ a < b := by
  show [a] < [b] ↔ a < b
  constructor
  · intro h
    cases h with
    | rel h => exact h
    | cons h => exact nomatch h
  · intro h
    exact .rel h
theorem cps_a : ("a" : Str).cps.toList = (⟨#[97]⟩ : Str).cps.toList := by decide +kernel
theorem cps_z : ("z" : Str).cps.toList = (⟨#[122]⟩ : Str).cps.toList := by decide +kernel
theorem low_fst {c : Nat} (h : ¬ (!decide ((⟨#[c]⟩ : Str).cps.toList < ("a" : Str).cps.toList)) = true) : low c = false := by
  rw [cps_a] at h
  have h1 : c < 97 := by
    by_cases z : c < 97
    · exact z
    · exfalso
      apply h
      rw [decide_eq_false (fun w => z ((lt1 c 97).mp w))]
      rfl
  unfold low
  rw [decide_eq_false (by omega : ¬ 97 ≤ c), Bool.false_and]
theorem low_both {c : Nat} (h : (!decide ((⟨#[c]⟩ : Str).cps.toList < ("a" : Str).cps.toList)) = true) : low c = !decide (("z" : Str).cps.toList < (⟨#[c]⟩ : Str).cps.toList) := by
  rw [cps_a] at h
  rw [cps_z]
  have h1 : ¬ c < 97 := fun z => by
    rw [decide_eq_true ((lt1 c 97).mpr z)] at h
    cases h
  unfold low
  rw [decide_eq_true (by omega : 97 ≤ c), Bool.true_and]
  by_cases h2 : c ≤ 122
  · have : ¬ ((⟨#[122]⟩ : Str).cps.toList < (⟨#[c]⟩ : Str).cps.toList) := fun z => by
      have := (lt1 122 c).mp z
      omega
    rw [decide_eq_true h2, decide_eq_false this]; rfl
  · have : ((⟨#[122]⟩ : Str).cps.toList < (⟨#[c]⟩ : Str).cps.toList) := (lt1 122 c).mpr (by omega)
    rw [decide_eq_false h2, decide_eq_true this]; rfl
end RH
namespace RH
open PySem L2
theorem isD_intF {d : D} (h : (!isD d "int") = true) : isInt d = false := by
  cases d <;> first | rfl | (exfalso; revert h; show ¬ _; intro h; cases h)
theorem isD_boolF {d : D} (h : isD d "bool" = true) : isInt d = false := by
  cases d <;> first | rfl | (exfalso; cases h)
theorem isD_intT {d : D} (h : ¬ (!isD d "int") = true) (h2 : ¬ isD d "bool" = true) : ∃ i, d = .int i := by
  cases d with
  | int i => exact ⟨i, rfl⟩
  | bl b => exact absurd rfl h2
  | _ => exact absurd rfl h
theorem isD_str {d : D} (h : isD d "str" = true) : ∃ z, d = .str z := by
  cases d with
  | str i => exact ⟨i, rfl⟩
  | _ => cases h
theorem isD_strT {d : D} (h : ¬ (!isD d "str") = true) : ∃ z, d = .str z := by
  cases d with
  | str i => exact ⟨i, rfl⟩
  | _ => exact absurd rfl h
theorem isD_strN {d : D} (h : (!isD d "str") = true) : isName d = false ∧ isText d = false := by
  cases d <;> first | exact ⟨rfl, rfl⟩ | (exfalso; cases h)
theorem isD_strN2 {d : D} (h : ¬ isD d "str" = true) : isName d = false ∧ isText d = false := by
  cases d <;> first | exact ⟨rfl, rfl⟩ | exact absurd rfl h
theorem isD_tupT {d : D} (h : ¬ (!isD d "tuple") = true) : ∃ z, d = .tup z := by
  cases d with
  | tup i => exact ⟨i, rfl⟩
  | _ => exact absurd rfl h
theorem isD_tupN {d : D} (h : (!isD d "tuple") = true) : isPath d = false ∧ isDot d = false := by
  cases d <;> first | exact ⟨rfl, rfl⟩ | (exfalso; cases h)
theorem dmem (a c : Nat) (l : List Nat) : decide (a ∈ c :: l) = (decide (c = a) || decide (a ∈ l)) := by
  by_cases h1 : c = a
  · subst h1
    rw [decide_eq_true (List.mem_cons_self ..), decide_eq_true rfl]; rfl
  · rw [decide_eq_false h1, Bool.false_or]
    exact decide_eq_decide.mpr ⟨fun z => (List.mem_cons.mp z).resolve_left fun w => h1 w.symm, List.mem_cons_of_mem _⟩
/-- a text without a newline and without a tab, of signs that a law writes, has signs of texts -/
theorem okc_sgn {c : Nat} (h : okc c = true) : sgn c = (decide (c ≠ 10) && decide (c ≠ 9)) := by
  unfold okc at h
  unfold sgn
  by_cases h1 : c = 10
  · subst h1; rfl
  · by_cases h2 : c = 9
    · subst h2; rfl
    · rw [decide_eq_false h1, decide_eq_false h2, Bool.or_false, Bool.or_false] at h
      rw [h, decide_eq_true h1, decide_eq_true h2]; rfl
theorem text_all {z : Str} (ok : OkS z) : z.cps.toList.all sgn = ((!decide (10 ∈ z.cps.toList)) && !decide (9 ∈ z.cps.toList)) := by
  have h := ok.ok
  revert h
  generalize z.cps.toList = l
  intro h
  induction l with
  | nil => rfl
  | cons c l ih =>
    have ih := ih fun x hx => h x (List.mem_cons_of_mem _ hx)
    rw [List.all_cons, okc_sgn (h c (List.mem_cons_self ..)), ih]
    rw [dmem, dmem, decide_not, decide_not]
    generalize decide (c = 10) = b1
    generalize decide (c = 9) = b2
    generalize decide (10 ∈ l) = b3
    generalize decide (9 ∈ l) = b4
    cases b1 <;> cases b2 <;> cases b3 <;> cases b4 <;> rfl
end RH
namespace RH
open PySem L2
/-! ### promises of what draws -/
def sp_draw : Sp := fun vs H Q _ => ∃ (r : Addr) (n : Int), vs = [.ref r, .int n] ∧ 0 < n ∧ n < 2 ^ 200 ∧ Row H r ∧ ∀ d H', 0 ≤ d → d < n → Fr r H H' → Row H' r → Q (.int d) H'
def sp_open (K : PySem.W.Frag) : Sp := fun vs H Q _ => ∃ (a : Addr) (ns : List Int) (i : Int), vs = [.ref a, .int i] ∧ SqL K H a (ns.map V.int) ∧ ns.length ≤ 63 ∧ ∀ r H', H r = none → Same H H' → Row H' r → Q (.ref r) H'
def sp_char : Sp := fun vs H Q _ => ∃ i : Int, vs = [.int i] ∧ ∀ c : Nat, okc c = true → Q (.str ⟨#[c]⟩) H
/-- an int is drawn -/
def sp_int : Sp := fun vs H Q _ => ∃ r : Addr, vs = [.ref r] ∧ Row H r ∧ ∀ i H', Fr r H H' → Row H' r → Q (.int i) H'
/-- a thing is drawn that is made anew -/
def sp_thing (K : PySem.W.Frag) (CC : Addr → Prop) (Ok : D → Prop) : Sp := fun vs H Q _ => ∃ r : Addr, vs = [.ref r] ∧ Row H r ∧ ∀ v d H', Ok d → Fr r H H' → Row H' r → Rep K CC (fresh H H') v d → Q v H'
section
variable {K : PySem.W.Frag} {H : Hp} {Q : VK} {p : Addr} {xs : List V} {i : Int} {v : V}
theorem r_draw {r : Addr} {n : Int} {E : XK} (row : Row H r) (h : 0 < n) (hb : n < 2 ^ 200) (q : ∀ d H', 0 ≤ d → d < n → Fr r H H' → Row H' r → Q (.int d) H') : sp_draw ([.ref r, .int n] ++ []) H Q E := ⟨r, n, rfl, h, hb, row, q⟩
theorem r_cut {t u : TS} {nx bk ct : St → Hp → Prop} {rt : VK} {σ : St} (M : St → Hp → Prop) (h : t ⟨M, rt, bk, ct⟩ σ H) (k : ∀ σ' H', M σ' H' → u ⟨nx, rt, bk, ct⟩ σ' H') : C8.tCut t u ⟨nx, rt, bk, ct⟩ σ H := ⟨M, h, k⟩
theorem r_lenQ (h : SqL K H p xs) (q : Q (.int xs.length) H) : rLenG K [.ref p] H Q := ⟨_, _, rfl, .inl ⟨xs, h, rfl⟩, q⟩
theorem r_ixQ (h : SqL K H p xs) (e : atI xs i = some v) (q : Q v H) : rIxL K (.ref p) (.int i) H Q := ⟨p, xs, i, v, rfl, rfl, h, e, q⟩
end
end RH
namespace RH
open PySem PySem.Spec PyProof.Rows L2
/-! ### a law's def, run just where the head runs it: there nothing is under way -/
def AtTop (P : Program) (w : World) (K : PySem.W.Frag) (mg : Str → Option Value) (base : Heap) (f : Addr) (fd : FuncData) (ps : List Str) (sp : Sp) : Prop :=
  ∀ (s : Shared) (H : Hp) (args : Args) (us : List Value) (vs : List V) (Q : VK), Env0 P w K mg base callerA [] s H → BindsTo s fd args (ps.zip us) → Vals vs us → sp vs H Q E0 →
    codeAny (model P w) callerA (.call (.ref f) args) (CR CX0 [] P w H s Q E0) s
theorem roomTop {k : Nat} (hr : Room (k + 1) callerA) (env : Env) : Room k (callerA.deeper env) := hr.deeper env
theorem topGuards (env : Env) : (callerA.deeper env).guards = some [] := rfl
section
variable {P : Program} {w : World} {K : PySem.W.Frag} {mg : Str → Option Value} {base : Heap}
theorem top_of {x qual : Str} {st : Stmt} {f : Addr} {fd : FuncData} {N ps : List Str} {k : Nat} {sp : Sp} (F : Fun K x qual st f fd) (S : FnScope N ps (defScope st)) (room : Room (k + 1) callerA) (len : ∀ vs H Q E, sp vs H Q E → vs.length = ps.length)
    (body : ∀ (cdv : Value) (s : Shared) (H : Hp) (vs : List V) (Q : VK), Room k (callerA.deeper (envOfC qual (defScope st) s.heap.objs.size f cdv)) → sp vs H Q E0 →
      ∃ t, PSs (cxOf CX0 P w K mg base N qual (defScope st) f cdv callerA [] s H E0).nox (defBody st) t ∧ t { nx := fun _ H' => Q .non H', rt := Q } (start N vs) H) : AtTop P w K mg base f fd ps sp := by
  obtain ⟨oc, od, kV, doc, pm, an, cdv, ct, osl, rfl, lk, hcd⟩ := F.ex
  intro s H args us vs Q e0 bind r hsp
  have inK : K.In s.heap := e0.mod.kin.keeps fun b o e => (e0.bs b o e).1
  have lim : s.heap.NoLimit := e0.mod.nolimit.keeps fun b o e => (e0.bs b o e).1
  refine codeAny_call_function room.depth (inK _ _ lk) rfl S.co S.gen rfl (PySem.W.codeRec_of inK hcd) (bind _ _ _ _ ?_)
  refine wpAny_newFunctionEnv_cells S.kind (fun y hy => ?_) fun env he s1 inside => ?_
  · have q := S.par y.1 (List.of_mem_zip hy).1
    exact q.imp id fun c => ⟨c, PySem.W.cellsFrom_some _ _ _ (.inl c)⟩
  · subst he
    obtain ⟨t, ht, q⟩ := body cdv s H vs Q (roomTop room _) hsp
    have I := inv_start (CX := CX0) (E := E0) S room.hd e0 (len _ _ _ _ hsp) r inside
    refine ⟨lim.keeps inside.toInCall.keep, codeAny_func (wpAny_mono (ht.nox.run [] s1 (start N vs) H _ I q) (fun fl s' z => ?_) fun e s' z => z)⟩
    cases fl with
    | ret u =>
      obtain ⟨v, σ', H', J, rv, z⟩ := z
      exact ⟨v, H', J.os, J.bare, J.base, J.hok, rv, z⟩
    | next =>
      obtain ⟨σ', H', J, z⟩ := z
      exact ⟨V.non, H', J.os, J.bare, J.base, J.hok, rfl, z⟩
    | brk =>
      obtain ⟨_, _, _, z⟩ := z
      exact z.elim
    | cont =>
      obtain ⟨_, _, _, z⟩ := z
      exact z.elim
/-- the script alone is tracked, as an object that nobody changes -/
def frzAt (a : Addr) (o : Obj) (ns : List Int) : Hp := fun b => if b = a then some (.frz o (.lst (ns.map V.int))) else none
theorem frzAt_at (a : Addr) (o : Obj) (ns : List Int) : frzAt a o ns a = some (.frz o (.lst (ns.map V.int))) := if_pos rfl
theorem frzAt_ne {a b : Addr} (n : b ≠ a) (o : Obj) (ns : List Int) : frzAt a o ns b = none := if_neg n
/-- the object of a script -/
def scriptO (vs : List Value) : Obj := ⟨.type "list", none, .seq vs.toArray 0, #[]⟩
theorem top_core {mb : Str → Option Value} {fa a : Addr} {fd : FuncData} {sp : Sp} {s1 : Shared} {vs : List Value} {H : Hp} (inK : K.In s1.heap) (nsM : s1.heap.Ns mainGlobals mg) (nsB : s1.heap.Ns builtinsNs mb)
    (blt : ∀ x : Str, x ≠ "__name__" → mb x = bootBuiltins x) (lim : s1.heap.NoLimit) (noGen : s1.gens = #[]) (at1 : s1.heap.get? a = some (scriptO vs)) (hok : HOk P w H s1.heap)
    (only : ∀ b, H b ≠ none → b = a ∧ K.lookup a = none ∧ ∃ o xs, H a = some (.frz o (.lst xs)))
    (F : ∀ base : Heap, K.In base → base.Ns mainGlobals mg → AtTop P w K mg base fa fd ["script"] sp) (bind : ∀ (s : Shared) (u : Value), BindsTo s fd ⟨[u], []⟩ [("script", u)]) (hsp : sp [.ref a] H (fun v _ => v = .bl true) E0) :
    codeAny (model P w) callerA (.call (.ref fa) ⟨[.ref a], []⟩) (fun r s' => r = .ok (.ret (.bool true)) ∧ OldK s1.heap s'.heap ∧ s'.os = s1.os ∧ AllBare s'.gens) s1 := by
  have stays : ∀ {b : Addr} {o : Obj}, s1.heap.get? b = some o → (b = a → K.lookup a ≠ none) → (hidT s1.heap H).get? b = some o := fun {b o} e n => by
    refine hidT_get e ?_
    cases q : H b with
    | none => rfl
    | some u =>
      obtain ⟨z, lk, _⟩ := only b (by rw [q]; exact fun z => nomatch z)
      exact absurd lk (n z)
  have stayD : ∀ {b : Addr} {o : Obj} {es : Array DictEntry} {ep : Nat}, s1.heap.get? b = some o → o.data = .dict es ep → (hidT s1.heap H).get? b = some o := fun {b o es ep} e d => by
    refine hidT_get e ?_
    cases q : H b with
    | none => rfl
    | some u =>
      obtain ⟨rfl, _⟩ := only b (by rw [q]; exact fun z => nomatch z)
      rw [at1] at e
      cases e
      have d' : Data.seq vs.toArray 0 = Data.dict es ep := d
      cases d'
  have ns2 : ∀ {b : Addr} {m : Str → Option Value}, s1.heap.Ns b m → (hidT s1.heap H).Ns b m := fun {b m} n => by
    obtain ⟨o, es, ep, e, d, r⟩ := n
    exact ⟨o, es, ep, stayD e d, d, r⟩
  have inB : K.In (hidT s1.heap H) := fun b o e => stays (inK b o e) fun z lk => by
    rw [← z, e] at lk
    cases lk
  obtain ⟨mc, c1, c2⟩ := lim
  have e0 : Env0 P w K mg (hidT s1.heap H) callerA [] s1 H :=
    { frames := rfl
      mod := ⟨inB, ns2 nsM, ⟨mb, ns2 nsB, blt⟩, mc, ns2 c1, c2⟩
      bs := fun b o e => of_hidT e
      bsz := Nat.le_of_eq (hidT_size s1.heap H)
      funs := trivial
      frf := fun b m => nomatch m
      hok := hok
      bare := .of_eq noGen }
  refine codeAny_mono (F _ inB (ns2 nsM) s1 H ⟨[.ref a], []⟩ [.ref a] [.ref a] _ e0 (bind s1 (.ref a)) (.cons rfl .nil) hsp) fun r s' z => ?_
  cases r with
  | error e => exact False.elim z
  | ok fl =>
    cases fl with
    | next => exact False.elim z
    | brk => exact False.elim z
    | cont => exact False.elim z
    | ret u =>
      obtain ⟨v, H', os, bare, un, hok', rv, rfl⟩ := z
      obtain rfl : u = Value.bool true := rv
      refine ⟨rfl, OldK.of_keep fun b o e => ?_, os, bare⟩
      cases q : H b with
      | none => exact un.keep b o e q (fun m => nomatch m) (fun m => nomatch m)
      | some t =>
        obtain ⟨rfl, _, ob, xs, z⟩ := only b (by rw [q]; exact fun z => nomatch z)
        obtain ⟨e1, _⟩ := hok b _ z
        obtain ⟨e2, _⟩ := hok' b _ (un.frzs b ob _ z)
        rw [e] at e1
        cases e1
        exact e2
theorem top_call {mb : Str → Option Value} {fa a : Addr} {fd : FuncData} {sp : Sp} {s1 : Shared} {vs : List Value} {ns : List Int} (inK : K.In s1.heap) (nsM : s1.heap.Ns mainGlobals mg) (nsB : s1.heap.Ns builtinsNs mb)
    (blt : ∀ x : Str, x ≠ "__name__" → mb x = bootBuiltins x) (lim : s1.heap.NoLimit) (noGen : s1.gens = #[]) (at1 : s1.heap.get? a = some (scriptO vs)) (hi : IntsAre vs ns) (small : ns.length ≤ sizeLine)
    (F : ∀ base : Heap, K.In base → base.Ns mainGlobals mg → AtTop P w K mg base fa fd ["script"] sp) (bind : ∀ (s : Shared) (u : Value), BindsTo s fd ⟨[u], []⟩ [("script", u)])
    (hsp : ∀ H : Hp, SqL K H a (ns.map V.int) → sp [.ref a] H (fun v _ => v = .bl true) E0) :
    codeAny (model P w) callerA (.call (.ref fa) ⟨[.ref a], []⟩) (fun r s' => r = .ok (.ret (.bool true)) ∧ OldK s1.heap s'.heap ∧ s'.os = s1.os ∧ AllBare s'.gens) s1 := by
  have rv : Vals (ns.map V.int) vs := vals_ints hi
  have len : vs.length = ns.length := hi.length
  cases lk : K.lookup a with
  | some o =>
    have e := inK a o lk
    rw [at1] at e
    cases e
    refine top_core (H := fun _ => none) inK nsM nsB blt lim noGen at1 (fun b u z => nomatch z) (fun b z => absurd rfl z) F bind (hsp _ (.inr ⟨_, vs.toArray, _, lk, rfl, rfl, rfl, ?_, rv⟩))
    rw [List.size_toArray, len]
    exact small
  | none =>
    refine top_core (H := frzAt a (scriptO vs) ns) inK nsM nsB blt lim noGen at1 (fun b u z => ?_) (fun b z => ?_) F bind (hsp _ (.inl (.inr ⟨_, frzAt_at ..⟩)))
    · by_cases hb : b = a
      · subst hb
        rw [frzAt_at] at z
        cases z
        exact ⟨at1, by rw [List.length_map]; exact small, vs, 0, rv, at1⟩
      · rw [frzAt_ne hb] at z
        cases z
    · by_cases hb : b = a
      · exact ⟨hb, lk, _, _, frzAt_at ..⟩
      · exact absurd (frzAt_ne hb _ _) z
end
/-- the law's end -/
theorem top_walk {l : PySem.W.OpenLaw} {q : Program} {loose : List Str} {XP : (Str → Option Value) → Heap → Prop} {YP : World → Heap → Prop} {d : DefRec} {K : Params → PySem.W.Frag} {sp : PySem.W.Frag → Sp} {n : Nat} (hn : l.most = some n) (hn2 : n ≤ sizeLine) (hdf : d.params.defaults = [])
    (hY : ∀ (w : World) (h : Heap), YP w h → (K w.params).In h)
    (F : ∀ (w : World) (mg : Str → Option Value) (fa : Addr) (h : Heap), (K w.params).In h → h.Ns mainGlobals mg → mg d.name = some (.ref fa) →
      ∃ fd : FuncData, (∀ (s : Shared) (u : Value), BindsTo s fd ⟨[u], []⟩ [("script", u)]) ∧ ∀ base : Heap, (K w.params).In base → base.Ns mainGlobals mg → AtTop l.prog w (K w.params) mg base fa fd ["script"] (sp (K w.params)))
    (hsp : ∀ (K : PySem.W.Frag) (H : Hp) (a : Addr) (ns : List Int), ns.length ≤ n → SqL K H a (ns.map V.int) → sp K [.ref a] H (fun v _ => v = .bl true) E0) :
    PySem.W.WalkO q loose XP YP l.row.toRowW d [] (fun f vs => PySem.call f vs) := by
  refine Att.attach_call hn hdf fun w s0 s1 mg mb fa o pm cd doc a vs ns G Y ho hd hcd hmg hobj hints hlen hg => ?_
  obtain ⟨fd, bind, F'⟩ := F w mg fa _ (hY w _ Y) G.T.g hmg
  exact top_call (hY w _ Y) G.T.g G.T.b G.T.builtins G.T.nolimit hg hobj hints (Nat.le_trans hlen hn2) F' bind fun H hS => hsp _ H a ns hlen hS
/-! ### repr of lists within lists -/
def rRepr (K : PySem.W.Frag) : List V → Hp → VK → Prop := fun xs H Q => ∃ a d, xs = [V.ref a] ∧ Dp K H (.ref a) d ∧ d.showable = true ∧ d.hasDict = false ∧ d.depth ≤ 64 ∧ d.shown.length ≤ sizeLine ∧ Q (.str d.shown) H
theorem call_repr {X : Cx} (room : X.A.units + 65 < cLine) (hg : X.A.guards = some []) : CallR X (.builtin "repr") (rRepr X.K) := by
  intro pins s σ H xs us Q I r h
  obtain ⟨a, d, rfl, hd, hs, nd, dep, lim, q⟩ := h
  rw [Vals.ref1 r]
  obtain ⟨as, rd⟩ := Dp.reads I d (.ref a) (.ref a) hd rfl
  exact repr_of_reads' rd hs (PyData.noDict_hsm nd) hg (by omega) (fun _ _ e => e) (fun h' u tk k => ⟨.str d.shown, H, I.kept (t' := tk) k, ⟨u, rfl⟩, q⟩) lim
end RH
namespace RH
open PySem L2
def chA : Str := " !\"#$&'()*+,-./0123456789:;<=>?@ABCDEFGHIJKLMNOPQRSTUVWXYZ[\\]^_`"
def chB : Str := "abcdefghijklmnopqrstuvwxyz{|}~\n\t"
theorem ch_all : ((chA ++ chB).cps.toList.all okc) = true := by decide +kernel
theorem sz3 {x y z : V} : [x, y, z].length ≤ sizeLine := by show 3 ≤ sizeLine; decide
theorem ch_len : (chA ++ chB).cps.toList.length = 96 := by decide +kernel
theorem r_char {H : Hp} {Q : VK} (i : Int) (q : ∀ c : Nat, okc c = true → Q (.str ⟨#[c]⟩) H) : rIxS (.str (chA ++ chB)) (.int (i % 96)) H Q := by
  have h1 := Int.emod_nonneg i (show (96 : Int) ≠ 0 by decide)
  have h2 := Int.emod_lt_of_pos i (show (0 : Int) < 96 by decide)
  obtain ⟨m, hm⟩ : ∃ m : Nat, i % 96 = (m : Int) := ⟨(i % 96).toNat, by omega⟩
  rw [hm]
  have hlt : m < (chA ++ chB).cps.toList.length := by rw [ch_len]; omega
  have hl : (chA ++ chB).length = 96 := ch_len
  exact ⟨_, _, (chA ++ chB).cps.toList[m], rfl, rfl, by rw [hl]; decide, atI_nat (List.getElem?_eq_getElem hlt), q _ (List.all_eq_true.mp ch_all _ (List.getElem_mem hlt))⟩
end RH
namespace RH
open PySem L2
/-! ### texts of signs -/
def sg (c : Nat) : V := .str ⟨#[c]⟩
theorem joinL_signs : ∀ cs : List Nat, TL.joinL [] (cs.map fun c => [c]) = cs
  | [] => rfl
  | [c] => rfl
  | c :: d :: r => by
    show [c] ++ ([] ++ TL.joinL [] ((d :: r).map fun c => [c])) = c :: d :: r
    rw [joinL_signs (d :: r)]
    rfl
theorem join_signs (cs : List Nat) : Txt.join (SX.S []) ((cs.map fun c => [c]).map SX.S) = SX.S cs := by
  rw [SX.join_S, joinL_signs]
theorem S_cps (cs : List Nat) : (SX.S cs).cps.toList = cs := rfl
theorem S_len (cs : List Nat) : (SX.S cs).length = cs.length := SX.S_len cs
theorem okS_S {cs : List Nat} (h : ∀ c ∈ cs, okc c = true) (hl : cs.length ≤ 1000) : OkS (SX.S cs) := ⟨by rw [S_len]; exact hl, h⟩
def rJoin (K : PySem.W.Frag) : V → List V → Hp → VK → Prop := fun x xs H Q => ∃ a p, ∃ ys : List Str, x = .str a ∧ xs = [.ref p] ∧ (SqL K H p (ys.map V.str) ∨ SqT K H p (ys.map V.str)) ∧ (ys.map (·.length)).sum + ys.length * a.length ≤ 16777216 ∧ Q (.str (Txt.join a ys)) H
section
variable {X : Cx} {o e : Expr} {to te : TE}
theorem pe_joinG {apos pos : Pos} (ho : PE X o to) (he : PE X e te) (hs : starEach [e] X.env = [(false, eval e X.env)] := by rfl) (hbase : attributeBase o "join" X.env (eval o X.env) = eval o X.env := by rfl) (hline : (apos.endLine == pos.line) = true := by rfl) :
    PE X (.Call (.Attribute o "join" apos) [e] [] pos) (tM1 (rJoin X.K) to te) := pe_join ho he hs hbase hline
end
theorem sum_ones : ∀ cs : List Nat, ((cs.map fun c => (⟨#[c]⟩ : Str)).map (·.length)).sum = cs.length
  | [] => rfl
  | c :: r => by
    rw [List.map_cons, List.map_cons, List.sum_cons, sum_ones r, List.length_cons]
    show 1 + r.length = r.length + 1
    omega
theorem r_join {K : PySem.W.Frag} {σ : St} {H : Hp} {Q : VK} {j : Nat} {p : Addr} {cs : List Nat} (hj : σ[j]? = some (some (.ref p))) (h : H p = some (.lst (cs.map sg))) (hl : cs.length ≤ 1000) (q : Q (.str (SX.S cs)) H) :
    tM1 (rJoin K) (tC (.str ("" : Str))) (tVar j) σ H Q := by
  refine ⟨⟨_, rfl⟩, _, hj, "", p, cs.map fun c => (⟨#[c]⟩ : Str), rfl, rfl, .inl (SqL.of ?_), ?_, ?_⟩
  · rw [h]
    congr 2
    rw [List.map_map]
    rfl
  · rw [sum_ones, List.length_map]
    show cs.length + cs.length * 0 ≤ 16777216
    omega
  · have e : (cs.map fun c => (⟨#[c]⟩ : Str)) = (cs.map fun c => [c]).map SX.S := by
      rw [List.map_map]
      rfl
    rw [e]
    have e2 : ("" : Str) = SX.S [] := by decide +kernel
    rw [e2, join_signs]
    exact q
theorem signs_of : ∀ {ys : List V}, (∀ y, y ∈ ys → ∃ c : Nat, okc c = true ∧ y = sg c) → ∃ cs : List Nat, ys = cs.map sg ∧ ∀ c, c ∈ cs → okc c = true
  | [], _ => ⟨[], rfl, fun _ h => nomatch h⟩
  | y :: r, h => by
    obtain ⟨c, hc, e⟩ := h y (List.mem_cons_self ..)
    obtain ⟨cs, e2, h2⟩ := signs_of fun z hz => h z (List.mem_cons_of_mem _ hz)
    refine ⟨c :: cs, by rw [e, e2]; rfl, fun x hx => ?_⟩
    rcases List.mem_cons.mp hx with rfl | hx
    · exact hc
    · exact h2 x hx
theorem atI_in {xs : List V} {d : Int} (h0 : 0 ≤ d) (h1 : d < xs.length) : ∃ v, v ∈ xs ∧ atI xs d = some v := by
  obtain ⟨m, rfl⟩ : ∃ m : Nat, d = (m : Int) := ⟨d.toNat, by omega⟩
  have hlt : m < xs.length := by omega
  exact ⟨xs[m], List.getElem_mem hlt, atI_nat (List.getElem?_eq_getElem hlt)⟩
theorem ixN_in {n : Nat} {d : Int} (h0 : 0 ≤ d) (h1 : d < n) : ixN n d = some d.toNat := by
  unfold ixN
  rw [if_pos h0, if_pos h1]
theorem szL {n : Nat} (h : Nat.ble n 1000 = true) : n ≤ sizeLine := sz1000 (Nat.le_of_ble_eq_true h)
/-- items drawn off the row over range(n) -/
theorem r_rng {r : Addr} {n : Int} {k : Nat} {vs : List Nat} {σ : St} {te : TE} {H : Hp} {Q : Addr → Hp → Prop} (h1 : n ≤ 1000) (row : Row H r) (P : Hp → V → Prop) (hP : ∀ H H' y, Same H H' → P H y → P H' y) (hw : ∀ x, wipe ((wipe σ vs).set k (some x)) vs = wipe σ vs)
    (step : ∀ (i : Int) H1, Fr r H H1 → Row H1 r → ∀ Q1 : VK, (∀ y H', Fr r H1 H' → Row H' r → P (fresh H1 H') y → Q1 y H') → te ((wipe σ vs).set k (some (.int i))) H1 Q1)
    (q : ∀ D H' ys, ys.length = n.toNat → H D = none → Fr r H H' → Row H' r → H' D = some (.lst ys) → (∀ y, y ∈ ys → P (fresh (upd H D (.lst [])) H') y) → Q D H') :
    ∀ D, H D = none → LcGo (Itr 0 n.toNat) (gName k) tYes te vs σ D (Q D) H := fun D hD =>
  lc_row (r := r) (walk_range (lo := 0) (n := n.toNat)) (Y' := fun i x => x = .int (0 + i)) (fun i H x H' y => y) P hP (by omega) hD row (fun _ _ => trivial) hw
    (fun i x H1 e f rw1 Q1 q1 => by
      subst e
      exact step _ H1 f rw1 Q1 q1)
    fun H' ys hl f rw1 hL hp => q D H' ys hl hD f rw1 hL hp
def sp_str : Sp := fun vs H Q _ => ∃ r : Addr, vs = [.ref r] ∧ Row H r ∧ ∀ s H', OkS s → Fr r H H' → Row H' r → Q (.str s) H'
end RH
namespace RH
open PySem L2
theorem joinL_flat : ∀ ys : List (List Nat), TL.joinL [] ys = ys.flatten
  | [] => rfl
  | [p] => by simp [TL.joinL]
  | p :: q :: r => by
    show p ++ ([] ++ TL.joinL [] (q :: r)) = (p :: q :: r).flatten
    rw [joinL_flat (q :: r), List.nil_append, ← List.flatten_cons]
theorem len_le_sum : ∀ {ss : List Str} {m : Nat}, (∀ s, s ∈ ss → s.length ≤ m) → (ss.map (·.length)).sum ≤ ss.length * m
  | [], _, _ => by simp
  | s :: r, m, h => by
    have h1 := h s (List.mem_cons_self ..)
    have h2 := len_le_sum fun z hz => h z (List.mem_cons_of_mem _ hz)
    rw [List.map_cons, List.sum_cons, List.length_cons, Nat.add_mul]
    omega
theorem flat_len : ∀ ss : List Str, ((ss.map fun s => s.cps.toList).flatten).length = (ss.map (·.length)).sum
  | [] => rfl
  | s :: r => by
    rw [List.map_cons, List.flatten_cons, List.length_append, flat_len r, List.map_cons, List.sum_cons]
    rfl
theorem r_m1c {r : V → List V → Hp → VK → Prop} {te : TE} {σ : St} {H : Hp} {Q : VK} {z : Str} (h : te σ H fun y H2 => r (.str z) [y] H2 Q) : tM1 r (tC (.str z)) te σ H Q := ⟨⟨z, rfl⟩, h⟩
theorem rJoin_S {K : PySem.W.Frag} {H : Hp} {Q : VK} {p : Addr} {ss : List Str} {m : Nat} (h : H p = some (.lst (ss.map V.str))) (hs : ∀ s, s ∈ ss → OkS s ∧ s.length ≤ m) (hl : ss.length * m ≤ 1000) (q : ∀ s, OkS s → Q (.str s) H) : rJoin K (.str ("" : Str)) [.ref p] H Q := by
  have hsum := len_le_sum (m := m) fun s hz => (hs s hz).2
  refine ⟨"", p, ss, rfl, rfl, .inl (SqL.of h), ?_, ?_⟩
  · show _ + ss.length * 0 ≤ 16777216
    omega
  · have e2 : ("" : Str) = SX.S [] := by decide +kernel
    have e : ss = (ss.map fun s => s.cps.toList).map SX.S := by
      rw [List.map_map]
      exact (List.map_id' ss).symm.trans (List.map_congr_left fun s _ => (SX.S_tl s).symm)
    rw [e2, e, SX.join_S, joinL_flat]
    refine q _ (okS_S (fun c hc => ?_) (by rw [flat_len]; omega))
    obtain ⟨l, hl2, hcl⟩ := List.mem_flatten.mp hc
    obtain ⟨s, hs2, rfl⟩ := List.mem_map.mp hl2
    exact (hs s hs2).1.ok c hcl
end RH
namespace RH
open PySem L2
/-- names as the laws draw them: texts of at most 14 signs, or other things -/
def OkN (d : D) : Prop := ∀ s, d = .str s → s.length ≤ 14
theorem rep_list {K : PySem.W.Frag} {CC : Addr → Prop} {Ok : D → Prop} {H : Hp} : ∀ {ys : List V}, (∀ y, y ∈ ys → ∃ d, Ok d ∧ Rep K CC H y d) → ∃ ds : List D, ys.length = ds.length ∧ (∀ (i : Nat) (x : V) (d : D), ys[i]? = some x → ds[i]? = some d → Rep K CC H x d) ∧ ∀ d, d ∈ ds → Ok d
  | [], _ => ⟨[], rfl, fun i x d h => by simp at h, fun _ h => nomatch h⟩
  | y :: r, h => by
    obtain ⟨d, o, rp⟩ := h y (List.mem_cons_self ..)
    obtain ⟨ds, hl, hi, ho⟩ := rep_list fun z hz => h z (List.mem_cons_of_mem _ hz)
    refine ⟨d :: ds, by rw [List.length_cons, List.length_cons, hl], fun i x e hx he => ?_, fun z hz => ?_⟩
    · cases i with
      | zero =>
        cases Option.some.inj hx
        cases Option.some.inj he
        exact rp
      | succ i => exact hi i x e hx he
    · rcases List.mem_cons.mp hz with rfl | hz
      · exact o
      · exact ho z hz
/-- the texts among things -/
def strsOf : List D → List Str
  | [] => []
  | .str s :: r => s :: strsOf r
  | _ :: r => strsOf r
theorem strs_filter {K : PySem.W.Frag} {CC : Addr → Prop} {H : Hp} : ∀ {xs : List V} {ds : List D}, xs.length = ds.length → (∀ (i : Nat) (x : V) (d : D), xs[i]? = some x → ds[i]? = some d → Rep K CC H x d) →
    (((ds.map fun d => isD d "str").zip xs).filter (·.1)).map (·.2) = (strsOf ds).map V.str
  | [], [], _, _ => rfl
  | x :: xs, d :: ds, hl, hi => by
    have R := hi 0 x d rfl rfl
    have ih := strs_filter (xs := xs) (ds := ds) (by simpa using hl) fun i y e hy he => hi (i + 1) y e hy he
    cases R <;> rw [List.map_cons, List.zip_cons_cons, List.filter_cons] <;> first
      | (rw [if_pos (by rfl), List.map_cons, ih]; rfl)
      | (rw [if_neg (by intro z; cases z), ih]; rfl)
  | [], _ :: _, hl, _ => by simp at hl
  | _ :: _, [], hl, _ => by simp at hl
theorem strs_ok {K : PySem.W.Frag} {CC : Addr → Prop} {H : Hp} : ∀ {xs : List V} {ds : List D}, xs.length = ds.length → (∀ (i : Nat) (x : V) (d : D), xs[i]? = some x → ds[i]? = some d → Rep K CC H x d) → (∀ d, d ∈ ds → OkN d) →
    (∀ s, s ∈ strsOf ds → OkS s ∧ s.length ≤ 14) ∧ (strsOf ds).length ≤ ds.length
  | [], [], _, _, _ => ⟨(fun _ h => nomatch h), Nat.le_refl _⟩
  | x :: xs, d :: ds, hl, hi, ho => by
    have R := hi 0 x d rfl rfl
    have ih := strs_ok (xs := xs) (ds := ds) (by simpa using hl) (fun i y e hy he => hi (i + 1) y e hy he) fun e he => ho e (List.mem_cons_of_mem _ he)
    have hd := ho d (List.mem_cons_self ..)
    cases R with
    | str s ok =>
      refine ⟨fun z hz => ?_, Nat.succ_le_succ ih.2⟩
      rcases List.mem_cons.mp hz with rfl | hz
      · exact ⟨ok, hd _ rfl⟩
      · exact ih.1 z hz
    | _ => exact ⟨ih.1, Nat.le_succ_of_le ih.2⟩
  | [], _ :: _, hl, _, _ => by simp at hl
  | _ :: _, [], hl, _, _ => by simp at hl
end RH
namespace RH
open PySem L2
def loS : Str := "abcdefghijklmnopqrstuvwxyz"
theorem lo_all : (loS.cps.toList.all okc) = true := by decide +kernel
theorem lo_len : loS.cps.toList.length = 26 := by decide +kernel
theorem r_low {H : Hp} {Q : VK} {d : Int} (h0 : 0 ≤ d) (h1 : d < 26) (q : ∀ c : Nat, okc c = true → Q (.str ⟨#[c]⟩) H) : rIxS (.str loS) (.int d) H Q := by
  obtain ⟨m, rfl⟩ : ∃ m : Nat, d = (m : Int) := ⟨d.toNat, by omega⟩
  have hlt : m < loS.cps.toList.length := by rw [lo_len]; omega
  have hl : loS.length = 26 := lo_len
  exact ⟨_, _, loS.cps.toList[m], rfl, rfl, by rw [hl]; decide, atI_nat (List.getElem?_eq_getElem hlt), q _ (List.all_eq_true.mp lo_all _ (List.getElem_mem hlt))⟩
end RH
namespace RH
open PySem L2
theorem Row.setne {H : Hp} {r p : Addr} {o : HO} (h : Row H r) (n : p ≠ r) : Row (L2.upd H p o) r := by
  obtain ⟨a, b, c, e⟩ := h
  exact ⟨a, b, c, by rw [upd_ne n.symm]; exact e⟩
theorem Row.ne_of {H : Hp} {r p : Addr} (h : Row H r) (n : H p = none) : p ≠ r := fun z => h.ne (z ▸ n)
/-- a list made by drawing: what holds of its items, said of what is new since H -/
theorem fresh_list {K : PySem.W.Frag} {CC : Addr → Prop} {H H1 H2 : Hp} {y : V} {d : D} (s : Same H1 H2) (h : Rep K CC H1 y d) : Rep K CC H2 y d := h.mono s
theorem fresh_back {r D : Addr} {H0 H H' H2 : Hp} {o : HO} (f : Dom H0 H) (row : H0 r ≠ none) (g : Fr r H' H2) : Same (fresh (upd H D o) H') (fresh H0 H2) := fun b z h => by
  obtain ⟨e, q⟩ := fresh_some h
  have nb : b ≠ D := fun w => by rw [w, upd_same] at e; cases e
  rw [upd_ne nb] at e
  have e0 := f b e
  exact fresh_of e0 (g b z (fun w => row (w ▸ e0)) q)
def rNewT (K : PySem.W.Frag) : List V → Hp → VK → Prop := rTupOf K
end RH
namespace RH
open PySem L2
/-- the parts of a pair while it is spoilt: a list that is new since H -/
def PairAt (K : PySem.W.Frag) (CC : Addr → Prop) (H : Hp) (r : Addr) (kd : Int) (m : Nat) (σ' : St) (H' : Hp) : Prop :=
  ∃ (E : Addr) (xs : List V) (ds : List D), σ' = [some (.ref r), some (.ref E), some (.int kd)] ∧ H E = none ∧ H' E = some (.lst xs) ∧ xs.length = ds.length ∧ xs.length ≤ m ∧ (kd ≠ 0 → 2 ≤ xs.length) ∧
    (∀ (i : Nat) (x : V) (d : D), xs[i]? = some x → ds[i]? = some d → Rep K CC (fresh (upd H E (.lst [])) H') x d) ∧ Fr r H H' ∧ Row H' r
section
variable {K : PySem.W.Frag} {σ : St} {H : Hp} {Q : VK} {p : Addr} {xs : List V} {v : V} {n : Nat}
theorem r_bmL {r : V → List V → Hp → VK → Prop} {t : TA} (hj : σ[n]? = some (some (.ref p))) (h : H p = some (.lst xs)) (q : t σ H fun vs H2 => r (.ref p) vs H2 Q) : tBM K "list" r (tVar n) t σ H Q := ⟨_, hj, .inl ⟨rfl, _, SqL.of h⟩, q⟩
theorem r_append (h : H p = some (.lst xs)) (hl : xs.length < sizeLine) (q : Q .non (upd H p (.lst (xs ++ [v])))) : rAppend (.ref p) [v] H Q := ⟨p, xs, v, rfl, rfl, h, hl, q⟩
end
end RH
namespace RH
open PySem L2
/-- behind a row that was opened at r, nothing that stood ahead of it is changed -/
theorem Fr.same {r : Addr} {H H1 H2 : Hp} (hr : H r = none) (s : Same H H1) (f : Fr r H1 H2) : Same H H2 := fun b o e => f b o (ne_of_none e hr) (s b o e)
/-- the law's own promise: a list of at most 63 ints is handed in, True comes out -/
def spLaw (K : PySem.W.Frag) : Sp := fun vs H Q _ => ∃ (a : Addr) (ns : List Int), vs = [.ref a] ∧ SqL K H a (ns.map V.int) ∧ ns.length ≤ 63 ∧ ∀ H', Q (.bl true) H'
theorem isDot_two {d1 d2 : D} (h : isNum d2 = true) : ∃ i : Int, d2 = .int i ∧ 0 ≤ i ∧ (nz d2 = decide (0 < i)) := by
  cases d2 with
  | int i =>
    have h1 : (limI i && decide (0 ≤ i)) = true := h
    rw [Bool.and_eq_true] at h1
    have h2 : 0 ≤ i := of_decide_eq_true h1.2
    refine ⟨i, rfl, h2, ?_⟩
    show (!decide (i = 0)) = _
    rw [← decide_not]
    exact decide_eq_decide.mpr (by omega)
  | _ => cases h
def spSaid : Sp := fun vs H Q _ => ∃ a b : Bool, vs = [.bl a, .bl b] ∧ Q (.bl (decide (a = b))) H
/-- Clock([..]) of some list: an instance comes out, nothing that stood is changed -/
def spClk (C : Addr) : Sp := fun vs H Q _ => ∃ (x dx p : Addr) (ts : List Addr) (dots : List (Int × Int)), vs = [.ref x, .ref p] ∧ H x = some (.ins C dx []) ∧ H p = some (.lst (ts.map V.ref)) ∧ Paired (fun t d => H t = some (.tup [.int d.1, .int d.2])) ts dots ∧ ts.length ≤ 900 ∧
  ∀ fs H', (∀ b o, b ≠ x → H b = some o → H' b = some o) → H' x = some (.ins C dx fs) → Q .non H'
end RH
namespace RH
open PySem L2
/-- what a loop asks, from its walk on -/
def ForGo (J : It) (g : TG) (tb : TS) (nx : St → Hp → Prop) (rt : VK) (σ : St) (H : Hp) : Prop :=
  ∃ W : Nat → Nat → St → Hp → Prop, (∃ m, W 0 m σ H) ∧ ∀ i m σ H, W i m σ H →
    (J.stop i H ∧ nx σ H) ∨ (J.go i H ∧ ∃ N : St → Hp → Prop, (∀ σ' H', N σ' H' → ∃ m', m' < m ∧ W (i + 1) m' σ' H') ∧ ∀ x H', J.yld i H x H' → g x σ H' fun σ2 H2 => tb ⟨N, rt, nx, N⟩ σ2 H2)
theorem r_for {wi : TI} {g : TG} {tb : TS} {nx bk ct : St → Hp → Prop} {rt : VK} {σ : St} {H : Hp} (h : wi σ H fun J H1 => ForGo J g tb nx rt σ H1) : tFor wi g tb ⟨nx, rt, bk, ct⟩ σ H := h
theorem r_rng1 {ta : TA} {σ : St} {H : Hp} {R : It → Hp → Prop} (h : ta σ H fun vs H1 => ∃ j : Int, vs = [.int j] ∧ -(2 ^ 62) ≤ j ∧ j < 2 ^ 62 ∧ R (Itr 0 j.toNat) H1) : iRng1 ta σ H R := h
theorem go_it {J : It} {n : Nat} {G : Hp → Prop} {Y : Nat → Hp → V → Hp → Prop} (w : Walk J n G Y) {g : TG} {tb : TS} {nx : St → Hp → Prop} {rt : VK} {σ : St} {H : Hp} (Pv : Nat → St → Hp → Prop) (h0 : Pv 0 σ H) (hG : ∀ i σ H, i ≤ n → Pv i σ H → G H)
    (hs : ∀ i x σ H H', i < n → Pv i σ H → Y i H x H' → g x σ H' fun σ2 H2 => tb ⟨Pv (i + 1), rt, nx, Pv (i + 1)⟩ σ2 H2) (hd : ∀ σ H, Pv n σ H → nx σ H) : ForGo J g tb nx rt σ H :=
  for_it (D := ⟨nx, rt, fun _ _ => False, fun _ _ => False⟩) w Pv h0 hG hs hd
theorem go_range {lo : Int} {n : Nat} {g : TG} {tb : TS} {nx : St → Hp → Prop} {rt : VK} {σ : St} {H : Hp} (Pv : Nat → St → Hp → Prop) (h0 : Pv 0 σ H)
    (hs : ∀ (i : Nat) (x : V) σ H, i < n → Pv i σ H → x = .int (lo + (i : Int)) → g x σ H fun σ2 H2 => tb ⟨Pv (i + 1), rt, nx, Pv (i + 1)⟩ σ2 H2) (hd : ∀ σ H, Pv n σ H → nx σ H) : ForGo (Itr lo n) g tb nx rt σ H :=
  go_it walk_range Pv h0 (fun _ _ _ _ _ => trivial) (fun i x σ H H' hi p y => by
    obtain ⟨rfl, e⟩ := y
    exact hs i x σ H' hi p e) hd
end RH
namespace RH
open PySem L2
theorem r_said {a b : Bool} {H : Hp} {Q : VK} {E : XK} (e : a = b) (q : Q (.bl true) H) : spSaid ([.bl a, .bl b] ++ []) H Q E := ⟨a, b, rfl, by rw [decide_eq_true e]; exact q⟩
theorem r_make {C : Addr} {sp : Sp} {dvs : List V} {E : XK} {t : TA} {σ : St} {H : Hp} {Q : VK} (h : t σ H fun vs H1 => ∀ x dx, H1 x = none → H1 dx = none → dx ≠ x → sp (.ref x :: (vs ++ dvs)) (upd (upd H1 dx (.own x)) x (.ins C dx [])) (fun v H2 => v = .non ∧ Q (.ref x) H2) E) : tMake C sp dvs E t σ H Q := h
end RH
namespace RH
open PySem L2
section
variable {K : PySem.W.Frag} {CC : Addr → Prop} {H H' : Hp}
mutual
theorem dp_mono (s : Same H H') : ∀ (d : PyData) (v : V), Dp K H v d → Dp K H' v d
  | .none, _, h => by cases h; exact .non
  | .bool b, _, h => by cases h; exact .bl b
  | .int i, _, h => by cases h; exact .int i
  | .str x, _, h => by cases h; exact .str x
  | .list ds, _, h => by
    cases h with
    | lst a b => exact .lst (s.seq a) (dpAll_mono s ds _ b)
  | .tuple ds, _, h => by
    cases h with
    | tup a b => exact .tup (same_t s a) (dpAll_mono s ds _ b)
  | .dict ds, _, h => by cases h
theorem dpAll_mono (s : Same H H') : ∀ (ds : List PyData) (vs : List V), DpAll K H vs ds → DpAll K H' vs ds
  | [], _, h => by cases h; exact .nil
  | d :: ds, _, h => by
    cases h with
    | cons a b => exact .cons (dp_mono s d _ a) (dpAll_mono s ds _ b)
end
/-- data that repr shows: k what is nested -/
structure Shw (d : PyData) (k : Nat) : Prop where
  sh : d.showable = true
  nd : d.hasDict = false
  dep : d.depth ≤ k
  len : d.shown.length ≤ 3 * k + 3
theorem Shw.lst {d : PyData} {k : Nat} (h : Shw d k) : Shw (.list [d]) (k + 1) := by
  refine ⟨?_, ?_, ?_, ?_⟩
  · simp [PyData.showable, PyData.showableAll, h.sh]
  · simp [PyData.hasDict, PyData.hasDictAll, h.nd]
  · have := h.dep
    simp only [PyData.depth, PyData.depthAll]
    omega
  · have := h.len
    simp only [PyData.shown, PyData.shownAll]
    rw [PyProof.Rows.listText_one]
    simp only [Str.length_append]
    have e1 : (Str.ofString "[").length = 1 := by decide +kernel
    have e2 : (Str.ofString "").length = 0 := by decide +kernel
    have e3 : (Str.ofString "]").length = 1 := by decide +kernel
    omega
theorem Shw.tup {d : PyData} {k : Nat} (h : Shw d k) : Shw (.tuple [d]) (k + 1) := by
  refine ⟨?_, ?_, ?_, ?_⟩
  · simp [PyData.showable, PyData.showableAll, h.sh]
  · simp [PyData.hasDict, PyData.hasDictAll, h.nd]
  · have := h.dep
    simp only [PyData.depth, PyData.depthAll]
    omega
  · have := h.len
    simp only [PyData.shown, PyData.shownAll]
    rw [PyProof.Rows.tupleText_one]
    simp only [Str.length_append]
    have e1 : (Str.ofString "(").length = 1 := by decide +kernel
    have e3 : (Str.ofString ",)").length = 2 := by decide +kernel
    omega
theorem shw_a : Shw (.str "a") 1 := ⟨rfl, rfl, by decide, by decide +kernel⟩
theorem shw_0 : Shw (.int 0) 1 := ⟨by decide +kernel, rfl, by decide, by decide +kernel⟩
theorem shw_u : Shw (.tuple []) 1 := ⟨rfl, rfl, by decide, by decide +kernel⟩
theorem shw_n : Shw .none 1 := ⟨rfl, rfl, by decide, by decide +kernel⟩
/-- what repr shows of the thing at v, if it is a list -/
def Shown (K : PySem.W.Frag) (H : Hp) (v : V) (d : D) : Prop := ∀ xs, d = .lst xs → ∃ pd k, Dp K H v pd ∧ Shw pd k ∧ k ≤ 64
theorem Shown.mono {v : V} {d : D} (h : Shown K H v d) (s : Same H H') : Shown K H' v d := fun xs e => by
  obtain ⟨pd, k, a, b, c⟩ := h xs e
  exact ⟨pd, k, dp_mono s pd v a, b, c⟩
theorem Shown.no {v : V} {d : D} (h : ∀ xs, d ≠ .lst xs) : Shown K H v d := fun xs e => absurd e (h xs)
/-- the promise of what draws such a thing -/
def sp_oth (K : PySem.W.Frag) (CC : Addr → Prop) : Sp := fun vs H Q _ => ∃ r : Addr, vs = [.ref r] ∧ Row H r ∧ ∀ v d H', Fr r H H' → Row H' r → Rep K CC (fresh H H') v d → Shown K (fresh H H') v d → Q v H'
theorem hu65 {k : Nat} {A : Around} (r : Room k A) : A.units + 65 < cLine := by
  have := r.un
  omega
theorem r_repr {Q : VK} {a : Addr} {pd : PyData} {k : Nat} (h : Dp K H (.ref a) pd) (s : Shw pd k) (hk : k ≤ 64) (q : Q (.str pd.shown) H) : rRepr K [.ref a] H Q :=
  ⟨a, pd, rfl, h, s.sh, s.nd, Nat.le_trans s.dep hk, Nat.le_of_lt (small1000 (by have := s.len; omega)), q⟩
end
/-- str(i) -/
def rStrI : List V → Hp → VK → Prop := fun xs H Q => ∃ i : Int, xs = [.int i] ∧ i.natAbs.log2 < 1920 ∧ Q (.str (toString i)) H
theorem call_strI {X : Cx} : CallR X (.type "str") rStrI := call_str_int
def okStr (s : Str) : Bool := decide (s.length ≤ 1000) && s.cps.toList.all okc
theorem okS_of {s : Str} (h : okStr s = true) : OkS s := by
  unfold okStr at h
  rw [Bool.and_eq_true, List.all_eq_true] at h
  exact ⟨of_decide_eq_true h.1, h.2⟩
theorem okS_dig : (List.range 1000).all (fun n => okStr (toString (n : Int))) = true := by decide +kernel
theorem okS_int {i : Int} (h0 : 0 ≤ i) (h1 : i < 1000) : OkS (toString i) := by
  have h := List.all_eq_true.mp okS_dig i.toNat (List.mem_range.mpr (by omega))
  rw [show ((i.toNat : Nat) : Int) = i from Int.toNat_of_nonneg h0] at h
  exact okS_of h
theorem r_strI {Q : VK} {H : Hp} {i : Int} (h0 : 0 ≤ i) (h1 : i < 1000) (q : OkS (toString i) → Q (.str (toString i)) H) : rStrI [.int i] H Q := by
  refine ⟨i, rfl, ?_, q (okS_int h0 h1)⟩
  have h : i.natAbs < 2 ^ 1920 := Nat.lt_of_lt_of_le (show i.natAbs < 1000 by omega) (by decide)
  by_cases z : i.natAbs = 0
  · rw [z]
    decide
  · exact (Nat.log2_lt z).mpr h
end RH
namespace RH
open PySem L2
/-- Clock([(0, 1)]) -/
theorem r_clk01 {C r : Addr} {σ : St} {H : Hp} {Q : VK} {E : XK} (row : Row H r) (q : ∀ y dy fs H', Fr r H H' → Row H' r → H y = none → H' y = some (.ins C dy fs) → Q (.ref y) H') :
    tMake C (spClk C) [] E (tCons (tLst (tCons (tTup (tCons (tC (.int 0)) (tCons (tC (.int 1)) tNil))) tNil)) tNil) σ H Q := by
  refine r_make (r_cons (r_lst (r_cons (r_tup (r_cons (r_c (r_cons (r_c (r_nil ⟨szL rfl, fun p1 hp1 => r_nil ⟨szL rfl, fun p2 hp2 => r_nil ?_⟩⟩)))))))))
  intro y dy hy hdy nyd
  have n12 : p1 ≠ p2 := fun z => by rw [← z, upd_same] at hp2; cases hp2
  have n2y : p2 ≠ y := fun z => by rw [← z, upd_same] at hy; cases hy
  have n1y : p1 ≠ y := fun z => by rw [← z, upd_ne n12, upd_same] at hy; cases hy
  have n2d : p2 ≠ dy := fun z => by rw [← z, upd_same] at hdy; cases hdy
  have n1d : p1 ≠ dy := fun z => by rw [← z, upd_ne n12, upd_same] at hdy; cases hdy
  refine ⟨y, dy, p2, [p1], [(0, 1)], rfl, upd_same, by rw [upd_ne n2y, upd_ne n2d, upd_same]; rfl, .cons (by rw [upd_ne n1y, upd_ne n1d, upd_ne n12, upd_same]) .nil, Nat.le_of_ble_eq_true rfl, fun fs H5 k5 hy5 => ⟨rfl, ?_⟩⟩
  have all : ∀ b o, H b = some o → H5 b = some o := fun b o e => by
    have h1 : b ≠ p1 := ne_of_none e hp1
    have e1 : (upd H p1 (.tup [.int 0, .int 1])) b = some o := by rw [upd_ne h1]; exact e
    have h2 : b ≠ p2 := ne_of_none e1 hp2
    have e2 : (upd (upd H p1 (.tup [.int 0, .int 1])) p2 (.lst [.ref p1])) b = some o := by rw [upd_ne h2]; exact e1
    have h3 : b ≠ y := ne_of_none e2 hy
    have h4 : b ≠ dy := ne_of_none e2 hdy
    exact k5 b o h3 (by rw [upd_ne h3, upd_ne h4]; exact e2)
  have hyH : H y = none := by
    rw [upd_ne n2y.symm, upd_ne n1y.symm] at hy
    exact hy
  exact q y dy fs H5 (Fr.of all) (row.keep all) hyH hy5
end RH
namespace RH
open PySem L2
theorem okS_a1 : OkS ("a" : Str) := ⟨by decide +kernel, by decide +kernel⟩
theorem nest1 {K : PySem.W.Frag} {CC : Addr → Prop} {H : Hp} {v : V} {d : D} (R : Rep K CC H v d) {j : Nat} {x : V} {e : D} (hx : [v][j]? = some x) (he : [d][j]? = some e) : Rep K CC H x e := by
  cases j with
  | zero =>
    cases hx
    cases he
    exact R
  | succ j => cases hx
end RH
namespace RH
open PySem PySem.Spec PyProof.Rows L2 SrtO
section
variable {P : Program} {w : World} {A : Around} {E : Value → Shared → Prop} {s : Shared}
/-- a set as set.__new__ leaves it -/
def set0 (w : World) : Obj :=
  { cls := .type "set"
    dict := none
    data := .set #[] 0 (.fresh 0 0 (!w.params.followText "set-order")) }
/-- sorted(a), a set of ints of any size below the bound -/
theorem srt_setR {a : Addr} {S : Int → Bool} {n : Nat} {Q : Value → Shared → Prop} (R : SetR w s.heap a S n) (hh : A.handled = none)
    (hQ : ∀ s' p (out : Array Value) (c : Nat) (ns : List Int), (∀ b o, s.heap.get? b = some o → s'.heap.get? b = some o) → s'.gens = s.gens → s'.os = s.os →
      s.heap.objs.size ≤ p → s'.heap.get? p = some (seqObj "list" out c) → IntsAre out.toList ns → ns.Pairwise (· < ·) → (∀ k, k ∈ ns ↔ S k = true) → ns.length = n →
      Q (.ref p) s') : wpAny (model P w) A (call (.builtin "sorted") [.ref a]) Q E s := by
  obtain ⟨o, es, ep, t, ho, ex, hd, good, nod, mem, small, fit, num, rise, led⟩ := R
  have lim : n ≤ sizeLine := by
    rw [← num, sizeLine_eq]
    unfold scanBound at small
    omega
  refine Calls.call_function_entry kind_sorted plain_sorted entry_sorted (args_sorted1 _) ?_
  unfold Builtin.«sorted»
  refine wpAny_bind (m := checkCount "sorted" 1 1 _) (wpAny_pure ?_)
  refine wpAny_bind (collect_set (A := A.in1) hh ⟨o, ho, ex.1, hd⟩ fit small rise led fun s1 vs keep1 grow1 gen1 os1 perm1 => ?_)
  have lv : vs.length = n := by
    rw [perm1.length_eq, List.length_map, Array.length_toList]
    exact num
  have isI : IntsAre vs (vs.map iv) := ints_iv fun v hv => by
    obtain ⟨e, he, q⟩ := List.mem_map.mp (perm1.mem_iff.mp hv)
    obtain ⟨k, tk, e1, _⟩ := good e he
    rw [← q, e1]
    exact ⟨k, tk, rfl⟩
  have keys : es.toList.map (fun e => iv e.2) = es.toList.map keyOf := List.map_congr_left fun e he => by
    obtain ⟨k, tk, e1, _⟩ := good e he
    unfold keyOf
    rw [e1]
    rfl
  have perm2 : (vs.map iv).Perm (es.toList.map keyOf) := by
    have q := perm1.map iv
    rw [List.map_map] at q
    rw [← keys]
    exact q
  refine wpAny_bind (wpAny_newList ?_ (by rw [lv]; exact lim))
  have new1 : (s1.heap.push (seqObj "list" vs.toArray 0)).get? s1.heap.objs.size = some (seqObj "list" vs.toArray 0) := Heap.get?_push_size _ rfl
  refine wpAny_bind (wpAny_holding (wpAny_call_entry slot_list_sort ⟨_, new1, rfl⟩ entry_list_sort (list_sort_ord swo_int new1 (by rw [lv]; exact lim) (fun two => ints_sortable isI two) fun out so sb => ⟨_, rfl, ?_⟩) (args_list_sort _)))
  obtain ⟨i1, i2, i3⟩ := ints_out isI so sb
  obtain ⟨c, at1⟩ := sortedHeap_at (vs := vs) (out := out.toArray) new1
  have perm3 : (out.map iv).Perm (es.toList.map keyOf) := i2.trans perm2
  refine wpAny_pure ⟨_, rfl, hQ _ s1.heap.objs.size out.toArray c (out.map iv) (fun b u e => ?_) gen1 os1 grow1 at1 i1 (lt_of_le_nodup _ i3 (perm3.nodup_iff.mpr nod)) (fun k => by rw [perm3.mem_iff, mem k]) ?_⟩
  · have q := keep1 b u e
    have below := Heap.lt_size q
    show (sortedHeap (s1.heap.push (seqObj "list" vs.toArray 0)) s1.heap.objs.size vs out.toArray).get? b = some u
    rw [sortedHeap_old (Nat.ne_of_lt below) (by rw [size_push']; exact Nat.lt_succ_of_lt below)]
    exact Heap.get?_push_of_some _ q
  · rw [perm3.length_eq, List.length_map, Array.length_toList]
    exact num
/-- the promise of a call that ends by giving none, the set s0 filled -/
def Filled (w : World) (s : Shared) (ns : List Int) (v : Value) (s2 : Shared) : Prop :=
  v = .none ∧ ∃ h' tk c, s2 = { s with heap := h', toks := tk } ∧ SetR w h' s.heap.objs.size (fun j => decide (j ∈ ns)) c ∧ c ≤ ns.length ∧ ∀ b o, s.heap.get? b = some o → h'.get? b = some o
theorem push_at (h : Heap) (o : Obj) (f : o.isFreed = false) : (h.push o).get? h.objs.size = some o := Heap.get?_push_size _ f
/-- set(l) of a list of ints, with the table's form -/
theorem set_lstI {l : Addr} {items : Array Value} (ns : List Int) {Q : Value → Shared → Prop} (hh : A.handled = none) (hl : s.heap.IsList l items) (hi : IntsAre items.toList ns) (hb : ns.length + 1 < scanBound)
    (h : ∀ (h' : Heap) (tk c : Nat), SetR w h' s.heap.objs.size (fun j => decide (j ∈ ns)) c → c ≤ ns.length → (∀ b o, s.heap.get? b = some o → h'.get? b = some o) →
      Q (.ref s.heap.objs.size) { s with heap := h', toks := tk }) : wpAny (model P w) A (call (.type "set") [.ref l]) Q E s := by
  have size : items.size = ns.length := by
    have q := IntsAre.length hi
    rwa [Array.length_toList] at q
  obtain ⟨c, tl, mro⟩ := F.called_set.mro
  have made := F.called_set.made
  have isub := F.called_set.sub
  refine wpAny_call (codeAny_of_tree ?_)
  show wpAny _ _ (callAny (.type "set") ⟨[.ref l], []⟩) _ _ s
  refine wpAny_pure ⟨Code.quiet_builtin _ (by decide +kernel), codeAny_builtin F.entry_type_call ?_⟩
  rw [Around.under_plain (weight_type_call_type "set" [.ref l] []) rfl]
  have f1 := F.called_set.notType
  have f2 := F.called_set.canCreate
  have f3 := F.typeCall_set_1 (.ref l)
  repeat (any_goals (first | assumption | wp_step))

  refine codeAny_mono (code_set_led1 (.ref l) (E := E) (Q₁ := fun x t => x = .ref s.heap.objs.size ∧ t = { s with heap := s.heap.push (set0 w) }) ⟨rfl, rfl⟩) fun r t ht => ?_
  cases r with
  | error e => exact ht
  | ok fl =>
    cases fl with
    | ret obj =>
      obtain ⟨rfl, rfl⟩ := ht
      have at0 : (s.heap.push (set0 w)).get? s.heap.objs.size = some (set0 w) := push_at _ _ rfl
      have ty0 : Shared.TypeIs { s with heap := s.heap.push (set0 w) } (.ref s.heap.objs.size) "set" := ⟨_, at0, rfl⟩
      have i1 := F.called_set.init.lookup
      have i2 := F.called_set.init.bind (.ref s.heap.objs.size)
      repeat (any_goals (first | assumption | wp_step))

      refine codeAny_mono (codeAny_call_builtin (R := wants (Filled w s ns) E) F.called_set.init.plain F.entry_set_init (check_set_init_1 ty0 ?_)) fun r2 s2 h2 => ?_
      · obtain ⟨⟨oc, od, oda, osl⟩, ho, hc, nl, hd⟩ := hl
        simp only at hc hd
        subst hc; subst hd
        have atl : (s.heap.push (set0 w)).get? l = some ⟨.type "list", od, .seq items nl, osl⟩ := Heap.get?_push_of_some _ ho
        have g1 := F.sub_list_set
        have g2 := F.sub_list_frozenset
        have g3 : (Value.type "list" == Value.type "dict") = false := by decide
        have isl : (s.heap.push (set0 w)).IsList l items := ⟨_, atl, rfl, nl, rfl⟩
        unfold Builtin.«set.__init__» noKeywords Builtin.Frozenset.updateFrom
        generalize ePI : pyIter = PI
        wp_walk
        subst ePI
        refine wpAny_pyIter_list isl ?_
        refine wpAny_bind (wpAny_runValue ?_)
        have below : l < s.heap.objs.size := Heap.lt_size ho
        have calm3 : A.in1.in1.in1.handled = none := by simp [hh]
        have sz1 : (s.heap.push (set0 w)).objs.size = s.heap.objs.size + 1 := Heap.size_push ..
        have neI : l ≠ (s.heap.push (set0 w)).objs.size := Nat.ne_of_lt (by rw [sz1]; exact Nat.lt_succ_of_lt below)
        have notin : s.heap.objs.size ∉ [(s.heap.push (set0 w)).objs.size, l] := by
          rw [sz1]
          intro m
          rcases List.mem_cons.mp m with e | m
          · exact Nat.ne_of_lt (Nat.lt_succ_self _) e
          · exact Nat.ne_of_gt below (List.mem_singleton.mp m)
        have each : ∀ (i : Nat) (v : Value), items[i]? = some v → ∃ k t, ns[i]? = some k ∧ v = .int k t := fun i v hv => by
          obtain ⟨lt1, _⟩ := Array.getElem?_eq_some_iff.mp hv
          have lt2 : i < ns.length := by omega
          obtain ⟨t, e⟩ := PyProof.Rows.IntsAre.int_at hi i v (by rw [Array.getElem?_toList]; exact hv)
          refine ⟨ns[i], t, List.getElem?_eq_getElem lt2, ?_⟩
          rw [e, List.getD_eq_getElem?_getD, List.getElem?_eq_getElem lt2]
          rfl
        refine set_update_ints ((Walks.list calm3 _ l neI items).toS) s.heap.objs.size notin ns size hb each (items.size - 0) 0 _ (by omega) (Nat.zero_le _) ⟨⟨_, push_at _ _ rfl, rfl, rfl⟩, isl.push _⟩
          ⟨0, Nat.le_refl 0, setR_new_at (Heap.get?_push_of_some _ at0)⟩ fun s' c' moved le set => ?_
        obtain ⟨h', g', d', tk', os'⟩ := s'
        obtain rfl : g' = s.gens := moved.gens
        obtain rfl : d' = s.drawn := moved.drawn
        obtain rfl : os' = s.os := moved.os
        show wpAny _ _ _ _ _ _
        refine wpAny_pure ?_
        show wpAny _ _ (ret Value.none) _ _ _
        refine wpAny_pure ⟨rfl, h', tk', c', rfl, set, by omega, fun b o e => ?_⟩
        have b0 : b < s.heap.objs.size := Heap.lt_size e
        refine moved.heap b o ?_ (Heap.get?_push_of_some _ (Heap.get?_push_of_some _ e))
        rw [sz1]
        intro m
        rcases List.mem_cons.mp m with e | m
        · exact Nat.ne_of_lt b0 e
        · exact Nat.ne_of_lt (Nat.lt_succ_of_lt b0) (List.mem_singleton.mp m)
      · cases r2 with
        | error e => exact h2
        | ok f2 =>
          cases f2 with
          | ret r =>
            obtain ⟨rfl, h', tk, c', rfl, set, le, keep⟩ := h2
            repeat (any_goals (first | assumption | wp_step))
            exact h _ _ _ set le keep
          | _ => exact h2.elim
    | _ => exact ht.elim
end
section
variable {X : Cx}
/-- set(xs) of a list or tuple of ints -/
def rSetI (K : PySem.W.Frag) (w : World) : List V → Hp → VK → Prop := fun vs H Q => ∃ (p : Addr) (ns : List Int), vs = [V.ref p] ∧ (SqL K H p (ns.map V.int) ∨ SqT K H p (ns.map V.int)) ∧ ns.length ≤ 1000 ∧
  ∀ q c, c ≤ ns.length → H q = none → Q (.ref q) (upd H q (SetO w q (fun j => decide (j ∈ ns)) c))
theorem call_setI (hc : X.calm = true) : CallR X (.type "set") (rSetI X.K X.w) := by
  intro pins s σ H vs us Q I r h
  obtain ⟨p, ns, rfl, sq, le, q⟩ := h
  rw [Vals.ref1 r]
  have hd := I.ok.hd hc
  have free : H s.heap.objs.size = none := I.hok.fresh (Nat.le_refl _)
  have small : ns.length + 1 < scanBound := by
    unfold scanBound
    omega
  have fin : ∀ (h' : Heap) (tk c : Nat), SetR X.w h' s.heap.objs.size (fun j => decide (j ∈ ns)) c → c ≤ ns.length → (∀ b o, s.heap.get? b = some o → h'.get? b = some o) →
      EP X pins σ Q (.ref s.heap.objs.size) { s with heap := h', toks := tk } := fun h' tk c R lc k =>
    ⟨.ref s.heap.objs.size, upd H s.heap.objs.size (SetO X.w s.heap.objs.size (fun j => decide (j ∈ ns)) c), I.laid (t' := tk) k (Nat.le_refl _) (setO_new R), rfl, q _ c lc free⟩
  rcases sq with sq | sq
  · obtain ⟨its, rv, pl, _⟩ := I.list sq
    exact set_lstI ns hd pl.isList (ints_of_vals rv) small fin
  · obtain ⟨its, rv, pt, _⟩ := I.tuple sq
    exact call_set_tupI ns hd (show s.heap.IsTuple p its.toArray from pt) (ints_of_vals rv) small fin
/-- sorted(a) of a set of ints -/
def rSortSI (w : World) : List V → Hp → VK → Prop := fun vs H Q => ∃ (a : Addr) (S : Int → Bool) (n : Nat), vs = [V.ref a] ∧ H a = some (SetO w a S n) ∧ n ≤ 1000 ∧
  ∀ (ns : List Int) (p : Addr), ns.Pairwise (· < ·) → (∀ k, k ∈ ns ↔ S k = true) → ns.length ≤ 1000 → H p = none → Q (.ref p) (upd H p (.lst (ns.map V.int)))
theorem call_sortSI (hc : X.calm = true) : CallR X (.builtin "sorted") (rSortSI X.w) := by
  intro pins s σ H vs us Q I r h
  obtain ⟨a, S, n, rfl, ha, le, q⟩ := h
  rw [Vals.ref1 r]
  refine srt_setR (setO_get I ha) (I.ok.hd hc) fun s' p out c ns keep gen os hp at1 isI sorted mem len => ?_
  have lim : (ns.map V.int).length ≤ sizeLine := by
    rw [List.length_map]
    exact sz1000 (by omega)
  have free : H p = none := I.hok.fresh hp
  have J : Inv X pins σ (upd H p (.lst (ns.map V.int))) { s with heap := s'.heap, gens := s'.gens, drawn := s'.drawn, toks := s'.toks } :=
    I.call (ch := []) (Un.laid keep hp free) (I.hok.laid keep hp ⟨lim, out.toList, c, vals_of_ints isI, at1⟩) (by rw [gen]; exact I.bare) (fun _ z => nomatch z)
  obtain ⟨h', g', d', t', os'⟩ := s'
  obtain rfl : os' = s.os := os
  exact ⟨.ref p, _, J, rfl, q ns p sorted mem (by omega) free⟩
end
end RH
namespace RH
open PySem L2
/-! ### the numbers of one client: (upto, later) -/
/-- the form that only one pair has for a set of numbers -/
structure NF (u : Int) (l : List Int) : Prop where
  nn : 0 ≤ u
  asc : l.Pairwise (· < ·)
  gap : ∀ k ∈ l, u + 1 < k
def InP (u : Int) (l : List Int) (k : Int) : Prop := k ≤ u ∨ k ∈ l
def pkS (s : Int × List Int) (n : Int) : Int × List Int := if n = s.1 + 1 then (n, s.2) else if s.1 < n then (s.1, s.2 ++ [n]) else s
def pk (u : Int) (ns : List Int) : Int × List Int := ns.foldl pkS (u, [])
theorem pk_go : ∀ (ns : List Int) (s : Int × List Int), NF s.1 s.2 → ns.Pairwise (· < ·) → (∀ a ∈ s.2, ∀ b ∈ ns, a < b) →
    NF (ns.foldl pkS s).1 (ns.foldl pkS s).2 ∧ ∀ k, InP (ns.foldl pkS s).1 (ns.foldl pkS s).2 k ↔ InP s.1 s.2 k ∨ k ∈ ns
  | [], s, h, _, _ => ⟨h, fun k => by simp⟩
  | n :: ns, s, h, hp, hb => by
    obtain ⟨hn, hp2⟩ := List.pairwise_cons.mp hp
    have step : NF (pkS s n).1 (pkS s n).2 ∧ (∀ a ∈ (pkS s n).2, ∀ b ∈ ns, a < b) ∧ ∀ k, InP (pkS s n).1 (pkS s n).2 k ↔ InP s.1 s.2 k ∨ k = n := by
      obtain ⟨u, l⟩ := s
      have hl : ∀ a ∈ l, a < n := fun a ha => hb a ha n List.mem_cons_self
      have hlb : ∀ a ∈ l, ∀ b ∈ ns, a < b := fun a ha b hb2 => hb a ha b (List.mem_cons_of_mem _ hb2)
      have nn := h.nn
      unfold pkS InP
      dsimp only
      by_cases e : n = u + 1
      · rw [if_pos e]
        have hno : ∀ a, a ∉ l := fun a ha => by
          have h1 := h.gap a ha
          have h2 := hl a ha
          dsimp only at h1
          omega
        refine ⟨⟨by dsimp only at nn ⊢; omega, h.asc, fun k hk => absurd hk (hno k)⟩, hlb, fun k => ?_⟩
        dsimp only
        constructor
        · rintro (z | z)
          · by_cases q : k = n
            · exact .inr q
            · exact .inl (.inl (by omega))
          · exact .inl (.inr z)
        · rintro ((z | z) | z)
          · exact .inl (by omega)
          · exact .inr z
          · exact .inl (by omega)
      · rw [if_neg e]
        by_cases g : u < n
        · rw [if_pos g]
          refine ⟨⟨nn, List.pairwise_append.mpr ⟨h.asc, List.pairwise_singleton .., fun a ha b hb2 => by rw [List.mem_singleton.mp hb2]; exact hl a ha⟩, fun k hk => ?_⟩, fun a ha b hb2 => ?_, fun k => ?_⟩
          · rcases List.mem_append.mp hk with z | z
            · exact h.gap k z
            · rw [List.mem_singleton.mp z]
              dsimp only
              omega
          · rcases List.mem_append.mp ha with z | z
            · exact hlb a z b hb2
            · rw [List.mem_singleton.mp z]
              exact hn b hb2
          · dsimp only
            rw [List.mem_append, List.mem_singleton]
            exact or_assoc.symm
        · rw [if_neg g]
          refine ⟨h, hlb, fun k => ⟨.inl, ?_⟩⟩
          rintro (z | z)
          · exact z
          · exact .inl (by dsimp only; omega)
    obtain ⟨a, b, c⟩ := step
    obtain ⟨x, y⟩ := pk_go ns (pkS s n) a hp2 b
    refine ⟨x, fun k => ?_⟩
    rw [List.foldl_cons, y k, c k, List.mem_cons, or_assoc]
theorem pk_nf {u : Int} {ns : List Int} (h : 0 ≤ u) (hp : ns.Pairwise (· < ·)) : NF (pk u ns).1 (pk u ns).2 :=
  (pk_go ns (u, []) ⟨h, .nil, fun _ m => nomatch m⟩ hp (fun _ m => nomatch m)).1
theorem pk_in {u : Int} {ns : List Int} (h : 0 ≤ u) (hp : ns.Pairwise (· < ·)) (k : Int) : InP (pk u ns).1 (pk u ns).2 k ↔ k ≤ u ∨ k ∈ ns := by
  rw [show pk u ns = ns.foldl pkS (u, []) from rfl, (pk_go ns (u, []) ⟨h, .nil, fun _ m => nomatch m⟩ hp (fun _ m => nomatch m)).2 k]
  simp [InP]
/-- lists that ascend and have the same members are one -/
theorem asc_one : ∀ {a b : List Int}, a.Pairwise (· < ·) → b.Pairwise (· < ·) → (∀ k, k ∈ a ↔ k ∈ b) → a = b
  | [], [], _, _, _ => rfl
  | [], y :: b, _, _, h => absurd ((h y).mpr List.mem_cons_self) (fun z => nomatch z)
  | x :: a, [], _, _, h => absurd ((h x).mp List.mem_cons_self) (fun z => nomatch z)
  | x :: a, y :: b, ha, hb, h => by
    obtain ⟨h1, h2⟩ := List.pairwise_cons.mp ha
    obtain ⟨k1, k2⟩ := List.pairwise_cons.mp hb
    have e : x = y := by
      rcases List.mem_cons.mp ((h x).mp List.mem_cons_self) with z | z
      · exact z
      · rcases List.mem_cons.mp ((h y).mpr List.mem_cons_self) with w | w
        · exact w.symm
        · have := k1 x z
          have := h1 y w
          omega
    subst e
    rw [asc_one h2 k2 fun k => ?_]
    have q := h k
    rw [List.mem_cons, List.mem_cons] at q
    constructor
    · intro m
      rcases q.mp (.inr m) with z | z
      · have := h1 k m
        omega
      · exact z
    · intro m
      rcases q.mpr (.inr m) with z | z
      · have := k1 k m
        omega
      · exact z
/-- the same numbers from 1 on: the same pair -/
theorem nf_one {u v : Int} {l m : List Int} (a : NF u l) (b : NF v m) (h : ∀ k, 1 ≤ k → (InP u l k ↔ InP v m k)) : u = v ∧ l = m := by
  have up : ∀ {u v : Int} {l m : List Int}, NF u l → NF v m → (∀ k, 1 ≤ k → (InP u l k ↔ InP v m k)) → v ≤ u := fun {u v l m} a b h => by
    refine Int.not_lt.mp fun g => ?_
    rcases (h (u + 1) (by have := a.nn; omega)).mpr (.inl (by omega)) with z | z
    · omega
    · have := a.gap _ z
      omega
  have e : u = v := Int.le_antisymm (up b a fun k hk => (h k hk).symm) (up a b h)
  subst e
  refine ⟨rfl, asc_one a.asc b.asc fun k => ?_⟩
  constructor
  · intro z
    have g := a.gap k z
    rcases (h k (by have := a.nn; omega)).mp (.inr z) with w | w
    · omega
    · exact w
  · intro z
    have g := b.gap k z
    rcases (h k (by have := a.nn; omega)).mpr (.inr z) with w | w
    · omega
    · exact w
theorem pk_len : ∀ (ns : List Int) (s : Int × List Int), (ns.foldl pkS s).2.length ≤ s.2.length + ns.length
  | [], s => Nat.le_refl _
  | n :: ns, s => by
    have h := pk_len ns (pkS s n)
    have h2 : (pkS s n).2.length ≤ s.2.length + 1 := by
      unfold pkS
      split
      · exact Nat.le_succ _
      · split
        · simp
        · exact Nat.le_succ _
    rw [List.foldl_cons, List.length_cons]
    omega
end RH
namespace RH
open PySem L2
section
variable {K : PySem.W.Frag} {H H' : Hp} {σ : St} {Q : St → Hp → Prop}
theorem r_gtup {n : Nat} {t : TGs} {a : Addr} {xs : List V} (h : SqT K H a xs) (hl : xs.length = n) (q : t xs σ H Q) : gTup K n t (.ref a) σ H Q := ⟨a, xs, rfl, h, hl, q⟩
theorem r_gcons {t : TG} {u : TGs} {v : V} {vr : List V} (q : t v σ H fun σ1 H1 => u vr σ1 H1 Q) : gCons t u (v :: vr) σ H Q := ⟨v, vr, rfl, q⟩
theorem r_gnil (q : Q σ H) : gNil [] σ H Q := ⟨rfl, q⟩
/-- a client's pair (upto, later) -/
def RowAt (K : PySem.W.Frag) (H : Hp) (v : V) (u : Int) (l : List Int) : Prop := ∃ a b, v = .ref a ∧ SqT K H a [.int u, .ref b] ∧ SqT K H b (l.map V.int)
theorem RowAt.mono {v : V} {u : Int} {l : List Int} (h : RowAt K H v u l) (s : Same H H') : RowAt K H' v u l := by
  obtain ⟨a, b, rfl, h1, h2⟩ := h
  exact ⟨a, b, rfl, same_t s h1, same_t s h2⟩
end
/-- numbers of two pairs together -/
def InB (u v : Int) (l m : List Int) (k : Int) : Prop := InP u l k ∨ InP v m k
/-- the pair of a union: the only one of its numbers -/
theorem join_in {u v : Int} {l m so : List Int} (hu : 0 ≤ u) (hp : so.Pairwise (· < ·)) (hs : ∀ k, k ∈ so ↔ k ∈ l ++ m) (k : Int) : InP (pk (max u v) so).1 (pk (max u v) so).2 k ↔ InB u v l m k := by
  rw [pk_in (by omega) hp, hs k, List.mem_append]
  unfold InB InP
  constructor
  · rintro (z | z | z)
    · rcases Int.le_total u v with g | g
      · exact .inr (.inl (by omega))
      · exact .inl (.inl (by omega))
    · exact .inl (.inr z)
    · exact .inr (.inr z)
  · rintro ((z | z) | (z | z))
    · exact .inl (by omega)
    · exact .inr (.inl z)
    · exact .inl (by omega)
    · exact .inr (.inr z)
/-- _joined(row, other) -/
def spJoined (K : PySem.W.Frag) : Sp := fun vs H Q _ => ∃ (x y : V) (u v : Int) (l m : List Int), vs = [x, y] ∧ RowAt K H x u l ∧ RowAt K H y v m ∧ l.length + m.length ≤ 1000 ∧
  ∀ (so : List Int) q w H', so.Pairwise (· < ·) → (∀ k, k ∈ so ↔ k ∈ l ++ m) → Same H H' → H q = none → H' q = some (.tup [.int (pk (max u v) so).1, .ref w]) → H w = none → H' w = some (.tup ((pk (max u v) so).2.map V.int)) → Q (.ref q) H'
end RH
namespace RH
open PySem L2
/-! ### dict comprehensions over any walk -/
def DcGo (J : It) (g : TG) (tt : TT) (tk tv : TE) (vs : List Nat) (σ : St) (D : Addr) (Qd : Hp → Prop) (H1 : Hp) : Prop :=
  ∃ W : Nat → Nat → Hp → Prop, (∃ m, W 0 m (upd H1 D (.dK []))) ∧ ∀ i m H, W i m H →
    (J.stop i H ∧ Qd H) ∨ (J.go i H ∧ ∃ Nx : Hp → Prop, (∀ H', Nx H' → ∃ m', m' < m ∧ W (i + 1) m' H') ∧ ∀ x H', J.yld i H x H' → g x (wipe σ vs) H' fun σ2 H2 => wipe σ2 vs = wipe σ vs ∧ tt σ2 H2 fun b H3 =>
      if b = true then tk σ2 H3 fun y H4 => tv σ2 H4 fun z H5 => ∃ kvs k, y = kV k ∧ H5 D = some (.dK kvs) ∧ kvs.length < sizeLine ∧ Nx (upd H5 D (.dK (putK kvs k z))) else Nx H3)
theorem r_dc {wi : TI} {g : TG} {tt : TT} {tk tv : TE} {vs : List Nat} {σ : St} {H : Hp} {Q : VK} (h : wi σ H fun J H1 => ∀ D, H1 D = none → DcGo J g tt tk tv vs σ D (Q (.ref D)) H1) : tDc wi g tt tk tv vs σ H Q := h
theorem dc_it {J : It} {n : Nat} {G : Hp → Prop} {Y : Nat → Hp → V → Hp → Prop} (w : Walk J n G Y) {g : TG} {tt : TT} {tk tv : TE} {vs : List Nat} {σ : St} {H1 : Hp} {D : Addr} {Qd : Hp → Prop} (Pv : Nat → Hp → Prop) (h0 : Pv 0 (upd H1 D (.dK []))) (hG : ∀ i H, i ≤ n → Pv i H → G H)
    (hs : ∀ i x H H', i < n → Pv i H → Y i H x H' → g x (wipe σ vs) H' fun σ2 H2 => wipe σ2 vs = wipe σ vs ∧ tt σ2 H2 fun b H3 =>
      if b = true then tk σ2 H3 fun y H4 => tv σ2 H4 fun z H5 => ∃ kvs k, y = kV k ∧ H5 D = some (.dK kvs) ∧ kvs.length < sizeLine ∧ Pv (i + 1) (upd H5 D (.dK (putK kvs k z))) else Pv (i + 1) H3) (hd : ∀ H, Pv n H → Qd H) :
    DcGo J g tt tk tv vs σ D Qd H1 := by
  refine ⟨fun i m H => m = n - i ∧ i ≤ n ∧ Pv i H, ⟨n, by simp, Nat.zero_le _, h0⟩, ?_⟩
  rintro i m H ⟨rfl, hi, p⟩
  have q := hG i H hi p
  by_cases hlt : i < n
  · refine .inr ⟨w.goes i H hlt q, Pv (i + 1), fun H' p' => ⟨n - (i + 1), by omega, rfl, hlt, p'⟩, fun x H' y => hs i x H H' hlt p (w.yields i H x H' hlt q y)⟩
  · have e : i = n := by omega
    subst e
    exact .inl ⟨w.stops H q, hd H p⟩
/-- a block that captures nothing -/
theorem blkOk_nf {N : List Str} {sc scope : Scope} {own : List (Str × Nat)} (h : blkC N { kind := .function, names := [], isGenerator := false, isCoroutine := false } scope own = true) : BlkOk N sc scope own := by
  have b : BlkOk N { kind := .function, names := [], isGenerator := false, isCoroutine := false } scope own := blkOk_by h
  exact ⟨b.kind, b.uniq, b.ix, fun y hy e => (by rcases b.free y hy e with z | z <;> exact (nomatch z)), b.own⟩
section
variable {X : Cx} {K : PySem.W.Frag}
theorem pg_tupB {es : List Expr} {k : Nat} {pos : Pos} {t : TGs} {n : Nat} (hK : X.K = K) (hc : X.calm = true) (h : PGs X es t)
    (hn : (assignEach es X.env).length = n := by rfl) (hst : (assignEach es X.env).findIdx? (·.1) = none := by rfl) : PG X (.Tuple es k pos) (gTup K n t) := by
  subst hK
  exact pg_tup hc h hn hst
theorem pi_listB {tg l : Expr} {tl : TE} (hK : X.K = K) (hl : PE X l tl) : PI X tg l (iList K tl) := by
  subst hK
  exact pi_list hl
end
section
variable {K : PySem.W.Frag} {σ : St} {H : Hp} {Q : VK} {p q : Addr} {xs ys : List V}
theorem r_slice {r : V → Option Int → Option Int → Hp → VK → Prop} {te : TE} {tl th : TO} (h : te σ H fun x H1 => tl σ H1 fun l H2 => th σ H2 fun u H3 => r x l u H3 Q) : tSl r te tl th σ H Q := h
theorem r_part {te : TE} {Q : Option Int → Hp → Prop} (h : te σ H fun x H1 => ∃ i, x = V.int i ∧ Q (some i) H1) : tPart te σ H Q := h
theorem r_nopart {Q : Option Int → Hp → Prop} (h : Q none H) : tNoPart σ H Q := h
theorem r_yes {Q : Bool → Hp → Prop} (h : Q true H) : tYes σ H Q := h
theorem r_slL {lo hi : Option Int} (h : H p = some (.lst xs)) (k : ∀ l, H l = none → Q (.ref l) (upd H l (.lst (cutV xs lo hi)))) : rSlL K (.ref p) lo hi H Q := ⟨p, xs, rfl, SqL.of h, k⟩
theorem r_zip {ta : TA} {R : It → Hp → Prop} (h : ta σ H fun vs H1 => ∃ a b xs ys, vs = [V.ref a, .ref b] ∧ SqL K H1 a xs ∧ SqL K H1 b ys ∧ R (Itz K a b) H1) : iZip K ta σ H R := h
theorem r_list {tl : TE} {R : It → Hp → Prop} (h : tl σ H fun x H1 => ∃ a, x = V.ref a ∧ (∃ xs, SqL K H1 a xs) ∧ R (Itl K a) H1) : iList K tl σ H R := h
theorem r_cat (h1 : H p = some (.lst xs)) (h2 : H q = some (.lst ys)) (hl : xs.length + ys.length ≤ sizeLine) (k : ∀ l, H l = none → Q (.ref l) (upd H l (.lst (xs ++ ys)))) : rCat (.ref p) (.ref q) H Q := ⟨p, q, xs, ys, rfl, rfl, h1, h2, hl, k⟩
theorem cut_mem {lo hi : Option Int} {v : V} (h : v ∈ cutV xs lo hi) : v ∈ xs := by
  unfold cutV at h
  exact List.mem_of_mem_drop (List.mem_of_mem_take h)
end
/-- the two ints of the tuple at v -/
def kAt (H : Hp) : V → Int × Int
  | .ref t => match H t with
    | some (.tup [.int i, .int j]) => (i, j)
    | _ => (0, 0)
  | _ => (0, 0)
theorem kAt_at {H : Hp} {t : Addr} {d : Int × Int} (h : H t = some (.tup [.int d.1, .int d.2])) : kAt H (.ref t) = d := by
  unfold kAt
  dsimp only
  rw [h]
theorem paired_mem {α β : Type} {R : α → β → Prop} {as : List α} {bs : List β} (h : Paired R as bs) : ∀ a ∈ as, ∃ b ∈ bs, R a b := by
  induction h with
  | nil => exact fun _ m => nomatch m
  | cons r _ ih =>
    intro a ha
    rcases List.mem_cons.mp ha with rfl | ha
    · exact ⟨_, List.mem_cons_self, r⟩
    · obtain ⟨b, hb, q⟩ := ih a ha
      exact ⟨b, List.mem_cons_of_mem _ hb, q⟩
/-- a tuple of two ints at v, the same as long as all stays -/
def Tw (H : Hp) (v : V) : Prop := ∃ t i j, v = V.ref t ∧ H t = some (.tup [.int i, .int j])
/-- _rows_of(dots): a new dict, nothing that stood is changed -/
def spRows : Sp := fun vs H Q _ => ∃ (p : Addr) (xs : List V), vs = [.ref p] ∧ H p = some (.lst xs) ∧ (∀ x ∈ xs, Tw H x) ∧ xs.length ≤ 900 ∧
  ∀ D kvs H', Same H H' → H D = none → H' D = some (.dK kvs) → Q (.ref D) H'
/-- the starts: the places i that pass the test -/
theorem starts_of {n : Nat} {b : Nat → Bool} {v : V} (h : v ∈ ((((List.range n).map fun i => (b i, V.int (i : Int))).filter (·.1)).map (·.2))) : ∃ i : Nat, i < n ∧ v = .int i := by
  obtain ⟨z, hz, rfl⟩ := List.mem_map.mp h
  obtain ⟨y, hy, rfl⟩ := List.mem_map.mp (List.mem_filter.mp hz).1
  exact ⟨y, List.mem_range.mp hy, rfl⟩
end RH
namespace RH
open PySem PySem.Spec PyProof.Rows L2
theorem pe_c0 {X : Cx} {k j : Nat} {x : Str} {sp : Sp} {dvs : List V} {p pos : Pos} (c : C8.Cal X.prog X.w X.K X.mg X.base k x sp dvs) (hr : Room j X.A) (hk : k ≤ j) (hg : Gl X x)
    (hdb : (x == ("__debug__" : Str)) = false := by decide) : PE X (.Call (.Name x p) [] [] pos) (tCall sp dvs C8.E0 tNil) := by
  obtain ⟨f, fd, ps, ds, F, hm, kp, b, d⟩ := c.ex
  exact pe_call0 F (hr.mono hk) hg hm kp b d pass0 hdb
/-! ### n * text -/
section
variable {prog : Program} {w : World} {A : Around} {E : Value → Shared → Prop} {s : Shared} {x : Str} {t u : Tok} {Q : Value → Shared → Prop}
theorem mul_is {n : Int} (hok : MulOk x n) (h : ∀ t' k, Q (.str (Txt.mul x n) t') { s with toks := k }) : wpAny (model prog w) A (binaryOp .Mult (.int n u) (.str x t)) Q E s := by
  refine lm_binaryOp_repeat_right (T := "str") (U := "int") (id := "str.__mul__") (idl := "int.__mul__") (by decide) (fun s' => typeIs_int s' n u) (typeIs_str s x t) F.fills_int_mul noFill_str_mul F.slot_int_mul lm_noRepeat_int repeat_str F.slot_int_index.lookup
    (call_gives F.slot_int_mul (typeIs_int s n u) F.entry_int_mul (F.args_int_mul_2 _ _) (AutoIntG3.int___mul___int_str_0 n u x t)
      ⟨rfl, typeIs_str s x t, call_gives F.slot_str_mul (typeIs_str s x t) F.entry_str_mul (F.args_str_mul_2 _ _) (gives_str_mul x n t u hok.1 hok.2.1 hok.2.2) ?_⟩)
  unfold Txt.mul at h
  by_cases h1 : n < 1
  · rw [if_pos h1]; have h' := h s.toks (s.toks + 1); rw [if_pos h1] at h'; exact ⟨by decide, h'⟩
  · rw [if_neg h1]; refine post_val_or_made (fun hc => fits_reps (hok.2.2 h1 (by simpa using hc))) fun t' k => ?_
    have h' := h t' k; rw [if_neg h1] at h'; exact h'
end
def rMulIS : R2 := fun x y H Q => ∃ (n : Int) (z : Str), x = .int n ∧ y = .str z ∧ MulOk z n ∧ Q (.str (Txt.mul z n)) H
theorem op_mulIS {X : Cx} : OpR X (binaryOp .Mult) rMulIS := by
  intro pins s σ H x y v u Q I rx ry h
  obtain ⟨n, z, rfl, rfl, ok, q⟩ := h
  obtain ⟨t, rfl⟩ := rx
  obtain ⟨t', rfl⟩ := ry
  exact mul_is ok fun t' tk => ⟨.str _, H, I.tok _, ⟨_, rfl⟩, q⟩
/-! ### pieces of texts -/
theorem cutS_tl (z : Str) (lo hi : Option Int) : (cutS z lo hi).cps.toList = ((z.cps.toList.drop (HT.sIx z.length 0 lo)).take (HT.sIx z.length z.length hi - HT.sIx z.length 0 lo)) := rfl
theorem cutS_len (z : Str) (lo hi : Option Int) : (cutS z lo hi).length ≤ z.length := by
  show (cutS z lo hi).cps.size ≤ z.cps.size
  rw [← Array.length_toList, cutS_tl, List.length_take, List.length_drop, Array.length_toList]
  omega
theorem cutS_ok {z : Str} {lo hi : Option Int} (h : OkS z) : OkS (cutS z lo hi) :=
  ⟨Nat.le_trans (cutS_len ..) h.len, fun c hc => by
    rw [cutS_tl] at hc
    exact h.ok c (List.mem_of_mem_drop (List.mem_of_mem_take hc))⟩
theorem cutS_to {z : Str} (n : Nat) : (cutS z none (some (n : Int))).length = min n z.length := by
  show (cutS z none (some (n : Int))).cps.size = _
  rw [← Array.length_toList, cutS_tl, List.length_take, List.length_drop, Array.length_toList, HT.sIx_none, HT.sIx_nat]
  show min (min n z.length - 0) (z.length - 0) = _
  omega
theorem app_len (x y : Str) : (x ++ y).length = x.length + y.length := Array.size_append
theorem app_ok {x y : Str} (hx : OkS x) (hy : OkS y) (h : x.length + y.length ≤ 1000) : OkS (x ++ y) := by
  refine ⟨by rw [app_len]; exact h, fun c hc => ?_⟩
  have e : (x ++ y).cps.toList = x.cps.toList ++ y.cps.toList := Array.toList_append
  rw [e] at hc
  rcases List.mem_append.mp hc with z | z
  · exact hx.ok c z
  · exact hy.ok c z
theorem sg_ok {c : Nat} (h : okc c = true) : OkS ⟨#[c]⟩ := ⟨by show 1 ≤ 1000; decide, fun d hd => by
  have e : d = c := by simpa using hd
  rw [e]
  exact h⟩
theorem r_sliceS {te : TE} {tl th : TO} {σ : L2.St} {H : Hp} {Q : VK} (h : te σ H fun x H1 => tl σ H1 fun l H2 => th σ H2 fun u H3 => rSlS x l u H3 Q) : tSl rSlS te tl th σ H Q := h
theorem r_slS {z : Str} {lo hi : Option Int} {H : Hp} {Q : VK} (hz : OkS z) (q : Q (.str (cutS z lo hi)) H) : rSlS (.str z) lo hi H Q := ⟨z, rfl, sz1000 hz.len, q⟩
theorem r_ixS {z : Str} {i : Int} {H : Hp} {Q : VK} (hz : OkS z) (h0 : 0 ≤ i) (h1 : i < z.length) (q : ∀ c : Nat, okc c = true → Q (.str ⟨#[c]⟩) H) : rIxS (.str z) (.int i) H Q := by
  obtain ⟨m, rfl⟩ : ∃ m : Nat, i = (m : Int) := ⟨i.toNat, by omega⟩
  have hlt : m < z.cps.toList.length := by rw [Array.length_toList]; show m < z.length; omega
  exact ⟨z, _, z.cps.toList[m], rfl, rfl, sz1000 hz.len, atI_nat (List.getElem?_eq_getElem hlt), q _ (hz.ok _ (List.getElem_mem hlt))⟩
/-! ### what these laws draw by -/
def spCell (K : PySem.W.Frag) : Sp := fun vs H Q _ => ∃ (a : Addr) (ns : List Int) (k : Int), vs = [.ref a, .int k] ∧ SqL K H a (ns.map V.int) ∧ 0 ≤ k ∧ ∀ i : Int, Q (.int i) H
theorem okS_nil : OkS "" := ⟨by decide +kernel, fun c hc => List.all_eq_true.mp (by decide +kernel : (("" : Str).cps.toList.all okc) = true) c hc⟩
def chC : Str := " !\"#$&'()*+,-./0123456789:;<=>?@ABCDEFGHIJKLMNOPQRSTUVWXYZ[\\]^_`" ++ "abcdefghijklmnopqrstuvwxyz{|}~"
theorem chC_ok : OkS chC := ⟨by decide +kernel, fun c hc => List.all_eq_true.mp (by decide +kernel : (chC.cps.toList.all okc) = true) c hc⟩
theorem chC_len : chC.length = 94 := by decide +kernel
def spChars : Sp := fun vs H Q _ => vs = [] ∧ Q (.str chC) H
/-- a word of a number, by letters: not empty if the number is not 0 -/
def spWord : Sp := fun vs H Q _ => ∃ (c : Int) (l : Str) (n : Int), vs = [.int c, .str l, .int n] ∧ OkS l ∧ 0 < l.length ∧ 0 ≤ n ∧ n ≤ 100 ∧ ∀ w : Str, OkS w → w.length ≤ n.toNat → (c ≠ 0 → 0 < n → 0 < w.length) → Q (.str w) H
/-! ### the place of a key -/
def plc (z : Str) : Int := z.cps.toList.foldl (fun (p : Int) (c : Nat) => (p * 31 + c) % 256) 7
def plcW (z : Str) : Int := z.cps.toList.foldl (fun (p : Int) (c : Nat) => p * 31 + c) 7
theorem plc_go : ∀ (l : List Nat) (a b : Int), a = b % 256 → l.foldl (fun (p : Int) (c : Nat) => (p * 31 + c) % 256) a = (l.foldl (fun (p : Int) (c : Nat) => p * 31 + c) b) % 256
  | [], a, b, h => h
  | c :: l, a, b, h => by
    rw [List.foldl_cons, List.foldl_cons]
    exact plc_go l _ _ (by omega)
theorem plc_eq (z : Str) : plc z = plcW z % 256 := plc_go _ _ _ (by decide)
def spPlace : Sp := fun vs H Q _ => ∃ z, vs = [.str z] ∧ OkS z ∧ Q (.int (plc z)) H
def spRight : Sp := fun vs H Q _ => ∃ z, vs = [.str z] ∧ OkS z ∧ Q (.bl true) H
end RH
namespace RH
open PySem PySem.Spec PyProof.Rows L2
section
variable {P : Program} {w : World} {A : Around} {E : Value → Shared → Prop} {s : Shared} {a b : Addr} {o : Obj} {es : Array (Int × Value)} {ep : Nat} {t : SetTable}
theorem setWalk_at {Q : Array (Int × Value) → Shared → Prop} (ho : s.heap.get? a = some o) (hd : o.data = .set es ep t) (hf : t.fits es.size = true) (hl : w.params.followText "set-order" = true ∨ t.led = true)
    (h : ∀ (ys : Array (Int × Value)) d, ys.toList.Perm es.toList → Q ys { s with drawn := d }) : wpAny (model P w) A (setWalk a) Q E s := by
  unfold setWalk
  refine wpAny_bind (wpAny_setState_of ho hd hf ?_)
  dsimp only
  refine wpAny_bind (wpAny_byText ?_)
  cases hbt : w.params.followText "set-order" with
  | true =>
    refine wp_if_pos rfl ?_
    exact wpAny_bind (wpAny_askSetting (wpAny_pure (h _ s.drawn (pick_perm _ es))))
  | false =>
    refine wp_if_neg (by decide) ?_
    by_cases dr : (!t.plain && decide (es.size > 1)) = true
    · refine wp_if_pos dr ?_
      refine wpAny_bind (drawOrder_at es.size es.toList s _ (by rw [Array.length_toList]; exact Nat.le_refl _) fun ys d p => ?_)
      exact wpAny_pure (h ys.toArray d p)
    · refine wp_if_neg dr ?_
      have led : t.led = true := hl.resolve_left (by rw [hbt]; decide)
      refine wpAny_bind ?_
      show wpAny _ _ (if (!t.led && decide (es.size > 1)) = true then unsupported "set:maker-not-led" else pure ()) _ _ _
      refine wp_if_neg (by rw [led]; simp) (wpAny_pure (wpAny_pure ?_))
      exact h es s.drawn (List.Perm.refl _)
/-- a set of ints at a, told by its parts -/
structure SAt (w : World) (h : Heap) (a : Addr) (o : Obj) (es : Array (Int × Value)) (ep : Nat) (t : SetTable) : Prop where
  ho : h.get? a = some o
  hd : o.data = .set es ep t
  good : ∀ e ∈ es.toList, GoodE e
  fit : t.fits es.size = true
  led : w.params.followText "set-order" = true ∨ t.led = true
theorem quiet_at (l : List Addr) {Q : Bool → Shared → Prop} (h : ∀ a ∈ l, ∃ o es ep t, SAt w s.heap a o es ep t) (q : Q true s) : wpAny (model P w) A (setsQuiet l) Q E s := by
  unfold setsQuiet
  refine wpAny_bind (wpAny_forIn_list _ (fun rest b s' => s' = s ∧ b = (none, ()) ∧ ∀ a ∈ rest, ∃ o es ep t, SAt w s.heap a o es ep t) _ ?_ ?_ _ _ ⟨rfl, rfl, h⟩)
  · rintro a rest b s' ⟨rfl, rfl, h⟩
    obtain ⟨o, es, ep, t, x⟩ := h a List.mem_cons_self
    unfold setEntries
    refine wpAny_bind (wpAny_bind (wpAny_setState_of x.ho x.hd x.fit (wpAny_pure ?_)))
    refine wpAny_bind (wpAny_forIn_array' _ (fun left b s2 => s2 = s' ∧ b = (none, ()) ∧ ∀ e ∈ left, GoodE e) _ ?_ ?_ _ _ ⟨rfl, rfl, x.good⟩)
    · rintro ⟨hh, y⟩ left b s2 ⟨rfl, rfl, g⟩
      obtain ⟨k, tk, e, _⟩ := g (hh, y) List.mem_cons_self
      dsimp only at e
      subst e
      exact wpAny_pure ⟨rfl, rfl, fun e he => g e (List.mem_cons_of_mem _ he)⟩
    · rintro b s2 ⟨rfl, rfl, _⟩
      exact wpAny_pure ⟨rfl, rfl, fun c hc => h c (List.mem_cons_of_mem _ hc)⟩
  · rintro b s' ⟨rfl, rfl, _⟩
    exact wpAny_pure q
theorem unseen_at {r : Addr} {others : List Addr} {n : Nat} {S : Int → Bool} {Q : Array (Int × Value) → Shared → Prop} (x : SAt w s.heap a o es ep t) (hx : ∀ b ∈ others, ∃ o es ep t, SAt w s.heap b o es ep t) (R : SetR w s.heap r S n)
    (h : ∀ (ys : Array (Int × Value)) h' d, ys.toList.Perm es.toList → Heap.SameBut r s.heap h' → SetR w h' r S n → Q ys { s with heap := h', drawn := d }) : wpAny (model P w) A (setWalkUnseen a others (some r)) Q E s := by
  unfold setWalkUnseen
  refine wpAny_bind (wpAny_setState_of x.ho x.hd x.fit ?_)
  dsimp only
  refine wpAny_bind (wpAny_byText ?_)
  have wk : wpAny (model P w) A (setWalk a) Q E s := setWalk_at x.ho x.hd x.fit x.led fun ys d p => h ys s.heap d p (Heap.SameBut.refl r s.heap) R
  by_cases c : (w.params.followText "set-order" || (t.led && t.plain) || decide (es.size ≤ 1)) = true
  · refine wp_if_pos c ?_
    exact wk
  · refine wp_if_neg c ?_
    refine wpAny_bind (quiet_at _ (fun b hb => ?_) ?_)
    · rcases List.mem_cons.mp hb with rfl | hb
      · exact ⟨_, _, _, _, x⟩
      · exact hx b hb
    · refine wp_if_neg (by decide) ?_
      refine wpAny_bind (wpAny_rule ?_)
      obtain ⟨o2, es2, ep2, t2, ho2, ex2, hd2, g2, nd2, m2, sm2, f2, num2, ris2, led2⟩ := R
      refine wpAny_bind (wpAny_setState_of ho2 hd2 f2 ?_)
      dsimp only
      by_cases c2 : ((t2.led && !t.led) || (t2.plain && !t.plain)) = true
      · refine wp_if_pos c2 ?_
        have led1 : t.led = true := x.led.resolve_left (fun z => c (by rw [z]; rfl))
        refine wpAny_bind (wpAny_storeSet_of ho2 hd2 ?_ (fits_of_scanBound sm2))
        refine wpAny_pure (h es _ s.drawn (List.Perm.refl _) (Heap.SameBut.update s.heap r _) ?_)
        exact ⟨_, es2, _, _, store_at ho2 hd2, ex2, rfl, g2, nd2, m2, sm2, f2, num2, ris2, led2.imp id fun z => by show (t2.led && t.led) = true; rw [z, led1]; rfl⟩
      · refine wp_if_neg c2 ?_
        exact wpAny_pure (h es s.heap s.drawn (List.Perm.refl _) (Heap.SameBut.refl r s.heap) ⟨o2, es2, ep2, t2, ho2, ex2, hd2, g2, nd2, m2, sm2, f2, num2, ris2, led2⟩)
theorem sat_of {h : Heap} {S : Int → Bool} {n : Nat} (R : SetR w h a S n) : ∃ o es ep t, SAt w h a o es ep t ∧ o.ExactSet ∧ (∀ k, S k = true ↔ k ∈ es.toList.map keyOf) ∧ (es.toList.map keyOf).Nodup ∧ es.size < scanBound ∧ es.size = n := by
  obtain ⟨o, es, ep, t, ho, ex, hd, good, nod, mem, small, fit, num, rise, led⟩ := R
  exact ⟨o, es, ep, t, ⟨ho, hd, good, fit, led⟩, ex, mem, nod, small, num⟩
theorem SAt.keep {h h' : Heap} (x : SAt w h a o es ep t) (k : ∀ o, h.get? a = some o → h'.get? a = some o) : SAt w h' a o es ep t := ⟨k _ x.ho, x.hd, x.good, x.fit, x.led⟩
/-- the walk of an intersection: of the walked set's elements those that the asked one has -/
theorem meet_loop {id : String} {r c : Addr} {T : Int → Bool} {m : Nat} {Q : Unit → Shared → Prop} (hra : r ≠ a) (hrc : r ≠ c)
    (x : SAt w s.heap a o es ep t) (small : es.size + 1 < scanBound) (C : SetR w s.heap c T m) (R : SetR w s.heap r (fun _ => false) 0)
    (h : ∀ h' d k, Heap.SameBut r s.heap h' → SetR w h' r (fun j => decide (j ∈ es.toList.map keyOf) && T j) k → Q () { s with heap := h', drawn := d }) :
    wpAny (model P w) A (do
      for (h, x) in ← setWalkUnseen a [c, r] (some r) do
        holding [x] do
          if (← setFind c x h).isSome then
            let _ ← setAddHashed r x h
        Builtin.Frozenset.unchanged id a ep
      pure ()) Q E s := by
  obtain ⟨o3, es3, ep3, t3, x3, _⟩ := sat_of C
  obtain ⟨o4, es4, ep4, t4, x4, _⟩ := sat_of R
  refine wpAny_bind (unseen_at x (fun b hb => ?_) R fun ys h1 d p sb R1 => ?_)
  · rcases List.mem_cons.mp hb with rfl | hb
    · exact ⟨_, _, _, _, x3⟩
    · rw [List.mem_singleton.mp hb]
      exact ⟨_, _, _, _, x4⟩
  · refine wpAny_bind (wpAny_forIn_array' _ (fun rest _ s' => ∃ h' S k, s' = { s with heap := h', drawn := d } ∧ Heap.SameBut r s.heap h' ∧ SetR w h' r S k ∧ k + rest.length ≤ es.size ∧ (∀ e ∈ rest, GoodE e) ∧
        ∀ j, (S j = true ∨ (j ∈ rest.map keyOf ∧ T j = true)) ↔ (j ∈ es.toList.map keyOf ∧ T j = true)) _ ?_ ?_ _ _ ⟨h1, _, 0, rfl, sb, R1, by rw [p.length_eq, Array.length_toList]; omega, fun e he => x.good e (p.mem_iff.mp he), fun j => by
          rw [(p.map keyOf).mem_iff]
          simp⟩)
    · rintro ⟨hh, y⟩ rest u s' ⟨h2, S, k, rfl, sb2, R2, room, g, mem⟩
      obtain ⟨i, tk, ey, eh⟩ := g (hh, y) List.mem_cons_self
      dsimp only at ey eh
      subst ey eh
      have keyE : keyOf (hashInt i, Value.int i tk) = i := rfl
      rw [List.length_cons] at room
      have g2 : ∀ e ∈ rest, GoodE e := fun e he => g e (List.mem_cons_of_mem _ he)
      obtain ⟨o5, es5, ep5, t5, ho5, ex5, hd5, good5, nod5, mem5, small5, fit5, num5, rise5, led5⟩ := C.at (h' := h2) fun ob e => (sb2.2 c hrc.symm).trans e
      have back : ∀ (h3 : Heap) (S3 : Int → Bool) (k3 : Nat), Heap.SameBut r h2 h3 → SetR w h3 r S3 k3 → k3 ≤ k + 1 → (∀ j, S3 j = (S j || (T j && decide (j = i)))) →
          wpAny (model P w) A (Builtin.Frozenset.unchanged id a ep) (fun _ s₁ => wpAny (model P w) A (pure (ForInStep.yield PUnit.unit)) (fun r_1 s' => match r_1 with
            | .yield b' => ∃ h' S k, s' = { s with heap := h', drawn := d } ∧ Heap.SameBut r s.heap h' ∧ SetR w h' r S k ∧ k + rest.length ≤ es.size ∧ (∀ e ∈ rest, GoodE e) ∧ ∀ j, (S j = true ∨ (j ∈ rest.map keyOf ∧ T j = true)) ↔ (j ∈ es.toList.map keyOf ∧ T j = true)
            | .done b' => wpAny (model P w) A (pure ()) Q E s') E s₁) E { s with heap := h3, drawn := d } := fun h3 S3 k3 sb3 R3 le eq => by
        have x3 := x.keep (h' := h3) fun ob e => (sb3.2 a hra.symm).trans ((sb2.2 a hra.symm).trans e)
        unfold Builtin.Frozenset.unchanged
        refine wpAny_bind (wpAny_setEpoch_of x3.ho x3.hd x3.fit ?_)
        refine wp_if_neg (by simp) (wpAny_pure (wpAny_pure ⟨h3, S3, k3, rfl, sb2.trans sb3, R3, by omega, g2, fun j => ?_⟩))
        rw [← mem j, eq j, List.map_cons, keyE, List.mem_cons, Bool.or_eq_true, Bool.and_eq_true, decide_eq_true_iff]
        constructor
        · rintro ((z | ⟨z1, z2⟩) | ⟨z1, z2⟩)
          · exact .inl z
          · exact .inr ⟨.inl z2, z1⟩
          · exact .inr ⟨.inr z1, z2⟩
        · rintro (z | ⟨z1 | z1, z2⟩)
          · exact .inl (.inl z)
          · exact .inl (.inr ⟨z2, z1⟩)
          · exact .inr ⟨z1, z2⟩
      refine wpAny_bind (wpAny_holding (wpAny_bind (PySem.W.setFind_any (knd := intKind P w) (k := i) (S := T) (intKind_is P w i tk) rfl ho5 hd5 (good_elems good5) (fun k => (mem5 k).trans (good_mem good5 k)) small5 fit5 fun fr hfr => ?_)))
      rw [hfr]
      cases hT : T i with
      | true =>
        refine wp_if_pos rfl ?_
        refine wpAny_bind (setR_add_hashed (k := i) (tk := tk) R2 (by omega) fun h3 sb3 R3 => wpAny_pure ?_)
        refine wpAny_bind (back h3 _ _ sb3 R3 (by split <;> omega) fun j => ?_)
        by_cases z : j = i
        · subst z
          rw [hT, Bool.true_and]
        · rw [decide_eq_false z, Bool.and_false]
      | false =>
        refine wp_if_neg (by decide) (wpAny_pure ?_)
        refine wpAny_bind (back h2 S k (Heap.SameBut.refl r h2) R2 (by omega) fun j => ?_)
        by_cases z : j = i
        · subst z
          rw [hT, Bool.false_and, Bool.or_false]
        · rw [decide_eq_false z, Bool.and_false, Bool.or_false]
    · rintro u s' ⟨h2, S, k, rfl, sb2, R2, _, _, mem⟩
      refine wpAny_pure (h h2 d k sb2 (R2.congr fun j => ?_))
      have q := mem j
      simp only [List.map_nil, List.not_mem_nil, false_and, or_false] at q
      rw [Bool.eq_iff_iff, Bool.and_eq_true, decide_eq_true_iff]
      exact q.symm
theorem entry_set_and : entryFor table "set.__and__" = some Builtin.«frozenset.__and__» := entryFor_alias (id' := "frozenset.__and__") (by kernel_rfl) rfl (by decide +kernel) (by kernel_rfl)
theorem sub_set_set : isSubtype (.type "set") (.type "set") = pure true := by rw [isSubtype_type]; kernel_rfl
theorem setR_ty {S : Int → Bool} {n : Nat} (R : SetR w s.heap a S n) : s.TypeIs (.ref a) "set" := by
  obtain ⟨o, es, ep, t, ho, ex, _⟩ := R
  exact ⟨o, ho, ex.1⟩
theorem anySet_at {S : Int → Bool} {n : Nat} {Q : Bool → Shared → Prop} (R : SetR w s.heap a S n) (q : Q true s) : wpAny (model P w) A (Builtin.Frozenset.isAnySet (.ref a)) Q E s := by
  unfold Builtin.Frozenset.isAnySet
  refine wpAny_bind (wpAny_isInstance (setR_ty R) sub_set_set ?_)
  exact wpAny_pure q
theorem size_at {S : Int → Bool} {n : Nat} {Q : Nat → Shared → Prop} (R : SetR w s.heap a S n) (q : Q n s) : wpAny (model P w) A (Builtin.Frozenset.sizeOf a) Q E s := by
  obtain ⟨o, es, ep, t, ho, ex, hd, good, nod, mem, small, fit, num, rise, led⟩ := R
  unfold Builtin.Frozenset.sizeOf setEntries
  refine wpAny_bind (wpAny_bind (wpAny_setState_of ho hd fit (wpAny_pure (wpAny_pure ?_))))
  rw [num]
  exact q
theorem set_and_body {id : String} {S T : Int → Bool} {n m : Nat} {Q : Value → Shared → Prop} (hne : a ≠ b) (RA : SetR w s.heap a S n) (RB : SetR w s.heap b T m) (sn : n ≤ 1000) (sm : m ≤ 1000)
    (h : ∀ h' d p k, (∀ c ob, s.heap.get? c = some ob → h'.get? c = some ob) → s.heap.objs.size ≤ p → SetR w h' p (fun j => S j && T j) k → Q (.ref p) { s with heap := h', drawn := d }) :
    wpAny (model P w) A (Builtin.Frozenset.intersection id a (.ref b)) Q E s := by
  unfold Builtin.Frozenset.intersection
  have e0 : (Value.ref b == Value.ref a) = false := beq_eq_false_iff_ne.mpr fun z => hne (Value.ref.inj z).symm
  simp only [e0, Bool.false_eq_true, if_false]
  unfold Builtin.Frozenset.baseOf
  refine wpAny_bind (wpAny_bind (wpAny_isInstance (setR_ty RA) sub_set_set (wpAny_pure ?_)))
  rw [if_pos rfl]
  refine wpAny_bind (PySem.wpAny_newSet_raw fun led hl => ?_)
  subst hl
  have R0 := setR_fresh (h := s.heap) w
  have ka : ∀ ob, s.heap.get? a = some ob → (s.heap.push { cls := .type "set", dict := none, data := .set #[] 0 (.fresh 0 0 (!w.params.followText "set-order")) }).get? a = some ob := fun ob e => Heap.get?_push_of_some _ e
  have kb : ∀ ob, s.heap.get? b = some ob → (s.heap.push { cls := .type "set", dict := none, data := .set #[] 0 (.fresh 0 0 (!w.params.followText "set-order")) }).get? b = some ob := fun ob e => Heap.get?_push_of_some _ e
  have kall : ∀ c ob, s.heap.get? c = some ob → (s.heap.push { cls := .type "set", dict := none, data := .set #[] 0 (.fresh 0 0 (!w.params.followText "set-order")) }).get? c = some ob := fun c ob e => Heap.get?_push_of_some _ e
  have RA1 := RA.at ka
  have RB1 := RB.at kb
  have na : s.heap.objs.size ≠ a := Nat.ne_of_gt (SetR.lt RA)
  have nb : s.heap.objs.size ≠ b := Nat.ne_of_gt (SetR.lt RB)
  have old : ∀ h', Heap.SameBut s.heap.objs.size (s.heap.push { cls := .type "set", dict := none, data := .set #[] 0 (.fresh 0 0 (!w.params.followText "set-order")) }) h' → ∀ c ob, s.heap.get? c = some ob → h'.get? c = some ob := fun h' sb c ob e =>
    (sb.2 c (Nat.ne_of_lt (Heap.lt_size e))).trans (kall c ob e)
  generalize s.heap.push { cls := .type "set", dict := none, data := .set #[] 0 (.fresh 0 0 (!w.params.followText "set-order")) } = H1 at R0 ka kb kall RA1 RB1 old
  refine wpAny_bind (wpAny_pure ?_)
  refine wpAny_bind (wpAny_holding (wpAny_bind (anySet_at (s := { s with heap := H1 }) RB1 ?_)))
  rw [if_pos rfl]
  refine wpAny_bind (wpAny_pure ?_)
  refine wpAny_bind (size_at (s := { s with heap := H1 }) RB1 ?_)
  refine wpAny_bind (size_at (s := { s with heap := H1 }) RA1 ?_)
  by_cases c : m > n
  · simp only [if_pos c]
    obtain ⟨o, es, ep, t, x, ex, mem, nod, small, num⟩ := sat_of RA1
    refine wpAny_bind (wpAny_setEpoch_of x.ho x.hd x.fit ?_)
    refine meet_loop (s := { s with heap := H1 }) na nb x (by unfold scanBound; omega) RB1 R0 fun h' d k sb R => wpAny_pure (h h' d _ k (old h' sb) (Nat.le_refl _) (R.congr fun j => ?_))
    rw [Bool.eq_iff_iff, Bool.and_eq_true, Bool.and_eq_true, decide_eq_true_iff, mem j]
  · simp only [if_neg c]
    obtain ⟨o, es, ep, t, x, ex, mem, nod, small, num⟩ := sat_of RB1
    refine wpAny_bind (wpAny_setEpoch_of x.ho x.hd x.fit ?_)
    refine meet_loop (s := { s with heap := H1 }) nb na x (by unfold scanBound; omega) RA1 R0 fun h' d k sb R => wpAny_pure (h h' d _ k (old h' sb) (Nat.le_refl _) (R.congr fun j => ?_))
    rw [Bool.eq_iff_iff, Bool.and_eq_true, Bool.and_eq_true, decide_eq_true_iff, mem j, and_comm]
theorem set_and {S T : Int → Bool} {n m : Nat} {Q : Value → Shared → Prop} (hne : a ≠ b) (RA : SetR w s.heap a S n) (RB : SetR w s.heap b T m) (sn : n ≤ 1000) (sm : m ≤ 1000)
    (h : ∀ h' d p k, (∀ c ob, s.heap.get? c = some ob → h'.get? c = some ob) → s.heap.objs.size ≤ p → SetR w h' p (fun j => S j && T j) k → Q (.ref p) { s with heap := h', drawn := d }) :
    wpAny (model P w) A (binaryOp .BitAnd (.ref a) (.ref b)) Q E s := by
  refine wpAny_binaryOp_same (T := "set") (setR_ty RA) (setR_ty RB) F.fills_set_and F.slot_set_and (wpAny_call_entry F.slot_set_and (setR_ty RA) entry_set_and ?_ (F.args_set_and_2 _ _))
  show wpAny _ _ (Builtin.Frozenset.slot1 "__and__" ⟨[.ref a, .ref b], []⟩ >>= fun z => (do
      let y ← (Builtin.Frozenset.isAnySet z.1 <&&> Builtin.Frozenset.isAnySet z.2)
      if (!y) = true then (do
        rule s!"frozenset.{"__and__"}.declined"
        let v ← ret Value.notImplemented
        pure v)
      else (do
        let u ← Builtin.Frozenset.addrOf z.1
        let v ← Builtin.Frozenset.intersection s!"frozenset.{"__and__"}" u z.2
        ret v) : Sem Fin)) _ _ _
  unfold Builtin.Frozenset.slot1 slotArgs
  refine wpAny_bind (wpAny_bind (wpAny_pure (wpAny_pure ?_)))
  refine wpAny_bind (wpAny_bind (anySet_at RA ?_))
  show wpAny _ _ (Builtin.Frozenset.isAnySet (.ref b)) _ _ _
  refine anySet_at RB ?_
  refine wp_if_neg (by decide) ?_
  refine wpAny_bind (wpAny_pure ?_)
  refine wpAny_bind (set_and_body hne RA RB sn sm fun h' d p k keep grow R => ?_)
  exact wpAny_pure ⟨_, rfl, nofun, h h' d p k keep grow R⟩
end
end RH
namespace RH
open PySem PySem.Spec PyProof.Rows L2
section
variable {X : Cx}
/-- a & b of two sets of ints: k is how many both have -/
def rAndS (w : World) : R2 := fun x y H Q => ∃ (a b : Addr) (S T : Int → Bool) (n m : Nat), x = .ref a ∧ y = .ref b ∧ a ≠ b ∧ H a = some (SetO w a S n) ∧ H b = some (SetO w b T m) ∧ n ≤ 1000 ∧ m ≤ 1000 ∧
  ∀ p k, H p = none → (∀ l : List Int, l.Nodup → (∀ j, j ∈ l ↔ (S j && T j) = true) → k = l.length) → Q (.ref p) (upd H p (SetO w p (fun j => S j && T j) k))
theorem card_of {w : World} {h : Heap} {a : Addr} {S : Int → Bool} {k : Nat} (R : SetR w h a S k) (l : List Int) (nd : l.Nodup) (hm : ∀ j, j ∈ l ↔ S j = true) : k = l.length := by
  obtain ⟨o, es, ep, t, ho, ex, hd, good, nod, mem, small, fit, num, rise, led⟩ := R
  have p : l.Perm (es.toList.map keyOf) := (List.perm_ext_iff_of_nodup nd nod).mpr fun j => by rw [hm j, mem j]
  rw [← num, p.length_eq, List.length_map, Array.length_toList]
theorem op_andS : OpR X (binaryOp .BitAnd) (rAndS X.w) := by
  intro pins s σ H x y v u Q I rx ry h
  obtain ⟨a, b, S, T, n, m, rfl, rfl, hne, ha, hb, sn, sm, q⟩ := h
  cases (show v = Value.ref a from rx)
  cases (show u = Value.ref b from ry)
  refine set_and hne (setO_get I ha) (setO_get I hb) sn sm fun h' d p k keep hp R => ?_
  have free : H p = none := I.hok.fresh hp
  have J : Inv X pins σ (upd H p (SetO X.w p (fun j => S j && T j) k)) { s with heap := h', gens := s.gens, drawn := d, toks := s.toks } :=
    I.call (ch := []) (Un.laid keep hp free) (I.hok.laid keep hp (setO_new R)) I.bare (fun _ z => nomatch z)
  exact ⟨.ref p, _, J, rfl, q p k free (card_of R)⟩
/-- len of a set of ints -/
def rLenSt (w : World) : List V → Hp → VK → Prop := fun xs H Q => ∃ (a : Addr) (S : Int → Bool) (n : Nat), xs = [.ref a] ∧ H a = some (SetO w a S n) ∧ Q (.int n) H
theorem call_lenSt : CallR X (.builtin "len") (rLenSt X.w) := by
  intro pins s σ H xs us Q I r h
  obtain ⟨a, S, n, rfl, ha, q⟩ := h
  rw [Vals.ref1 r]
  obtain ⟨o, es, ep, t, ho, ex, hd, good, nod, mem, small, fit, num, rise, led⟩ := setO_get I ha
  refine call_len_set ho ex hd fit (by have : es.size < 4096 := small; omega) ?_
  rw [num]
  exact ⟨.int n, H, I.tok _, ⟨_, rfl⟩, q⟩
end
/-- enough(members, owners, count) -/
def spEnough (K : PySem.W.Frag) : Sp := fun vs H Q _ => ∃ (a b : Addr) (ms os : List Int) (c : Int), vs = [.ref a, .ref b, .int c] ∧ SqL K H a (ms.map V.int) ∧ SqL K H b (os.map V.int) ∧ ms.length ≤ 1000 ∧ os.length ≤ 1000 ∧ os.Nodup ∧
  ∀ H', Same H H' → Q (.bl (decide (c ≤ ((os.filter fun o => decide (o ∈ ms)).length : Int)))) H'
end RH
namespace RH
open PySem PySem.Spec PyProof.Rows L2
/-! ### {x for .. in ..}, ints -/
def ScGo (w : World) (J : It) (g : TG) (tt : TT) (te : TE) (vs : List Nat) (σ : L2.St) (D : Addr) (Qd : Hp → Prop) (H1 : Hp) : Prop :=
  ∃ W : Nat → Nat → Hp → Prop, (∃ m, W 0 m (upd H1 D (SetO w D (fun _ => false) 0))) ∧ ∀ i m H, W i m H →
    (J.stop i H ∧ Qd H) ∨ (J.go i H ∧ ∃ Nx : Hp → Prop, (∀ H', Nx H' → ∃ m', m' < m ∧ W (i + 1) m' H') ∧ ∀ x H', J.yld i H x H' → g x (wipe σ vs) H' fun σ2 H2 => wipe σ2 vs = wipe σ vs ∧ tt σ2 H2 fun b H3 =>
      if b = true then te σ2 H3 fun y H4 => ∃ (k : Int) (S : Int → Bool) (n : Nat), y = .int k ∧ H4 D = some (SetO w D S n) ∧ n + 1 < scanBound ∧ Nx (upd H4 D (SetO w D (fun j => S j || decide (j = k)) (if S k = true then n else n + 1))) else Nx H3)
def tScI (w : World) (wi : TI) (g : TG) (tt : TT) (te : TE) (vs : List Nat) : TE := fun σ H Q => wi σ H fun J H1 => ∀ D, H1 D = none → ScGo w J g tt te vs σ D (Q (.ref D)) H1
theorem r_sc {w : World} {wi : TI} {g : TG} {tt : TT} {te : TE} {vs : List Nat} {σ : L2.St} {H : Hp} {Q : VK} (h : wi σ H fun J H1 => ∀ D, H1 D = none → ScGo w J g tt te vs σ D (Q (.ref D)) H1) : tScI w wi g tt te vs σ H Q := h
section
variable {X : Cx} {pins : List (Addr × Obj)} {σ : L2.St} {H : Hp} {s : Shared} {D : Addr}
/-- one int more in the set at D -/
theorem one_more {E : Value → Shared → Prop} {S : Int → Bool} {n : Nat} {k : Int} {u : Value} {R : Value → Shared → Prop} (I : Inv X pins σ H s) (at_ : H D = some (SetO X.w D S n)) (room : n + 1 < scanBound) (ru : RelV (.int k) u)
    (q : ∀ s2, Inv X pins σ (upd H D (SetO X.w D (fun j => S j || decide (j = k)) (if S k = true then n else n + 1))) s2 → R .none s2) : wpAny (model X.prog X.w) X.A (call (.builtin "set.add") [.ref D, u]) R E s := by
  obtain ⟨tk, rfl⟩ := ru
  refine setR_add (setO_get I at_) room fun hp same made => q _ ?_
  obtain ⟨o, es, ep, t, stands, rest⟩ := made
  refine I.write (e := D) (t' := s.toks + 1) (by rw [at_]; trivial) (.inl rfl) (fun b v nb hv => ?_) ⟨o, stands⟩ (setO_new ⟨o, es, ep, t, stands, rest⟩)
  rw [same.2 b nb]
  exact hv
/-- a new set is laid -/
theorem laid_set {fp : List Addr} (I : Inv X pins σ H s) : Inv X pins σ (upd H s.heap.objs.size (SetO X.w s.heap.objs.size (fun _ => false) 0)) { s with heap := s.heap.push (set0 X.w) } :=
  I.laid (t' := s.toks) (fun _ _ e => Heap.get?_push_of_some _ e) (Nat.le_refl _) (setO_new (setR_fresh X.w))

/-- the turns of the block, from any state of its own on -/
theorem sc_turns {elt tg iter : Expr} {ifs : List Expr} {scope : Scope} {pos : Pos} {ce : Env} {s0 : Shared} {H0 : Hp} {fp : List Addr} {it : Addr} {tn : Nat → Heap → Prop} {J : It} {g : TG} {tt : TT} {te : TE} {vs : List Nat} {Qd : Hp → Prop} {R : Result → Shared → Prop}
    {W : Nat → Nat → Hp → Prop} {m0 : Nat} (calm : X.calm = true) (T : Turn X.prog X.w X.K tg J fp it tn) (pg : PG (X.blk s0 H0 scope ce fp) tg g) (pt : PTs (X.blk s0 H0 scope ce fp) ifs tt) (pe : PE (X.blk s0 H0 scope ce fp) elt te)
    (I : Inv (X.blk s0 H0 scope ce fp) [] (wipe σ vs) H s) (st : tn 0 s.heap) (un : ∀ b ∈ fp, H b = none) (w0 : W 0 m0 H)
    (turn : ∀ i m H, W i m H → (J.stop i H ∧ Qd H) ∨ (J.go i H ∧ ∃ Nx : Hp → Prop, (∀ H', Nx H' → ∃ m', m' < m ∧ W (i + 1) m' H') ∧ ∀ x H', J.yld i H x H' → g x (wipe σ vs) H' fun σ2 H2 => wipe σ2 vs = wipe σ vs ∧ tt σ2 H2 fun b H3 =>
      if b = true then te σ2 H3 fun y H4 => ∃ (k : Int) (S : Int → Bool) (n : Nat), y = .int k ∧ H4 D = some (SetO X.w D S n) ∧ n + 1 < scanBound ∧ Nx (upd H4 D (SetO X.w D (fun j => S j || decide (j = k)) (if S k = true then n else n + 1))) else Nx H3))
    (last : ∀ H5 s6, Inv (X.blk s0 H0 scope ce fp) [] (wipe σ vs) H5 s6 → Qd H5 → R (.ok .next) s6) :
    codeAny (model X.prog X.w) X.A (.compLoop (.SetComp elt [⟨tg, iter, ifs, 0⟩] scope pos) 0 (.ref it) (.ref D) ce) R s := by
  have fit : ∀ {σ' : L2.St} {Hc : Hp} {sc : Shared}, Inv (X.blk s0 H0 scope ce fp) [] σ' Hc sc → (∀ b ∈ fp, Hc b = none) → ∀ b ∈ fp, FpOk (X.blk s0 H0 scope ce fp) [] Hc b := by
    intro σ' Hc sc Ic uc b hb
    refine ⟨uc b hb, (Ic.ok.exf b hb).1, Ic.ok.exfs b hb, .inl hb, (Ic.ok.exf b hb).2, fun p hp => ?_⟩
    exact nomatch (show p ∈ ([] : List (Addr × Obj)) from hp)
  refine PpSet.compLoopS_any (fun left sc => ∃ i Hc, W i left Hc ∧ tn i sc.heap ∧ (∀ b ∈ fp, Hc b = none) ∧ Inv (X.blk s0 H0 scope ce fp) [] (wipe σ vs) Hc sc) ?_ m0 ⟨0, H, w0, st, un, I⟩
  rintro left sc ⟨i, Hc, wc, tc, uc, Ic⟩
  rcases turn i left Hc wc with ⟨stops, fin⟩ | ⟨goes, Nx, onward, does⟩
  · refine thnF (T.done (X.blk s0 H0 scope ce fp) rfl rfl rfl calm i [] sc _ Hc (fun _ _ => False) Ic (fit Ic uc) tc stops) ?_
    rintro _ se ⟨rfl, Ie⟩
    exact last Hc se Ie fin
  · refine thnF (T.item (X.blk s0 H0 scope ce fp) rfl rfl rfl calm i [] sc _ Hc (fun _ _ => False) Ic (fit Ic uc) tc goes) ?_
    rintro _ sd ⟨u, rfl, got⟩
    refine thnF got ?_
    rintro _ se ⟨x, He, Ie, rx, hy, te', ue⟩
    refine thnF (pg.run _ se _ He x u _ (Ie.pinned (fit Ie ue) (T.obj _ _ te')) rx (does x He hy)) ?_
    rintro _ sf ⟨σf, Hf, If, same, test⟩
    refine thnF (pt.run _ sf σf Hf _ If test) ?_
    rintro b sg ⟨Hg, Ig, item⟩
    have close : ∀ (sh : Shared) (Hh : Hp), Inv (X.blk s0 H0 scope ce fp) ([] ++ pinsAt fp se.heap) σf Hh sh → Nx Hh → ∃ m, m < left ∧ ∃ i Hc, W i m Hc ∧ tn i sh.heap ∧ (∀ b ∈ fp, Hc b = none) ∧ Inv (X.blk s0 H0 scope ce fp) [] (wipe σ vs) Hc sh := by
      intro sh Hh Ih nx
      obtain ⟨m, less, wm⟩ := onward Hh nx
      have held : ∀ c ∈ fp, ∀ o, se.heap.get? c = some o → sh.heap.get? c = some o ∧ Hh c = none := fun c hc o e => by
        have z := Ih.pin (c, o) (List.mem_append_right _ (List.mem_append_right _ (mem_pinsAt hc e)))
        exact ⟨z.1, z.2.1⟩
      refine ⟨m, less, i + 1, Hh, wm, T.keep _ _ _ te' (fun c hc o e => (held c hc o e).1), fun c hc => ?_, ?_⟩
      · obtain ⟨o, e, _⟩ := T.obj _ _ te' c hc
        exact (held c hc o e).2
      · refine (Ih.unpinned (pins := [])).weak (by rw [← same, wipe_length]) fun j v e => ?_
        rw [← same] at e
        exact (wipe_some e).1
    rcases Bool.eq_false_or_eq_true b with rfl | rfl
    · simp only [if_true] at item ⊢
      refine thnF (pe.run _ sg σf Hg _ Ig item) ?_
      rintro z sh ⟨y, Hh, Ih, ry, k, S, n, rfl, at_, room, nx⟩
      exact one_more (X := X.blk s0 H0 scope ce fp) Ih at_ room ry fun s2 I2 => close s2 _ I2 nx
    · simp only [Bool.false_eq_true, if_false] at item ⊢
      exact close sg Hg Ig item
/-- {x for .. in ..}: a new set of ints -/
theorem pe_scI {elt tg iter : Expr} {ifs : List Expr} {scope : Scope} {own : List (PySem.Str × Nat)} {pos : Pos} {wi : TI} {g : TG} {tt : TT} {te : TE} (calm : X.calm = true) (nd : X.N.Nodup) (walks : PI X tg iter wi) (blk : BlkOk X.N X.env.scope scope own)
    (tgt : ∀ (s : Shared) (H : Hp) (C : Addr) (cl : List (PySem.Str × Addr)) (fp : List Addr), PG (X.blk s H scope (compEnvC scope cl C X.env) fp) tg g)
    (tests : ∀ (s : Shared) (H : Hp) (C : Addr) (cl : List (PySem.Str × Addr)) (fp : List Addr), PTs (X.blk s H scope (compEnvC scope cl C X.env) fp) ifs tt)
    (item : ∀ (s : Shared) (H : Hp) (C : Addr) (cl : List (PySem.Str × Addr)) (fp : List Addr), PE (X.blk s H scope (compEnvC scope cl C X.env) fp) elt te) (fold : ∀ x, foldedSetIterable iter X.env x = pure x := by intro _; rfl) :
    PE X (.SetComp elt [⟨tg, iter, ifs, 0⟩] scope pos) (tScI X.w wi g tt te (own.map (·.2))) := by
  refine ⟨fun pins s σ H Q I h => ?_⟩
  rw [PpSet.eval_SetComp]
  have cells : ∀ y ∈ scope.names, y.2 = .free → ∃ c, X.env.cells.lookup y.1 = some c := fun y hy e => (blk.free y hy e).elim (fun z => I.ok.has _ (.inl z)) fun z => I.ok.has _ (.inr z)
  refine wpAny_comprehension_free (use := none) rfl fold (closure_ok cells) blk.kind (fun y hy e => by rw [blk.uniq y hy, e]) (thn (walks.run pins s σ H _ I h) fun _ sa ha => thn ha fun _ sb hb => ?_)
  obtain ⟨it, fp, tn, J, Hb, rfl, Ib, T, tb, fb, q⟩ := hb
  refine PpSet.newSet_ok (newEnv_comp ?_)
  have none0 : Hb sb.heap.objs.size = none := Ib.hok.fresh (Nat.le_refl _)
  obtain ⟨W, ⟨m0, w0⟩, turn⟩ := q sb.heap.objs.size none0
  have I0 := laid_set (fp := fp) Ib
  have low : ∀ b ∈ fp, b < sb.heap.objs.size := fun b hb => (T.obj _ _ tb b hb).elim fun o e => Heap.lt_size e.1
  have t0 : tn 0 (sb.heap.push (set0 X.w)) := T.keep _ _ _ tb fun b _ o e => Heap.get?_push_of_some _ e
  have f0 : ∀ b ∈ fp, FpOk X pins (upd Hb sb.heap.objs.size (SetO X.w sb.heap.objs.size (fun _ => false) 0)) b ∧ b < (sb.heap.push (set0 X.w)).objs.size := fun b hb => by
    have lt := low b hb
    refine ⟨⟨?_, (fb b hb).2⟩, by rw [Heap.size_push]; exact Nat.lt_succ_of_lt lt⟩
    rw [upd_ne (Nat.ne_of_lt lt)]
    exact (fb b hb).1
  generalize upd Hb sb.heap.objs.size (SetO X.w sb.heap.objs.size (fun _ => false) 0) = Hs at I0 f0 w0
  generalize sb.heap.objs.size = D at *
  show codeAny _ _ (.compStart _ 0 (.ref it) (.ref D) (compEnvC scope (cellsFrom ((sb.heap.push (set0 X.w)).objs.size + 1) scope.names (cloFrom X.env.cells scope.names [])) (sb.heap.push (set0 X.w)).objs.size X.env)) (compPost (model X.prog X.w) X.A X.xe none (EP X pins σ Q) (.ref D) (sb.heap.push (set0 X.w)).objs.size) { sb with heap := pushCells ((sb.heap.push (set0 X.w)).push { cls := .type "dict", data := .dict #[] }) scope.names }
  generalize sb.heap.push (set0 X.w) = hs at I0 t0 f0
  have Iz := block_start I0 blk nd f0
  have loop := sc_turns (elt := elt) (iter := iter) (pos := pos) (R := compPost (model X.prog X.w) X.A X.xe none (EP X pins σ Q) (.ref D) hs.objs.size) calm T
    (tgt { sb with heap := hs } Hs hs.objs.size _ fp) (tests { sb with heap := hs } Hs hs.objs.size _ fp) (item { sb with heap := hs } Hs hs.objs.size _ fp) Iz
    (T.keep _ _ _ t0 fun b _ o e => pushCells_keeps _ _ _ _ (Heap.get?_push_of_some _ e)) (fun b hb => (f0 b hb).1.1) w0 turn fun Hl sl Il ql => ?_
  · exact PpSet.codeAny_compStart_set loop (T.self X.A 0 _ _ _ (T.keep _ _ _ t0 fun b _ o e => pushCells_keeps _ _ _ _ (Heap.get?_push_of_some _ e)) loop)
  · have Ir : Inv X pins σ Hl sl := I0.call' (ch := fp) Il.os Il.base Il.hok Il.bare fun b hb => by
      obtain ⟨_, a1, _, a3, a4, a5⟩ := (f0 b hb).1
      exact ⟨a3, a1, a4, a5⟩
    obtain ⟨m, ns, _⟩ := Il.loc
    obtain ⟨b0, b1, b2, b3, b4, b5⟩ := I0.fpOk (Nat.le_refl hs.objs.size) (show Hl hs.objs.size = none from Il.free)
    exact ⟨m, ns, fun hz sz => ⟨.ref D, Hl, Ir.turned (t' := sl.toks) (fun b o nb e => (sz.2 b nb).trans e) b0 b1 b3 b4 b5, rfl, ql⟩⟩
end
end RH
namespace RH
open PySem PySem.Spec PyProof.Rows L2
/-! ### objects whose __init__ may raise -/
section
variable {X : Cx} {CX : CXT} {k : Nat} {f C : Addr} {fd : FuncData} {ps : List Str} {sp : Sp} {dvs : List V} {ds : List Value} {x : Str} {p pos : Pos} {e : Expr} {es : List Expr} {t : TA} {E : L2.St → XK}
theorem run_makeS {pins : List (Addr × Obj)} {σ : L2.St} {H : Hp} {s : Shared} {Q : VK} {us : List Value} {vs : List V} (M : Mk X.K C f) (F : FnOk X.prog X.w X.K X.mg X.base CX k f fd ps sp) (hr : Room (k + 1) X.A) (hb : Binds X.K fd ps ds) (hd : Vals dvs ds)
    (hx : ∀ x dx, ∀ (pins : List (Addr × Obj)) (s : Shared) (e : Value) (s' : Shared), Inv X pins σ (upd (upd H dx (.own x)) x (.ins C dx [])) s → CX X.stack (upd (upd H dx (.own x)) x (.ins C dx [])) s (E σ) e s' → X.xe e s') (I : Inv X pins σ H s) (r : Vals vs us)
    (h : ∀ x dx, H x = none → H dx = none → dx ≠ x → sp (.ref x :: (vs ++ dvs)) (upd (upd H dx (.own x)) x (.ins C dx [])) (fun v H2 => v = .non ∧ Q (.ref x) H2) (E σ)) :
    wpAny (model X.prog X.w) X.A (call (.ref C) us) (EP X pins σ Q) X.xe s := by
  have hq := h (s.heap.objs.size + 1) s.heap.objs.size (I.hok.fresh (Nat.le_succ _)) (I.hok.fresh (Nat.le_refl _)) (Nat.ne_of_lt (Nat.lt_succ_self _))
  have I2 := Inv.made (C := C) I
  have r2 : Vals (V.ref (s.heap.objs.size + 1) :: (vs ++ dvs)) (Value.ref (s.heap.objs.size + 1) :: (us ++ ds)) := .cons rfl (r.append hd)
  have hl : (Value.ref (s.heap.objs.size + 1) :: us ++ ds).length = ps.length := by
    have e := r2.length
    rw [F.len _ _ _ _ hq] at e
    exact e.symm
  refine wpAny_call (make_map (f := f) I.kIn M.makes M.init (beq_iff_eq.mp M.fn) (codeAny_mono (F.run _ X.stack _ _ ⟨Value.ref (s.heap.objs.size + 1) :: us, []⟩ (Value.ref (s.heap.objs.size + 1) :: (us ++ ds)) _ _ (E σ) (hr.make C us [])
    (I2.env0.make C us []) (hb _ (Value.ref (s.heap.objs.size + 1) :: us) I2.kIn hl) r2 hq) fun r s' hq' => ?_))
  cases r with
  | error e => exact hx _ _ pins _ e s' I2 hq'
  | ok fl =>
    cases fl with
    | ret u =>
      obtain ⟨v, H', I3, rv, ev, q3⟩ := I2.after hq'
      subst ev
      exact ⟨rv, ⟨V.ref (s.heap.objs.size + 1), H', I3, rfl, q3⟩⟩
    | next => exact False.elim hq'
    | brk => exact False.elim hq'
    | cont => exact False.elim hq'
def tMakeS (C : Addr) (sp : Sp) (dvs : List V) (E : L2.St → XK) (t : TA) : TE := fun σ H Q => t σ H fun vs H1 => ∀ x dx, H1 x = none → H1 dx = none → dx ≠ x → sp (.ref x :: (vs ++ dvs)) (upd (upd H1 dx (.own x)) x (.ins C dx [])) (fun v H2 => v = .non ∧ Q (.ref x) H2) (E σ)
theorem pe_makeS (M : Mk X.K C f) (F : FnOk X.prog X.w X.K X.mg X.base (L2.CX X.prog X.w) k f fd ps sp) (hr : Room (k + 1) X.A) (hg : Gl X x) (hm : X.mg x = some (.ref C)) (hb : Binds X.K fd ps ds) (hd : Vals dvs ds) {W : WX} (tk : Takes X W)
    (ha : PA X (e :: es) t) (hdb : (x == ("__debug__" : Str)) = false := by decide) (he : starEach (e :: es) X.env = (false, eval e X.env) :: starEach es X.env := by rfl) (hpl : (backTo pos (starEach es X.env)).any (·.1) = false := by rfl) :
    PE X (.Call (.Name x p) (e :: es) [] pos) (tMakeS C sp dvs (WE W) t) := by
  refine ⟨fun pins s σ H Q I h => ?_⟩
  refine wpAny_Call_Name_kw (ld_glob I hg hm ?_ hdb)
  refine PySem.W.callWith_K (h₀ := X.base) I.ok.mod.kin M.kp (thn (ha.run pos pins s σ H _ I h) fun us s1 ⟨vs, H1, I1, r, q⟩ => ⟨I1.kIn, ?_⟩) he hpl
  exact run_makeS (CX := L2.CX X.prog X.w) (E := WE W) M F hr hb hd (fun x dx pins s e s' I c => passAt tk σ pins _ s e s' I c) I1 r q
end
/-- a class that may be made by its name, its __init__ may raise -/
structure MakX (P : Program) (w : World) (K : PySem.W.Frag) (mg : Str → Option Value) (base : Heap) (k : Nat) (x : Str) (C : Addr) (sp : Sp) : Prop where
  ex : ∃ (f : Addr) (fd : FuncData) (ps : List Str), Mk K C f ∧ FnOk P w K mg base (L2.CX P w) k f fd ps sp ∧ mg x = some (.ref C) ∧ Binds K fd ps []
/-- a def that may raise -/
structure CalX (P : Program) (w : World) (K : PySem.W.Frag) (mg : Str → Option Value) (base : Heap) (k : Nat) (x : Str) (sp : Sp) : Prop where
  ex : ∃ (f : Addr) (fd : FuncData) (ps : List Str), FnOk P w K mg base (L2.CX P w) k f fd ps sp ∧ mg x = some (.ref f) ∧ PySem.W.keepIn K (.ref f) = true ∧ Binds K fd ps []
/-- a property -/
structure Pro (P : Program) (w : World) (K : PySem.W.Frag) (mg : Str → Option Value) (base : Heap) (k : Nat) (C : Addr) (f : Str) (sp : Sp) : Prop where
  ex : ∃ (p g : Addr) (fd : FuncData) (ps : List Str), Cls K C ∧ PropOf K C f p g ∧ FnOk P w K mg base CX0 k g fd ps sp ∧ Binds K fd ps []
section
variable {X : Cx} {k j : Nat} {C : Addr} {x : Str} {sp : Sp} {p pos : Pos} {e : Expr} {es : List Expr} {t : TA} {ta : TE}
/-- made where no error of it is met -/
theorem pe_mk0 (c : MakX X.prog X.w X.K X.mg X.base k x C sp) (hr : Room j X.A) (hk : k + 1 ≤ j) (hg : Gl X x) (ha : PA X (e :: es) t)
    (hdb : (x == ("__debug__" : Str)) = false := by decide) (he : starEach (e :: es) X.env = (false, eval e X.env) :: starEach es X.env := by rfl) (hpl : (backTo pos (starEach es X.env)).any (·.1) = false := by rfl) :
    PE X (.Call (.Name x p) (e :: es) [] pos) (tMake C sp [] C8.E0 t) := by
  obtain ⟨f, fd, ps, M, F, hm, b⟩ := c.ex
  exact pe_make M F (hr.mono hk) hg hm b .nil passL ha hdb he hpl
/-- made in a try -/
theorem pe_mkT {W : WX} (c : MakX X.prog X.w X.K X.mg X.base k x C sp) (hr : Room j X.A) (hk : k + 1 ≤ j) (hg : Gl X x) (tk : Takes X W) (ha : PA X (e :: es) t)
    (hdb : (x == ("__debug__" : Str)) = false := by decide) (he : starEach (e :: es) X.env = (false, eval e X.env) :: starEach es X.env := by rfl) (hpl : (backTo pos (starEach es X.env)).any (·.1) = false := by rfl) :
    PE X (.Call (.Name x p) (e :: es) [] pos) (tMakeS C sp [] (WE W) t) := by
  obtain ⟨f, fd, ps, M, F, hm, b⟩ := c.ex
  exact pe_makeS M F (hr.mono hk) hg hm b .nil tk ha hdb he hpl
theorem pe_pr {f : Str} (c : Pro X.prog X.w X.K X.mg X.base k C f sp) (hr : Room j X.A) (hk : k + 1 ≤ j) (he : PE X e ta) (hab : attributeBase e f X.env (eval e X.env) = eval e X.env) : PE X (.Attribute e f pos) (tProp C sp [] C8.E0 ta) := by
  obtain ⟨pp, g, fd, ps, cl, hp, F, b⟩ := c.ex
  exact pe_prop he cl hp F (hr.mono hk) b .nil pass0 hab
end
/-! ### own errors -/
/-- an own error over ValueError, without own __init__ -/
structure Err (K : PySem.W.Frag) (mg : Str → Option Value) (x : Str) (C : Addr) : Prop where
  xF : PySem.W.excIn K C [.type "ValueError", .type "Exception", .type "BaseException", .type "object"] "ValueError.__new__" = true
  gF : mg x = some (.ref C)
  kF : PySem.W.keepIn K (.ref C) = true
  bF : PySem.W.subIn K (.ref C) (.type "BaseException") = some true
  tF : PySem.W.typeIn K (.ref C) = some (.type "type")
theorem ps_rai {X : Cx} {x : Str} {C : Addr} {W : WX} (e : Err X.K X.mg x C) {m : Str} {j : Nat} {p p2 pos pos' : Pos} (hc : X.calm = true) (tk : Takes X W) (hg : Gl X x) (hdb : (x == ("__debug__" : Str)) = false := by decide) : PS X (.Raise (some (.Call (.Name x p) [.Constant (.str m) j p2] [] pos)) none pos') (fun _ σ H => W (.ref C) none σ H) :=
  ps_raise hc tk (pmk_own PySem.F.excBase_ValueError e.xF e.gF e.kF (raises_own e.bF e.tF) hg hdb)
theorem pe_err {X : Cx} {x : Str} {C : Addr} {pos : Pos} (e : Err X.K X.mg x C) (hg : Gl X x) (hdb : (x == ("__debug__" : Str)) = false := by decide) : PE X (.Name x pos) (tC (.ref C)) := pe_glob (v := .ref C) hg e.gF rfl hdb
/-- isinstance of the error in hand -/
def rIsEx (K : PySem.W.Frag) (cls : Value) (d : Option Addr) (a : Addr) : List V → Hp → VK → Prop := fun xs H Q => ∃ D, cls = .ref D ∧ d = none ∧ ExcC K D ∧ rIsE K D a xs H Q
theorem call_isEx {X : Cx} {a : Addr} {cls : Value} {d : Option Addr} {oe : Obj} {pn : List (Addr × Obj)} (hz : Zc cls d oe) (hf : ∃ vs, oe.data = .fields vs) : CallR (X.suite a ((a, oe) :: pn)) (.builtin "isinstance") (rIsEx X.K cls d a) := by
  intro pins s σ H xs us Q I r h
  obtain ⟨D, rfl, rfl, C, q⟩ := h
  exact call_isE C hz hf pins s σ H xs us Q I r q
theorem kit_own {K : PySem.W.Frag} {D C : Addr} {b : Bool} (h : PySem.W.mroIn K D (.ref C) = some b) (hs : PySem.W.mroIn K D (.ref D) = some true) (hc : PySem.W.isClsIn K C = true) (ht : PySem.W.typeIn K (.ref C) = some (.type "type")) : PySem.W.kitOne K (.ref D) (.ref C) = some b := by
  unfold PySem.W.kitOne
  by_cases e : D = C
  · subst e
    rw [if_pos (by exact beq_self_eq_true _), ← hs, h]
  · rw [if_neg (fun z => e (Value.ref.inj (eq_of_beq z)))]
    have e2 : ((PySem.W.clsIn K C).isSome && PySem.W.typeIn K (.ref C) == some (.type "type")) = true := by
      rw [show (PySem.W.clsIn K C).isSome = true from hc, ht] <;> rfl
    show (if ((PySem.W.clsIn K C).isSome && PySem.W.typeIn K (.ref C) == some (.type "type")) = true then PySem.W.subIn K (.ref D) (.ref C) else none) = some b
    rw [if_pos e2]
    exact h
theorem exm_own {K : PySem.W.Frag} {C : Addr} {cls : Value} {b : Bool} (h1 : PySem.W.subIn K (.ref C) (.type "BaseException") = some true) (hc : PySem.W.isClsIn K C = true) (ht : PySem.W.typeIn K (.ref C) = some (.type "type")) (h4 : PySem.W.subIn K cls (.ref C) = some b) : PySem.W.exmOne K cls (.ref C) = some b := by
  have e1 : (PySem.W.subIn K (.ref C) (.type "BaseException") == some true) = true := by rw [h1] <;> rfl
  have e2 : ((PySem.W.clsIn K C).isSome && PySem.W.typeIn K (.ref C) == some (.type "type")) = true := by
    rw [show (PySem.W.clsIn K C).isSome = true from hc, ht] <;> rfl
  show (if (PySem.W.subIn K (.ref C) (.type "BaseException") == some true) = true then (if ((PySem.W.clsIn K C).isSome && PySem.W.typeIn K (.ref C) == some (.type "type")) = true then PySem.W.subIn K cls (.ref C) else none) else none) = some b
  rw [if_pos e1, if_pos e2]
  exact h4
theorem r_isE {K : PySem.W.Frag} {D a : Addr} {c : V} {cv : Value} {b : Bool} {H : Hp} {Q : VK} (C : ExcC K D) (hcv : ∀ u, RelV c u → u = cv) (h : PySem.W.kitOne K (.ref D) cv = some b) (q : Q (.bl b) H) : rIsEx K (.ref D) none a [.ref a, c] H Q :=
  ⟨D, rfl, rfl, C, c, cv, b, rfl, hcv, h, q⟩
end RH
namespace RH
open PySem L2
/-! ### terms -/
def okI (c w r : Int) : Bool := limI c && (limI w && (limI r && (decide (1 ≤ w) && (decide (w ≤ c) && (decide (1 ≤ r) && (decide (r ≤ c) && decide (c < w + r)))))))
def okT : D → D → D → Bool
  | .int c, .int w, .int r => okI c w r
  | _, _, _ => false
theorem okT_num {a b c : D} (h : okT a b c = true) : isNum a = true ∧ isNum b = true ∧ isNum c = true := by
  match a, b, c, h with
  | .int c, .int w, .int r, h =>
    have h2 : okI c w r = true := h
    unfold okI at h2
    simp only [Bool.and_eq_true, decide_eq_true_iff] at h2
    obtain ⟨h1, h2, h3, h4, h5, h6, h7, h8⟩ := h2
    exact ⟨by show (limI c && decide (0 ≤ c)) = true; rw [h1, decide_eq_true (by omega : 0 ≤ c)]; rfl, by show (limI w && decide (0 ≤ w)) = true; rw [h2, decide_eq_true (by omega : 0 ≤ w)]; rfl, by show (limI r && decide (0 ≤ r)) = true; rw [h3, decide_eq_true (by omega : 0 ≤ r)]; rfl⟩
theorem okT_not {a b c : D} (h : ¬ (isNum a = true ∧ isNum b = true ∧ isNum c = true)) : okT a b c = false := by
  cases e : okT a b c with
  | false => rfl
  | true => exact absurd (okT_num e) h
theorem num_int {d : D} (h : isNum d = true) : ∃ i, d = .int i ∧ limI i = true := by
  cases d with
  | int i =>
    have h1 : (limI i && decide (0 ≤ i)) = true := h
    rw [Bool.and_eq_true] at h1
    exact ⟨i, rfl, h1.1⟩
  | _ => cases h
/-- Terms(..): three fields, or BadValue -/
def spTermsI (K : PySem.W.Frag) (CC : Addr → Prop) (C CB : Addr) : Sp := fun vs H Q E => ∃ (x dx : Addr) (a b c : V) (da db dc : D), vs = [.ref x, a, b, c] ∧ H x = some (.ins C dx []) ∧ Rep K CC H a da ∧ Rep K CC H b db ∧ Rep K CC H c dc ∧
  (okT da db dc = true → ∀ H', (∀ y o, y ≠ x → H y = some o → H' y = some o) → H' x = some (.ins C dx [("_copies", a), ("_write", b), ("_read", c)]) → Q .non H') ∧
  (okT da db dc = false → ∀ H', Same H H' → E (.ref CB) none H')
def TermsAt (H : Hp) (t C : Addr) (c w r : Int) : Prop := ∃ dx, H t = some (.ins C dx [("_copies", .int c), ("_write", .int w), ("_read", .int r)])
theorem TermsAt.mono {H H' : Hp} {t C : Addr} {c w r : Int} (h : TermsAt H t C c w r) (s : Same H H') : TermsAt H' t C c w r := by
  obtain ⟨dx, e⟩ := h
  exact ⟨dx, s _ _ e⟩
def spGetT (C : Addr) (f : Int → Int → Int → Int) : Sp := fun vs H Q _ => ∃ t c w r, vs = [.ref t] ∧ TermsAt H t C c w r ∧ Q (.int (f c w r)) H
def hand (c w r : Int) : Int := c - (if r < w then r else w) + 1
/-- numbers that make terms -/
structure OkDue (c w r : Int) : Prop where
  w1 : 1 ≤ w
  wc : w ≤ c
  r1 : 1 ≤ r
  rc : r ≤ c
  s : c < w + r
  c11 : c ≤ 100000000000
theorem OkDue.ok {c w r : Int} (h : OkDue c w r) : okT (.int c) (.int w) (.int r) = true := by
  have := h.w1
  have := h.wc
  have := h.r1
  have := h.rc
  have := h.s
  have := h.c11
  show okI c w r = true
  unfold okI limI
  simp only [Bool.and_eq_true, decide_eq_true_iff]
  omega
theorem TermsAt.look {H : Hp} {t C : Addr} {c w r : Int} (h : TermsAt H t C c w r) : ∃ dx, H t = some (.ins C dx [("_copies", .int c), ("_write", .int w), ("_read", .int r)]) := h
theorem r_fld {K : PySem.W.Frag} {ta tv : TE} {f : Str} {nx bk ct : L2.St → Hp → Prop} {rt : VK} {σ : L2.St} {H : Hp} (h : tv σ H fun y H1 => ta σ H1 fun x H2 => ∃ a C dx fs, x = V.ref a ∧ H2 a = some (.ins C dx fs) ∧ Cls K C ∧ NoAttr K C f ∧ fs.length < 1000 ∧ nx σ (upd H2 a (.ins C dx (putF f y fs)))) : sFld K ta tv f ⟨nx, rt, bk, ct⟩ σ H := h
theorem r_mk {C : Addr} {sp : Sp} {dvs : List V} {E : L2.St → XK} {t : TA} {σ : L2.St} {H : Hp} {Q : VK} (h : t σ H fun vs H1 => ∀ x dx, H1 x = none → H1 dx = none → dx ≠ x → sp (.ref x :: (vs ++ dvs)) (upd (upd H1 dx (.own x)) x (.ins C dx [])) (fun v H2 => v = .non ∧ Q (.ref x) H2) (E σ)) : tMakeS C sp dvs E t σ H Q := h
theorem r_prop {C : Addr} {sp : Sp} {dvs : List V} {E : XK} {ta : TE} {σ : L2.St} {H : Hp} {Q : VK} (h : ta σ H fun x H1 => ∃ a dx fs, x = .ref a ∧ H1 a = some (.ins C dx fs) ∧ sp (.ref a :: dvs) H1 Q E) : tProp C sp dvs E ta σ H Q := h
/-- three values that make no terms are refused -/
def spRefused (K : PySem.W.Frag) (CC : Addr → Prop) : Sp := fun vs H Q _ => ∃ (a b c : V) (da db dc : D), vs = [a, b, c] ∧ Rep K CC H a da ∧ Rep K CC H b db ∧ Rep K CC H c dc ∧ okT da db dc = false ∧ ∀ H', Same H H' → Q (.bl true) H'
end RH
namespace RH
open PySem L2
def spTermsL : Sp := fun vs H Q _ => ∃ a b : Int, vs = [.int a, .int b] ∧ 0 ≤ a ∧ 0 ≤ b ∧ ∀ H' p c w r, Same H H' → H p = none → H' p = some (.tup [.int c, .int w, .int r]) → OkDue c w r → Q (.ref p) H'
def spRightT (C : Addr) : Sp := fun vs H Q _ => ∃ t p c w r, vs = [.ref t, .ref p] ∧ TermsAt H t C c w r ∧ H p = some (.tup [.int c, .int w, .int r]) ∧ ∀ H', Same H H' → Q (.bl true) H'
/-- a value that makes no terms wherever it stands -/
def BadF (d : D) : Prop := ∀ x y, okT d x y = false ∧ okT x d y = false ∧ okT x y d = false
/-- a value that spoils terms of so many copies -/
def Spoils (K : PySem.W.Frag) (CC : Addr → Prop) (H : Hp) (c : Int) (v : V) : Prop := ∃ d pd, Rep K CC H v d ∧ Dp K H v pd ∧ SeqAt.shaped pd = true ∧ (BadF d ∨ (d = .int (c + 1) ∧ PyData.eqv pd (.int (c + 1)) = true))
theorem int_shaped (i : Int) : SeqAt.shaped (.int i) = true := by
  show ((PyData.int i).canLay0 && decide ((PyData.int i).depth ≤ 64)) = true
  simp [PyData.canLay0, PyData.depth]
def spBadL (K : PySem.W.Frag) (CC : Addr → Prop) : Sp := fun vs H Q _ => ∃ (p : Addr) (c w r k : Int), vs = [.ref p, .int k] ∧ H p = some (.tup [.int c, .int w, .int r]) ∧ OkDue c w r ∧ 0 ≤ k ∧
  ∀ H' l a b d da db dd, Same H H' → H l = none → H' l = some (.lst [a, b, d]) → Rep K CC H' a da → Rep K CC H' b db → Rep K CC H' d dd → okT da db dd = false → Q (.ref l) H'
def spFewL : Sp := fun vs H Q _ => ∃ (p : Addr) (c w r k : Int), vs = [.ref p, .int k] ∧ H p = some (.tup [.int c, .int w, .int r]) ∧ OkDue c w r ∧ 0 ≤ k ∧
  ∀ H' q x y, Same H H' → H q = none → H' q = some (.tup [.int c, .int x, .int y]) → x + y ≤ c → Q (.ref q) H'
theorem okT_few {c x y : Int} (h : x + y ≤ c) : okT (.int c) (.int x) (.int y) = false := by
  show okI c x y = false
  refine Bool.eq_false_iff.mpr fun z => ?_
  unfold okI at z
  simp only [Bool.and_eq_true, decide_eq_true_iff] at z
  omega
theorem badV_num {d : D} (h : isNum d = false) : BadF d := fun x y => ⟨okT_not fun z => absurd z.1 (by rw [h]; decide), okT_not fun z => absurd z.2.1 (by rw [h]; decide), okT_not fun z => absurd z.2.2 (by rw [h]; decide)⟩
theorem badV_zero : BadF (.int 0) := fun x y => by
  have k : ∀ {a b e : D}, (okT a b e = true → ∃ i j l, a = .int i ∧ b = .int j ∧ e = .int l ∧ 1 ≤ i ∧ 1 ≤ j ∧ 1 ≤ l) := fun {a b e} h => by
    match a, b, e, h with
    | .int i, .int j, .int l, h =>
      have h2 : okI i j l = true := h
      unfold okI at h2
      simp only [Bool.and_eq_true, decide_eq_true_iff] at h2
      exact ⟨i, j, l, rfl, rfl, rfl, by omega, by omega, by omega⟩
  refine ⟨?_, ?_, ?_⟩ <;> refine Bool.eq_false_iff.mpr fun z => ?_ <;> obtain ⟨i, j, l, h1, h2, h3, g1, g2, g3⟩ := k z
  · cases h1; omega
  · cases h2; omega
  · cases h3; omega
theorem num_big {i : Int} (h : 1000000000000 < i ∨ i < 0) : isNum (.int i) = false := by
  show (limI i && decide (0 ≤ i)) = false
  refine Bool.eq_false_iff.mpr fun z => ?_
  unfold limI at z
  simp only [Bool.and_eq_true, decide_eq_true_iff] at z
  omega
theorem okT_more {c x y : Int} (h : c < x ∨ c < y) : okT (.int c) (.int x) (.int y) = false := by
  show okI c x y = false
  refine Bool.eq_false_iff.mpr fun z => ?_
  unfold okI at z
  simp only [Bool.and_eq_true, decide_eq_true_iff] at z
  omega
theorem ints_dpAll {K : PySem.W.Frag} {H : Hp} : ∀ ns : List Int, DpAll K H (ns.map V.int) (ns.map PyData.int)
  | [] => .nil
  | i :: r => .cons (.int i) (ints_dpAll r)
theorem ints_shaped (ns : List Int) : SeqAt.shaped (.list (ns.map PyData.int)) = true := by
  have h1 : ∀ ns : List Int, PyData.canLayAll0 (ns.map PyData.int) = true := fun ns => by
    induction ns with
    | nil => simp [PyData.canLayAll0]
    | cons i r ih => simp [PyData.canLayAll0, PyData.canLay0, ih]
  have h2 : ∀ ns : List Int, PyData.depthAll (ns.map PyData.int) = 0 := fun ns => by
    induction ns with
    | nil => simp [PyData.depthAll]
    | cons i r ih => simp [PyData.depthAll, PyData.depth, ih]
  show ((PyData.list (ns.map PyData.int)).canLay0 && decide ((PyData.list (ns.map PyData.int)).depth ≤ 64)) = true
  rw [Bool.and_eq_true]
  exact ⟨by simp [PyData.canLay0, h1], decide_eq_true (by simp [PyData.depth, h2])⟩
theorem ints_eqv (ns : List Int) : PyData.eqv (.list (ns.map PyData.int)) (.list (ns.map PyData.int)) = true := by
  have h : ∀ ns : List Int, PyData.eqvAll (ns.map PyData.int) (ns.map PyData.int) = true := fun ns => by
    induction ns with
    | nil => simp [PyData.eqvAll]
    | cons i r ih => simp [PyData.eqvAll, PyData.eqv, ih]
  simp [PyData.eqv, h]
end RH
namespace RH
open PySem L2
/-! ### draws off a list that was made of the script -/
theorem r_brk {nx bk ct : St → Hp → Prop} {rt : VK} {σ : St} {H : Hp} (h : bk σ H) : tBreak ⟨nx, rt, bk, ct⟩ σ H := h
/-- the draws at l: numbers from 0 below m, not too many -/
def Draws (m : Int) (H : Hp) (l : Addr) : Prop := ∃ ds : List Int, H l = some (.lst (ds.map V.int)) ∧ ds.length ≤ 400 ∧ ∀ d ∈ ds, 0 ≤ d ∧ d < m
theorem Draws.mono {m : Int} {H H' : Hp} {l : Addr} (h : Draws m H l) (s : Same H H') : Draws m H' l := by
  obtain ⟨ds, e, a, b⟩ := h
  exact ⟨ds, s _ _ e, a, b⟩
/-- _law_draws(script, many) -/
def spStream (K : PySem.W.Frag) (m : Int) : Sp := fun vs H Q _ => ∃ (a : Addr) (ns : List Int) (n : Int), vs = [.ref a, .int n] ∧ SqL K H a (ns.map V.int) ∧ n ≤ 100 ∧ ∀ H' l, Same H H' → H l = none → Draws m H' l → Q (.ref l) H'
/-- _law_draw(draws, k) -/
def spDrawAt (m : Int) : Sp := fun vs H Q _ => ∃ (l : Addr) (k : Int), vs = [.ref l, .int k] ∧ Draws m H l ∧ 0 ≤ k ∧ 0 < m ∧ ∀ d, 0 ≤ d → d < m → Q (.int d) H
theorem in_ints (k : Int) : ∀ ns : List Int, inV (.int k) (ns.map V.int) = decide (k ∈ ns)
  | [] => by simp [inV]
  | n :: ns => by
    have ih := in_ints k ns
    unfold inV at ih ⊢
    rw [List.map_cons, List.any_cons, ih]
    by_cases e : n = k
    · subst e
      simp [eqV]
    · have e2 : ¬ k = n := fun z => e z.symm
      simp [eqV, e, e2]
theorem flat_ints (ns : List Int) : (ns.map V.int).all flatV = true := by
  rw [List.all_map, List.all_eq_true]
  exact fun _ _ => rfl
theorem r_inI {K : PySem.W.Frag} {H : Hp} {Q : VK} {k : Int} {p : Addr} {ns : List Int} (h : SqL K H p (ns.map V.int)) (q : Q (.bl (decide (k ∈ ns))) H) : rIn K false (.int k) (.ref p) H Q :=
  ⟨p, _, rfl, .inl h, rfl, flat_ints ns, by rw [in_ints]; exact q⟩
theorem r_notInI {K : PySem.W.Frag} {H : Hp} {Q : VK} {k : Int} {p : Addr} {ns : List Int} (h : SqL K H p (ns.map V.int)) (q : Q (.bl (!decide (k ∈ ns))) H) : rIn K true (.int k) (.ref p) H Q :=
  ⟨p, _, rfl, .inl h, rfl, flat_ints ns, by rw [in_ints]; exact q⟩
/-- _law_numbers(script, draws, count): unlike numbers -/
def spNumbers (K : PySem.W.Frag) : Sp := fun vs H Q _ => ∃ (a l : Addr) (ns : List Int) (c : Int), vs = [.ref a, .ref l, .int c] ∧ SqL K H a (ns.map V.int) ∧ Draws 27720 H l ∧ 0 ≤ c ∧ c ≤ 100 ∧
  ∀ H' p ms, Same H H' → H p = none → H' p = some (.lst ((ms : List Int).map V.int)) → ms.Nodup → ms.length ≤ c.toNat → Q (.ref p) H'
/-- _law_members(owners, others, draws): some numbers -/
def spMembers : Sp := fun vs H Q _ => ∃ (a b l : Addr) (os us : List Int), vs = [.ref a, .ref b, .ref l] ∧ H a = some (.lst (os.map V.int)) ∧ H b = some (.lst (us.map V.int)) ∧ Draws 27720 H l ∧ os.length ≤ 20 ∧
  ∀ H' p ms, Same H H' → H p = none → H' p = some (.lst ((ms : List Int).map V.int)) → ms.length ≤ 200 → Q (.ref p) H'
end RH
namespace RH
open PySem L2
def cnt (ms os : List Int) : Nat := (os.filter fun o => decide (o ∈ ms)).length
def spRight29 : Sp := fun vs H Q _ => ∃ (a b : Addr) (ms os : List Int) (c : Int) (d : Bool), vs = [.ref a, .ref b, .int c, .bl d] ∧ H a = some (.lst (ms.map V.int)) ∧ H b = some (.lst (os.map V.int)) ∧ ms.length ≤ 1000 ∧ os.length ≤ 1000 ∧ os.Nodup ∧ d = decide (c ≤ (cnt ms os : Int)) ∧
  ∀ H', Same H H' → Q (.bl true) H'
def spTerms29 (C : Addr) : Sp := fun vs H Q _ => ∃ c d : Int, vs = [.int c, .int d] ∧ 1 ≤ c ∧ c ≤ 7 ∧ 0 ≤ d ∧ ∀ H' t w r, Same H H' → TermsAt H' t C c w r → OkDue c w r → Q (.ref t) H'
theorem cut_sub (ns : List Int) (lo hi : Option Int) : ∃ ms : List Int, cutV (ns.map V.int) lo hi = ms.map V.int ∧ ms.Sublist ns := by
  refine ⟨(ns.drop (HT.sIx (ns.map V.int).length 0 lo)).take (HT.sIx (ns.map V.int).length (ns.map V.int).length hi - HT.sIx (ns.map V.int).length 0 lo), ?_, (List.take_sublist _ _).trans (List.drop_sublist _ _)⟩
  unfold cutV
  rw [List.map_take, List.map_drop]
theorem cut_to (ns : List Int) (n : Nat) : cutV (ns.map V.int) none (some (n : Int)) = (ns.take n).map V.int := by
  unfold cutV
  rw [HT.sIx_none, HT.sIx_nat, List.drop_zero, Nat.sub_zero, List.map_take, List.length_map]
  rw [List.take_eq_take_iff]
  rw [List.length_map]
  omega
theorem filt_ints (p : Int → Bool) : ∀ os : List Int, (((os.map fun o => (p o, V.int o)).filter (·.1)).map (·.2)) = (os.filter p).map V.int
  | [] => rfl
  | o :: os => by
    have ih := filt_ints p os
    cases e : p o with
    | true => simp [e, ih]
    | false => simp [e, ih]
/-- those of the owners that are left are the others -/
theorem cnt_rest (ms os : List Int) : cnt (os.filter fun o => !decide (o ∈ ms)) os = os.length - cnt ms os := by
  have h1 : (os.filter fun o => decide (o ∈ os.filter fun o => !decide (o ∈ ms))) = os.filter fun o => !decide (o ∈ ms) := by
    refine List.filter_congr fun o ho => ?_
    rw [Bool.eq_iff_iff, decide_eq_true_iff, List.mem_filter]
    exact ⟨fun z => z.2, fun z => ⟨ho, z⟩⟩
  have h2 : os.length = (os.filter fun o => decide (o ∈ ms)).length + (os.filter fun o => !(fun o => decide (o ∈ ms)) o).length := by
    generalize (fun o : Int => decide (o ∈ ms)) = p
    clear h1
    induction os with
    | nil => rfl
    | cons o os ih =>
      cases e : p o with
      | true => simp only [List.filter_cons, e, if_true, Bool.not_true, Bool.false_eq_true, if_false, List.length_cons]; omega
      | false => simp only [List.filter_cons, e, if_true, Bool.not_false, Bool.false_eq_true, if_false, List.length_cons]; omega
  show (os.filter fun o => decide (o ∈ os.filter fun o => !decide (o ∈ ms))).length = _
  rw [h1]
  show _ = os.length - (os.filter fun o => decide (o ∈ ms)).length
  have h3 : os.length = (os.filter fun o => decide (o ∈ ms)).length + (os.filter fun o => !decide (o ∈ ms)).length := h2
  omega
theorem cnt_le (ms os : List Int) : cnt ms os ≤ os.length := List.length_filter_le ..
theorem ints_eqv2 (ns : List Int) : PyData.eqv (.list (ns.map PyData.int)) (.list (ns.map PyData.int)) = true := ints_eqv ns
/-- x != y, lists of the same ints -/
theorem r_neL {K : PySem.W.Frag} {H : Hp} {Q : VK} {a b : Addr} {ns : List Int} (ha : SqL K H a (ns.map V.int)) (hb : SqL K H b (ns.map V.int)) (q : Q (.bl false) H) : rNeD K (.ref a) (.ref b) H Q :=
  ⟨_, _, .lst ha (ints_dpAll ns), .lst hb (ints_dpAll ns), ints_shaped ns, ints_shaped ns, by rw [ints_eqv]; exact q⟩
/-- [o for o in owners if ..] -/
theorem lc_own {K : PySem.W.Frag} {a D : Addr} {k : Nat} {σ : St} {vs : List Nat} {H1 : Hp} {Qd : Hp → Prop} {tt : TT} {os : List Int} (p : Int → Bool) (ha : H1 a = some (.lst (os.map V.int))) (hl : os.length ≤ 1000) (hD : H1 D = none)
    (hw : ∀ x, wipe ((wipe σ vs).set k (some x)) vs = wipe σ vs) (hk : ∀ x, ((wipe σ vs).set k (some x))[k]? = some (some x))
    (test : ∀ o H', Same H1 H' → ∀ Q : Bool → Hp → Prop, Q (p o) H' → tt ((wipe σ vs).set k (some (.int o))) H' Q) (hd : ∀ H, Same H1 H → H D = some (.lst ((os.filter p).map V.int)) → Qd H) : LcGo (Itl K a) (gName k) tt (tVar k) vs σ D Qd H1 := by
  refine lc_filter (walk_list (xs := os.map V.int)) (Y' := fun i x => (os.map V.int)[i]? = some x) (fun i H x H' y => y) (os.map fun o => (p o, V.int o)) (by simp) (by rw [List.length_map]; exact hl) hD (fun H' s => SqL.of (s _ _ ha)) hw ?_ ?_ ?_
  · intro i x b y H7 hx hy s7 Q7 q7
    rw [List.getElem?_map] at hx hy
    cases z : os[i]? with
    | none => rw [z] at hx; cases hx
    | some o =>
      rw [z] at hx hy
      obtain rfl := Option.some.inj hx
      obtain ⟨rfl, _⟩ := Prod.mk.inj (Option.some.inj hy)
      exact test o H7 s7 _ (q7 H7 (Same.refl H7))
  · intro i x y H7 hx hy s7 Q7 q7
    rw [List.getElem?_map] at hx hy
    cases z : os[i]? with
    | none => rw [z] at hx; cases hx
    | some o =>
      rw [z] at hx hy
      obtain rfl := Option.some.inj hx
      obtain ⟨_, rfl⟩ := Prod.mk.inj (Option.some.inj hy)
      exact ⟨_, hk _, q7 H7 (Same.refl H7)⟩
  · intro H7 s7 hL
    rw [filt_ints] at hL
    exact hd H7 s7 hL
end RH
namespace RH
open PySem L2
/-! ### unlike numbers in the order in which they come -/
def ddS (os : List Int) (h : Int) : List Int := if h ∈ os then os else os ++ [h]
def dd (l : List Int) : List Int := l.foldl ddS []
theorem dd_snoc (l : List Int) (h : Int) : dd (l ++ [h]) = ddS (dd l) h := by
  unfold dd
  rw [List.foldl_append]
  rfl
theorem dd_go : ∀ (l os : List Int), os.Nodup → (l.foldl ddS os).Nodup ∧ (∀ j, j ∈ l.foldl ddS os ↔ j ∈ os ∨ j ∈ l) ∧ (l.foldl ddS os).length ≤ os.length + l.length
  | [], os, h => ⟨h, fun j => by simp, Nat.le_refl _⟩
  | x :: l, os, h => by
    have step : (ddS os x).Nodup ∧ (∀ j, j ∈ ddS os x ↔ j ∈ os ∨ j = x) ∧ (ddS os x).length ≤ os.length + 1 := by
      unfold ddS
      by_cases e : x ∈ os
      · rw [if_pos e]
        exact ⟨h, fun j => ⟨.inl, fun z => z.elim id fun w => w ▸ e⟩, Nat.le_succ _⟩
      · rw [if_neg e]
        refine ⟨List.nodup_append.mpr ⟨h, by simp, fun a ha b hb z => e ?_⟩, fun j => by simp, by simp⟩
        rw [List.mem_singleton] at hb
        rw [← hb, ← z]
        exact ha
    obtain ⟨a, b, c⟩ := dd_go l (ddS os x) step.1
    refine ⟨a, fun j => ?_, ?_⟩
    · rw [List.foldl_cons, b j, step.2.1 j, List.mem_cons, or_assoc]
    · have := step.2.2
      rw [List.foldl_cons, List.length_cons]
      omega
theorem dd_nodup (l : List Int) : (dd l).Nodup := (dd_go l [] List.nodup_nil).1
theorem dd_mem {l : List Int} {j : Int} : j ∈ dd l ↔ j ∈ l := by
  have := (dd_go l [] List.nodup_nil).2.1 j
  simpa [dd] using this
theorem dd_len (l : List Int) : (dd l).length ≤ l.length := by
  have := (dd_go l [] List.nodup_nil).2.2
  simpa [dd] using this
theorem dd_same {l m : List Int} (h : ∀ j, j ∈ l ↔ j ∈ m) : (dd l).length = (dd m).length :=
  ((List.perm_ext_iff_of_nodup (dd_nodup l) (dd_nodup m)).mpr fun j => by rw [dd_mem, dd_mem, h j]).length_eq
theorem dd_all {l : List Int} (h : l.Nodup) : (dd l).length = l.length :=
  ((List.perm_ext_iff_of_nodup (dd_nodup l) h).mpr fun j => dd_mem).length_eq
theorem dd_S {os : List Int} {l : List Int} {h : Int} (e : os = dd l) : dd (l ++ [h]) = if h ∈ os then os else os ++ [h] := by
  rw [dd_snoc, ← e]
  rfl
theorem take_snoc {l : List Int} {i : Nat} {h : Int} (e : l[i]? = some h) : l.take (i + 1) = l.take i ++ [h] := by
  rw [List.take_add_one, e]
  rfl
theorem dd_more : ∀ (m os : List Int), ∃ t, m.foldl ddS os = os ++ t
  | [], os => ⟨[], by simp⟩
  | x :: m, os => by
    obtain ⟨t, e⟩ := dd_more m (ddS os x)
    rw [List.foldl_cons, e]
    unfold ddS
    by_cases h : x ∈ os
    · rw [if_pos h]
      exact ⟨t, rfl⟩
    · rw [if_neg h]
      exact ⟨x :: t, by simp⟩
theorem dd_pre (l : List Int) (i : Nat) : ∃ t, dd l = dd (l.take i) ++ t := by
  obtain ⟨t, e⟩ := dd_more (l.drop i) (dd (l.take i))
  refine ⟨t, ?_⟩
  rw [← e]
  unfold dd
  rw [← List.foldl_append, List.take_append_drop]
/-- the first c unlike ones are those of any beginning that has c -/
theorem dd_first {l : List Int} {i c : Nat} (h : (dd (l.take i)).length = c) : (dd l).take c = dd (l.take i) := by
  obtain ⟨t, e⟩ := dd_pre l i
  rw [e, ← h, List.take_left]
/-! ### pairs (place, house) -/
def PtAt (H : Hp) (v : V) (p : Int × Int) : Prop := ∃ t, v = .ref t ∧ H t = some (.tup [.int p.1, .int p.2])
def PtsAt (H : Hp) (xs : List V) (ps : List (Int × Int)) : Prop := xs.length = ps.length ∧ ∀ (i : Nat) x p, xs[i]? = some x → ps[i]? = some p → PtAt H x p
theorem PtAt.mono {H H' : Hp} {v : V} {p : Int × Int} (h : PtAt H v p) (s : Same H H') : PtAt H' v p := by
  obtain ⟨t, rfl, e⟩ := h
  exact ⟨t, rfl, s _ _ e⟩
theorem PtsAt.mono {H H' : Hp} {xs : List V} {ps : List (Int × Int)} (h : PtsAt H xs ps) (s : Same H H') : PtsAt H' xs ps := ⟨h.1, fun i x p a b => (h.2 i x p a b).mono s⟩
theorem PtsAt.nil {H : Hp} : PtsAt H [] [] := ⟨rfl, fun i x p h => by simp at h⟩
theorem PtsAt.snoc {H : Hp} {xs : List V} {ps : List (Int × Int)} {v : V} {p : Int × Int} (h : PtsAt H xs ps) (hp : PtAt H v p) : PtsAt H (xs ++ [v]) (ps ++ [p]) := by
  refine ⟨by rw [List.length_append, List.length_append, h.1]; rfl, fun i x q a b => ?_⟩
  by_cases lt : i < xs.length
  · rw [List.getElem?_append_left lt] at a
    rw [List.getElem?_append_left (by rw [← h.1]; exact lt)] at b
    exact h.2 i x q a b
  · rw [List.getElem?_append_right (by omega)] at a
    rw [List.getElem?_append_right (by rw [← h.1]; omega), ← h.1] at b
    cases z : i - xs.length with
    | zero =>
      rw [z] at a b
      cases a
      cases b
      exact hp
    | succ n =>
      rw [z] at a
      simp at a
theorem PtsAt.at_ {H : Hp} {xs : List V} {ps : List (Int × Int)} (h : PtsAt H xs ps) {i : Nat} (hi : i < ps.length) : ∃ t, xs[i]? = some (.ref t) ∧ H t = some (.tup [.int ps[i].1, .int ps[i].2]) := by
  have hx : i < xs.length := by rw [h.1]; exact hi
  obtain ⟨t, e, z⟩ := h.2 i xs[i] ps[i] (List.getElem?_eq_getElem hx) (List.getElem?_eq_getElem hi)
  exact ⟨t, by rw [List.getElem?_eq_getElem hx, e], z⟩
/-- points that make a ring with so many copies -/
structure OkPts (ps : List (Int × Int)) (c : Int) : Prop where
  pl : ∀ p ∈ ps, 0 ≤ p.1 ∧ p.1 < 256
  hs : ∀ p ∈ ps, 0 ≤ p.2 ∧ p.2 ≤ 1000000000000
  nd : (ps.map (·.1)).Nodup
  few : ps.length ≤ 300
  c1 : 1 ≤ c
  c7 : c ≤ 7
  many : c ≤ ((dd (ps.map (·.2))).length : Int)
/-- owners of a place: so many unlike houses -/
structure OwnOk (hs : List Int) (c : Int) (os : List Int) : Prop where
  nd : os.Nodup
  len : (os.length : Int) = c
  sub : ∀ o ∈ os, o ∈ hs
/-- the owners of a place, by ascending points -/
def turn (ps : List (Int × Int)) (q : Int) : List (Int × Int) := (ps.filter fun p => decide (q ≤ p.1)) ++ ps.filter fun p => decide (p.1 < q)
def own (ps : List (Int × Int)) (c q : Int) : List Int := (dd ((turn ps q).map (·.2))).take c.toNat
theorem turn_at {ps : List (Int × Int)} {i : Nat} {q : Int} (h1 : ∀ p ∈ ps.take i, p.1 < q) (h2 : ∀ p ∈ ps.drop i, q ≤ p.1) : turn ps q = ps.drop i ++ ps.take i := by
  have e1 : (ps.take i).filter (fun p => decide (q ≤ p.1)) = [] := List.filter_eq_nil_iff.mpr fun p hp => by
    have := h1 p hp
    rw [decide_eq_true_iff]
    omega
  have e2 : (ps.drop i).filter (fun p => decide (q ≤ p.1)) = ps.drop i := List.filter_eq_self.mpr fun p hp => decide_eq_true (h2 p hp)
  have e3 : (ps.take i).filter (fun p => decide (p.1 < q)) = ps.take i := List.filter_eq_self.mpr fun p hp => decide_eq_true (h1 p hp)
  have e4 : (ps.drop i).filter (fun p => decide (p.1 < q)) = [] := List.filter_eq_nil_iff.mpr fun p hp => by
    have := h2 p hp
    rw [decide_eq_true_iff]
    omega
  unfold turn
  have f1 : ps.filter (fun p => decide (q ≤ p.1)) = ps.drop i := by
    rw [← List.take_append_drop i ps, List.filter_append, e1, e2, List.nil_append, List.take_append_drop]
  have f2 : ps.filter (fun p => decide (p.1 < q)) = ps.take i := by
    rw [← List.take_append_drop i ps, List.filter_append, e3, e4, List.append_nil, List.take_append_drop]
  rw [f1, f2]
def Asc (ps : List (Int × Int)) : Prop := ps.Pairwise fun a b => a.1 < b.1
theorem Asc.take_lt {ps : List (Int × Int)} (h : Asc ps) {i j : Nat} (hi : i < j) (hj : j < ps.length) : ps[i].1 < ps[j].1 := List.pairwise_iff_getElem.mp h i j (by omega) hj hi
/-- _first_met(houses, copies) -/
def spMet : Sp := fun vs H Q _ => ∃ (a : Addr) (hs : List Int) (c : Int), vs = [.ref a, .int c] ∧ H a = some (.lst (hs.map V.int)) ∧ hs.length ≤ 600 ∧ c ≤ ((dd hs).length : Int) ∧ 1 ≤ c ∧
  ∀ H' p os, Same H H' → H p = none → H' p = some (.lst (os.map V.int)) → OwnOk hs c os → os = (dd hs).take c.toNat → Q (.ref p) H'
/-- entry q of the table at fs -/
def OwnAt (H : Hp) (ps : List (Int × Int)) (c : Int) (fs : List V) (q : Nat) : Prop := ∃ b, fs[q]? = some (.ref b) ∧ H b = some (.lst ((own ps c q).map V.int)) ∧ OwnOk (ps.map (·.2)) c (own ps c q)
theorem OwnAt.mono {H H' : Hp} {ps : List (Int × Int)} {c : Int} {fs : List V} {q : Nat} (h : OwnAt H ps c fs q) (s : Same H H') : OwnAt H' ps c fs q := by
  obtain ⟨b, e, z, k⟩ := h
  exact ⟨b, e, s _ _ z, k⟩
/-- _owners_by_place(points, copies), of ascending points -/
def spByPlace (K : PySem.W.Frag) : Sp := fun vs H Q _ => ∃ (a : Addr) (xs : List V) (ps : List (Int × Int)) (c : Int), vs = [.ref a, .int c] ∧ H a = some (.tup xs) ∧ PtsAt H xs ps ∧ OkPts ps c ∧ Asc ps ∧
  ∀ H' p fs, Same H H' → H p = none → H' p = some (.lst fs) → fs.length = 256 → (∀ q, q < 256 → OwnAt H' ps c fs q) → Q (.ref p) H'
def spPointT (K : PySem.W.Frag) : Sp := fun vs H Q _ => ∃ (x : V) (p : Int × Int), vs = [x] ∧ PtAt H x p ∧ 0 ≤ p.1 ∧ p.1 < 256 ∧ 0 ≤ p.2 ∧ p.2 ≤ 1000000000000 ∧ ∀ H', Same H H' → Q (.bl true) H'
def spPointsT (K : PySem.W.Frag) : Sp := fun vs H Q _ => ∃ (a : Addr) (xs : List V) (ps : List (Int × Int)) (c : Int), vs = [.ref a] ∧ H a = some (.lst xs) ∧ PtsAt H xs ps ∧ OkPts ps c ∧ ∀ H', Same H H' → Q (.bl true) H'
/-- a ring in hand: its copies, its points ascending -/
def RingAt (H : Hp) (x C : Addr) (c : Int) (ps : List (Int × Int)) : Prop := ∃ dx tp ow xs fs, H x = some (.ins C dx [("_copies", .int c), ("_points", .ref tp), ("_owners", .ref ow)]) ∧ H tp = some (.tup xs) ∧ PtsAt H xs ps ∧ OkPts ps c ∧ Asc ps ∧ H ow = some (.lst fs) ∧ fs.length = 256 ∧ ∀ q, q < 256 → OwnAt H ps c fs q
theorem RingAt.mono {H H' : Hp} {x C : Addr} {c : Int} {ps : List (Int × Int)} (h : RingAt H x C c ps) (s : Same H H') : RingAt H' x C c ps := by
  obtain ⟨dx, tp, ow, xs, fs, a, b, p, k, z, d, e, g⟩ := h
  exact ⟨dx, tp, ow, xs, fs, s _ _ a, s _ _ b, p.mono s, k, z, s _ _ d, e, fun q hq => (g q hq).mono s⟩
/-- Ring(points, copies), of points that make one -/
def spRingT (C : Addr) : Sp := fun vs H Q E => ∃ (x dx a : Addr) (xs : List V) (ps : List (Int × Int)) (c : Int), vs = [.ref x, .ref a, .int c] ∧ H x = some (.ins C dx []) ∧ H a = some (.lst xs) ∧ PtsAt H xs ps ∧ OkPts ps c ∧
  ∀ H' qs, (∀ y o, y ≠ x → H y = some o → H' y = some o) → qs.Perm ps → RingAt H' x C c qs → Q .non H'
def spRingCopies (C : Addr) : Sp := fun vs H Q _ => ∃ x c ps, vs = [.ref x] ∧ RingAt H x C c ps ∧ Q (.int c) H
def spOwners (C : Addr) : Sp := fun vs H Q _ => ∃ x i c ps, vs = [.ref x, .int i] ∧ RingAt H x C c ps ∧ 0 ≤ i ∧ i < 256 ∧ ∀ H' p, Same H H' → H p = none → H' p = some (.lst ((own ps c i).map V.int)) → OwnOk (ps.map (·.2)) c (own ps c i) → Q (.ref p) H'
def spOwnersOf (C : Addr) : Sp := fun vs H Q _ => ∃ x z c ps, vs = [.ref x, .str z] ∧ RingAt H x C c ps ∧ OkS z ∧ ∀ H' p, Same H H' → H p = none → H' p = some (.lst ((own ps c (plc z)).map V.int)) → OwnOk (ps.map (·.2)) c (own ps c (plc z)) → Q (.ref p) H'
theorem plc_in (z : Str) : 0 ≤ plc z ∧ plc z < 256 := by
  rw [plc_eq]
  exact ⟨Int.emod_nonneg _ (by decide), Int.emod_lt_of_pos _ (by decide)⟩
/-! ### comprehensions over a walk, by an invariant -/
theorem sc_it {w : World} {J : It} {n : Nat} {G : Hp → Prop} {Y : Nat → Hp → V → Hp → Prop} (wk : Walk J n G Y) {g : TG} {tt : TT} {te : TE} {vs : List Nat} {σ : L2.St} {H1 : Hp} {D : Addr} {Qd : Hp → Prop} (Pv : Nat → Hp → Prop) (h0 : Pv 0 (upd H1 D (SetO w D (fun _ => false) 0))) (hG : ∀ i H, i ≤ n → Pv i H → G H)
    (hs : ∀ i x H H', i < n → Pv i H → Y i H x H' → g x (wipe σ vs) H' fun σ2 H2 => wipe σ2 vs = wipe σ vs ∧ tt σ2 H2 fun b H3 =>
      if b = true then te σ2 H3 fun y H4 => ∃ (k : Int) (S : Int → Bool) (n : Nat), y = .int k ∧ H4 D = some (SetO w D S n) ∧ n + 1 < scanBound ∧ Pv (i + 1) (upd H4 D (SetO w D (fun j => S j || decide (j = k)) (if S k = true then n else n + 1))) else Pv (i + 1) H3) (hd : ∀ H, Pv n H → Qd H) :
    ScGo w J g tt te vs σ D Qd H1 := by
  refine ⟨fun i m H => m = n - i ∧ i ≤ n ∧ Pv i H, ⟨n, by simp, Nat.zero_le _, h0⟩, ?_⟩
  rintro i m H ⟨rfl, hi, p⟩
  have q := hG i H hi p
  by_cases hlt : i < n
  · exact .inr ⟨wk.goes i H hlt q, Pv (i + 1), fun H' p' => ⟨n - (i + 1), by omega, rfl, hlt, p'⟩, fun x H' y => hs i x H H' hlt p (wk.yields i H x H' hlt q y)⟩
  · have e : i = n := by omega
    subst e
    exact .inl ⟨wk.stops H q, hd H p⟩
/-- {k for ..} of reckoned ints, nothing that stood is changed: as many as there are unlike ones -/
theorem sc_pure {w : World} {J : It} {n : Nat} {G : Hp → Prop} {Y : Nat → Hp → V → Hp → Prop} {Y' : Nat → V → Prop} (wk : Walk J n G Y) (hY : ∀ i H x H', Y i H x H' → H' = H ∧ Y' i x) {g : TG} {te : TE} {vs : List Nat} {σ : L2.St} {H1 : Hp} {D : Addr} {Qd : Hp → Prop} (ks : List Int) (hn : ks.length = n) (hs : n ≤ 1000) (hD : H1 D = none)
    (hG : ∀ H, Same H1 H → G H)
    (step : ∀ i x k H, Y' i x → ks[i]? = some k → Same H1 H → ∀ Q : VK, (∀ H', Same H H' → Q (.int k) H') → g x (wipe σ vs) H fun σ2 H2 => wipe σ2 vs = wipe σ vs ∧ te σ2 H2 Q)
    (hd : ∀ H, Same H1 H → H D = some (SetO w D (fun j => decide (j ∈ ks)) (dd ks).length) → Qd H) : ScGo w J g tYes te vs σ D Qd H1 := by
  refine sc_it wk (fun i H => Same H1 H ∧ H D = some (SetO w D (fun j => decide (j ∈ ks.take i)) (dd (ks.take i)).length)) ⟨same_new hD, ?_⟩ (fun i H _ p => hG H p.1) ?_ ?_
  · rw [upd_same]
    simp [dd]
  · rintro i x H H' hi ⟨s, at_⟩ y
    obtain ⟨rfl, y'⟩ := hY i H x H' y
    obtain ⟨kk, hk⟩ : ∃ kk, ks[i]? = some kk := ⟨_, List.getElem?_eq_getElem (by omega)⟩
    refine step i x kk H' y' hk s _ fun H4 s4 => ⟨kk, _, _, rfl, s4 _ _ at_, ?_, fun b o e => ?_, ?_⟩
    · have h1 := dd_len (ks.take i)
      rw [List.length_take] at h1
      have : scanBound = 4096 := rfl
      omega
    · rw [upd_ne (ne_of_none e hD)]
      exact s4 _ _ (s _ _ e)
    · rw [upd_same, take_snoc hk, dd_S rfl]
      have e1 : (fun j => decide (j ∈ ks.take i) || decide (j = kk)) = fun j => decide (j ∈ ks.take i ++ [kk]) := by
        funext j
        rw [Bool.eq_iff_iff, Bool.or_eq_true, decide_eq_true_iff, decide_eq_true_iff, decide_eq_true_iff, List.mem_append, List.mem_singleton]
      have e2 : (if decide (kk ∈ ks.take i) = true then (dd (ks.take i)).length else (dd (ks.take i)).length + 1) = (if kk ∈ dd (ks.take i) then dd (ks.take i) else dd (ks.take i) ++ [kk]).length := by
        by_cases z : kk ∈ ks.take i
        · rw [if_pos (decide_eq_true z), if_pos (dd_mem.mpr z)]
        · rw [if_neg (by rw [decide_eq_false z]; decide), if_neg fun w => z (dd_mem.mp w)]
          simp
      rw [e1, e2]
  · rintro H ⟨s, at_⟩
    rw [← hn, List.take_length] at at_
    exact hd H s at_
/-- [v for ..] to a target of any form, nothing that stood is changed -/
theorem lc_pureG {J : It} {n : Nat} {G : Hp → Prop} {Y : Nat → Hp → V → Hp → Prop} {Y' : Nat → V → Prop} (wk : Walk J n G Y) (hY : ∀ i H x H', Y i H x H' → H' = H ∧ Y' i x) {g : TG} {te : TE} {vs : List Nat} {σ : L2.St} {H1 : Hp} {D : Addr} {Qd : Hp → Prop} (ys : List V) (hn : ys.length = n) (hs : n ≤ 1000) (hD : H1 D = none)
    (hG : ∀ H, Same H1 H → G H)
    (step : ∀ i x y H, Y' i x → ys[i]? = some y → Same H1 H → ∀ Q : VK, (∀ H', Same H H' → Q y H') → g x (wipe σ vs) H fun σ2 H2 => wipe σ2 vs = wipe σ vs ∧ te σ2 H2 Q)
    (hd : ∀ H, Same H1 H → H D = some (.lst ys) → Qd H) : LcGo J g tYes te vs σ D Qd H1 := by
  refine lc_it wk (g := g) (tt := tYes) (te := te) (fun i H => Same H1 H ∧ H D = some (.lst (ys.take i))) ⟨same_new hD, ?_⟩ (fun i H _ p => hG H p.1) ?_ ?_
  · rw [upd_same]
    simp
  · rintro i x H H' hi ⟨s, at_⟩ y
    obtain ⟨rfl, y'⟩ := hY i H x H' y
    obtain ⟨v, hv⟩ : ∃ v, ys[i]? = some v := ⟨_, List.getElem?_eq_getElem (by omega)⟩
    refine step i x v H' y' hv s _ fun H4 s4 => ⟨_, s4 _ _ at_, ?_, fun b o e => ?_, ?_⟩
    · rw [List.length_take]
      exact Nat.lt_of_le_of_lt (Nat.min_le_left _ _) (small1000 (by omega))
    · rw [upd_ne (ne_of_none e hD)]
      exact s4 _ _ (s _ _ e)
    · rw [upd_same, List.take_add_one, hv]
      rfl
  · rintro H ⟨s, at_⟩
    rw [← hn, List.take_length] at at_
    exact hd H s at_
theorem r_meth {C : Addr} {m : Str} {sp : Sp} {dvs : List V} {E : XK} {ta : TE} {t : TA} {σ : L2.St} {H : Hp} {Q : VK} (h : ta σ H fun x H1 => ∃ a dx fs, x = V.ref a ∧ H1 a = some (.ins C dx fs) ∧ fs.lookup m = none ∧ t σ H1 fun vs H2 => sp (x :: (vs ++ dvs)) H2 Q E) : tMeth C m sp dvs E ta t σ H Q := h
theorem RingAt.look {H : Hp} {x C : Addr} {c : Int} {ps : List (Int × Int)} (h : RingAt H x C c ps) : ∃ dx tp ow, H x = some (.ins C dx [("_copies", .int c), ("_points", .ref tp), ("_owners", .ref ow)]) := by
  obtain ⟨dx, tp, ow, xs, fs, e, _⟩ := h
  exact ⟨dx, tp, ow, e⟩
theorem iteP {A B : Prop} {b : Bool} (e : b = true) (h : A) : if b = true then A else B := by
  rw [if_pos e]
  exact h
theorem iteN {A B : Prop} {b : Bool} (e : b = false) (h : B) : if b = true then A else B := by
  rw [if_neg (by rw [e]; decide)]
  exact h
end RH
namespace RH
open PySem L2
def drawF (ds : List Int) (k : Int) : Int := (ds[k.toNat]?).getD 0
def DrawsOk (ds : List Int) : Prop := ds.length ≤ 400 ∧ ∀ d ∈ ds, 0 ≤ d ∧ d < 27720
theorem drawF_in {ds : List Int} (h : DrawsOk ds) (k : Int) : 0 ≤ drawF ds k ∧ drawF ds k < 27720 := by
  unfold drawF
  cases e : ds[k.toNat]? with
  | none => exact ⟨by decide, by decide⟩
  | some d => exact h.2 d (List.mem_of_getElem? e)
/-- _law_draw(draws, k), the same each time -/
def spDrawF : Sp := fun vs H Q _ => ∃ (l : Addr) (ds : List Int) (k : Int), vs = [.ref l, .int k] ∧ H l = some (.lst (ds.map V.int)) ∧ 0 ≤ k ∧ Q (.int (drawF ds k)) H
def spPool (K : PySem.W.Frag) : Sp := fun vs H Q _ => ∃ (a l : Addr) (ns ds : List Int), vs = [.ref a, .ref l] ∧ SqL K H a (ns.map V.int) ∧ H l = some (.lst (ds.map V.int)) ∧ DrawsOk ds ∧
  ∀ H' p ms, Same H H' → H p = none → H' p = some (.lst ((ms : List Int).map V.int)) → ms.length = 9 → (∀ m ∈ ms, 0 ≤ m ∧ m ≤ 1000000000000) → Q (.ref p) H'
def spLawPoints : Sp := fun vs H Q _ => ∃ (l pl : Addr) (ds ms : List Int) (first : Int), vs = [.ref l, .int first, .ref pl] ∧ H l = some (.lst (ds.map V.int)) ∧ DrawsOk ds ∧ 0 ≤ first ∧ H pl = some (.lst (ms.map V.int)) ∧ ms.length = 9 ∧ (∀ m ∈ ms, 0 ≤ m ∧ m ≤ 1000000000000) ∧
  ∀ H' p xs ps, Same H H' → H p = none → H' p = some (.lst xs) → PtsAt H' xs ps → OkPts ps 1 → Q (.ref p) H'
def spHouses : Sp := fun vs H Q _ => ∃ (a : Addr) (xs : List V) (ps : List (Int × Int)), vs = [.ref a] ∧ H a = some (.lst xs) ∧ PtsAt H xs ps ∧ ps.length ≤ 300 ∧
  ∀ H' p, Same H H' → H p = none → H' p = some (.lst ((dd (ps.map (·.2))).map V.int)) → Q (.ref p) H'
def spCopies : Sp := fun vs H Q _ => ∃ (a : Addr) (xs : List V) (ps : List (Int × Int)) (d : Int), vs = [.ref a, .int d] ∧ H a = some (.lst xs) ∧ PtsAt H xs ps ∧ OkPts ps 1 ∧ 0 ≤ d ∧ ∀ H' c, Same H H' → OkPts ps c → Q (.int c) H'
/-- other places by odd steps -/
theorem odd_steps {d s : Int} {i j : Nat} (hs : ∃ m, s = 2 * m + 1) (s0 : 0 ≤ s) (hi : i < j) (hj : j < 256) : ¬ (d + (i : Int) * s) % 256 = (d + (j : Int) * s) % 256 := by
  intro e
  obtain ⟨m, rfl⟩ := hs
  have h1 : (256 : Int) ∣ ((j : Int) - i) * (2 * m + 1) := by
    have h2 : (256 : Int) ∣ (d + (j : Int) * (2 * m + 1)) - (d + (i : Int) * (2 * m + 1)) := by omega
    have h3 : (d + (j : Int) * (2 * m + 1)) - (d + (i : Int) * (2 * m + 1)) = ((j : Int) - i) * (2 * m + 1) := by
      rw [Int.sub_mul]
      omega
    rwa [h3] at h2
  obtain ⟨k, hk⟩ : ∃ k : Nat, 2 * m + 1 = (k : Int) := ⟨(2 * m + 1).toNat, by omega⟩
  obtain ⟨t, ht⟩ : ∃ t : Nat, (j : Int) - i = (t : Int) := ⟨j - i, by omega⟩
  rw [hk, ht] at h1
  have h4 : 256 ∣ t * k := by exact_mod_cast h1
  have c2 : Nat.Coprime 2 k := by
    have : k % 2 = 1 := by omega
    unfold Nat.Coprime
    rw [Nat.gcd_rec, this]
    decide
  have c : Nat.Coprime 256 k := Nat.Coprime.pow_left 8 c2
  have h5 : 256 ∣ t := c.dvd_of_dvd_mul_right h4
  have := Nat.le_of_dvd (by omega) h5
  omega
theorem PtsAt.put {H : Hp} {xs ys zs : List V} {ps : List (Int × Int)} {l : Addr} (h : PtsAt H xs ps) (hl : H l = some (.lst ys)) : PtsAt (upd H l (.lst zs)) xs ps := ⟨h.1, fun i x p a b => by
  obtain ⟨t, rfl, e⟩ := h.2 i x p a b
  exact ⟨t, rfl, by rw [upd_ne (fun z => by rw [z, hl] at e; cases e)]; exact e⟩⟩
/-! ### lots of owners -/
def spStrangers : Sp := fun vs H Q _ => ∃ (a b : Addr) (hs os : List Int), vs = [.ref a, .ref b] ∧ H a = some (.lst (hs.map V.int)) ∧ H b = some (.lst (os.map V.int)) ∧ hs.length ≤ 300 ∧
  ∀ H' p, Same H H' → H p = none → H' p = some (.lst ((hs.filter fun o => !decide (o ∈ os)).map V.int)) → Q (.ref p) H'
def spLots : Sp := fun vs H Q _ => ∃ (b : Addr) (os : List Int) (n : Int), vs = [.ref b, .int n] ∧ H b = some (.lst (os.map V.int)) ∧ os.length ≤ 10 ∧
  ∀ H' t pc pl (ch le : List Int), Same H H' → H' t = some (.tup [.ref pc, .ref pl]) → H' pc = some (.lst (ch.map V.int)) → H' pl = some (.lst (le.map V.int)) → (ch ++ le).Perm os → Q (.ref t) H'
def spHas (C : Addr) : Sp := fun vs H Q _ => ∃ (a b t : Addr) (ms os : List Int) (c w r : Int), vs = [.ref a, .ref b, .ref t] ∧ H a = some (.lst (ms.map V.int)) ∧ H b = some (.lst (os.map V.int)) ∧ TermsAt H t C c w r ∧ ms.length ≤ 1000 ∧ os.length ≤ 1000 ∧ os.Nodup ∧
  ∀ H' p, Same H H' → H p = none → H' p = some (.lst [.bl (decide (w ≤ (cnt ms os : Int))), .bl (decide (r ≤ (cnt ms os : Int))), .bl (decide (hand c w r ≤ (cnt ms os : Int)))]) → Q (.ref p) H'
def spMeets (C : Addr) : Sp := fun vs H Q _ => ∃ (b t p : Addr) (os ss : List Int) (c w r m n : Int), vs = [.ref b, .ref t, .int m, .int n, .ref p] ∧ H b = some (.lst (os.map V.int)) ∧ os.Nodup ∧ (os.length : Int) = c ∧ c ≤ 7 ∧ TermsAt H t C c w r ∧ OkDue c w r ∧ H p = some (.lst (ss.map V.int)) ∧ ss.length ≤ 300 ∧ (∀ x ∈ ss, x ∉ os) ∧
  ∀ H', Same H H' → Q (.bl true) H'
def spAllMeet (C : Addr) : Sp := fun vs H Q _ => ∃ (b t p : Addr) (os ss : List Int) (c w r m : Int), vs = [.ref b, .ref t, .int m, .ref p] ∧ H b = some (.lst (os.map V.int)) ∧ os.Nodup ∧ (os.length : Int) = c ∧ c ≤ 7 ∧ TermsAt H t C c w r ∧ OkDue c w r ∧ H p = some (.lst (ss.map V.int)) ∧ ss.length ≤ 300 ∧ (∀ x ∈ ss, x ∉ os) ∧
  ∀ H', Same H H' → Q (.bl true) H'
/-- as many as the list that has just the owners among the members -/
theorem cnt_is {ms os l : List Int} (no : os.Nodup) (nl : l.Nodup) (h : ∀ o, o ∈ l ↔ o ∈ os ∧ o ∈ ms) : cnt ms os = l.length := by
  unfold cnt
  refine ((List.perm_ext_iff_of_nodup (no.filter _) nl).mpr fun o => ?_).length_eq
  rw [List.mem_filter, decide_eq_true_iff, h o]
/-- one list in another, unlike members: no longer -/
theorem le_of_sub {l m : List Int} (nl : l.Nodup) (nm : m.Nodup) (h : ∀ o ∈ l, o ∈ m) : l.length ≤ m.length := by
  have := cnt_is (ms := l) nm nl fun o => ⟨fun z => ⟨h o z, z⟩, fun z => z.2⟩
  have := cnt_le l m
  omega
end RH
namespace RH
open PySem PySem.Spec PyProof.Rows L2
theorem lift_perm {α β : Type} {f : α → β} : ∀ {l : List α} {out : List β}, out.Perm (l.map f) → ∃ zs : List α, zs.Perm l ∧ zs.map f = out
  | [], out, h => ⟨[], .nil, (List.Perm.eq_nil h).symm⟩
  | a :: l, out, h => by
    obtain ⟨s, t, rfl⟩ := List.append_of_mem (h.mem_iff.mpr (List.mem_cons_self : f a ∈ f a :: l.map f))
    have h2 : (s ++ t).Perm (l.map f) := (List.perm_middle.symm.trans h).cons_inv
    obtain ⟨zs, p, e⟩ := lift_perm h2
    refine ⟨zs.take s.length ++ a :: zs.drop s.length, ?_, ?_⟩
    · refine List.perm_middle.trans (List.Perm.cons a ?_)
      rw [List.take_append_drop]
      exact p
    · rw [List.map_append, List.map_cons, List.map_take, List.map_drop, e, List.take_left, List.drop_left]
/-- the int that a tuple begins with -/
def fstI (h : Heap) : Value → Int
  | .ref b => match h.get? b with
    | some o => match o.data with
      | .seq its _ => match its[0]? with
        | some (Value.int c _) => c
        | _ => 0
      | _ => 0
    | none => 0
  | _ => 0
/-- pairs whose firsts are different ints -/
structure IntPairs (h : Heap) (vs : List Value) : Prop where
  pair : ∀ v ∈ vs, ∃ (b : Addr) (o : Obj) (c : Int) (t : Tok) (u : Addr) (n : Nat), v = .ref b ∧ h.get? b = some o ∧ o.cls = .type "tuple" ∧ o.data = .seq #[.int c t, .ref u] n
  one : ∀ v ∈ vs, ∀ u ∈ vs, fstI h v = fstI h u → v = u
theorem fstI_at {h : Heap} {b : Addr} {o : Obj} {c : Int} {t : Tok} {u : Value} {n : Nat} (e : h.get? b = some o) (d : o.data = .seq #[Value.int c t, u] n) : fstI h (.ref b) = c := by
  simp [fstI, e, d]
theorem IntPairs.keeps {h h' : Heap} {vs : List Value} (p : IntPairs h vs) (k : ∀ b o, h.get? b = some o → o.cls = .type "tuple" → h'.get? b = some o) : IntPairs h' vs ∧ ∀ v ∈ vs, fstI h' v = fstI h v := by
  have e : ∀ v ∈ vs, fstI h' v = fstI h v := fun v hv => by
    obtain ⟨b, o, c, t, u, n, rfl, ho, hc, hd⟩ := p.pair v hv
    rw [fstI_at ho hd, fstI_at (k _ _ ho hc) hd]
  refine ⟨⟨fun v hv => ?_, fun v hv u hu z => p.one v hv u hu (by rw [← e v hv, ← e u hu]; exact z)⟩, e⟩
  obtain ⟨b, o, c, t, u, n, rfl, ho, hc, hd⟩ := p.pair v hv
  exact ⟨b, o, c, t, u, n, rfl, k _ _ ho hc, hc, hd⟩
theorem inj_on {α β : Type} {f : α → β} : ∀ {l : List α}, (l.map f).Nodup → ∀ {x y : α}, x ∈ l → y ∈ l → f x = f y → x = y
  | a :: l, h, x, y, hx, hy, e => by
    rw [List.map_cons, List.nodup_cons] at h
    rcases List.mem_cons.mp hx with g1 | g1
    · rcases List.mem_cons.mp hy with g2 | g2
      · rw [g1, g2]
      · exact absurd (List.mem_map.mpr ⟨y, g2, by rw [← e, g1]⟩) h.1
    · rcases List.mem_cons.mp hy with g2 | g2
      · exact absurd (List.mem_map.mpr ⟨x, g1, by rw [e, g2]⟩) h.1
      · exact inj_on h.2 g1 g2 e
def ltF (k : Value → Int) (v u : Value) : Bool := decide (k v < k u)
theorem swoF (k : Value → Int) : SrtO.Swo (ltF k) := by
  refine ⟨fun x y h => ?_, fun x y z h1 h2 => ?_⟩
  · have a := of_decide_eq_true (p := k x < k y) h
    exact decide_eq_false (p := k y < k x) (by omega)
  · have a := of_decide_eq_false (p := k y < k x) h1
    have b := of_decide_eq_false (p := k z < k y) h2
    exact decide_eq_false (p := k z < k x) (by omega)
section
variable {prog : Program} {w : World} {A : Around} {s : Shared}
theorem cmpF {vs : List Value} {k : Value → Int} (hp : IntPairs s.heap vs) (hk : ∀ v ∈ vs, fstI s.heap v = k v) : SrtO.Cmp prog w A s (tuples' true) (fun p => p.1 ∈ vs) (SrtO.lt2 (ltF k)) := by
  intro p q hm hm'
  obtain ⟨b, o, c, t, u, n, e, ho, hc, hd⟩ := hp.pair _ hm
  obtain ⟨b', o', c', t', u', n', e', ho', hc', hd'⟩ := hp.pair _ hm'
  have k1 : k p.1 = c := by rw [← hk _ hm, e, fstI_at ho hd]
  have k2 : k q.1 = c' := by rw [← hk _ hm', e', fstI_at ho' hd']
  show wpAny (model prog w) A (keyLt' (tuples' true) p.1 q.1) (fun r s' => s' = s ∧ r = ltF k p.1 q.1) (fun _ _ => False) s
  have er : ltF k p.1 q.1 = decide (c < c') := by
    unfold ltF
    rw [k1, k2]
  rw [er]
  by_cases z : c = c'
  · have same : p.1 = q.1 := hp.one _ hm _ hm' (by rw [hk _ hm, hk _ hm', k1, k2, z])
    have bb : b = b' := Value.ref.inj (e.symm.trans (same.trans e'))
    have uu : u = u' := by
      have oo : o = o' := Option.some.inj (ho.symm.trans ((congrArg s.heap.get? bb).trans ho'))
      have dd : Data.seq #[Value.int c t, .ref u] n = Data.seq #[Value.int c' t', .ref u'] n' := hd.symm.trans ((congrArg Obj.data oo).trans hd')
      injection dd with d1 d2
      have g : (#[Value.int c t, .ref u])[1]? = (#[Value.int c' t', .ref u'])[1]? := by rw [d1]
      simpa using g
    rw [e, e']
    refine PySem.W.kat_lt ho hd ho' hd' ?_
    show PySem.W.KatLex prog w A true (decide (2 < 2)) _ [(.int c t, .int c' t'), (.ref u, .ref u')] 0 s
    refine PySem.W.kat_cons (SeqAt.EqAt.int_int c t c' t' prog w _ _ ?_)
    refine PySem.W.kat_go (fun _ => ?_) (fun e1 => absurd z (by simpa using e1))
    rw [← uu]
    refine PySem.W.kat_yes (PySem.W.kat_cons (SeqAt.EqAt.same (.ref u) prog w _ _ ?_))
    refine PySem.W.kat_yes (PySem.W.kat_nil ⟨rfl, ?_⟩)
    rw [z]
    exact (decide_eq_false (Int.lt_irrefl _)).symm
  · rw [e, e']
    refine PySem.W.kat_lt ho hd ho' hd' ?_
    show PySem.W.KatLex prog w A true (decide (2 < 2)) _ [(.int c t, .int c' t'), (.ref u, .ref u')] 0 s
    refine PySem.W.kat_cons (SeqAt.EqAt.int_int c t c' t' prog w _ _ ?_)
    refine PySem.W.kat_go (fun e1 => absurd (by simpa using e1) z) (fun _ => ?_)
    exact PySem.W.kat_no (oneLt_int ⟨rfl, rfl⟩)
theorem sortableF {a : Addr} {vs : List Value} {k : Value → Int} (h0 : 0 < vs.length) (hp : IntPairs s.heap vs) (hk : ∀ v ∈ vs, fstI s.heap v = k v) (ha : ∀ o, s.heap.get? a = some o → o.cls ≠ .type "tuple") : SrtO.SortableO prog w A s a vs (ltF k) := by
  intro h' keep
  obtain ⟨hp', hk'⟩ := hp.keeps (h' := h') fun b o e c => keep b o (fun z => ha o (z ▸ e) c) e
  obtain ⟨fs, t1, t2, t3⟩ : ∃ fs : List Value, PySem.W.KatTups h' vs fs ∧ fs.length = vs.length ∧ ∀ f ∈ fs, ∃ (c : Int) (t : Tok), f = .int c t := by
    have go : ∀ us : List Value, (∀ v ∈ us, v ∈ vs) → ∃ fs : List Value, PySem.W.KatTups h' us fs ∧ fs.length = us.length ∧ ∀ f ∈ fs, ∃ (c : Int) (t : Tok), f = .int c t := by
      intro us
      induction us with
      | nil => exact fun _ => ⟨[], trivial, rfl, fun _ m => nomatch m⟩
      | cons v us ih =>
        intro hin
        obtain ⟨fs, t1, t2, t3⟩ := ih fun u hu => hin u (List.mem_cons_of_mem _ hu)
        obtain ⟨b, o, c, t, u, n, rfl, ho, hc, hd⟩ := hp'.pair v (hin v List.mem_cons_self)
        refine ⟨.int c t :: fs, ⟨⟨b, o, _, n, rfl, ho, hc, hd, rfl⟩, t1⟩, by rw [List.length_cons, List.length_cons, t2], fun f hf => ?_⟩
        rcases List.mem_cons.mp hf with rfl | hf
        · exact ⟨c, t, rfl⟩
        · exact t3 f hf
    exact go vs fun v hv => hv
  refine ⟨tuples' true, fun Q E hq => ?_, cmpF hp' fun v hv => (hk' v hv).trans (hk v hv)⟩
  refine PySem.W.kat_kind (T := .type "int") t1 (by omega) (fun f hm => ?_) (by rfl) ?_
  · obtain ⟨c, t, rfl⟩ := t3 f hm
    exact PySem.W.Looks.now
  · rw [show (Value.type "int" != Value.type "tuple") = true by decide +kernel]
    exact hq
end
section
variable {X : Cx}
open L2.DX
/-- d.items(), keys ints or texts -/
def rItemsK : V → List V → Hp → VK → Prop := fun x xs H Q => ∃ (a : Addr) (kvs : List (Key × V)), x = .ref a ∧ xs = [] ∧ H a = some (.dK kvs) ∧ ∀ p, H p = none → Q (.ref p) (upd H p (itemsO p a))
theorem mt_itemsK : MtR X "dict.items" rItemsK := by
  intro pins s σ H x xs v us Q I rx rxs h
  obtain ⟨a, kvs, rfl, rfl, ha, q⟩ := h
  cases rx
  cases rxs
  obtain ⟨_, hd, vs, _, o, es, ep, ho, hx, hdat, _⟩ := dk_of I.hok ha
  refine DT.callItems (es := es) (ep := ep) hd ⟨o, ho, hx, hdat⟩ ?_
  exact ⟨.ref s.heap.objs.size, upd H s.heap.objs.size (itemsO s.heap.objs.size a), I.laid (t' := s.toks) (fun b u e => Heap.get?_push_of_some _ e) (Nat.le_refl _) (itemsO_ok (Heap.get?_push_size _ rfl)), rfl, q _ (I.hok.fresh (Nat.le_refl _))⟩
/-- sorted(d.items()): the keys are ints, the values stand in the heap -/
def rSortItK : List V → Hp → VK → Prop := fun vs H Q => ∃ (p a : Addr) (rows : List (Int × Addr)), vs = [.ref p] ∧ H p = some (itemsO p a) ∧ H a = some (.dK (rows.map fun e => (Sum.inl e.1, V.ref e.2))) ∧ (rows.map (·.1)).Nodup ∧ rows.length ≤ 1000 ∧
  ∀ (H' : Hp) (l : Addr) (ps : List (Addr × Int × Addr)), (∀ b o, H b = some o → H' b = some o) → (ps.map (·.2)).Perm rows → (ps.map (·.2.1)).Pairwise (· < ·) → H' l = some (.lst (ps.map fun z => V.ref z.1)) →
    (∀ z ∈ ps, H' z.1 = some (.tup [.int z.2.1, .ref z.2.2])) → Q (.ref l) H'
theorem pairs_at {P : Program} {w : World} : ∀ {es : List DictEntry} {vs : List (Key × Value)} {rows : List (Int × Addr)}, Pairs (mixKind P w) es vs → KV (rows.map fun e => (Sum.inl e.1, V.ref e.2)) vs → ∀ (j : Nat) (e : DictEntry), es[j]? = some e →
    ∃ (row : Int × Addr) (t : Tok), rows[j]? = some row ∧ e.key = .int row.1 t ∧ e.val = .ref row.2
  | _, _, [], .nil, _, j, e, h => nomatch h
  | _, _, row :: rows, .cons (e := e0) (kv := kv) k v r, q, j, e, h => by
    unfold KV at q
    cases q with
    | cons q1 q2 =>
      match j with
      | 0 =>
        cases h
        obtain ⟨g1, g2⟩ := q1
        rw [← g1] at k
        have k2 : keyIs (Sum.inl row.1) e0.key = true := k
        rcases keyIs_shape k2 with ⟨i, t, hi, hk⟩ | ⟨x, t, hi, hk⟩
        · have e1 : row.1 = i := Sum.inl.inj hi
          refine ⟨row, t, rfl, e1 ▸ hk, ?_⟩
          rw [v]
          exact g2
        · exact nomatch hi
      | j + 1 =>
        exact pairs_at r q2 j e h
  | _, _, _ :: _, .nil, q, j, e, h => nomatch h
  | _, _, [], .cons k v r, q, j, e, h => by
    unfold KV at q
    cases q
theorem cr_sortItK (hc : X.calm = true) : CallR X (.builtin "sorted") rSortItK := by
  intro pins s σ H xs us Q I r h
  obtain ⟨p, a, rows, rfl, hp, ha, nd, small, q⟩ := h
  rw [Vals.ref1 r]
  have view : s.heap.IsItemsView p a := (show ObjOk X.prog X.w H s.heap p (itemsO p a) from I.hok p _ hp).1
  obtain ⟨_, hd, vs, rel, o, es, ep, ho, hx, hdat, _, prs, _⟩ := dk_of I.hok ha
  have len1 : es.size = rows.length := by
    have e1 : es.toList.length = vs.length := Pairs.length prs
    have e2 : (rows.map fun e => ((Sum.inl e.1 : Key), V.ref e.2)).length = vs.length := Paired.length rel
    rw [List.length_map] at e2
    rw [← Array.length_toList]
    omega
  have calm : X.A.handled = none := I.ok.hd hc
  refine DT.sortedI (es := es) (ep := ep) calm view ⟨o, ho, hx, hdat⟩ (by rw [len1]; exact sz1000 small) fun h' tk as keep grow lenA made => ?_
  have ndA : as.Nodup := made.rise.imp fun g => Nat.ne_of_lt g
  have lenR : as.length = rows.length := by omega
  -- each pair that was made
  have pr : ∀ (i : Nat) (b : Addr), as[i]? = some b → ∃ (row : Int × Addr) (t : Tok), rows[i]? = some row ∧ h'.get? b = some ⟨.type "tuple", none, .seq #[.int row.1 t, .ref row.2] 0, #[]⟩ := fun i b hi => by
    obtain ⟨e, he, hg⟩ := made.pairs i b hi
    obtain ⟨row, t, h1, h2, h3⟩ := pairs_at prs rel i e (by rw [Array.getElem?_toList]; exact he)
    refine ⟨row, t, h1, ?_⟩
    rw [hg, h2, h3]
  have nE : ∀ b o, h'.get? b = some o → b ≠ h'.objs.size := fun b o e => Nat.ne_of_lt (Heap.lt_size e)
  have newL : (h'.push ⟨.type "list", none, .seq (as.map Value.ref).toArray 0, #[]⟩).get? h'.objs.size = some (seqObj "list" (as.map Value.ref).toArray 0) := Heap.get?_push_size _ rfl
  have up : ∀ b o, h'.get? b = some o → (h'.push ⟨.type "list", none, .seq (as.map Value.ref).toArray 0, #[]⟩).get? b = some o := fun b o e => Heap.get?_push_of_some _ e
  show wpAny _ _ _ _ _ { s with heap := h'.push ⟨.type "list", none, .seq (as.map Value.ref).toArray 0, #[]⟩, toks := tk }
  generalize h'.push ⟨.type "list", none, .seq (as.map Value.ref).toArray 0, #[]⟩ = h2 at newL up ⊢
  -- the pairs by their places
  have prL : ∀ z ∈ as.zip rows, ∃ t : Tok, h2.get? z.1 = some ⟨.type "tuple", none, .seq #[.int z.2.1 t, .ref z.2.2] 0, #[]⟩ := fun z hz => by
    obtain ⟨i, hi⟩ := List.mem_iff_getElem?.mp hz
    obtain ⟨i1, i2⟩ := List.getElem?_zip_eq_some.mp hi
    obtain ⟨row, t, h1, h3⟩ := pr i z.1 i1
    have e : row = z.2 := Option.some.inj (h1.symm.trans i2)
    subst e
    exact ⟨t, up _ _ h3⟩
  have fst2 : ∀ z ∈ as.zip rows, fstI h2 (.ref z.1) = z.2.1 := fun z hz => by
    obtain ⟨t, e⟩ := prL z hz
    exact fstI_at e rfl
  have vsE : as.map Value.ref = (as.zip rows).map fun z => Value.ref z.1 := by
    rw [show (fun z : Addr × Int × Addr => Value.ref z.1) = Value.ref ∘ Prod.fst from rfl, ← List.map_map, List.map_fst_zip (by omega)]
  have ndZ : ((as.zip rows).map fun z => z.2.1).Nodup := by
    rw [show (fun z : Addr × Int × Addr => z.2.1) = Prod.fst ∘ Prod.snd from rfl, ← List.map_map, List.map_snd_zip (by omega)]
    exact nd
  have ip : IntPairs h2 (as.map Value.ref) := by
    rw [vsE]
    refine ⟨fun v hv => ?_, fun v hv u hu e => ?_⟩
    · obtain ⟨z, hz, rfl⟩ := List.mem_map.mp hv
      obtain ⟨t, g⟩ := prL z hz
      exact ⟨z.1, _, z.2.1, t, z.2.2, 0, rfl, g, rfl, rfl⟩
    · obtain ⟨z, hz, rfl⟩ := List.mem_map.mp hv
      obtain ⟨y, hy, rfl⟩ := List.mem_map.mp hu
      rw [fst2 z hz, fst2 y hy] at e
      rw [inj_on ndZ hz hy e]
  refine wpAny_call_entry PyProof.Rows.slot_list_sort ⟨_, newL, rfl⟩ PyProof.Rows.entry_list_sort
    (SrtO.list_sort_ord (ltv := ltF (fstI h2)) (s := { s with heap := h2, toks := tk }) (swoF _) newL (by rw [List.length_map, lenR]; exact sz1000 small) (fun two => sortableF (by omega) ip (fun _ _ => rfl) fun o e => ?_) fun out so sb => ⟨.none, rfl, ?_⟩) (PyProof.Rows.args_list_sort _)
  · have e2 : some o = some (seqObj "list" (as.map Value.ref).toArray 0) := e.symm.trans newL
    cases e2
    exact fun z => absurd (Value.type.inj z) (by decide)
  · obtain ⟨zs, pz, ez⟩ := lift_perm (f := fun z : Addr × Int × Addr => Value.ref z.1) (l := as.zip rows) (out := out) (by rw [← vsE]; exact sb.perm)
    have old : ∀ b o, b ≠ h'.objs.size → h2.get? b = some o → (sortedHeap h2 h'.objs.size (as.map Value.ref) out.toArray).get? b = some o := fun b o n e => (PyProof.Rows.sortedHeap_old n (Heap.lt_size e)).trans e
    have keep2 : ∀ b o, s.heap.get? b = some o → (sortedHeap h2 h'.objs.size (as.map Value.ref) out.toArray).get? b = some o := fun b o e => old b o (nE _ _ (keep b o e)) (up _ _ (keep b o e))
    obtain ⟨ep2, atF⟩ := PyProof.Rows.sortedHeap_at (vs := as.map Value.ref) (out := out.toArray) newL
    have free : H h'.objs.size = none := I.hok.fresh (Nat.le_of_lt grow)
    have lenZ : zs.length = rows.length := by
      rw [pz.length_eq, List.length_zip]
      omega
    show EP X pins σ Q (.ref h'.objs.size) { s with heap := sortedHeap h2 h'.objs.size (as.map Value.ref) out.toArray, toks := tk }
    have I1 : Inv X pins σ H { s with heap := sortedHeap h2 h'.objs.size (as.map Value.ref) out.toArray, toks := tk } := I.kept (t' := tk) keep2
    have I2 : Inv X pins σ (upd H h'.objs.size (.lst (zs.map fun z => V.ref z.1))) { s with heap := sortedHeap h2 h'.objs.size (as.map Value.ref) out.toArray, toks := tk } :=
      I1.take (h' := sortedHeap h2 h'.objs.size (as.map Value.ref) out.toArray) (t' := tk) (fun b ob _ e => e) (I.fpOk (Nat.le_of_lt grow) free)
        ⟨by rw [List.length_map, lenZ]; exact sz1000 small, out, ep2, by rw [← ez]; exact vals_maps (fun z : Addr × Int × Addr => V.ref z.1) (fun z => Value.ref z.1) zs fun _ _ => rfl, atF⟩
    obtain ⟨H2, I3, g, qt⟩ := takeT (P := fun b vs => ∃ (i : Nat) (row : Int × Addr), as[i]? = some b ∧ rows[i]? = some row ∧ vs = [V.int row.1, .ref row.2]) I as _ I2 ndA fun b hb => by
      obtain ⟨i, hi⟩ := List.mem_iff_getElem?.mp hb
      obtain ⟨row, t, h1, h3⟩ := pr i b hi
      have low : s.heap.objs.size ≤ b := Nat.le_of_lt (made.above b hb)
      refine ⟨low, ?_, _, ⟨i, row, hi, h1, rfl⟩, fun H3 => ⟨Nat.le_of_lt (small1000 (Nat.le_of_ble_eq_true rfl)), [Value.int row.1 t, .ref row.2], .cons ⟨t, rfl⟩ (.cons rfl .nil), ⟨_, old _ _ (nE _ _ h3) (up _ _ h3), rfl, 0, rfl⟩⟩⟩
      rw [upd_ne (nE _ _ h3)]
      exact I.hok.fresh low
    refine ⟨.ref h'.objs.size, H2, I3, rfl, q H2 h'.objs.size zs (fun b o e => g b o (by rw [upd_ne (ne_of_none e free)]; exact e)) ?_ ?_ (g _ _ upd_same) fun z hz => ?_⟩
    · have e := pz.map (·.2)
      rw [List.map_snd_zip (by omega)] at e
      exact e
    · have nz : (zs.map fun z => z.2.1).Nodup := (pz.map _).nodup_iff.mpr ndZ
      have le : (zs.map fun z => z.2.1).Pairwise (· ≤ ·) := by
        rw [List.pairwise_map]
        have so2 : List.Pairwise (fun x y => ltF (fstI h2) y x = false) out := so
        rw [← ez, List.pairwise_map] at so2
        refine so2.imp_of_mem fun {x y} hx hy e => ?_
        have e2 : decide (fstI h2 (.ref y.1) < fstI h2 (.ref x.1)) = false := e
        rw [fst2 x (pz.mem_iff.mp hx), fst2 y (pz.mem_iff.mp hy)] at e2
        exact Int.not_lt.mp (of_decide_eq_false e2)
      exact lt_of_le_nodup _ le nz
    · obtain ⟨i, hi⟩ := List.mem_iff_getElem?.mp (pz.mem_iff.mp hz)
      obtain ⟨i1, i2⟩ := List.getElem?_zip_eq_some.mp hi
      obtain ⟨ws, ⟨k, row, k1, k2, rfl⟩, hH⟩ := qt z.1 (List.mem_of_getElem? i1)
      have ik : i = k := (List.getElem?_inj (List.getElem?_eq_some_iff.mp i1).1 ndA).mp (i1.trans k1.symm)
      subst ik
      have er : row = z.2 := Option.some.inj (k2.symm.trans i2)
      subst er
      exact hH
end
end RH
namespace RH
open PySem PySem.Spec PyProof.Rows L2
/-! ### operators of own classes: x in y, x | y -/
section
variable {X : Cx} {C : Addr} {sp : Sp} {k : Nat}
/-- v in y, y an instance of C -/
def rInM (C : Addr) (sp : Sp) (neg : Bool) : R2 := fun x y H Q => ∃ a dx fs, y = .ref a ∧ H a = some (.ins C dx fs) ∧ sp [y, x] H (fun z H' => ∃ b, z = .bl b ∧ Q (.bl (if neg then !b else b)) H') E0
theorem op_inM (M : C8.Met X.prog X.w X.K X.mg X.base k C "__contains__" sp []) (hr : Room k X.A) : OpR X (compareOp .In) (rInM C sp false) := by
  intro pins s σ H x y v u Q I rx ry h
  obtain ⟨a, dx, fs, rfl, ha, q⟩ := h
  cases (show u = Value.ref a from ry)
  obtain ⟨f, fd, ps, ds, _, me, F, bs, vs⟩ := M.ex
  obtain ⟨mA, om, _⟩ := ins_get I.hok ha
  obtain ⟨od, J, _⟩ := om.look
  obtain ⟨m, fr⟩ := I.fr
  refine PySem.W.in_K fr I.ok.mod.kin J me.at_ me.fn (wpAny_mono (run_fn (us := [.ref a, v]) (vs := [.ref a, x]) F hr bs vs (fun _ _ _ _ _ _ _ z => z.elim) I (.cons rfl (.cons rx .nil)) q) (fun w s' z => ?_) fun _ _ e => e)
  obtain ⟨z, H', I', rz, b, rfl, qz⟩ := z
  cases (show w = Value.bool b from rz)
  exact wpAny_truthy_bool ⟨.bl b, H', I', rfl, qz⟩
theorem op_notInM (M : C8.Met X.prog X.w X.K X.mg X.base k C "__contains__" sp []) (hr : Room k X.A) : OpR X (compareOp .NotIn) (rInM C sp true) := by
  intro pins s σ H x y v u Q I rx ry h
  obtain ⟨a, dx, fs, rfl, ha, q⟩ := h
  cases (show u = Value.ref a from ry)
  obtain ⟨f, fd, ps, ds, _, me, F, bs, vs⟩ := M.ex
  obtain ⟨mA, om, _⟩ := ins_get I.hok ha
  obtain ⟨od, J, _⟩ := om.look
  obtain ⟨m, fr⟩ := I.fr
  refine PySem.W.notIn_K fr I.ok.mod.kin J me.at_ me.fn (wpAny_mono (run_fn (us := [.ref a, v]) (vs := [.ref a, x]) F hr bs vs (fun _ _ _ _ _ _ _ z => z.elim) I (.cons rfl (.cons rx .nil)) q) (fun w s' z => ?_) fun _ _ e => e)
  obtain ⟨z, H', I', rz, b, rfl, qz⟩ := z
  cases (show w = Value.bool b from rz)
  exact wpAny_truthy_bool ⟨.bl !b, H', I', rfl, qz⟩
/-- x | y, both instances of C -/
def rOrM (C : Addr) (sp : Sp) : R2 := fun x y H Q => ∃ a dx fs b dy gs, x = .ref a ∧ y = .ref b ∧ H a = some (.ins C dx fs) ∧ H b = some (.ins C dy gs) ∧ sp [x, y] H Q E0
theorem op_orM (M : C8.Met X.prog X.w X.K X.mg X.base k C "__or__" sp []) (hr : Room k X.A) (hf : PySem.W.selfFirst X.K C = true) : OpR X (binaryOp .BitOr) (rOrM C sp) := by
  intro pins s σ H x y v u Q I rx ry h
  obtain ⟨a, dx, fs, b, dy, gs, rfl, rfl, ha, hb, q⟩ := h
  cases (show v = Value.ref a from rx)
  cases (show u = Value.ref b from ry)
  obtain ⟨f, fd, ps, ds, _, me, F, bs, vs⟩ := M.ex
  obtain ⟨mA, om, _⟩ := ins_get I.hok ha
  obtain ⟨od, J, _⟩ := om.look
  obtain ⟨mB, ob, _⟩ := ins_get I.hok hb
  obtain ⟨oe, J', _⟩ := ob.look
  obtain ⟨m, fr⟩ := I.fr
  refine PySem.W.binop_K (op := .BitOr) fr I.ok.mod.kin J J'.type hf me.at_ me.fn (wpAny_mono (run_fn (us := [.ref a, .ref b]) (vs := [.ref a, .ref b]) F hr bs vs (fun _ _ _ _ _ _ _ z => z.elim) I (.cons rfl (.cons rfl .nil)) q) (fun w s' z => ?_) fun _ _ e => e)
  obtain ⟨z, H', I', rz, qz⟩ := z
  exact SlX.cmpback rz ⟨z, H', I', rz, qz⟩
end
end RH
namespace RH
open PySem PySem.Spec PyProof.Rows L2 ItX
/-! ### walks over own instances whose __iter__ gives the iterator of a list, of a tuple -/
abbrev tupItObj (l : Addr) (i : Nat) : Obj := { cls := .type "tuple_iterator", data := .fields #[.ref l, .int i 0] }
/-- a tuple's iterator at its begin -/
def ItTO (l it : Addr) : HO := .ext fun h => h.get? it = some (tupItObj l 0)
section
variable {prog : Program} {w : World} {A : Around} {E : Value → Shared → Prop} {s : Shared} {l it : Addr} {items : Array Value}
theorem call_iterTup {Q : Value → Shared → Prop} (hl : s.heap.IsTuple l items) (h : Q (.ref s.heap.objs.size) { s with heap := s.heap.push (tupItObj l 0) }) : wpAny (model prog w) A (call (.builtin "iter") [.ref l]) Q E s := by
  refine Calls.call_function_entry (by decide +kernel) (by decide +kernel) PySem.W.kdk_entry_iter (PySem.W.kdk_args_iter _) ?_
  unfold Builtin.«iter»
  refine wpAny_bind (m := someArgs "iter" 1 2 _) (wpAny_of_eq (a := [Value.ref l]) (by first | rfl | kernel_rfl!) ?_)
  show wpAny _ _ (pyIter (.ref l) >>= _) _ _ _
  refine wpAny_bind (wpAny_pyIter_tuple hl ?_)
  exact wpAny_pure ⟨_, rfl, h⟩
theorem itT_ok {P : Program} {w : World} {H : Hp} {h : Heap} (e : h.get? it = some (tupItObj l 0)) : ObjOk P w H h it (ItTO l it) := ⟨e, ⟨_, e⟩, fun h1 h2 q k => k _ q⟩
end
section
/-- what __iter__ has given -/
def OwnIt (K : PySem.W.Frag) (H : Hp) (it : Addr) (J : It) : Prop := (∃ l, H it = some (ItO l it 0) ∧ J = Itl K l) ∨ ∃ l, H it = some (ItTO l it) ∧ J = Itt K l
theorem OwnIt.some {K : PySem.W.Frag} {H : Hp} {it : Addr} {J : It} (o : OwnIt K H it J) : ∃ u, H it = some u := o.elim (fun ⟨_, e, _⟩ => ⟨_, e⟩) fun ⟨_, e, _⟩ => ⟨_, e⟩
end
/-- a promise that may say how many objects there are at the entry -/
structure FnN (P : Program) (w : World) (K : PySem.W.Frag) (mg : Str → Option Value) (base : Heap) (k : Nat) (f : Addr) (fd : FuncData) (ps : List Str) (sp : Nat → Sp) : Prop where
  leN : ∀ n vs H Q E, sp n vs H Q E → vs.length = ps.length
  go : ∀ (B : Around) (up : List Env) (z : Shared) (H : Hp) (ar : Args) (us : List Value) (vs : List V) (Q : VK) (E : XK), Room k B → Env0 P w K mg base B up z H →
    BindsTo z fd ar (ps.zip us) → Vals vs us → sp z.heap.objs.size vs H Q E → codeAny (model P w) B (.call (.ref f) ar) (CR CX0 up P w H z Q E) z
theorem fun_okN {P : Program} {w : World} {K : PySem.W.Frag} {mg : Str → Option Value} {base : Heap} {x qual : Str} {st : Stmt} {f : Addr} {fd : FuncData} {N ps : List Str} {k : Nat} {sp : Nat → Sp}
    (F : L2.Fun K x qual st f fd) (S : FnScope N ps (defScope st)) (lnN : ∀ n vs H Q E, sp n vs H Q E → vs.length = ps.length)
    (hb : ∀ (cdv : Value) (B : Around) (up : List Env) (z : Shared) (H : Hp) (vs : List V) (Q : VK) (E : XK),
      Room k (B.deeper (envOfC qual (defScope st) z.heap.objs.size f cdv)) → sp z.heap.objs.size vs H Q E →
      ∃ t, PSs (cxOf CX0 P w K mg base N qual (defScope st) f cdv B up z H E).nox (defBody st) t ∧
        t { nx := fun _ H' => Q .non H', rt := Q } (start N vs) H) :
    FnN P w K mg base (k + 1) f fd ps sp := by
  obtain ⟨c1, c2, c3, c4, c5, c6, cdv, c8, c9, rfl, lk, hcd⟩ := F.ex
  constructor
  · exact lnN
  intro B up z H ar us vs Q E room env bnd rel hsp
  have ln := lnN _ _ _ _ _ hsp
  have kin : K.In z.heap := env.mod.kin.keeps fun b o e => (env.bs b o e).1
  have noL : z.heap.NoLimit := env.mod.nolimit.keeps fun b o e => (env.bs b o e).1
  have kinds : ∀ y ∈ ps.zip us, (defScope st).names.lookup y.1 = some .local ∨
      ((defScope st).names.lookup y.1 = some .cell ∧ ((cellsFrom (z.heap.objs.size + 1) (defScope st).names []).lookup y.1).isSome = true) := by
    rintro ⟨nm, v⟩ hy
    have mem := (List.of_mem_zip hy).1
    exact (S.par nm mem).imp id fun q => ⟨q, PySem.W.cellsFrom_some _ _ _ (Or.inl q)⟩
  apply codeAny_call_function room.depth (kin _ _ lk) rfl S.co S.gen rfl (PySem.W.codeRec_of kin hcd)
  apply bnd
  refine wpAny_newFunctionEnv_cells S.kind kinds ?_
  rintro env2 rfl z1 hx
  refine And.intro (noL.keeps hx.toInCall.keep) (codeAny_func ?_)
  obtain ⟨t, ht, q⟩ := hb cdv B up z H vs Q E (room.deeper _) hsp
  have ht := ht.nox
  refine wpAny_mono (ht.run [] z1 (start N vs) H _ (inv_start S room.hd env ln rel hx) q) ?_ fun e s' h => h
  intro fl s' h
  cases fl with
  | brk => exact h.elim fun _ h => h.elim fun _ h => h.2.elim
  | cont => exact h.elim fun _ h => h.elim fun _ h => h.2.elim
  | next =>
    obtain ⟨σ', H', J, q⟩ := h
    exact ⟨V.non, H', J.os, J.bare, J.base, J.hok, rfl, q⟩
  | ret u =>
    obtain ⟨v, σ', H', J, rv, q⟩ := h
    exact ⟨v, H', J.os, J.bare, J.base, J.hok, rv, q⟩
/-- a method with such a promise -/
structure MetN (P : Program) (w : World) (K : PySem.W.Frag) (mg : Str → Option Value) (base : Heap) (k : Nat) (C : Addr) (m : Str) (sp : Nat → Sp) : Prop where
  ex : ∃ (f : Addr) (fd : FuncData) (ps : List Str), Cls K C ∧ Meth K C m f ∧ FnN P w K mg base k f fd ps sp ∧ Binds K fd ps []
section
variable {X : Cx}
def rIterTN (K : PySem.W.Frag) (n : Nat) : List V → Hp → VK → Prop := fun xs H Q => ∃ (l : Addr) (zs : List V), xs = [.ref l] ∧ SqT K H l zs ∧ ∀ it, H it = none → n ≤ it → Q (.ref it) (upd H it (ItTO l it))
theorem call_iterTN : CallR X (.builtin "iter") (rIterTN X.K X.s_0.heap.objs.size) := by
  intro pins s σ H xs us Q I r h
  obtain ⟨l, zs, rfl, hq, q⟩ := h
  obtain ⟨u, rfl, ru⟩ := vals1 r
  cases ru
  obtain ⟨its, rv, pl, hz⟩ := I.tuple hq
  refine call_iterTup (show s.heap.IsTuple l its.toArray from pl) ?_
  exact ⟨.ref s.heap.objs.size, _, I.laid (t' := s.toks) (fun b u e => Heap.get?_push_of_some _ e) (Nat.le_refl _) (itT_ok (Heap.get?_push_size _ rfl)), rfl, q _ (I.hok.fresh (Nat.le_refl _)) I.sz⟩
def iOwn (K : PySem.W.Frag) (n0 : Nat) (C : Addr) (sp : Nat → Sp) (te : TE) : TI := fun σ H R => te σ H fun x H1 => ∃ a dx fs, x = .ref a ∧ H1 a = some (.ins C dx fs) ∧
  ∀ n, n0 ≤ n → sp n [x] H1 (fun v H2 => ∃ it J, v = .ref it ∧ n ≤ it ∧ OwnIt K H2 it J ∧ R J (dropH H2 it)) E0
variable {tg e : Expr} {te : TE} {C : Addr} {sp : Nat → Sp} {k : Nat}
theorem pi_own (M : MetN X.prog X.w X.K X.mg X.base k C "__iter__" sp) (hr : Room k X.A) (he : PE X e te) : PI X tg e (iOwn X.K X.s_0.heap.objs.size C sp te) := by
  refine ⟨fun pins s σ H R I h => ?_⟩
  refine thn (he.run pins s σ H _ I h) fun v s1 ⟨x, H1, I1, r1, q1⟩ => ?_
  obtain ⟨a, dx, fs, e0, ha, q⟩ := q1
  subst e0
  cases r1
  obtain ⟨f, fd, ps, _, me, F, bs⟩ := M.ex
  obtain ⟨mA, om, _⟩ := ins_get I1.hok ha
  obtain ⟨od, J, _⟩ := om.look
  obtain ⟨m, fr⟩ := I1.fr
  have q := q s1.heap.objs.size I1.sz
  have hl : ([V.ref a] : List V).length = ps.length := F.leN _ _ _ _ _ q
  have r2 : Vals [V.ref a] [Value.ref a] := .cons rfl .nil
  refine PySem.W.owit_iter fr I1.ok.mod.kin J me.at_ me.fn ?_
  have hb := bs s1 [.ref a] I1.kIn (by simpa using hl)
  rw [List.append_nil] at hb
  refine wpAny_call (codeAny_mono (F.go X.A X.stack s1 H1 ⟨[.ref a], []⟩ [.ref a] [.ref a] _ _ hr I1.env0 hb r2 q) fun r s' hq => ?_)
  cases r with
  | error e => exact hq.elim
  | ok fl =>
    cases fl with
    | next => exact False.elim hq
    | brk => exact False.elim hq
    | cont => exact False.elim hq
    | ret u =>
      obtain ⟨v, H2, os, bare, un, hok, rv, it, J2, ev, big, hJ, q2⟩ := hq
      subst ev
      cases rv
      have I2 : Inv X pins σ H2 s' := by
        obtain ⟨hh, g, d, t, os'⟩ := s'
        obtain rfl : os' = s1.os := os
        exact I1.call (h' := hh) (g' := g) (d' := d) (t' := t) (ch := []) un hok bare (fun b z => absurd z (by simp))
      unfold PySem.W.OwitIt
      rcases hJ with ⟨l, hi, rfl⟩ | ⟨l, hi, rfl⟩
      · have eo := itO_get I2 hi
        have hT : s'.TypeIs (.ref it) "list_iterator" := ⟨_, eo, rfl⟩
        refine wpAny_specialOf (name := Str.ofString "__next__") hT slot_listiter_next.lookup ?_
        have hi' := hi
        unfold ItO at hi'
        refine ⟨it, [it], _, _, dropH H2 it, rfl, inv_drop I2 hi', turn_list l it, ⟨_, eo, rfl, rfl⟩, fun b hb => ?_, q2⟩
        have e : b = it := by simpa using hb
        rw [e]
        exact inv_fp I2 hi (Nat.le_trans I1.sz big)
      · have eo : s'.heap.get? it = some (tupItObj l 0) := (I2.hok it _ hi).1
        have hT : s'.TypeIs (.ref it) "tuple_iterator" := ⟨_, eo, rfl⟩
        refine wpAny_specialOf (name := Str.ofString "__next__") hT slot_tupleiter_next.lookup ?_
        have hi' := hi
        unfold ItTO at hi'
        refine ⟨it, [it], _, _, dropH H2 it, rfl, inv_drop I2 hi', turn_tuple l it, ⟨_, eo, rfl, rfl⟩, fun b hb => ?_, q2⟩
        have e : b = it := by simpa using hb
        rw [e]
        exact inv_fp I2 hi (Nat.le_trans I1.sz big)
/-- what __iter__ promises that gives the iterator of a list, a tuple in a field -/
def spIterL (K : PySem.W.Frag) (C : Addr) (fld : Str) : Nat → Sp := fun n vs H Q _ => ∃ a dx fs l xs, vs = [.ref a] ∧ H a = some (.ins C dx fs) ∧ fs.lookup fld = some (.ref l) ∧ SqL K H l xs ∧ ∀ it, H it = none → n ≤ it → Q (.ref it) (upd H it (ItO l it 0))
def spIterT (K : PySem.W.Frag) (C : Addr) (fld : Str) : Nat → Sp := fun n vs H Q _ => ∃ a dx fs l xs, vs = [.ref a] ∧ H a = some (.ins C dx fs) ∧ fs.lookup fld = some (.ref l) ∧ SqT K H l xs ∧ ∀ it, H it = none → n ≤ it → Q (.ref it) (upd H it (ItTO l it))
/-- len(y), y an instance of C -/
def rLenM (C : Addr) (sp : Sp) : List V → Hp → VK → Prop := fun xs H Q => ∃ a dx fs, xs = [.ref a] ∧ H a = some (.ins C dx fs) ∧ sp [.ref a] H (fun z H' => ∃ n : Int, z = .int n ∧ 0 ≤ n ∧ n < 2 ^ 63 ∧ Q (.int n) H') E0
variable {sq : Sp}
theorem call_lenM (M : C8.Met X.prog X.w X.K X.mg X.base k C "__len__" sq []) (hr : Room (k + 1) X.A) : CallR X (.builtin "len") (rLenM C sq) := by
  intro pins s σ H xs us Q I r h
  obtain ⟨a, dx, fs, rfl, ha, q⟩ := h
  obtain ⟨u, rfl, ru⟩ := vals1 r
  cases ru
  obtain ⟨f, fd, ps, ds, _, me, F, bs, vs⟩ := M.ex
  cases vs
  obtain ⟨mA, om, _⟩ := ins_get I.hok ha
  obtain ⟨od, J, _⟩ := om.look
  obtain ⟨m, fr⟩ := I.fr
  have hl : ([V.ref a] : List V).length = ps.length := F.len _ _ _ _ q
  have r2 : Vals [V.ref a] [Value.ref a] := .cons rfl .nil
  refine PySem.W.len_K fr I.ok.mod.kin J me.at_ me.fn ?_
  have hb := bs s [.ref a] I.kIn (by simpa using hl)
  rw [List.append_nil] at hb
  have e0 : Env0 X.prog X.w X.K X.mg X.base X.A.in1 X.stack s H := I.env0.in1
  refine wpAny_call (codeAny_mono (F.run X.A.in1 X.stack s H ⟨[.ref a], []⟩ [.ref a] [.ref a] _ _ hr.in1 e0 hb r2 q) fun r s' hq => ?_)
  cases r with
  | error e => exact hq.elim
  | ok fl =>
    cases fl with
    | next => exact False.elim hq
    | brk => exact False.elim hq
    | cont => exact False.elim hq
    | ret u =>
      obtain ⟨v, H2, os, bare, un, hok, rv, n, ev, h0, h1, q2⟩ := hq
      subst ev
      obtain ⟨t, rfl⟩ := rv
      have I2 : Inv X pins σ H2 s' := by
        obtain ⟨hh, g, d, t, os'⟩ := s'
        obtain rfl : os' = s.os := os
        exact I.call (h' := hh) (g' := g) (d' := d) (t' := t) (ch := []) un hok bare (fun b z => absurd z (by simp))
      exact ⟨⟨h0, h1⟩, .int n, H2, I2.tok _, ⟨_, rfl⟩, q2⟩
end
end RH
namespace RH
open PySem L2
/-! ### the tuples of a heap, data that is made of them -/
def Tu (H : Hp) : Hp := fun a => match H a with
  | some (.tup xs) => some (.tup xs)
  | _ => none
theorem tu_some {H : Hp} {a : Addr} {o : HO} (h : Tu H a = some o) : ∃ xs, o = .tup xs ∧ H a = some (.tup xs) := by
  unfold Tu at h
  cases e : H a with
  | none => rw [e] at h; cases h
  | some u =>
    rw [e] at h
    cases u <;> first | (cases h; done) | skip
    exact ⟨_, (Option.some.inj h).symm, rfl⟩
theorem tu_at {H : Hp} {a : Addr} {xs : List V} (h : H a = some (.tup xs)) : Tu H a = some (.tup xs) := by
  unfold Tu
  rw [h]
theorem tu_same (H : Hp) : Same (Tu H) H := fun a o h => by
  obtain ⟨xs, rfl, e⟩ := tu_some h
  exact e
/-- tuples stay -/
def TuK (H H' : Hp) : Prop := ∀ a xs, H a = some (.tup xs) → H' a = some (.tup xs)
theorem TuK.tu {H H' : Hp} (k : TuK H H') : Same (Tu H) (Tu H') := fun a o h => by
  obtain ⟨xs, rfl, e⟩ := tu_some h
  exact tu_at (k a xs e)
theorem TuK.refl (H : Hp) : TuK H H := fun _ _ h => h
theorem TuK.trans {H H1 H2 : Hp} (a : TuK H H1) (b : TuK H1 H2) : TuK H H2 := fun p xs h => b p xs (a p xs h)
theorem TuK.of {H H' : Hp} (s : Same H H') : TuK H H' := fun a xs h => s a _ h
theorem TuK.put {H : Hp} {l : Addr} {xs : List V} {o : HO} (h : H l = some (.lst xs)) : TuK H (upd H l o) := fun a ys e => by
  rw [upd_ne (fun z => by rw [z, h] at e; cases e)]
  exact e
theorem TuK.ins {H : Hp} {x C dx : Addr} {fs : List (Str × V)} {o : HO} (h : H x = some (.ins C dx fs)) : TuK H (upd H x o) := fun a ys e => by
  rw [upd_ne (fun z => by rw [z, h] at e; cases e)]
  exact e
/-- data at v, in tuples -/
def Td (K : PySem.W.Frag) (H : Hp) (v : V) (d : PyData) : Prop := Dp K (Tu H) v d
theorem Td.mono {K : PySem.W.Frag} {H H' : Hp} {v : V} {d : PyData} (h : Td K H v d) (k : TuK H H') : Td K H' v d := dp_mono k.tu d v h
theorem Td.dp {K : PySem.W.Frag} {H : Hp} {v : V} {d : PyData} (h : Td K H v d) : Dp K H v d := dp_mono (tu_same H) d v h
theorem Td.tup {K : PySem.W.Frag} {H : Hp} {a : Addr} {xs : List V} {ds : List PyData} (h : H a = some (.tup xs)) (hs : DpAll K (Tu H) xs ds) : Td K H (.ref a) (.tuple ds) := Dp.tup (SqT.of (tu_at h)) hs
/-- something that is fit for == -/
def Ev (K : PySem.W.Frag) (n : Nat) (H : Hp) (v : V) : Prop := ∃ d, Td K H v d ∧ d.canLay0 = true ∧ d.depth ≤ n
theorem Ev.mono {K : PySem.W.Frag} {n : Nat} {H H' : Hp} {v : V} (h : Ev K n H v) (k : TuK H H') : Ev K n H' v := by
  obtain ⟨d, a, b, c⟩ := h
  exact ⟨d, a.mono k, b, c⟩
theorem evs_dp {K : PySem.W.Frag} {n : Nat} {H : Hp} : ∀ {xs : List V}, (∀ x ∈ xs, Ev K n H x) → ∃ ds, DpAll K (Tu H) xs ds ∧ PyData.canLayAll0 ds = true ∧ PyData.depthAll ds ≤ n
  | [], _ => ⟨[], .nil, by simp [PyData.canLayAll0], by simp [PyData.depthAll]⟩
  | x :: xs, h => by
    obtain ⟨d, a, b, c⟩ := h x List.mem_cons_self
    obtain ⟨ds, p, q, r⟩ := evs_dp fun y hy => h y (List.mem_cons_of_mem _ hy)
    refine ⟨d :: ds, .cons a p, by simp [PyData.canLayAll0, b, q], ?_⟩
    simp only [PyData.depthAll]
    omega
theorem ev_tup {K : PySem.W.Frag} {n : Nat} {H : Hp} {a : Addr} {xs : List V} (h : H a = some (.tup xs)) (hs : ∀ x ∈ xs, Ev K n H x) : Ev K (n + 1) H (.ref a) := by
  obtain ⟨ds, p, q, r⟩ := evs_dp hs
  exact ⟨.tuple ds, Td.tup h p, by simp [PyData.canLay0, q], by simp only [PyData.depth]; omega⟩
theorem ev_int {K : PySem.W.Frag} {n : Nat} {H : Hp} (i : Int) : Ev K n H (.int i) := ⟨.int i, .int i, by simp [PyData.canLay0], by simp [PyData.depth]⟩
theorem ev_str {K : PySem.W.Frag} {n : Nat} {H : Hp} (z : Str) (ok : PyData.strOk z = true) : Ev K n H (.str z) := ⟨.str z, .str z, by simp [PyData.canLay0, ok], by simp [PyData.depth]⟩
theorem ev_bl {K : PySem.W.Frag} {n : Nat} {H : Hp} (b : Bool) : Ev K n H (.bl b) := ⟨.bool b, .bl b, by simp [PyData.canLay0], by simp [PyData.depth]⟩
theorem ev_non {K : PySem.W.Frag} {n : Nat} {H : Hp} : Ev K n H .non := ⟨.none, .non, by simp [PyData.canLay0], by simp [PyData.depth]⟩
theorem Ev.up {K : PySem.W.Frag} {n m : Nat} {H : Hp} {v : V} (h : Ev K n H v) (l : n ≤ m) : Ev K m H v := by
  obtain ⟨d, a, b, c⟩ := h
  exact ⟨d, a, b, by omega⟩
theorem shaped_of {d : PyData} (h : d.canLay0 = true) (l : d.depth ≤ 64) : SeqAt.shaped d = true := by
  show (d.canLay0 && decide (d.depth ≤ 64)) = true
  rw [h, decide_eq_true l]
  rfl
/-- two lists of the same things -/
theorem evs_list {K : PySem.W.Frag} {H : Hp} {a b : Addr} {xs : List V} (ha : H a = some (.lst xs)) (hb : H b = some (.lst xs)) (hx : ∀ x ∈ xs, Ev K 60 H x) :
    ∃ d, Dp K H (.ref a) d ∧ Dp K H (.ref b) d ∧ SeqAt.shaped d = true ∧ PyData.eqv d d = true := by
  obtain ⟨ds, p, q, r⟩ := evs_dp hx
  have p2 := dpAll_mono (tu_same H) _ _ p
  have lay : (PyData.list ds).canLay0 = true := by simp [PyData.canLay0, q]
  have dep : (PyData.list ds).depth ≤ 64 := by simp only [PyData.depth]; omega
  exact ⟨.list ds, .lst (SqL.of ha) p2, .lst (SqL.of hb) p2, shaped_of lay dep, SeqAt.eqv_refl _ lay⟩
theorem r_neEv {K : PySem.W.Frag} {H : Hp} {Q : VK} {a b : Addr} {xs : List V} (ha : H a = some (.lst xs)) (hb : H b = some (.lst xs)) (hx : ∀ x ∈ xs, Ev K 60 H x) (q : Q (.bl false) H) : rNeD K (.ref a) (.ref b) H Q := by
  obtain ⟨d, p1, p2, s, e⟩ := evs_list ha hb hx
  refine ⟨d, d, p1, p2, s, s, ?_⟩
  rw [e]
  exact q
theorem r_eqEv {K : PySem.W.Frag} {H : Hp} {Q : VK} {a b : Addr} {xs : List V} (ha : H a = some (.lst xs)) (hb : H b = some (.lst xs)) (hx : ∀ x ∈ xs, Ev K 60 H x) (q : Q (.bl true) H) : rEqD K (.ref a) (.ref b) H Q := by
  obtain ⟨d, p1, p2, s, e⟩ := evs_list ha hb hx
  refine ⟨d, d, p1, p2, s, s, ?_⟩
  rw [e]
  exact q
/-- isinstance(x, list), x a list -/
theorem r_isiL {K : PySem.W.Frag} {H : Hp} {Q : VK} {p : Addr} {xs : List V} (h : H p = some (.lst xs)) (q : Q (.bl true) H) : rIsi K [.ref p, .ty "list"] H Q :=
  ⟨_, _, _, _, _, rfl, .ty "list", .base (.lst h), kit_ty (by decide +kernel), q⟩
theorem r_ownV {K : PySem.W.Frag} {C a dx l : Addr} {fs : List (Str × V)} {fld : Str} {xs : List V} {σ : L2.St} {H : Hp} {n0 k : Nat} {R : It → Hp → Prop}
    (hs : σ[k]? = some (some (.ref a))) (ha : H a = some (.ins C dx fs)) (hf : fs.lookup fld = some (.ref l)) (hl : SqL K H l xs) (h : R (Itl K l) H) : iOwn K n0 C (spIterL K C fld) (tVar k) σ H R := by
  refine ⟨_, hs, a, dx, fs, rfl, ha, fun n hn => ⟨a, dx, fs, l, xs, rfl, ha, hf, hl, fun it hit hge => ?_⟩⟩
  refine ⟨it, _, rfl, hge, .inl ⟨l, upd_same, rfl⟩, ?_⟩
  rw [ItX.dropH_upd hit]
  exact h
def rIsN : R2 := fun x y H Q => y = .non ∧ Q (.bl (decide (x = .non))) H
def rNotN : R2 := fun x y H Q => y = .non ∧ Q (.bl (!decide (x = .non))) H
theorem op_isN1 {X : Cx} : OpR X (compareOp .Is) rIsN := op_isN
theorem op_notN1 {X : Cx} : OpR X (compareOp .IsNot) rNotN := op_notN
theorem r_isN {x : V} {H : Hp} {Q : VK} (q : Q (.bl (decide (x = .non))) H) : rIsN x .non H Q := ⟨rfl, q⟩
theorem r_notN {x : V} {H : Hp} {Q : VK} (q : Q (.bl (!decide (x = .non))) H) : rNotN x .non H Q := ⟨rfl, q⟩
theorem pe_mkN {X : Cx} {k j : Nat} {x : Str} {C : Addr} {sp : Sp} {dvs : List V} {p pos : Pos} (c : C8.Mak X.prog X.w X.K X.mg X.base k x C sp dvs) (hr : Room j X.A) (hk : k + 1 ≤ j) (hg : Gl X x)
    (hdb : (x == ("__debug__" : Str)) = false := by decide) : PE X (.Call (.Name x p) [] [] pos) (tMake C sp dvs C8.E0 tNil) := by
  obtain ⟨f, fd, ps, ds, M, F, hm, b, d⟩ := c.ex
  exact pe_make0 M F (hr.mono hk) hg hm b d pass0 hdb
/-! ### fields, methods of lists -/
section
variable {K : PySem.W.Frag} {σ : L2.St} {H : Hp} {Q : VK} {k : Nat} {a C dx p : Addr} {fs : List (Str × V)} {f : Str} {v : V} {xs : List V}
theorem r_fldV (hs : σ[k]? = some (some (.ref a))) (ha : H a = some (.ins C dx fs)) (cl : Cls K C) (na : NoAttr K C f) (hf : fs.lookup f = some v) (q : Q v H) : tFld K (tVar k) f σ H Q := ⟨_, hs, a, C, dx, fs, v, rfl, ha, cl, na, hf, q⟩
theorem r_bmG {T : String} {r : V → List V → Hp → VK → Prop} {to : TE} {t : TA} (h : to σ H fun x H1 => tyV K T x H1 ∧ t σ H1 fun xs H2 => r x xs H2 Q) : tBM K T r to t σ H Q := h
theorem r_mtG {m : Str} {sp : Sp} {dvs : List V} {E : XK} {ta : TE} {t : TA} (h : ta σ H fun x H1 => ∃ a dx fs, x = .ref a ∧ H1 a = some (.ins C dx fs) ∧ fs.lookup m = none ∧ t σ H1 fun vs H2 => sp (x :: (vs ++ dvs)) H2 Q E) : tMeth C m sp dvs E ta t σ H Q := h
theorem r_mtX {m : Str} {R : Prop} (ha : H a = some (.ins C dx fs)) (l : fs.lookup m = none) (q : R) : ∃ b dx fs, V.ref a = .ref b ∧ H b = some (.ins C dx fs) ∧ fs.lookup m = none ∧ R := ⟨a, dx, fs, rfl, ha, l, q⟩
theorem r_tyL {R : Prop} (h : H p = some (.lst xs)) (q : R) : tyV K "list" (.ref p) H ∧ R := ⟨.inl ⟨rfl, _, SqL.of h⟩, q⟩
end
theorem r_par2 {ta : TA} {i j : Nat} {nx bk ct : L2.St → Hp → Prop} {rt : VK} {σ : L2.St} {H : Hp} (h : ta σ H fun vs H1 => ∃ v w, vs = [v, w] ∧ nx ((σ.set i (some v)).set j (some w)) H1) : tPar i j ta ⟨nx, rt, bk, ct⟩ σ H := h
theorem r_par3 {ta : TA} {i j l : Nat} {nx bk ct : L2.St → Hp → Prop} {rt : VK} {σ : L2.St} {H : Hp} (h : ta σ H fun vs H1 => ∃ u v w, vs = [u, v, w] ∧ nx (((σ.set i (some u)).set j (some v)).set l (some w)) H1) : tPar3 i j l ta ⟨nx, rt, bk, ct⟩ σ H := h
/-- an item at some place -/
theorem r_ixMem {K : PySem.W.Frag} {H : Hp} {Q : VK} {p : Addr} {xs : List V} {i : Int} (h : H p = some (.lst xs)) (h0 : 0 ≤ i) (h1 : i < xs.length) (q : ∀ v ∈ xs, Q v H) : rIxL K (.ref p) (.int i) H Q := by
  obtain ⟨m, rfl⟩ : ∃ m : Nat, i = (m : Int) := ⟨i.toNat, by omega⟩
  have hm : m < xs.length := by omega
  exact r_ixL h (atI_nat (v := xs[m]) (List.getElem?_eq_getElem hm)) (q _ (List.getElem_mem hm))
theorem r_ixMemT {K : PySem.W.Frag} {H : Hp} {Q : VK} {p : Addr} {xs : List V} {i : Int} (h : H p = some (.tup xs)) (h0 : 0 ≤ i) (h1 : i < xs.length) (q : ∀ v ∈ xs, Q v H) : rIxT K (.ref p) (.int i) H Q := by
  obtain ⟨m, rfl⟩ : ∃ m : Nat, i = (m : Int) := ⟨i.toNat, by omega⟩
  have hm : m < xs.length := by omega
  exact r_ixT h (atI_nat (v := xs[m]) (List.getElem?_eq_getElem hm)) (q _ (List.getElem_mem hm))
/-! ### steps that give a heap a new name -/
section
variable {H H1 H2 : Hp} {p l C dx : Addr} {o a b : HO} {xs ys : List V} {fs : List (Str × V)}
theorem same_gen (h : upd H p o = H2) (n : H p = none) : Same H H2 := h ▸ same_new n
theorem at_gen (h : upd H p o = H2) : H2 p = some o := h ▸ upd_same
theorem fr_gen (h : upd H l o = H2) : Fr l H H2 := h ▸ Fr.row
theorem ne_obj (h1 : H p = some a) (h2 : H l = some b) (h : a ≠ b) : p ≠ l := fun z => h (by rw [z, h2] at h1; exact (Option.some.inj h1).symm)
theorem same_step (s : Same H1 H2) (e : H1 p = some o) : H2 p = some o := s _ _ e
theorem fr_step (f : Fr l H1 H2) (n : p ≠ l) (e : H1 p = some o) : H2 p = some o := f _ _ n e
theorem fr_stepK (f : Fr l H1 H2) (hl : H1 l = some b) (e : H1 p = some a) (n : a ≠ b) : H2 p = some a := f _ _ (ne_obj e hl n) e
theorem same_chain (s : Same H1 H2) (s0 : Same H H1) : Same H H2 := s0.trans s
theorem same_frX (f : Fr l H1 H2) (s : Same H H1) (n : H l = none) : Same H H2 := fun b o e => f b o (ne_of_none e n) (s b o e)
theorem none_backX (n : H1 l = none) (s : Same H H1) : H l = none := s.free n
theorem tuk_same (s : Same H1 H2) (k : TuK H H1) : TuK H H2 := k.trans (TuK.of s)
theorem tuk_fr (f : Fr l H1 H2) (h : H1 l = some (.lst xs)) (k : TuK H H1) : TuK H H2 := k.trans fun a ys e => f a _ (ne_obj e h (fun z => by cases z)) e
theorem tuk_frI (f : Fr l H1 H2) (h : H1 l = some (.ins C dx fs)) (k : TuK H H1) : TuK H H2 := k.trans fun a ys e => f a _ (ne_obj e h (fun z => by cases z)) e
theorem ne_noneX (n : H l = none) (e : H p = some a) : p ≠ l := ne_of_none e n
theorem ne_objX (h2 : H l = some b) (h1 : H p = some a) (h : a ≠ b) : p ≠ l := ne_obj h1 h2 h
theorem TuK.frL (f : Fr l H H2) (h : H l = some (.lst xs)) : TuK H H2 := fun a ys e => f a _ (ne_obj e h (fun z => by cases z)) e
theorem TuK.frI (f : Fr l H H2) (h : H l = some (.ins C dx fs)) : TuK H H2 := fun a ys e => f a _ (ne_obj e h (fun z => by cases z)) e
theorem same_frN (f : Fr l H1 H2) (s : Same H H1) (n : H l = none) : Same H H2 := fun b o e => f b o (ne_of_none e n) (s b o e)
theorem none_back (s : Same H H1) (n : H1 l = none) : H l = none := s.free n
theorem ixN_of {n : Nat} {i : Int} (h0 : 0 ≤ i) (h1 : i < n) : ixN n i = some i.toNat := by
  unfold ixN
  rw [if_pos h0, if_pos h1]
theorem allN {P : V → Prop} : ∀ v ∈ ([] : List V), P v := fun _ h => nomatch h
end
/-! ### books -/
def BookAt (C : Addr) (H : Hp) (b l : Addr) (xs : List V) : Prop := (∃ dx, H b = some (.ins C dx [("_noted", .ref l)])) ∧ H l = some (.lst xs)
def spBookI (C : Addr) : Sp := fun vs H Q _ => ∃ (y dy : Addr), vs = [.ref y] ∧ H y = some (.ins C dy []) ∧ ∀ H' l, (∀ b o, b ≠ y → H b = some o → H' b = some o) → H l = none → BookAt C H' y l [] → Q .non H'
def spNoteB (C : Addr) : Sp := fun vs H Q _ => ∃ (b l : Addr) (v : V) (xs : List V), vs = [.ref b, v] ∧ BookAt C H b l xs ∧ xs.length < 1000 ∧ Q .non (upd H l (.lst (xs ++ [v])))
def spEventsB (C : Addr) : Sp := fun vs H Q _ => ∃ (b l : Addr) (xs : List V), vs = [.ref b] ∧ BookAt C H b l xs ∧ ∀ p, H p = none → Q (.ref p) (upd H p (.lst xs))
def spLenB (C : Addr) : Sp := fun vs H Q _ => ∃ (b l : Addr) (xs : List V), vs = [.ref b] ∧ BookAt C H b l xs ∧ Q (.int xs.length) H
def spLawEvent (K : PySem.W.Frag) : Sp := fun vs H Q _ => ∃ d : Int, vs = [.int d] ∧ 0 ≤ d ∧ d ≤ 10000 ∧ ∀ H' v, Same H H' → Ev K 20 H' v → Q v H'
def spHoldsB (K : PySem.W.Frag) (C : Addr) : Sp := fun vs H Q _ => ∃ (b l u : Addr) (k : Int) (xs : List V), vs = [.ref b, .ref u, .int k] ∧ BookAt C H b l xs ∧ H u = some (.lst xs) ∧ xs.length ≤ 900 ∧ 0 ≤ k ∧ (∀ x ∈ xs, Ev K 60 H x) ∧ ∀ H', Same H H' → Q (.bl true) H'
theorem r_book {C : Addr} {σ : L2.St} {H : Hp} {Q : VK} {E : XK} (q : ∀ b n dx H', Same H H' → H b = none → H n = none → H' b = some (.ins C dx [("_noted", .ref n)]) → H' n = some (.lst []) → Q (.ref b) H') : tMake C (spBookI C) [] E tNil σ H Q := by
  refine r_make (r_nil ?_)
  intro y dy hy hdy nyd
  refine ⟨y, dy, rfl, upd_same, fun H' l k hl hb => ⟨rfl, ?_⟩⟩
  obtain ⟨⟨dx, e1⟩, e2⟩ := hb
  have nly : l ≠ y := fun z => by rw [z, upd_same] at hl; cases hl
  rw [upd_ne nly] at hl
  have nld : l ≠ dy := fun z => by rw [z, upd_same] at hl; cases hl
  rw [upd_ne nld] at hl
  refine q y l dx H' (fun b o e => ?_) hy hl e1 e2
  have n1 : b ≠ y := ne_of_none e hy
  have n2 : b ≠ dy := ne_of_none e hdy
  exact k b o n1 (by rw [upd_ne n1, upd_ne n2]; exact e)
/-- the two books of the law -/
structure Bk2 (K : PySem.W.Frag) (C : Addr) (ds : List Int) (l pB pD b0 n0 d0 b1 n1 d1 : Addr) (xs ys : List V) (H : Hp) : Prop where
  hl : H l = some (.lst (ds.map V.int))
  hB : H pB = some (.lst [.ref b0, .ref b1])
  hD : H pD = some (.lst [.ref d0, .ref d1])
  h0 : ∃ dx, H b0 = some (.ins C dx [("_noted", .ref n0)])
  h1 : ∃ dx, H b1 = some (.ins C dx [("_noted", .ref n1)])
  a0 : H n0 = some (.lst xs)
  a1 : H n1 = some (.lst ys)
  c0 : H d0 = some (.lst xs)
  c1 : H d1 = some (.lst ys)
  ex : ∀ x ∈ xs, Ev K 60 H x
  ey : ∀ x ∈ ys, Ev K 60 H x
theorem Bk2.mono {K : PySem.W.Frag} {C : Addr} {ds : List Int} {l pB pD b0 n0 d0 b1 n1 d1 : Addr} {xs ys : List V} {H H' : Hp} (b : Bk2 K C ds l pB pD b0 n0 d0 b1 n1 d1 xs ys H) (s : Same H H') : Bk2 K C ds l pB pD b0 n0 d0 b1 n1 d1 xs ys H' :=
  ⟨s _ _ b.hl, s _ _ b.hB, s _ _ b.hD, b.h0.imp fun _ e => s _ _ e, b.h1.imp fun _ e => s _ _ e, s _ _ b.a0, s _ _ b.a1, s _ _ b.c0, s _ _ b.c1, fun x m => (b.ex x m).mono (TuK.of s), fun x m => (b.ey x m).mono (TuK.of s)⟩
theorem ev_snoc {K : PySem.W.Frag} {H : Hp} {xs : List V} {v : V} (h : ∀ x ∈ xs, Ev K 60 H x) (e : Ev K 60 H v) : ∀ x ∈ xs ++ [v], Ev K 60 H x := fun x m => by
  rcases List.mem_append.mp m with m | m
  · exact h x m
  · rw [List.mem_singleton.mp m]
    exact e
end RH
namespace RH
open PySem PySem.Spec PyProof.Rows L2
/-! ### methods and defs that may raise: met in a try, or where no error of theirs is met -/
structure MetX (P : Program) (w : World) (K : PySem.W.Frag) (mg : Str → Option Value) (base : Heap) (k : Nat) (C : Addr) (m : Str) (sp : Sp) : Prop where
  ex : ∃ (f : Addr) (fd : FuncData) (ps : List Str), Cls K C ∧ Meth K C m f ∧ FnOk P w K mg base (L2.CX P w) k f fd ps sp ∧ Binds K fd ps []
section
variable {X : Cx} {k j : Nat} {C : Addr} {x m : Str} {sp : Sp} {p pos apos : Pos} {o e : Expr} {es : List Expr} {t : TA} {ta : TE}
theorem pe_cX (c : CalX X.prog X.w X.K X.mg X.base k x sp) (hr : Room j X.A) (hk : k ≤ j) (hg : Gl X x) (ha : PA X (e :: es) t)
    (hdb : (x == ("__debug__" : Str)) = false := by decide) (he : starEach (e :: es) X.env = (false, eval e X.env) :: starEach es X.env := by rfl) (hpl : (backTo pos (starEach es X.env)).any (·.1) = false := by rfl) :
    PE X (.Call (.Name x p) (e :: es) [] pos) (tCall sp [] C8.E0 t) := by
  obtain ⟨f, fd, ps, F, hm, kp, b⟩ := c.ex
  exact pe_call F (hr.mono hk) hg hm kp b .nil passL ha hdb he hpl
theorem pe_cT {W : WX} (c : CalX X.prog X.w X.K X.mg X.base k x sp) (hr : Room j X.A) (hk : k ≤ j) (hg : Gl X x) (tk : Takes X W) (ha : PA X (e :: es) t)
    (hdb : (x == ("__debug__" : Str)) = false := by decide) (he : starEach (e :: es) X.env = (false, eval e X.env) :: starEach es X.env := by rfl) (hpl : (backTo pos (starEach es X.env)).any (·.1) = false := by rfl) :
    PE X (.Call (.Name x p) (e :: es) [] pos) (tCallS sp (WE W) t) := by
  obtain ⟨f, fd, ps, F, hm, kp, b⟩ := c.ex
  exact pe_callS F (hr.mono hk) hg hm kp b (fun σ => passAt tk σ) ha hdb he hpl
theorem pe_mtX {pl : Sem Bool} (c : MetX X.prog X.w X.K X.mg X.base k C m sp) (hr : Room j X.A) (hk : k ≤ j) (he : PE X o ta) (ha : PA X (e :: es) t)
    (hst : starEach (e :: es) X.env = (false, eval e X.env) :: starEach es X.env := by rfl) (hpl : (backTo pos (starEach es X.env)).any (·.1) = false := by rfl)
    (ht : eval (.Call (.Attribute o m apos) (e :: es) [] pos) X.env = (do
      let ov ← eval o X.env
      standAt apos.atName
      let (f, first) ← holding [ov] (getMethod ov m pl)
      callWith pos f first (backTo pos (starEach (e :: es) X.env)) (backToKw pos (keywordEach [] X.env))) := by rfl) :
    PE X (.Call (.Attribute o m apos) (e :: es) [] pos) (tMeth C m sp [] C8.E0 ta t) := by
  obtain ⟨f, fd, ps, hc, hm, F, b⟩ := c.ex
  exact pe_meth (pl := pl) he hc hm F (hr.mono hk) b .nil passL ha hst hpl ht
/-- o.m(..) in a try: what is wished of an error at these slots -/
def tMethE (C : Addr) (m : Str) (sp : Sp) (E : L2.St → XK) (ta : TE) (t : TA) : TE := fun σ H Q => ta σ H fun x H1 => ∃ a dx fs, x = .ref a ∧ H1 a = some (.ins C dx fs) ∧ fs.lookup m = none ∧ t σ H1 fun vs H2 => sp (x :: vs) H2 Q (E σ)
theorem pe_mtT {pl : Sem Bool} {W : WX} (c : MetX X.prog X.w X.K X.mg X.base k C m sp) (hr : Room j X.A) (hk : k ≤ j) (tk : Takes X W) (he : PE X o ta) (ha : PA X (e :: es) t)
    (hst : starEach (e :: es) X.env = (false, eval e X.env) :: starEach es X.env := by rfl) (hpl : (backTo pos (starEach es X.env)).any (·.1) = false := by rfl)
    (ht : eval (.Call (.Attribute o m apos) (e :: es) [] pos) X.env = (do
      let ov ← eval o X.env
      standAt apos.atName
      let (f, first) ← holding [ov] (getMethod ov m pl)
      callWith pos f first (backTo pos (starEach (e :: es) X.env)) (backToKw pos (keywordEach [] X.env))) := by rfl) :
    PE X (.Call (.Attribute o m apos) (e :: es) [] pos) (tMethE C m sp (WE W) ta t) := by
  obtain ⟨f, fd, ps, hc, hm, F, b⟩ := c.ex
  constructor
  intro pins s σ H Q I h
  refine PySem.W.methodCall_KW (pl := pl) (thn (he.run pins s σ H _ I h) ?_) ht
  rintro u s1 ⟨x, H1, I1, rx, a, dx, fs, rfl, ea, l, q⟩
  obtain rfl : u = Value.ref a := rx
  refine getmeth_ok I1 ea hc hm l ?_
  refine PySem.W.callWith_K (first := [.ref a]) (h₀ := X.base) I.ok.mod.kin hm.kp (thn (ha.run pos pins s1 σ H1 _ I1 q) ?_) hst hpl
  rintro us s2 ⟨vs, H2, I2, r, q2⟩
  exact ⟨I2.kIn, run_fnS (us := .ref a :: us) (vs := .ref a :: vs) F (hr.mono hk) b (passAt tk σ) I2 (.cons rfl r) q2⟩
theorem r_mtE {E : L2.St → XK} {σ : L2.St} {H : Hp} {Q : VK} (h : ta σ H fun x H1 => ∃ a dx fs, x = .ref a ∧ H1 a = some (.ins C dx fs) ∧ fs.lookup m = none ∧ t σ H1 fun vs H2 => sp (x :: vs) H2 Q (E σ)) : tMethE C m sp E ta t σ H Q := h
theorem r_cS {E : L2.St → XK} {σ : L2.St} {H : Hp} {Q : VK} (h : t σ H fun vs H1 => sp vs H1 Q (E σ)) : tCallS sp E t σ H Q := h
end
/-- two tuples of the same things -/
theorem evs_tup {K : PySem.W.Frag} {H : Hp} {a b : Addr} {xs : List V} (ha : H a = some (.tup xs)) (hb : H b = some (.tup xs)) (hx : ∀ x ∈ xs, Ev K 60 H x) :
    ∃ d, Dp K H (.ref a) d ∧ Dp K H (.ref b) d ∧ SeqAt.shaped d = true ∧ PyData.eqv d d = true := by
  obtain ⟨ds, p, q, r⟩ := evs_dp hx
  have p2 := dpAll_mono (tu_same H) _ _ p
  have lay : (PyData.tuple ds).canLay0 = true := by simp [PyData.canLay0, q]
  have dep : (PyData.tuple ds).depth ≤ 64 := by simp only [PyData.depth]; omega
  exact ⟨.tuple ds, .tup (SqT.of ha) p2, .tup (SqT.of hb) p2, shaped_of lay dep, SeqAt.eqv_refl _ lay⟩
theorem r_neTup {K : PySem.W.Frag} {H : Hp} {Q : VK} {a b : Addr} {xs : List V} (ha : H a = some (.tup xs)) (hb : H b = some (.tup xs)) (hx : ∀ x ∈ xs, Ev K 60 H x) (q : Q (.bl false) H) : rNeD K (.ref a) (.ref b) H Q := by
  obtain ⟨d, p1, p2, s, e⟩ := evs_tup ha hb hx
  refine ⟨d, d, p1, p2, s, s, ?_⟩
  rw [e]
  exact q
theorem r_eqTup {K : PySem.W.Frag} {H : Hp} {Q : VK} {a b : Addr} {xs : List V} (ha : H a = some (.tup xs)) (hb : H b = some (.tup xs)) (hx : ∀ x ∈ xs, Ev K 60 H x) (q : Q (.bl true) H) : rEqD K (.ref a) (.ref b) H Q := by
  obtain ⟨d, p1, p2, s, e⟩ := evs_tup ha hb hx
  refine ⟨d, d, p1, p2, s, s, ?_⟩
  rw [e]
  exact q
/-- isinstance(e, (C, D)), e the error in hand -/
def rIsExT (K : PySem.W.Frag) (cls : Value) (d : Option Addr) (a : Addr) : List V → Hp → VK → Prop := fun xs H Q => ∃ (D tp : Addr) (cs : List V) (us : List Value) (b : Bool), cls = .ref D ∧ d = none ∧ ExcC K D ∧ xs = [.ref a, .ref tp] ∧ H tp = some (.tup cs) ∧ Paired ClsV cs us ∧ PySem.W.kitAny K (.ref D) us = some b ∧ Q (.bl b) H
theorem call_isExT {X : Cx} {a : Addr} {cls : Value} {d : Option Addr} {oe : Obj} {pn : List (Addr × Obj)} (hz : Zc cls d oe) (hf : ∃ vs, oe.data = .fields vs) : CallR (X.suite a ((a, oe) :: pn)) (.builtin "isinstance") (rIsExT X.K cls d a) := by
  rintro pins s σ H xs us Q I r ⟨D, tp, cs, ws, b, rfl, rfl, C, rfl, hT, k, e, q⟩
  obtain ⟨u1, u2, rfl, r1, r2⟩ := vals2 r
  cases (show u2 = Value.ref tp from r2)
  cases (show u1 = Value.ref a from r1)
  obtain ⟨hget, _⟩ := I.pin (a, oe) (List.mem_append.mpr (.inl List.mem_cons_self))
  obtain ⟨vs, hv⟩ := hf
  have J : PySem.W.InstAt s.heap a oe D none := by
    obtain ⟨oc, od, oda, osl⟩ := oe
    obtain ⟨h1, h2⟩ := hz
    dsimp only at h1 h2 hv
    subst h1 h2 hv
    exact ⟨hget, rfl, rfl, trivial⟩
  obtain ⟨_, its, rv, o, h1, h2, n, h3⟩ := (show ObjOk _ _ H s.heap tp (.tup cs) from I.hok tp _ hT)
  have e3 := ClsV.all k rv
  subst e3
  obtain ⟨oc, od, dt, sl⟩ := o
  simp only at h2 h3
  subst h2 h3
  exact PySem.W.kia_tup (PySem.W.handS_kitx_exc C.hg C.hk C.hs C.hd C.ha C.hn C.ht C.hm) I.kIn J h1 e (fun z => nomatch z) fun tk => ⟨.bl b, H, I.tok tk, rfl, q⟩
theorem kit_any2 {K : PySem.W.Frag} {t a b : Value} (h1 : PySem.W.kitOne K t a = some false) (h2 : PySem.W.kitOne K t b = some false) : PySem.W.kitAny K t [a, b] = some false := by
  simp [PySem.W.kitAny, h1, h2]
theorem r_isET {K : PySem.W.Frag} {D A B a tp : Addr} {H : Hp} {Q : VK} (C : ExcC K D) (hT : H tp = some (.tup [.ref A, .ref B])) (h1 : PySem.W.kitOne K (.ref D) (.ref A) = some false) (h2 : PySem.W.kitOne K (.ref D) (.ref B) = some false) (q : Q (.bl false) H) : rIsExT K (.ref D) none a [.ref a, .ref tp] H Q :=
  ⟨D, tp, _, _, _, rfl, rfl, C, rfl, hT, .cons (.own A) (.cons (.own B) .nil), kit_any2 h1 h2, q⟩
/-! ### properties, fields written -/
section
variable {K : PySem.W.Frag} {σ : L2.St} {H : Hp} {Q : VK} {a C dx : Addr} {fs : List (Str × V)} {f : Str} {v : V}
theorem r_prX {sp : Sp} {dvs : List V} {E : XK} (ha : H a = some (.ins C dx fs)) (q : sp (.ref a :: dvs) H Q E) : ∃ b dx fs, V.ref a = .ref b ∧ H b = some (.ins C dx fs) ∧ sp (.ref b :: dvs) H Q E := ⟨a, dx, fs, rfl, ha, q⟩
theorem r_fldX {R : Hp → Prop} (ha : H a = some (.ins C dx fs)) (cl : Cls K C) (na : NoAttr K C f) (sz : Nat.ble (fs.length + 1) 1000 = true) (q : R (upd H a (.ins C dx (putF f v fs)))) : ∃ b C dx fs, V.ref a = .ref b ∧ H b = some (.ins C dx fs) ∧ Cls K C ∧ NoAttr K C f ∧ fs.length < 1000 ∧ R (upd H b (.ins C dx (putF f v fs))) :=
  ⟨a, C, dx, fs, rfl, ha, cl, na, Nat.le_of_ble_eq_true sz, q⟩
end
end RH
namespace RH
open PySem L2
/-! ### the house at a place -/
def atF (ps : List (Int × Int)) (q : Int) : Option Int := (ps.find? fun p => decide (p.1 = q)).map (·.2)
theorem atF_some {ps : List (Int × Int)} (nd : (ps.map (·.1)).Nodup) {q h : Int} : atF ps q = some h ↔ (q, h) ∈ ps := by
  induction ps with
  | nil => simp [atF]
  | cons p ps ih =>
    rw [List.map_cons, List.nodup_cons] at nd
    unfold atF at ih ⊢
    rw [List.find?_cons, List.mem_cons]
    by_cases e : p.1 = q
    · rw [decide_eq_true e]
      dsimp only
      rw [Option.map_some]
      constructor
      · intro z
        left
        rw [← Option.some.inj z, ← e]
      · rintro (z | z)
        · rw [← z]
        · exact absurd (List.mem_map_of_mem z) (by rw [← e] at *; exact nd.1)
    · rw [decide_eq_false e]
      dsimp only
      rw [ih nd.2]
      constructor
      · exact .inr
      · rintro (z | z)
        · exact absurd (by rw [← z]) e
        · exact z
theorem atF_perm {ps qs : List (Int × Int)} (pm : qs.Perm ps) (nd : (ps.map (·.1)).Nodup) (q : Int) : atF qs q = atF ps q := by
  have nq : (qs.map (·.1)).Nodup := (pm.map _).nodup_iff.mpr nd
  cases e : atF ps q with
  | some h => exact (atF_some nq).mpr (pm.mem_iff.mpr ((atF_some nd).mp e))
  | none =>
    cases e2 : atF qs q with
    | none => rfl
    | some h =>
      rw [(atF_some nd).mpr (pm.mem_iff.mp ((atF_some nq).mp e2))] at e
      cases e
theorem Asc.nodup {ps : List (Int × Int)} (h : Asc ps) : (ps.map (·.1)).Nodup := by
  unfold List.Nodup
  rw [List.pairwise_map]
  exact h.imp fun z => Int.ne_of_lt z
/-- houses at a, a + 1, .. below a + n -/
def seq (ps : List (Int × Int)) (a : Int) (n : Nat) : List Int := (List.range n).filterMap fun s : Nat => atF ps (a + s)
theorem seq_succ (ps : List (Int × Int)) (a : Int) (n : Nat) : seq ps a (n + 1) = seq ps a n ++ (atF ps (a + n)).toList := by
  unfold seq
  rw [List.range_succ, List.filterMap_append]
  cases h : atF ps (a + (n : Int)) <;> simp [h]
theorem one_place {ps : List (Int × Int)} (h : Asc ps) (m : Int) : (ps.filter fun p => decide (p.1 = m)).map (·.2) = (atF ps m).toList := by
  induction ps with
  | nil => rfl
  | cons p ps ih =>
    have h2 := List.pairwise_cons.mp h
    unfold atF at ih ⊢
    by_cases e : p.1 = m
    · have e2 : ps.filter (fun p => decide (p.1 = m)) = [] := List.filter_eq_nil_iff.mpr fun x hx => by
        have := h2.1 x hx
        rw [decide_eq_true_iff]
        omega
      rw [List.filter_cons_of_pos (by exact decide_eq_true e), List.find?_cons, decide_eq_true e, e2]
      rfl
    · rw [List.filter_cons_of_neg (by rw [decide_eq_true_iff]; exact e), List.find?_cons, decide_eq_false e]
      exact ih h2.2
theorem cut_place {ps : List (Int × Int)} (h : Asc ps) (a m : Int) (am : a ≤ m) : ps.filter (fun p => decide (a ≤ p.1 ∧ p.1 < m + 1)) = ps.filter (fun p => decide (a ≤ p.1 ∧ p.1 < m)) ++ ps.filter (fun p => decide (p.1 = m)) := by
  induction ps with
  | nil => rfl
  | cons p ps ih =>
    have h2 := List.pairwise_cons.mp h
    have ih := ih h2.2
    by_cases e : p.1 < m
    · have n : ¬ p.1 = m := by omega
      by_cases e2 : a ≤ p.1
      · rw [List.filter_cons_of_pos (by exact decide_eq_true (show a ≤ p.1 ∧ p.1 < m + 1 by omega)), List.filter_cons_of_pos (by exact decide_eq_true (show a ≤ p.1 ∧ p.1 < m by omega)), List.filter_cons_of_neg (by rw [decide_eq_true_iff]; exact n), ih]
        rfl
      · rw [List.filter_cons_of_neg (by rw [decide_eq_true_iff]; omega), List.filter_cons_of_neg (by rw [decide_eq_true_iff]; omega), List.filter_cons_of_neg (by rw [decide_eq_true_iff]; exact n), ih]
    · have e3 : ps.filter (fun p => decide (a ≤ p.1 ∧ p.1 < m)) = [] := List.filter_eq_nil_iff.mpr fun x hx => by
        have := h2.1 x hx
        rw [decide_eq_true_iff]
        omega
      rw [e3, List.nil_append] at ih
      rw [List.filter_cons_of_neg (p := fun p : Int × Int => decide (a ≤ p.1 ∧ p.1 < m)) (by rw [decide_eq_true_iff]; omega), e3, List.nil_append]
      by_cases e4 : p.1 = m
      · rw [List.filter_cons_of_pos (by exact decide_eq_true (show a ≤ p.1 ∧ p.1 < m + 1 by omega)), List.filter_cons_of_pos (by exact decide_eq_true e4), ih]
      · rw [List.filter_cons_of_neg (by rw [decide_eq_true_iff]; omega), List.filter_cons_of_neg (by rw [decide_eq_true_iff]; exact e4), ih]
theorem seq_is {ps : List (Int × Int)} (h : Asc ps) (a : Int) : ∀ n : Nat, seq ps a n = (ps.filter fun p => decide (a ≤ p.1 ∧ p.1 < a + n)).map (·.2)
  | 0 => by
    have : ps.filter (fun p => decide (a ≤ p.1 ∧ p.1 < a + (0 : Nat))) = [] := List.filter_eq_nil_iff.mpr fun x hx => by
      rw [decide_eq_true_iff]
      omega
    rw [this]
    rfl
  | n + 1 => by
    rw [seq_succ, seq_is h a n, ← one_place h, ← List.map_append, ← cut_place h a (a + n) (by omega)]
    have : (a : Int) + (n + 1 : Nat) = a + n + 1 := by omega
    rw [this]
/-- all houses from q on, once round -/
theorem seq_turn {ps : List (Int × Int)} (h : Asc ps) (hp : ∀ p ∈ ps, 0 ≤ p.1 ∧ p.1 < 256) {q : Nat} (hq : q ≤ 256) : seq ps q (256 - q) ++ seq ps 0 q = (turn ps q).map (·.2) := by
  rw [seq_is h, seq_is h, ← List.map_append]
  unfold turn
  congr 2
  · refine List.filter_congr fun x hx => ?_
    have := hp x hx
    rw [decide_eq_decide]
    omega
  · refine List.filter_congr fun x hx => ?_
    have := hp x hx
    rw [decide_eq_decide]
    omega
/-- at a step of a walk round -/
def ring (ps : List (Int × Int)) (q : Int) (n : Nat) : List Int := (List.range n).filterMap fun s : Nat => atF ps ((q + s) % 256)
theorem ring_succ (ps : List (Int × Int)) (q : Int) (n : Nat) : ring ps q (n + 1) = ring ps q n ++ (atF ps ((q + n) % 256)).toList := by
  unfold ring
  rw [List.range_succ, List.filterMap_append]
  cases h : atF ps ((q + (n : Int)) % 256) <;> simp [h]
theorem ring_low (ps : List (Int × Int)) {q : Nat} (hq : q < 256) : ∀ n : Nat, n ≤ 256 - q → ring ps q n = seq ps q n
  | 0, _ => rfl
  | n + 1, h => by
    rw [ring_succ, seq_succ, ring_low ps hq n (by omega)]
    congr 3
    omega
theorem ring_high (ps : List (Int × Int)) {q : Nat} (hq : q < 256) : ∀ n : Nat, n ≤ q → ring ps q (256 - q + n) = seq ps q (256 - q) ++ seq ps 0 n
  | 0, _ => by
    rw [Nat.add_zero, ring_low ps hq _ (Nat.le_refl _)]
    simp [seq]
  | n + 1, h => by
    rw [← Nat.add_assoc, ring_succ, seq_succ, ring_high ps hq n (by omega), List.append_assoc]
    congr 4
    omega
theorem ring_all {ps : List (Int × Int)} (h : Asc ps) (hp : ∀ p ∈ ps, 0 ≤ p.1 ∧ p.1 < 256) {q : Nat} (hq : q < 256) : ring ps q 256 = (turn ps q).map (·.2) := by
  rw [← seq_turn h hp (by omega), ← ring_high ps hq q (Nat.le_refl _)]
  congr 1
  omega
/-! ### the same list, from behind -/
theorem ddS_cons (h x : Int) (os : List Int) : ddS (h :: os.filter fun o => decide (o ≠ h)) x = h :: (ddS os x).filter fun o => decide (o ≠ h) := by
  have mem : x ∈ h :: os.filter (fun o => decide (o ≠ h)) ↔ x = h ∨ x ∈ os := by
    rw [List.mem_cons, List.mem_filter, decide_eq_true_iff]
    by_cases e : x = h <;> simp [e]
  unfold ddS
  by_cases e : x ∈ os
  · rw [if_pos (mem.mpr (.inr e)), if_pos e]
  · rw [if_neg e]
    by_cases e2 : x = h
    · rw [if_pos (mem.mpr (.inl e2)), List.filter_append, e2]
      simp
    · rw [if_neg fun z => (mem.mp z).elim e2 e, List.filter_append, List.filter_cons_of_pos (by exact decide_eq_true e2)]
      rfl
theorem dd_cons (h : Int) (l : List Int) : dd (h :: l) = h :: (dd l).filter fun o => decide (o ≠ h) := by
  have go : ∀ (l os : List Int), l.foldl ddS (h :: os.filter fun o => decide (o ≠ h)) = h :: (l.foldl ddS os).filter fun o => decide (o ≠ h) := by
    intro l
    induction l with
    | nil => exact fun os => rfl
    | cons x l ih =>
      intro os
      rw [List.foldl_cons, List.foldl_cons, ddS_cons, ih]
  exact go l []
theorem dd_rest {l m : List Int} (h : ∀ o ∈ m, o ∈ l) : dd (l ++ m) = dd l := by
  have go : ∀ (m os : List Int), (∀ o ∈ m, o ∈ os) → m.foldl ddS os = os := by
    intro m
    induction m with
    | nil => exact fun os _ => rfl
    | cons x m ih =>
      intro os ho
      rw [List.foldl_cons]
      unfold ddS
      rw [if_pos (ho x List.mem_cons_self)]
      exact ih os fun o hm => ho o (List.mem_cons_of_mem _ hm)
  unfold dd
  rw [List.foldl_append]
  exact go m _ fun o hm => dd_mem.mpr (h o hm)
/-- what was gone through from behind, the latest first -/
def back (ps : List (Int × Int)) : Nat → List Int
  | 0 => []
  | n + 1 => (atF ps (255 - (n : Int) % 256)).toList ++ back ps n
theorem back_one (ps : List (Int × Int)) : ∀ n : Nat, n ≤ 256 → back ps n = seq ps (256 - (n : Int)) n
  | 0, _ => rfl
  | n + 1, h => by
    show (atF ps (255 - (n : Int) % 256)).toList ++ back ps n = _
    rw [back_one ps n (by omega)]
    unfold seq
    rw [List.range_succ_eq_map, List.filterMap_cons, List.filterMap_map]
    have e1 : (255 - (n : Int) % 256) = 256 - ((n + 1 : Nat) : Int) + (0 : Nat) := by omega
    have e2 : ((fun s : Nat => atF ps (256 - ((n + 1 : Nat) : Int) + s)) ∘ Nat.succ) = fun s : Nat => atF ps (256 - (n : Int) + s) := by
      funext s
      show atF ps _ = atF ps _
      congr 1
      omega
    rw [e1, e2]
    cases atF ps (256 - ((n + 1 : Nat) : Int) + (0 : Nat)) <;> rfl
theorem back_two (ps : List (Int × Int)) : ∀ n : Nat, n ≤ 256 → back ps (256 + n) = seq ps (256 - (n : Int)) n ++ seq ps 0 256
  | 0, _ => by
    rw [Nat.add_zero, back_one ps 256 (Nat.le_refl _)]
    rfl
  | n + 1, h => by
    show (atF ps (255 - ((256 + n : Nat) : Int) % 256)).toList ++ back ps (256 + n) = _
    rw [back_two ps n (by omega), ← List.append_assoc]
    congr 1
    rw [show (255 - ((256 + n : Nat) : Int) % 256) = 255 - (n : Int) % 256 by omega]
    rw [← back_one ps n (by omega), ← back_one ps (n + 1) h]
    rfl
theorem seq_split (ps : List (Int × Int)) (a : Int) (m : Nat) : ∀ n : Nat, seq ps a (m + n) = seq ps a m ++ seq ps (a + m) n
  | 0 => by simp [seq]
  | n + 1 => by
    rw [← Nat.add_assoc, seq_succ, seq_split ps a m n, seq_succ, List.append_assoc, show a + ((m + n : Nat) : Int) = a + m + n by omega]
/-- from behind, twice round: the same owners -/
theorem back_own {ps : List (Int × Int)} (h : Asc ps) (hp : ∀ p ∈ ps, 0 ≤ p.1 ∧ p.1 < 256) {q : Nat} (hq : q < 256) (c : Int) : (dd (back ps (512 - q))).take c.toNat = own ps c q := by
  have e : 512 - q = 256 + (256 - q) := by omega
  rw [e, back_two ps _ (by omega)]
  have e2 : (256 - ((256 - q : Nat) : Int)) = q := by omega
  rw [e2]
  have e3 : seq ps 0 256 = seq ps 0 q ++ seq ps q (256 - q) := by
    have z := seq_split ps 0 q (256 - q)
    rw [show q + (256 - q) = 256 by omega, Int.zero_add] at z
    exact z
  rw [e3, ← List.append_assoc, dd_rest (fun o ho => List.mem_append_left _ ho), seq_turn h hp (by omega)]
  rfl
/-! ### the law's dict of places -/
def dOf (ps : List (Int × Int)) : List (Key × V) := ps.map fun p => (.inl p.1, .int p.2)
theorem dOf_val (ps : List (Int × Int)) (q : Int) : valV (dOf ps) (.inl q) = (atF ps q).map V.int := by
  induction ps with
  | nil => rfl
  | cons p ps ih =>
    unfold valV dOf atF at ih ⊢
    rw [List.map_cons, List.find?_cons, List.find?_cons]
    by_cases e : p.1 = q
    · rw [decide_eq_true e, decide_eq_true (show (Sum.inl p.1 : Key) = .inl q by rw [e])]
      rfl
    · rw [decide_eq_false e, decide_eq_false (show ¬ (Sum.inl p.1 : Key) = .inl q from fun z => e (Sum.inl.inj z))]
      exact ih
theorem atF_none {ps : List (Int × Int)} {q : Int} (h : q ∉ ps.map (·.1)) : atF ps q = none := by
  unfold atF
  rw [List.find?_eq_none.mpr fun p hp z => h (List.mem_map.mpr ⟨p, hp, of_decide_eq_true z⟩)]
  rfl
theorem dOf_snoc {ps : List (Int × Int)} {p : Int × Int} (h : p.1 ∉ ps.map (·.1)) : putK (dOf ps) (.inl p.1) (.int p.2) = dOf (ps ++ [p]) := by
  rw [putK_new _ (by rw [dOf_val, atF_none h]; rfl)]
  unfold dOf
  rw [List.map_append]
  rfl
theorem hu1 {k : Nat} {A : Around} (r : Room k A) : A.units + 1 < cLine := Nat.lt_of_le_of_lt (by omega) (hu65 r)
theorem r_dput {td ty tv : TE} {nx bk ct : L2.St → Hp → Prop} {rt : VK} {σ : L2.St} {H : Hp} (h : tv σ H fun v H1 => td σ H1 fun x H2 => ty σ H2 fun y H3 => ∃ a H4, x = V.ref a ∧ DPut H3 a y v H4 ∧ nx σ H4) : sDPut td ty tv ⟨nx, rt, bk, ct⟩ σ H := h
theorem r_dget1 {td ty : TE} {σ : L2.St} {H : Hp} {Q : VK} (h : td σ H fun x H1 => ∃ a, x = V.ref a ∧ IsD H1 a ∧ ty σ H1 fun y H2 => ∃ o, DGet H2 a y o ∧ Q (o.getD .non) H2) : tDGet1 td ty σ H Q := h
theorem r_dnew {σ : L2.St} {H : Hp} {Q : VK} (h : ∀ p, H p = none → Q (.ref p) (upd H p (.dK []))) : tDNewK σ H Q := h
theorem isD_of {H : Hp} {d : Addr} {kvs : List (Key × V)} (h : H d = some (.dK kvs)) : IsD H d := .inl ⟨kvs, .inl h⟩
/-- one step of the law's walk -/
def wkS (c : Int) (os : List Int) : Option Int → List Int
  | none => os
  | some h => if h ∉ os ∧ (os.length : Int) < c then os ++ [h] else os
theorem wkS_dd {c : Int} (c0 : 0 ≤ c) (l : List Int) (o : Option Int) : wkS c ((dd l).take c.toNat) o = (dd (l ++ o.toList)).take c.toNat := by
  cases o with
  | none => simp [wkS]
  | some h =>
    show (if h ∉ (dd l).take c.toNat ∧ (((dd l).take c.toNat).length : Int) < c then (dd l).take c.toNat ++ [h] else (dd l).take c.toNat) = (dd (l ++ [h])).take c.toNat
    rw [dd_snoc]
    unfold ddS
    by_cases lt : ((dd l).length : Int) < c
    · have e : (dd l).take c.toNat = dd l := List.take_of_length_le (by omega)
      rw [e]
      by_cases m : h ∈ dd l
      · rw [if_neg (fun z => z.1 m), if_pos m, e]
      · rw [if_pos ⟨m, lt⟩, if_neg m, List.take_of_length_le (by rw [List.length_append, List.length_singleton]; omega)]
    · have e : (((dd l).take c.toNat).length : Int) = c := by rw [List.length_take]; omega
      rw [if_neg fun z => by omega]
      by_cases m : h ∈ dd l
      · rw [if_pos m]
      · rw [if_neg m, List.take_append_of_le_length (by omega)]
def spWalkL : Sp := fun vs H Q _ => ∃ (a : Addr) (xs : List V) (ps : List (Int × Int)) (q c : Int), vs = [.ref a, .int q, .int c] ∧ H a = some (.lst xs) ∧ PtsAt H xs ps ∧ (ps.map (·.1)).Nodup ∧ ps.length ≤ 300 ∧ 1 ≤ c ∧ 0 ≤ q ∧
  ∀ H' p, Same H H' → H p = none → H' p = some (.lst (((dd (ring ps q 256)).take c.toNat).map V.int)) → Q (.ref p) H'
def spAllOwners : Sp := fun vs H Q _ => ∃ (a : Addr) (xs : List V) (ps : List (Int × Int)) (c : Int), vs = [.ref a, .int c] ∧ H a = some (.lst xs) ∧ PtsAt H xs ps ∧ (ps.map (·.1)).Nodup ∧ ps.length ≤ 300 ∧ 1 ≤ c ∧
  ∀ H' p vs, Same H H' → H p = none → H' p = some (.lst vs) → vs.length = 256 → (∀ q, q < 256 → ∃ b, vs[q]? = some (V.ref b) ∧ H b = none ∧ H' b = some (.lst (((dd (back ps (512 - q))).take c.toNat).map V.int))) → Q (.ref p) H'
def spSameInts : Sp := fun vs H Q _ => ∃ (a b : Addr) (os : List Int), vs = [.ref a, .ref b] ∧ H a = some (.lst (os.map V.int)) ∧ H b = some (.lst (os.map V.int)) ∧ os.length ≤ 1000 ∧ Q (.bl true) H
theorem atF_mem {ps : List (Int × Int)} {q h : Int} (e : atF ps q = some h) : h ∈ ps.map (·.2) := by
  unfold atF at e
  cases z : ps.find? (fun p => decide (p.1 = q)) with
  | none => rw [z] at e; cases e
  | some p =>
    rw [z] at e
    rw [← Option.some.inj e]
    exact List.mem_map_of_mem (List.mem_of_find?_eq_some z)
theorem back_mem {ps : List (Int × Int)} : ∀ {n : Nat} {o : Int}, o ∈ back ps n → o ∈ ps.map (·.2)
  | 0, o, h => nomatch h
  | n + 1, o, h => by
    have h : o ∈ (atF ps (255 - (n : Int) % 256)).toList ++ back ps n := h
    rcases List.mem_append.mp h with z | z
    · cases e : atF ps (255 - (n : Int) % 256) with
      | none => rw [e] at z; cases z
      | some x =>
        rw [e, Option.toList_some, List.mem_singleton] at z
        rw [z]
        exact atF_mem e
    · exact back_mem z
theorem back_few {ps : List (Int × Int)} (few : ps.length ≤ 300) (n : Nat) : (dd (back ps n)).length ≤ 300 := by
  have h1 := le_of_sub (dd_nodup (back ps n)) (dd_nodup (ps.map (·.2))) fun o ho => dd_mem.mpr (back_mem (dd_mem.mp ho))
  have h2 := dd_len (ps.map (·.2))
  rw [List.length_map] at h2
  omega
theorem filt_pairs {α : Type} (b : α → Bool) (f : α → Int) : ∀ l : List α, ((l.map fun i => (b i, V.int (f i))).filter (·.1)).map (·.2) = ((l.filter b).map f).map V.int
  | [] => rfl
  | i :: l => by
    have ih := filt_pairs b f l
    cases e : b i with
    | true => simp [e, ih]
    | false => simp [e, ih]
/-- the places of a house -/
def plI (ps : List (Int × Int)) (c h : Int) : List Int := ((List.range 256).filter fun i : Nat => decide (h ∈ own ps c i)).map fun i : Nat => (i : Int)
theorem plI_len (ps : List (Int × Int)) (c h : Int) : (plI ps c h).length ≤ 256 := by
  unfold plI
  rw [List.length_map]
  exact Nat.le_trans (List.length_filter_le ..) (by rw [List.length_range]; exact Nat.le_refl _)
def spPlacesOf (C : Addr) : Sp := fun vs H Q _ => ∃ x c ps h, vs = [.ref x, .int h] ∧ RingAt H x C c ps ∧ ∀ H' p, Same H H' → H p = none → H' p = some (.lst ((plI ps c h).map V.int)) → Q (.ref p) H'
/-- houses that the law draws -/
def pool26 (ms : List Int) : List Int := ms ++ (List.range 24).map fun k : Nat => 3 * (k : Int) + 1
def spPoints26 : Sp := fun vs H Q _ => ∃ (l pl : Addr) (ds ms : List Int) (first : Int), vs = [.ref l, .int first, .ref pl] ∧ H l = some (.lst (ds.map V.int)) ∧ DrawsOk ds ∧ 0 ≤ first ∧ H pl = some (.lst (ms.map V.int)) ∧ ms.length = 9 ∧ (∀ m ∈ ms, 0 ≤ m ∧ m ≤ 1000000000000) ∧
  ∀ H' p xs ps, Same H H' → H p = none → H' p = some (.lst xs) → PtsAt H' xs ps → OkPts ps 1 → (∀ x ∈ ps, x.2 ∈ pool26 ms) → Q (.ref p) H'
/-- a field, within a block -/
theorem pe_fldK {X : Cx} {K : PySem.W.Frag} {e : Expr} {ta : TE} {f : Str} {pos : Pos} (hK : X.K = K) (he : PE X e ta) (hb : attributeBase e f X.env (eval e X.env) = eval e X.env) : PE X (.Attribute e f pos) (tFld K ta f) := by
  subst hK
  exact pe_fld he hb
theorem ring_perm {ps qs : List (Int × Int)} (pm : qs.Perm ps) (nd : (ps.map (·.1)).Nodup) (q : Int) (n : Nat) : ring ps q n = ring qs q n := by
  unfold ring
  congr 1
  funext s
  exact (atF_perm pm nd _).symm
theorem back_perm {ps qs : List (Int × Int)} (pm : qs.Perm ps) (nd : (ps.map (·.1)).Nodup) : ∀ n : Nat, back ps n = back qs n
  | 0 => rfl
  | n + 1 => by
    show (atF ps _).toList ++ back ps n = (atF qs _).toList ++ back qs n
    rw [back_perm pm nd n, atF_perm pm nd]
/-- in 80 numbers there is one that is not among fewer -/
theorem one_free {os : List Int} (h : os.length < 80) : 0 < (((List.range 80).filter fun i : Nat => !decide ((i : Int) ∈ os)).map fun i : Nat => (i : Int)).length := by
  rcases Nat.eq_zero_or_pos ((((List.range 80).filter fun i : Nat => !decide ((i : Int) ∈ os)).map fun i : Nat => (i : Int)).length) with z | z
  · exfalso
    rw [List.length_map] at z
    have e := List.eq_nil_of_length_eq_zero z
    have all : ∀ i : Nat, i < 80 → (i : Int) ∈ os := fun i hi => by
      have := List.filter_eq_nil_iff.mp e i (List.mem_range.mpr hi)
      simpa using this
    have nd : ((List.range 80).map fun i : Nat => (i : Int)).Nodup := by
      unfold List.Nodup
      rw [List.pairwise_map]
      exact List.Pairwise.imp (fun lt => by omega) List.pairwise_lt_range
    have := le_of_sub nd (dd_nodup os) fun o ho => by
      obtain ⟨i, hi, rfl⟩ := List.mem_map.mp ho
      exact dd_mem.mpr (all i (List.mem_range.mp hi))
    have h2 := dd_len os
    rw [List.length_map, List.length_range] at this
    omega
  · exact z
end RH
namespace RH
open PySem L2
/-! ### rings as objects that are compared by value -/
/-- a ring whose value is the pair of c and the tuple at tp -/
def RX (K : PySem.W.Frag) (H : Hp) (r C : Addr) (c : Int) (tp : Addr) : Prop := (∃ dx ow, H r = some (.ins C dx [("_copies", .int c), ("_points", .ref tp), ("_owners", .ref ow)])) ∧ Ev K 10 H (.ref tp)
theorem RX.mono {K : PySem.W.Frag} {H H' : Hp} {r C : Addr} {c : Int} {tp : Addr} (h : RX K H r C c tp) (s : Same H H') : RX K H' r C c tp := by
  obtain ⟨⟨dx, ow, e⟩, v⟩ := h
  exact ⟨⟨dx, ow, s _ _ e⟩, v.mono (TuK.of s)⟩
theorem RX.fr {K : PySem.W.Frag} {H H' : Hp} {r C l : Addr} {c : Int} {tp : Addr} {xs : List V} (h : RX K H r C c tp) (f : Fr l H H') (hl : H l = some (.lst xs)) : RX K H' r C c tp := by
  obtain ⟨⟨dx, ow, e⟩, v⟩ := h
  exact ⟨⟨dx, ow, f _ _ (ne_obj e hl (fun z => by cases z)) e⟩, v.mono (TuK.frL f hl)⟩
theorem pts_ev {K : PySem.W.Frag} {H : Hp} {tp : Addr} {xs : List V} {ps : List (Int × Int)} (h : H tp = some (.tup xs)) (hp : PtsAt H xs ps) : Ev K 10 H (.ref tp) := by
  refine ev_tup (n := 9) h fun x hx => ?_
  obtain ⟨i, hi, rfl⟩ := List.mem_iff_getElem.mp hx
  have hj : i < ps.length := by rw [← hp.1]; exact hi
  obtain ⟨t, e, ht⟩ := hp.2 i xs[i] ps[i] (List.getElem?_eq_getElem hi) (List.getElem?_eq_getElem hj)
  rw [e]
  refine ev_tup (n := 8) ht fun y hy => ?_
  simp only [List.mem_cons, List.not_mem_nil, or_false] at hy
  rcases hy with rfl | rfl
  · exact ev_int _
  · exact ev_int _
theorem RingAt.rx {K : PySem.W.Frag} {H : Hp} {r C : Addr} {c : Int} {ps : List (Int × Int)} (h : RingAt H r C c ps) : ∃ tp, RX K H r C c tp := by
  obtain ⟨dx, tp, ow, xs, fs, a, b, p, _⟩ := h
  exact ⟨tp, ⟨dx, ow, a⟩, pts_ev b p⟩
def spRingCX (K : PySem.W.Frag) (C : Addr) : Sp := fun vs H Q _ => ∃ r c tp, vs = [.ref r] ∧ RX K H r C c tp ∧ Q (.int c) H
def spRingVal (K : PySem.W.Frag) (C : Addr) : Sp := fun vs H Q _ => ∃ r c tp, vs = [.ref r] ∧ RX K H r C c tp ∧ ∀ H' p, Same H H' → H p = none → H' p = some (.tup [.int c, .ref tp]) → Q (.ref p) H'
/-! ### the notary -/
def NotAt (C : Addr) (H : Hp) (n l t : Addr) (rs : List Addr) : Prop := (∃ dx, H n = some (.ins C dx [("terms", .ref t), ("_rings", .ref l)])) ∧ H l = some (.lst (rs.map V.ref))
def spNewest (C : Addr) : Sp := fun vs H Q _ => ∃ n l t rs, vs = [.ref n] ∧ NotAt C H n l t rs ∧ Q (.int ((rs.length : Int) - 1)) H
def spEnter (K : PySem.W.Frag) (C CR CT CB : Addr) : Sp := fun vs H Q E => ∃ n l t rs r c tp c' w rd, vs = [.ref n, .ref r] ∧ NotAt C H n l t rs ∧ RX K H r CR c tp ∧ TermsAt H t CT c' w rd ∧ rs.length < 900 ∧
  (c = c' → ∀ H', Fr l H H' → H' l = some (.lst ((rs ++ [r]).map V.ref)) → Q (.int rs.length) H') ∧ (c ≠ c' → E (.ref CB) none H)
def spNotI (K : PySem.W.Frag) (C CR CT CB : Addr) : Sp := fun vs H Q E => ∃ n dx t r c tp c' w rd, vs = [.ref n, .ref r, .ref t] ∧ H n = some (.ins C dx []) ∧ RX K H r CR c tp ∧ TermsAt H t CT c' w rd ∧
  (c = c' → ∀ H' l, (∀ b o, b ≠ n → H b = some o → H' b = some o) → H l = none → NotAt C H' n l t [r] → Q .non H') ∧ (c ≠ c' → ∀ H', (∀ b o, b ≠ n → H b = some o → H' b = some o) → E (.ref CB) none H')
def spRingOf (C CU : Addr) : Sp := fun vs H Q E => ∃ n l t rs v, vs = [.ref n, .int v] ∧ NotAt C H n l t rs ∧ (∀ r, 0 ≤ v → rs[v.toNat]? = some r → Q (.ref r) H) ∧ ((v < 0 ∨ (rs.length : Int) ≤ v) → E (.ref CU) none H)
end RH
namespace RH
open PySem L2
theorem PtsAt.fr {H H' : Hp} {l : Addr} {ys xs : List V} {ps : List (Int × Int)} (h : PtsAt H xs ps) (f : Fr l H H') (hl : H l = some (.lst ys)) : PtsAt H' xs ps := ⟨h.1, fun i x p a b => by
  obtain ⟨t, e, z⟩ := h.2 i x p a b
  exact ⟨t, e, f _ _ (ne_obj z hl (fun z => by cases z)) z⟩⟩
theorem steps_nd {a S : Int} (hS : ∃ m, S = 2 * m + 1) (s0 : 0 ≤ S) {n : Nat} (hn : n ≤ 256) : ((List.range n).map fun i : Nat => (a + (i : Int) * S) % 256).Nodup := by
  rw [List.nodup_iff_pairwise_ne, List.pairwise_map]
  refine List.pairwise_lt_range.imp_of_mem fun {i j} hi hj h => ?_
  exact odd_steps hS s0 h (by have := List.mem_range.mp hj; omega)
theorem turns_many {a : Int} {c : Nat} (hc : c ≤ 7) {hs : List Int} (h : ∀ k : Nat, k < c → (a + (k : Int)) % 7 ∈ hs) : (c : Int) ≤ ((dd hs).length : Int) := by
  have nd : ((List.range c).map fun k : Nat => (a + (k : Int)) % 7).Nodup := by
    rw [List.nodup_iff_pairwise_ne, List.pairwise_map]
    refine List.pairwise_lt_range.imp_of_mem fun {i j} hi hj h => ?_
    have := List.mem_range.mp hj
    omega
  have z := le_of_sub nd (dd_nodup hs) fun o ho => by
    obtain ⟨k, hk, rfl⟩ := List.mem_map.mp ho
    exact dd_mem.mpr (h k (List.mem_range.mp hk))
  rw [List.length_map, List.length_range] at z
  omega
/-- Ring(..) of the law: copies of 7 houses -/
def spLawRing (C : Addr) : Sp := fun vs H Q _ => ∃ c d : Int, vs = [.int 7, .int c, .int d] ∧ 1 ≤ c ∧ c ≤ 7 ∧ 0 ≤ d ∧ d ≤ 6000 ∧ ∀ H' x ps, Same H H' → H x = none → RingAt H' x C c ps → Q (.ref x) H'
def spLawTerms (C : Addr) : Sp := fun vs H Q _ => ∃ d : Int, vs = [.int d] ∧ 0 ≤ d ∧ ∀ H' t c w r, Same H H' → H t = none → TermsAt H' t C c w r → 1 ≤ c → c ≤ 4 → Q (.ref t) H'
end RH
namespace RH
open PySem L2
/-- the notary's rings and the values that the law keeps -/
def Vals31 (K : PySem.W.Frag) (CR : Addr) (H : Hp) (rs : List Addr) (ws : List V) : Prop := rs.length = ws.length ∧ ∀ (i : Nat) r v, rs[i]? = some r → ws[i]? = some v → ∃ c tp p, v = .ref p ∧ RX K H r CR c tp ∧ H p = some (.tup [.int c, .ref tp])
theorem Vals31.mono {K : PySem.W.Frag} {CR : Addr} {H H' : Hp} {rs : List Addr} {ws : List V} (h : Vals31 K CR H rs ws) (s : Same H H') : Vals31 K CR H' rs ws := ⟨h.1, fun i r v a b => by
  obtain ⟨c, tp, p, e, x, z⟩ := h.2 i r v a b
  exact ⟨c, tp, p, e, x.mono s, s _ _ z⟩⟩
theorem Vals31.fr {K : PySem.W.Frag} {CR l : Addr} {H H' : Hp} {rs : List Addr} {ws ys : List V} (h : Vals31 K CR H rs ws) (f : Fr l H H') (hl : H l = some (.lst ys)) : Vals31 K CR H' rs ws := ⟨h.1, fun i r v a b => by
  obtain ⟨c, tp, p, e, x, z⟩ := h.2 i r v a b
  exact ⟨c, tp, p, e, x.fr f hl, f _ _ (ne_obj z hl (fun z => by cases z)) z⟩⟩
theorem Vals31.snoc {K : PySem.W.Frag} {CR : Addr} {H : Hp} {rs : List Addr} {ws : List V} (h : Vals31 K CR H rs ws) {r p tp : Addr} {c : Int} (x : RX K H r CR c tp) (z : H p = some (.tup [.int c, .ref tp])) : Vals31 K CR H (rs ++ [r]) (ws ++ [.ref p]) := by
  refine ⟨by simp [h.1], fun i r' v a b => ?_⟩
  by_cases y : i < rs.length
  · rw [List.getElem?_append_left y] at a
    rw [List.getElem?_append_left (by have := h.1; omega)] at b
    exact h.2 i r' v a b
  · rw [List.getElem?_append_right (by omega)] at a
    rw [List.getElem?_append_right (by have := h.1; omega)] at b
    have e1 : i - rs.length = 0 := by
      have := (List.getElem?_eq_some_iff.mp a).1
      rw [List.length_singleton] at this
      omega
    have e2 : i - ws.length = 0 := by have := h.1; omega
    rw [e1] at a
    rw [e2] at b
    cases a
    cases b
    exact ⟨c, tp, p, rfl, x, z⟩
def spLawEnter (K : PySem.W.Frag) (C CR CT : Addr) : Sp := fun vs H Q _ => ∃ n l t rs r c tp c' w rd, vs = [.ref n, .ref r] ∧ NotAt C H n l t rs ∧ RX K H r CR c tp ∧ TermsAt H t CT c' w rd ∧ rs.length < 900 ∧
  (c = c' → ∀ H' p, Fr l H H' → H' l = some (.lst ((rs ++ [r]).map V.ref)) → H' p = some (.tup [.str "entered", .int rs.length]) → Q (.ref p) H') ∧ (c ≠ c' → ∀ H' p, Same H H' → H' p = some (.tup [.str "bad", .bl true]) → Q (.ref p) H')
def spLawLooked (K : PySem.W.Frag) (C CR : Addr) : Sp := fun vs H Q _ => ∃ n l t rs ws v, vs = [.ref n, .int v] ∧ NotAt C H n l t rs ∧ Vals31 K CR H rs ws ∧
  (∀ p', 0 ≤ v → ws[v.toNat]? = some (.ref p') → ∀ H' p xs, Same H H' → H' p' = some (.tup xs) → H' p = some (.tup xs) → (∀ x ∈ xs, Ev K 60 H' x) → Q (.ref p) H') ∧
  ((v < 0 ∨ (rs.length : Int) ≤ v) → ∀ H' p, Same H H' → H' p = some (.tup [.str "unknown", .bl true]) → Q (.ref p) H')
def spLawMade (K : PySem.W.Frag) (C CR CT : Addr) : Sp := fun vs H Q _ => ∃ r t c tp c' w rd, vs = [.ref r, .ref t] ∧ RX K H r CR c tp ∧ TermsAt H t CT c' w rd ∧
  (c = c' → ∀ H' n l, Same H H' → H n = none → H l = none → NotAt C H' n l t [r] → Q (.ref n) H') ∧ (c ≠ c' → ∀ H', Same H H' → Q .non H')
def spLawHolds31 (K : PySem.W.Frag) (C CR : Addr) : Sp := fun vs H Q _ => ∃ n l t rs vl ws, vs = [.ref n, .ref vl] ∧ NotAt C H n l t rs ∧ H vl = some (.lst ws) ∧ Vals31 K CR H rs ws ∧ rs.length ≤ 50 ∧ ∀ H', Same H H' → Q (.bl true) H'
theorem NotAt.mono {C n l t : Addr} {H H' : Hp} {rs : List Addr} (h : NotAt C H n l t rs) (s : Same H H') : NotAt C H' n l t rs := ⟨h.1.imp fun _ e => s _ _ e, s _ _ h.2⟩
theorem NotAt.fr {C n l t k : Addr} {H H' : Hp} {rs : List Addr} {ys : List V} (h : NotAt C H n l t rs) (f : Fr k H H') (hk : H k = some (.lst ys)) (ne : l ≠ k) : NotAt C H' n l t rs := ⟨h.1.imp fun _ e => f _ _ (ne_obj e hk (fun z => by cases z)) e, f _ _ ne h.2⟩
theorem TermsAt.fr {t C l : Addr} {H H' : Hp} {c w r : Int} {ys : List V} (h : TermsAt H t C c w r) (f : Fr l H H') (hl : H l = some (.lst ys)) : TermsAt H' t C c w r := by
  obtain ⟨dx, e⟩ := h
  exact ⟨dx, f _ _ (ne_obj e hl (fun z => by cases z)) e⟩
end RH
namespace RH
open PySem L2
/-- what the law holds: two notaries, their values, the terms, the draws -/
structure NB (K : PySem.W.Frag) (C CR CT : Addr) (ds : List Int) (l t n ln vl m lm kl : Addr) (c w r : Int) (rs : List Addr) (ws : List V) (rs2 : List Addr) (ws2 : List V) (H : Hp) : Prop where
  hl : H l = some (.lst (ds.map V.int))
  hT : TermsAt H t CT c w r
  hn : NotAt C H n ln t rs
  hv : H vl = some (.lst ws)
  vn : Vals31 K CR H rs ws
  hm : NotAt C H m lm t rs2
  hk : H kl = some (.lst ws2)
  vm : Vals31 K CR H rs2 ws2
theorem NB.mono {K : PySem.W.Frag} {C CR CT : Addr} {ds : List Int} {l t n ln vl m lm kl : Addr} {c w r : Int} {rs rs2 : List Addr} {ws ws2 : List V} {H H' : Hp} (b : NB K C CR CT ds l t n ln vl m lm kl c w r rs ws rs2 ws2 H) (s : Same H H') : NB K C CR CT ds l t n ln vl m lm kl c w r rs ws rs2 ws2 H' :=
  ⟨s _ _ b.hl, b.hT.mono s, b.hn.mono s, s _ _ b.hv, b.vn.mono s, b.hm.mono s, s _ _ b.hk, b.vm.mono s⟩
end RH
namespace RH
open PySem L2
/-! ### what makes a ring -/
def lt256 : D → Bool | .int i => decide (i < 256) | _ => false
def isPtD : D → Bool | .tup [a, b] => isNum a && (lt256 a && isNum b) | _ => false
def intD : D → Int | .int i => i | _ => 0
def ptD : D → Int × Int | .tup [a, b] => (intD a, intD b) | _ => (0, 0)
def arePts : D → Bool | .lst ds => ds.all isPtD && decide ((dd (ds.map fun d => (ptD d).1)).length = ds.length) | _ => false
def okCp : D → Bool | .int c => decide (1 ≤ c) && decide (c ≤ 7) | _ => false
def okRing (a c : D) : Bool := match a, c with
  | .lst ds, .int c => arePts (.lst ds) && (okCp (.int c) && decide (c ≤ ((dd (ds.map fun d => (ptD d).2)).length : Int)))
  | _, _ => false
theorem isPt_is {d : D} (h : isPtD d = true) : ∃ a b : Int, d = .tup [.int a, .int b] ∧ 0 ≤ a ∧ a < 256 ∧ 0 ≤ b ∧ b ≤ 1000000000000 := by
  unfold isPtD at h
  split at h
  · rename_i x y
    simp only [Bool.and_eq_true] at h
    obtain ⟨h1, h2, h3⟩ := h
    cases x with
    | int a =>
      cases y with
      | int b =>
        have e1 : (limI a && decide (0 ≤ a)) = true := h1
        have e2 : decide (a < 256) = true := h2
        have e3 : (limI b && decide (0 ≤ b)) = true := h3
        unfold limI at e1 e3
        simp only [Bool.and_eq_true, decide_eq_true_iff] at e1 e2 e3
        exact ⟨a, b, rfl, by omega, by omega, by omega, by omega⟩
      | _ => cases h3
    | _ => cases h1
  · cases h
theorem pts_rep {K : PySem.W.Frag} {CC : Addr → Prop} {H : Hp} {xs : List V} {ds : List D} (hl : xs.length = ds.length) (hi : ∀ (i : Nat) (x : V) (d : D), xs[i]? = some x → ds[i]? = some d → Rep K CC H x d) (ok : ds.all isPtD = true) : PtsAt H xs (ds.map ptD) := by
  refine ⟨by rw [List.length_map]; exact hl, fun i x p h1 h2 => ?_⟩
  rw [List.getElem?_map] at h2
  cases z : ds[i]? with
  | none => rw [z] at h2; cases h2
  | some d =>
    rw [z] at h2
    obtain rfl := Option.some.inj h2
    obtain ⟨a, b, rfl, _⟩ := isPt_is (List.all_eq_true.mp ok d (List.mem_of_getElem? z))
    cases hi i x _ h1 z with
    | @tup t ys _ ht hy _ hz =>
      match ys, hy with
      | [y1, y2], _ =>
        have r1 := hz 0 y1 (.int a) rfl rfl
        have r2 := hz 1 y2 (.int b) rfl rfl
        cases r1
        cases r2
        exact ⟨t, rfl, ht⟩
theorem nodup_of_dd : ∀ {l : List Int}, (dd l).length = l.length → l.Nodup := fun {l} h => by
  induction l with
  | nil => exact List.nodup_nil
  | cons a l ih =>
    rw [dd_cons] at h
    have h1 : ((dd l).filter fun o => decide (o ≠ a)).length = l.length := by simpa using h
    have h2 : ((dd l).filter fun o => decide (o ≠ a)).length ≤ (dd l).length := List.length_filter_le ..
    have h3 := dd_len l
    have e : (dd l).length = l.length := by omega
    have nd := ih e
    refine List.nodup_cons.mpr ⟨fun m => ?_, nd⟩
    have m2 : a ∈ dd l := dd_mem.mpr m
    have h4 : ((dd l).filter fun o => decide (o ≠ a)).length < (dd l).length := by
      refine Nat.lt_of_le_of_ne h2 fun z => ?_
      have := (List.filter_eq_self.mp (List.Sublist.eq_of_length (List.filter_sublist) z)) a m2
      simp at this
    omega
theorem okPts_of {ds : List D} {c : Int} (few : ds.length ≤ 300) (h : okRing (.lst ds) (.int c) = true) : OkPts (ds.map ptD) c := by
  have h' : (arePts (.lst ds) && (okCp (.int c) && decide (c ≤ ((dd (ds.map fun d => (ptD d).2)).length : Int)))) = true := h
  have e0 : arePts (.lst ds) = (ds.all isPtD && decide ((dd (ds.map fun d => (ptD d).1)).length = ds.length)) := rfl
  have e1 : okCp (.int c) = (decide (1 ≤ c) && decide (c ≤ 7)) := rfl
  rw [e0, e1] at h'
  simp only [Bool.and_eq_true, decide_eq_true_iff] at h'
  obtain ⟨⟨h1, h2⟩, ⟨h3, h4⟩, h5⟩ := h'
  refine ⟨fun p hp => ?_, fun p hp => ?_, ?_, by rw [List.length_map]; exact few, h3, h4, by rw [List.map_map]; exact h5⟩
  · obtain ⟨d, hd, rfl⟩ := List.mem_map.mp hp
    obtain ⟨a, b, rfl, z⟩ := isPt_is (List.all_eq_true.mp h1 d hd)
    exact ⟨z.1, z.2.1⟩
  · obtain ⟨d, hd, rfl⟩ := List.mem_map.mp hp
    obtain ⟨a, b, rfl, z⟩ := isPt_is (List.all_eq_true.mp h1 d hd)
    exact ⟨z.2.2.1, z.2.2.2⟩
  · rw [List.map_map]
    have e : ((fun p : Int × Int => p.1) ∘ ptD) = fun d => (ptD d).1 := rfl
    rw [e]
    have len : (dd (ds.map fun d => (ptD d).1)).length = (ds.map fun d => (ptD d).1).length := by rw [h2, List.length_map]
    exact nodup_of_dd len
/-- Ring(points, copies) of anything -/
def spRingX (K : PySem.W.Frag) (CC : Addr → Prop) (C CB : Addr) : Sp := fun vs H Q E => ∃ (x dx : Addr) (a c : V) (da dc : D), vs = [.ref x, a, c] ∧ H x = some (.ins C dx []) ∧ Rep K CC H a da ∧ Rep K CC H c dc ∧ (∀ ds, da = .lst ds → ds.length ≤ 300) ∧
  (∀ p xs ds ci, a = .ref p → H p = some (.lst xs) → da = .lst ds → dc = .int ci → okRing da dc = true → ∀ H' qs, (∀ y o, y ≠ x → H y = some o → H' y = some o) → qs.Perm (ds.map ptD) → RingAt H' x C ci qs → Q .non H') ∧
  (okRing da dc = false → ∀ H', Same H H' → E (.ref CB) none H')
theorem PtsAt.frI {H H' : Hp} {l C dx : Addr} {fs : List (Str × V)} {xs : List V} {ps : List (Int × Int)} (h : PtsAt H xs ps) (f : Fr l H H') (hl : H l = some (.ins C dx fs)) : PtsAt H' xs ps := ⟨h.1, fun i x p a b => by
  obtain ⟨t, e, z⟩ := h.2 i x p a b
  exact ⟨t, e, f _ _ (ne_obj z hl (fun z => by cases z)) z⟩⟩
theorem pts_permX {H : Hp} {xs ys : List V} {ps : List (Int × Int)} {c : Int} (hp : PtsAt H xs ps) (srt : SrtO.Srtd (ltP (kAt H)) ys) (pm : ys.Perm xs) (ok : OkPts ps c) : ∃ qs : List (Int × Int), PtsAt H ys qs ∧ OkPts qs c ∧ Asc qs ∧ qs.Perm ps := by
  have hm : ∀ y ∈ xs, PtAt H y (kAt H y) := fun y hy => by
    obtain ⟨i, hi, e⟩ := List.getElem_of_mem hy
    have hi2 : i < ps.length := by rw [← hp.1]; exact hi
    obtain ⟨t, e2, ht⟩ := hp.at_ hi2
    rw [List.getElem?_eq_getElem hi, e] at e2
    obtain rfl := Option.some.inj e2
    refine ⟨t, rfl, ?_⟩
    rw [kAt_at (d := ps[i]) ht]
    exact ht
  have e0 : xs.map (kAt H) = ps := by
    refine List.ext_getElem (by rw [List.length_map]; exact hp.1) fun i h1 h2 => ?_
    rw [List.getElem_map]
    obtain ⟨t, e2, ht⟩ := hp.at_ h2
    rw [List.getElem?_eq_getElem (by simpa using h1)] at e2
    rw [Option.some.inj e2]
    exact kAt_at (d := ps[i]) ht
  have pq : (ys.map (kAt H)).Perm ps := by
    rw [← e0]
    exact pm.map _
  have nd : ((ys.map (kAt H)).map (·.1)).Nodup := (pq.map _).nodup_iff.mpr ok.nd
  refine ⟨ys.map (kAt H), ⟨by rw [List.length_map], fun i x p h1 h2 => ?_⟩, ⟨fun p h => ok.pl p (pq.mem_iff.mp h), fun p h => ok.hs p (pq.mem_iff.mp h), nd, by rw [pq.length_eq]; exact ok.few, ok.c1, ok.c7, ?_⟩, ?_, pq⟩
  · rw [List.getElem?_map, h1] at h2
    obtain rfl := Option.some.inj h2
    exact hm x (pm.mem_iff.mp (List.mem_of_getElem? h1))
  · rw [dd_same fun j => (pq.map (·.2)).mem_iff]
    exact ok.many
  · unfold Asc
    rw [List.pairwise_map]
    unfold List.Nodup at nd
    rw [List.pairwise_map, List.pairwise_map] at nd
    refine List.Pairwise.imp₂ (fun a b h1 h2 => ?_) srt nd
    have h3 : ¬ SrtO.lexB (kAt H b) (kAt H a) = true := by rw [show SrtO.lexB (kAt H b) (kAt H a) = false from h1]; decide
    rw [SrtO.lexB_iff] at h3
    by_cases z : (kAt H a).1 < (kAt H b).1
    · exact z
    · exfalso
      have z2 : (kAt H b).1 < (kAt H a).1 := by omega
      exact h3 (.inl z2)
def ptD' (p : Int × Int) : D := .tup [.int p.1, .int p.2]
theorem ptAt_rep {K : PySem.W.Frag} {CC : Addr → Prop} {H : Hp} {v : V} {p : Int × Int} (h : PtAt H v p) : Rep K CC H v (ptD' p) := by
  obtain ⟨t, rfl, ht⟩ := h
  refine @Rep.tup K CC H t [.int p.1, .int p.2] [.int p.1, .int p.2] ht rfl (by show 2 ≤ 1000; decide) fun j y e g1 g2 => ?_
  match j with
  | 0 => cases g1; cases g2; exact .int _
  | 1 => cases g1; cases g2; exact .int _
  | _ + 2 => simp at g1
theorem pts_items {K : PySem.W.Frag} {CC : Addr → Prop} {H : Hp} {xs : List V} {ps : List (Int × Int)} (h : PtsAt H xs ps) : ∀ (i : Nat) (x : V) (d : D), xs[i]? = some x → (ps.map ptD')[i]? = some d → Rep K CC H x d := fun i x d a b => by
  rw [List.getElem?_map] at b
  cases z : ps[i]? with
  | none => rw [z] at b; cases b
  | some p =>
    rw [z] at b
    obtain rfl := Option.some.inj b
    exact ptAt_rep (h.2 i x p a z)
theorem pts_tup {K : PySem.W.Frag} {CC : Addr → Prop} {H : Hp} {a : Addr} {xs : List V} {ps : List (Int × Int)} (ha : H a = some (.tup xs)) (h : PtsAt H xs ps) (few : ps.length ≤ 1000) : Rep K CC H (.ref a) (.tup (ps.map ptD')) :=
  .tup ha (by rw [List.length_map]; exact h.1) (by rw [h.1]; exact few) (pts_items h)
theorem pts_lst {K : PySem.W.Frag} {CC : Addr → Prop} {H : Hp} {a : Addr} {xs : List V} {ps : List (Int × Int)} (ha : H a = some (.lst xs)) (h : PtsAt H xs ps) (few : ps.length ≤ 1000) : Rep K CC H (.ref a) (.lst (ps.map ptD')) :=
  .lst ha (by rw [List.length_map]; exact h.1) (by rw [h.1]; exact few) (pts_items h)
theorem ptD_D' (p : Int × Int) : ptD (ptD' p) = p := rfl
theorem map_ptD (ps : List (Int × Int)) : (ps.map ptD').map ptD = ps := by
  rw [List.map_map]
  have e : ptD ∘ ptD' = id := rfl
  rw [e, List.map_id]
theorem okRing_of {ps : List (Int × Int)} {c : Int} (ok : OkPts ps c) : okRing (.lst (ps.map ptD')) (.int c) = true := by
  have e1 : arePts (.lst (ps.map ptD')) = ((ps.map ptD').all isPtD && decide ((dd ((ps.map ptD').map fun d => (ptD d).1)).length = (ps.map ptD').length)) := rfl
  have e2 : okRing (.lst (ps.map ptD')) (.int c) = (arePts (.lst (ps.map ptD')) && (okCp (.int c) && decide (c ≤ ((dd ((ps.map ptD').map fun d => (ptD d).2)).length : Int)))) := rfl
  have m1 : ((ps.map ptD').map fun d => (ptD d).1) = ps.map (·.1) := by rw [List.map_map]; rfl
  have m2 : ((ps.map ptD').map fun d => (ptD d).2) = ps.map (·.2) := by rw [List.map_map]; rfl
  have a1 : (ps.map ptD').all isPtD = true := by
    rw [List.all_eq_true]
    intro d hd
    obtain ⟨p, hp, rfl⟩ := List.mem_map.mp hd
    have h1 := ok.pl p hp
    have h2 := ok.hs p hp
    show ((limI p.1 && decide (0 ≤ p.1)) && (decide (p.1 < 256) && (limI p.2 && decide (0 ≤ p.2)))) = true
    unfold limI
    simp only [Bool.and_eq_true, decide_eq_true_iff]
    omega
  have a2 : okCp (.int c) = true := by
    show (decide (1 ≤ c) && decide (c ≤ 7)) = true
    rw [decide_eq_true ok.c1, decide_eq_true ok.c7]
    rfl
  rw [e2, e1, a1, m1, m2, a2, dd_all ok.nd, List.length_map, List.length_map, decide_eq_true rfl, decide_eq_true ok.many]
  rfl
/-- a ring but for its table of owners -/
def RingV (H : Hp) (r C : Addr) (c : Int) (ps : List (Int × Int)) : Prop := ∃ dx tp ow xs, H r = some (.ins C dx [("_copies", .int c), ("_points", .ref tp), ("_owners", .ref ow)]) ∧ H tp = some (.tup xs) ∧ PtsAt H xs ps ∧ OkPts ps c ∧ Asc ps
theorem RingAt.v {H : Hp} {r C : Addr} {c : Int} {ps : List (Int × Int)} (h : RingAt H r C c ps) : RingV H r C c ps := by
  obtain ⟨dx, tp, ow, xs, fs, a, b, p, o, z, _⟩ := h
  exact ⟨dx, tp, ow, xs, a, b, p, o, z⟩
theorem RingV.mono {H H' : Hp} {r C : Addr} {c : Int} {ps : List (Int × Int)} (h : RingV H r C c ps) (s : Same H H') : RingV H' r C c ps := by
  obtain ⟨dx, tp, ow, xs, a, b, p, o, z⟩ := h
  exact ⟨dx, tp, ow, xs, s _ _ a, s _ _ b, p.mono s, o, z⟩
theorem RingV.fr {H H' : Hp} {r C l : Addr} {c : Int} {ps : List (Int × Int)} {ys : List V} (h : RingV H r C c ps) (f : Fr l H H') (hl : H l = some (.lst ys)) : RingV H' r C c ps := by
  obtain ⟨dx, tp, ow, xs, a, b, p, o, z⟩ := h
  exact ⟨dx, tp, ow, xs, f _ _ (ne_obj a hl (fun z => by cases z)) a, f _ _ (ne_obj b hl (fun z => by cases z)) b, p.fr f hl, o, z⟩
theorem RingV.look {H : Hp} {r C : Addr} {c : Int} {ps : List (Int × Int)} (h : RingV H r C c ps) : ∃ dx tp ow, H r = some (.ins C dx [("_copies", .int c), ("_points", .ref tp), ("_owners", .ref ow)]) := by
  obtain ⟨dx, tp, ow, xs, a, _⟩ := h
  exact ⟨dx, tp, ow, a⟩
def spRingCV (C : Addr) : Sp := fun vs H Q _ => ∃ r c ps, vs = [.ref r] ∧ RingV H r C c ps ∧ Q (.int c) H
def spRingHs (C : Addr) : Sp := fun vs H Q _ => ∃ r c ps, vs = [.ref r] ∧ RingV H r C c ps ∧ ∀ H' p ms, Same H H' → H p = none → H' p = some (.lst ((ms : List Int).map V.int)) → ms.Pairwise (· < ·) → (∀ k, k ∈ ms ↔ k ∈ ps.map (·.2)) → ms.length ≤ 1000 → Q (.ref p) H'
def spRingVR (C : Addr) : Sp := fun vs H Q _ => ∃ r c ps, vs = [.ref r] ∧ RingV H r C c ps ∧ ∀ H' p tp xs, Same H H' → H p = none → H' p = some (.tup [.int c, .ref tp]) → H' tp = some (.tup xs) → PtsAt H' xs ps → Q (.ref p) H'
instance (ps : List (Int × Int)) : Decidable (Asc ps) := by unfold Asc; infer_instance
/-- the value of a ring -/
def okRV : D → Bool | .tup [.int c, .tup ds] => okRing (.lst ds) (.int c) && decide (Asc (ds.map ptD)) | _ => false
def spFromVR (K : PySem.W.Frag) (CC : Addr → Prop) (C CB : Addr) : Sp := fun vs H Q E => ∃ (v : V) (d : D), vs = [v] ∧ Rep K CC H v d ∧ (∀ c ds, d = .tup [c, .tup ds] → ds.length ≤ 300) ∧
  (∀ c ds, d = .tup [.int c, .tup ds] → okRV d = true → ∀ H' r, Same H H' → RingAt H' r C c (ds.map ptD) → Q (.ref r) H') ∧ (okRV d = false → ∀ H', Same H H' → E (.ref CB) none H')
/-- type(x) is not T -/
def rNotTyG : R2 := fun x y H Q => ∃ b, y = .ty b ∧ ((∃ a, x = .ty a ∧ Q (.bl (!decide (a = b))) H) ∨ ∃ C, x = .ref C ∧ Q (.bl true) H)
theorem op_notTyG {X : Cx} : OpR X (compareOp .IsNot) rNotTyG := by
  intro pins s σ H x y v u Q I rx ry h
  obtain ⟨b, rfl, h⟩ := h
  rcases h with ⟨a, rfl, q⟩ | ⟨C, rfl, q⟩
  · exact op_notTyB pins s σ H _ _ v u Q I rx ry ⟨a, b, rfl, rfl, q⟩
  · cases (show v = Value.ref C from rx)
    cases (show u = Value.type b from ry)
    exact PySem.wpAny_isNot_plain rfl (fin_bl I q rfl)
theorem r_notTy {H : Hp} {d : D} {Q : VK} {y : V} {T : String} (h : TyV d y) (q : Q (.bl (!tyB d T)) H) : rNotTyG y (.ty T) H Q := by
  obtain ⟨T', e, z⟩ := r_isTy (H := H) (Q := fun v _ => ∃ b, v = .bl b ∧ Q (.bl (!b)) H) h ⟨_, rfl, q⟩
  cases e
  refine ⟨T, rfl, ?_⟩
  rcases z with ⟨a, rfl, b, e, z⟩ | ⟨C, rfl, b, e, z⟩
  · cases e
    exact .inl ⟨a, rfl, z⟩
  · cases e
    exact .inr ⟨C, rfl, z⟩
def ptP (p : Int × Int) : PyData := .tuple [.int p.1, .int p.2]
theorem eqv_pt (p q : Int × Int) : PyData.eqv (ptP p) (ptP q) = decide (p = q) := by
  obtain ⟨a, b⟩ := p
  obtain ⟨c, d⟩ := q
  have e : PyData.eqv (ptP (a, b)) (ptP (c, d)) = ((a == c) && ((b == d) && true)) := by simp [ptP, PyData.eqv, PyData.eqvAll]
  rw [e, Bool.and_true]
  by_cases h1 : a = c
  · by_cases h2 : b = d
    · subst h1 h2
      simp
    · rw [decide_eq_false (fun z => h2 (congrArg Prod.snd z)), show (b == d) = false from beq_eq_false_iff_ne.mpr h2, Bool.and_false]
  · rw [decide_eq_false (fun z => h1 (congrArg Prod.fst z)), show (a == c) = false from beq_eq_false_iff_ne.mpr h1, Bool.false_and]
theorem eqv_pts : ∀ ps qs : List (Int × Int), PyData.eqvAll (ps.map ptP) (qs.map ptP) = decide (ps = qs)
  | [], [] => by simp [PyData.eqvAll]
  | [], q :: qs => by simp [PyData.eqvAll]
  | p :: ps, [] => by simp [PyData.eqvAll]
  | p :: ps, q :: qs => by
    have e : PyData.eqvAll ((p :: ps).map ptP) ((q :: qs).map ptP) = (PyData.eqv (ptP p) (ptP q) && PyData.eqvAll (ps.map ptP) (qs.map ptP)) := by simp [PyData.eqvAll]
    rw [e, eqv_pt, eqv_pts ps qs]
    by_cases h1 : p = q
    · by_cases h2 : ps = qs
      · subst h1 h2
        simp
      · rw [decide_eq_false h2, Bool.and_false, decide_eq_false (fun z => h2 (List.cons.inj z).2)]
    · rw [decide_eq_false h1, Bool.false_and, decide_eq_false (fun z => h1 (List.cons.inj z).1)]
theorem pts_dp {K : PySem.W.Frag} {H : Hp} : ∀ {xs : List V} {ps : List (Int × Int)}, PtsAt H xs ps → DpAll K H xs (ps.map ptP)
  | [], [], _ => .nil
  | [], p :: ps, h => by cases h.1
  | x :: xs, [], h => by cases h.1
  | x :: xs, p :: ps, h => by
    obtain ⟨t, rfl, ht⟩ := h.2 0 x p rfl rfl
    exact .cons (.tup (SqT.of ht) (.cons (.int _) (.cons (.int _) .nil))) (pts_dp ⟨Nat.succ.inj h.1, fun i y q a b => h.2 (i + 1) y q a b⟩)
theorem lay_pts : ∀ ps : List (Int × Int), PyData.canLayAll0 (ps.map ptP) = true ∧ PyData.depthAll (ps.map ptP) ≤ 2
  | [] => by simp [PyData.canLayAll0, PyData.depthAll]
  | p :: ps => by
    have ih := lay_pts ps
    have e1 : (ptP p).canLay0 = true := by simp [ptP, PyData.canLay0, PyData.canLayAll0]
    have e2 : (ptP p).depth ≤ 2 := by simp [ptP, PyData.depth, PyData.depthAll]
    refine ⟨by simp [PyData.canLayAll0, e1, ih.1], ?_⟩
    simp only [List.map_cons, PyData.depthAll]
    omega
/-- the value's data -/
def rvP (c : Int) (ps : List (Int × Int)) : PyData := .tuple [.int c, .tuple (ps.map ptP)]
theorem rv_dp {K : PySem.W.Frag} {H : Hp} {a b : Addr} {c : Int} {xs : List V} {ps : List (Int × Int)} (ha : H a = some (.tup [.int c, .ref b])) (hb : H b = some (.tup xs)) (h : PtsAt H xs ps) : Dp K H (.ref a) (rvP c ps) :=
  .tup (SqT.of ha) (.cons (.int c) (.cons (.tup (SqT.of hb) (pts_dp h)) .nil))
theorem rv_shaped (c : Int) (ps : List (Int × Int)) : SeqAt.shaped (rvP c ps) = true := by
  have ih := lay_pts ps
  refine shaped_of (by simp [rvP, PyData.canLay0, PyData.canLayAll0, ih.1]) ?_
  simp only [rvP, PyData.depth, PyData.depthAll]
  omega
theorem rv_eqv (c : Int) (ps qs : List (Int × Int)) : PyData.eqv (rvP c ps) (rvP c qs) = decide (ps = qs) := by
  have e : PyData.eqv (rvP c ps) (rvP c qs) = ((c == c) && (PyData.eqvAll (ps.map ptP) (qs.map ptP) && true)) := by simp [rvP, PyData.eqv, PyData.eqvAll]
  rw [e, eqv_pts]
  simp
theorem asc_perm {ps qs : List (Int × Int)} (pm : qs.Perm ps) (aq : Asc qs) (ap : Asc ps) : qs = ps := by
  refine List.Perm.eq_of_pairwise (le := fun a b => a.1 ≤ b.1 ∧ (a.1 = b.1 → a = b)) (fun a b _ _ h1 h2 => h1.2 (by omega)) (aq.imp fun h => ⟨by omega, fun z => by omega⟩) (ap.imp fun h => ⟨by omega, fun z => by omega⟩) pm
theorem tree_rv (c : Int) (ps : List (Int × Int)) : ∃ d, d = D.tup [.int c, .tup (ps.map ptD')] := ⟨_, rfl⟩
end RH
namespace RH
open PySem PySem.Spec PyProof.Rows L2
/-! ### static methods, reached through their class -/
structure Sta (P : Program) (w : World) (K : PySem.W.Frag) (mg : Str → Option Value) (base : Heap) (k : Nat) (C : Addr) (m : Str) (sp : Sp) : Prop where
  ex : ∃ (p f : Addr) (fd : FuncData) (ps : List Str), PySem.W.readsIn K C (.type "type") = true ∧ PySem.W.specialIn K (.ref C) "__getattribute__" = some (some (.builtin "type.__getattribute__")) ∧
    PySem.W.findCls K (.ref C) (.type "type") m = some (.get (.builtin "staticmethod.__get__") (.ref p) .none (.ref C)) ∧ (∃ rest, PySem.W.recIn K p "staticmethod" = some (.ref f :: rest)) ∧
    PySem.W.keepIn K (.ref f) = true ∧ FnOk P w K mg base (L2.CX P w) k f fd ps sp ∧ Binds K fd ps []
def tSta (C : Addr) (sp : Sp) (E : L2.St → XK) (ta : TE) (t : TA) : TE := fun σ H Q => ta σ H fun x H1 => x = .ref C ∧ t σ H1 fun vs H2 => sp vs H2 Q (E σ)
section
variable {X : Cx} {k j : Nat} {C : Addr} {m : Str} {sp : Sp} {pos apos : Pos} {o e : Expr} {es : List Expr} {t : TA} {ta : TE}
theorem pe_staG {pl : Sem Bool} {E : L2.St → XK} (c : Sta X.prog X.w X.K X.mg X.base k C m sp) (hr : Room j X.A) (hk : k ≤ j) (hx : ∀ σ, PassesAt (L2.CX X.prog X.w) X σ (E σ)) (he : PE X o ta) (ha : PA X (e :: es) t)
    (hst : starEach (e :: es) X.env = (false, eval e X.env) :: starEach es X.env := by rfl) (hpl : (backTo pos (starEach es X.env)).any (·.1) = false := by rfl)
    (ht : eval (.Call (.Attribute o m apos) (e :: es) [] pos) X.env = (do
      let ov ← eval o X.env
      standAt apos.atName
      let (f, first) ← holding [ov] (getMethod ov m pl)
      callWith pos f first (backTo pos (starEach (e :: es) X.env)) (backToKw pos (keywordEach [] X.env))) := by rfl) :
    PE X (.Call (.Attribute o m apos) (e :: es) [] pos) (tSta C sp E ta t) := by
  obtain ⟨p, f, fd, ps, rd, ga, fc, ⟨rest, rc⟩, kp, F, b⟩ := c.ex
  constructor
  intro pins s σ H Q I h
  refine PySem.W.methodCall_KW (pl := pl) (thn (he.run pins s σ H _ I h) ?_) ht
  rintro u s1 ⟨x, H1, I1, rx, rfl, q⟩
  obtain rfl : u = Value.ref C := rx
  refine PySem.W.method_cls I1.kIn ga (PySem.W.cls_bind I1.kIn rd fc (wpAny_call (PySem.W.sm_get (s := { s1 with toks := s1.toks + 1 }) I1.kIn rc (PySem.W.handed_on rfl ?_))))
  have I2 := I1.tok (s1.toks + 1)
  refine PySem.W.callWith_K (first := []) (h₀ := X.base) I2.ok.mod.kin kp (thn (ha.run pos pins _ σ H1 _ I2 q) ?_) hst hpl
  rintro us s2 ⟨vs, H2, I3, r, q2⟩
  exact ⟨I3.kIn, run_fnS F (hr.mono hk) b (hx σ) I3 r q2⟩
theorem pe_sta {pl : Sem Bool} (c : Sta X.prog X.w X.K X.mg X.base k C m sp) (hr : Room j X.A) (hk : k ≤ j) (he : PE X o ta) (ha : PA X (e :: es) t)
    (hst : starEach (e :: es) X.env = (false, eval e X.env) :: starEach es X.env := by rfl) (hpl : (backTo pos (starEach es X.env)).any (·.1) = false := by rfl)
    (ht : eval (.Call (.Attribute o m apos) (e :: es) [] pos) X.env = (do
      let ov ← eval o X.env
      standAt apos.atName
      let (f, first) ← holding [ov] (getMethod ov m pl)
      callWith pos f first (backTo pos (starEach (e :: es) X.env)) (backToKw pos (keywordEach [] X.env))) := by rfl) :
    PE X (.Call (.Attribute o m apos) (e :: es) [] pos) (tSta C sp (fun _ => C8.E0) ta t) :=
  pe_staG c hr hk (fun σ pins H s e s' I z => passL pins σ H s e s' I z) he ha hst hpl ht
theorem pe_staT {pl : Sem Bool} {W : WX} (c : Sta X.prog X.w X.K X.mg X.base k C m sp) (hr : Room j X.A) (hk : k ≤ j) (tk : Takes X W) (he : PE X o ta) (ha : PA X (e :: es) t)
    (hst : starEach (e :: es) X.env = (false, eval e X.env) :: starEach es X.env := by rfl) (hpl : (backTo pos (starEach es X.env)).any (·.1) = false := by rfl)
    (ht : eval (.Call (.Attribute o m apos) (e :: es) [] pos) X.env = (do
      let ov ← eval o X.env
      standAt apos.atName
      let (f, first) ← holding [ov] (getMethod ov m pl)
      callWith pos f first (backTo pos (starEach (e :: es) X.env)) (backToKw pos (keywordEach [] X.env))) := by rfl) :
    PE X (.Call (.Attribute o m apos) (e :: es) [] pos) (tSta C sp (WE W) ta t) :=
  pe_staG c hr hk (fun σ => passAt tk σ) he ha hst hpl ht
theorem r_sta {E : L2.St → XK} {σ : L2.St} {H : Hp} {Q : VK} (h : ta σ H fun x H1 => x = .ref C ∧ t σ H1 fun vs H2 => sp vs H2 Q (E σ)) : tSta C sp E ta t σ H Q := h
theorem r_staX {R : Prop} (q : R) : V.ref C = V.ref C ∧ R := ⟨rfl, q⟩
end
/-- a def that calls itself -/
structure Rec (K : PySem.W.Frag) (mg : Str → Option Value) (x : Str) (f : Addr) (fd : FuncData) (ps : List Str) : Prop where
  mgf : mg x = some (.ref f)
  kp : PySem.W.keepIn K (.ref f) = true
  bd : Binds K fd ps []
theorem Rec.cal {P : Program} {w : World} {K : PySem.W.Frag} {mg : Str → Option Value} {base : Heap} {k : Nat} {x : Str} {f : Addr} {fd : FuncData} {ps : List Str} {sp : Sp} (r : Rec K mg x f fd ps) (F : FnOk P w K mg base C8.CX0 k f fd ps sp) : C8.Cal P w K mg base k x sp [] := ⟨f, fd, ps, [], F, r.mgf, r.kp, r.bd, .nil⟩
end RH
namespace RH
open PySem L2
/-! ### things by their parts -/
inductive RepAll (K : PySem.W.Frag) (CC : Addr → Prop) (H : Hp) : List V → List D → Prop
  | nil : RepAll K CC H [] []
  | cons {x : V} {d : D} {xs : List V} {ds : List D} : Rep K CC H x d → RepAll K CC H xs ds → RepAll K CC H (x :: xs) (d :: ds)
section
variable {K : PySem.W.Frag} {CC : Addr → Prop} {H H' : Hp} {a : Addr} {xs ys : List V} {ds es : List D} {v : V} {d : D}
theorem RepAll.len (h : RepAll K CC H xs ds) : xs.length = ds.length := by
  induction h with
  | nil => rfl
  | cons _ _ ih => simp [ih]
theorem RepAll.items (h : RepAll K CC H xs ds) : ∀ (i : Nat) (x : V) (d : D), xs[i]? = some x → ds[i]? = some d → Rep K CC H x d := by
  induction h with
  | nil => intro i x d h; simp at h
  | cons r _ ih =>
    intro i x d h1 h2
    match i with
    | 0 => cases h1; cases h2; exact r
    | i + 1 => exact ih i x d h1 h2
theorem RepAll.of (hl : xs.length = ds.length) (hi : ∀ (i : Nat) (x : V) (d : D), xs[i]? = some x → ds[i]? = some d → Rep K CC H x d) : RepAll K CC H xs ds := by
  induction xs generalizing ds with
  | nil =>
    cases ds with
    | nil => exact .nil
    | cons => cases hl
  | cons x xs ih =>
    cases ds with
    | nil => cases hl
    | cons d ds => exact .cons (hi 0 x d rfl rfl) (ih (Nat.succ.inj hl) fun i y e a b => hi (i + 1) y e a b)
theorem RepAll.mono (h : RepAll K CC H xs ds) (s : Same H H') : RepAll K CC H' xs ds := by
  induction h with
  | nil => exact .nil
  | cons r _ ih => exact .cons (r.mono s) ih
theorem RepAll.app (h : RepAll K CC H xs ds) (k : RepAll K CC H ys es) : RepAll K CC H (xs ++ ys) (ds ++ es) := by
  induction h with
  | nil => exact k
  | cons r _ ih => exact .cons r ih
theorem RepAll.take (h : RepAll K CC H xs ds) (n : Nat) : RepAll K CC H (xs.take n) (ds.take n) := by
  induction h generalizing n with
  | nil => simp; exact .nil
  | cons r _ ih =>
    cases n with
    | zero => exact .nil
    | succ n => exact .cons r (ih n)
theorem RepAll.drop (h : RepAll K CC H xs ds) (n : Nat) : RepAll K CC H (xs.drop n) (ds.drop n) := by
  induction h generalizing n with
  | nil => simp; exact .nil
  | cons r t ih =>
    cases n with
    | zero => exact .cons r t
    | succ n => exact ih n
theorem rep_tupA (h : H a = some (.tup xs)) (r : RepAll K CC H xs ds) (sz : xs.length ≤ 1000) : Rep K CC H (.ref a) (.tup ds) := .tup h r.len sz r.items
theorem rep_lstA (h : H a = some (.lst xs)) (r : RepAll K CC H xs ds) (sz : xs.length ≤ 1000) : Rep K CC H (.ref a) (.lst ds) := .lst h r.len sz r.items
theorem leB {n : Nat} (h : Nat.ble n 1000 = true) : n ≤ 1000 := Nat.le_of_ble_eq_true h
theorem pts_all {ps : List (Int × Int)} (h : PtsAt H xs ps) : RepAll K CC H xs (ps.map ptD') := .of (by rw [List.length_map]; exact h.1) (pts_items h)
end
/-! ### what makes no point, no ring -/
theorem ptl {a b : D} (h : isNum a = false) : isPtD (.tup [a, b]) = false := by
  show (isNum a && _) = false
  rw [h, Bool.false_and]
theorem ptr {a b : D} (h : isNum b = false) : isPtD (.tup [a, b]) = false := by
  show (isNum a && (lt256 a && isNum b)) = false
  rw [h, Bool.and_false, Bool.and_false]
theorem pt256 {b : D} : isPtD (.tup [.int 256, b]) = false := rfl
/-- a list with something that is no point -/
theorem no_ring {ds : List D} {d c : D} (m : d ∈ ds) (h : isPtD d = false) : okRing (.lst ds) c = false := by
  have e : ds.all isPtD = false := by
    refine Bool.eq_false_iff.mpr fun z => ?_
    rw [List.all_eq_true.mp z d m] at h
    cases h
  unfold okRing
  split
  · rename_i es ci he
    cases he
    show (((ds.all isPtD) && _) && _) = false
    rw [e, Bool.false_and, Bool.false_and]
  · rfl
/-- two points of one place -/
theorem twice_ring {ds : List D} {c : D} (h : ¬ (ds.map fun d => (ptD d).1).Nodup) : okRing (.lst ds) c = false := by
  have e : decide ((dd (ds.map fun d => (ptD d).1)).length = ds.length) = false := decide_eq_false fun z => h (nodup_of_dd (by rw [z, List.length_map]))
  unfold okRing
  split
  · rename_i es ci he
    cases he
    show ((_ && decide ((dd (ds.map fun d => (ptD d).1)).length = ds.length)) && _) = false
    rw [e, Bool.and_false, Bool.false_and]
  · rfl
theorem nil_ring {c : D} : okRing (.lst []) c = false := by
  cases c with
  | int c =>
    show (arePts (.lst []) && ((decide (1 ≤ c) && decide (c ≤ 7)) && decide (c ≤ ((0 : Nat) : Int)))) = false
    by_cases h : 1 ≤ c
    · rw [decide_eq_false (show ¬ c ≤ ((0 : Nat) : Int) by omega), Bool.and_false, Bool.and_false]
    · rw [decide_eq_false h, Bool.false_and, Bool.false_and, Bool.and_false]
  | _ => rfl
theorem lst_ring {a c : D} (h : ∀ ds, a ≠ .lst ds) : okRing a c = false := by
  unfold okRing
  split
  · exact absurd rfl (h _)
  · rfl
theorem cp_ring {a c : D} (h : okCp c = false) : okRing a c = false := by
  unfold okRing
  split
  · rw [h, Bool.false_and, Bool.and_false]
  · rfl
theorem many_ring {ps : List (Int × Int)} {c : Int} (h : ((dd (ps.map (·.2))).length : Int) < c) : okRing (.lst (ps.map ptD')) (.int c) = false := by
  have m2 : ((ps.map ptD').map fun d => (ptD d).2) = ps.map (·.2) := by rw [List.map_map]; rfl
  show (_ && (_ && decide (c ≤ ((dd ((ps.map ptD').map fun d => (ptD d).2)).length : Int)))) = false
  rw [m2, decide_eq_false (by omega), Bool.and_false, Bool.and_false]
theorem cpI {c : Int} (h : c < 1 ∨ 7 < c) : okCp (.int c) = false := by
  show (decide (1 ≤ c) && decide (c ≤ 7)) = false
  rcases h with h | h
  · rw [decide_eq_false (by omega), Bool.false_and]
  · rw [decide_eq_false (show ¬ c ≤ 7 by omega), Bool.and_false]
/-! ### promises of the law's bad things -/
def spBadPt (K : PySem.W.Frag) (CC : Addr → Prop) : Sp := fun vs H Q _ => ∃ (t : Addr) (a b d : Int), vs = [.ref t, .int d] ∧ H t = some (.tup [.int a, .int b]) ∧ 0 ≤ d ∧ ∀ H' v e, Same H H' → Rep K CC H' v e → isPtD e = false → Q v H'
def spBadPts (K : PySem.W.Frag) (CC : Addr → Prop) : Sp := fun vs H Q _ => ∃ (p : Addr) (xs : List V) (ps : List (Int × Int)) (d m : Int), vs = [.ref p, .int d, .int m] ∧ H p = some (.lst xs) ∧ PtsAt H xs ps ∧ OkPts ps 1 ∧ ps ≠ [] ∧ 0 ≤ d ∧ 0 ≤ m ∧
  ∀ H' q ys es, Same H H' → H q = none → H' q = some (.lst ys) → RepAll K CC H' ys es → es.length ≤ 300 → (∀ c, okRing (.lst es) c = false) → Q (.ref q) H'
def spBadCp (K : PySem.W.Frag) (CC : Addr → Prop) : Sp := fun vs H Q _ => ∃ (p : Addr) (xs : List V) (ps : List (Int × Int)) (d : Int), vs = [.ref p, .int d] ∧ H p = some (.lst xs) ∧ PtsAt H xs ps ∧ OkPts ps 1 ∧ 0 ≤ d ∧
  ∀ H' v e, Same H H' → Rep K CC H' v e → okRing (.lst (ps.map ptD')) e = false → (∀ qs : List (Int × Int), qs.Perm ps → okRing (.lst (qs.map ptD')) e = false) → Q v H'
def spRefR (K : PySem.W.Frag) (CC : Addr → Prop) : Sp := fun vs H Q _ => ∃ (a c : V) (da dc : D), vs = [a, c] ∧ Rep K CC H a da ∧ Rep K CC H c dc ∧ (∀ ds, da = .lst ds → ds.length ≤ 300) ∧ okRing da dc = false ∧ ∀ H', Same H H' → Q (.bl true) H'
def spRefV (K : PySem.W.Frag) (CC : Addr → Prop) : Sp := fun vs H Q _ => ∃ (v : V) (d : D), vs = [v] ∧ Rep K CC H v d ∧ (∀ c ds, d = .tup [c, .tup ds] → ds.length ≤ 300) ∧ okRV d = false ∧ ∀ H', Same H H' → Q (.bl true) H'
def spBadVal (K : PySem.W.Frag) (CC : Addr → Prop) : Sp := fun vs H Q _ => ∃ (v tp : Addr) (c d m : Int) (xs : List V) (ps : List (Int × Int)), vs = [.ref v, .int d, .int m] ∧ H v = some (.tup [.int c, .ref tp]) ∧ H tp = some (.tup xs) ∧ PtsAt H xs ps ∧ Asc ps ∧ ps ≠ [] ∧ ps.length ≤ 290 ∧ 0 ≤ d ∧ 0 ≤ m ∧
  ∀ H' u e, Same H H' → Rep K CC H' u e → (∀ c ds, e = .tup [c, .tup ds] → ds.length ≤ 300) → okRV e = false → Q u H'
section
variable {K : PySem.W.Frag} {H : Hp} {Q : VK} {p q : Addr} {xs ys : List V}
theorem r_catT (h1 : H p = some (.tup xs)) (h2 : H q = some (.tup ys)) (n1 : xs ≠ []) (n2 : ys ≠ []) (sz : xs.length + ys.length ≤ sizeLine) (k : ∀ l, H l = none → Q (.ref l) (upd H l (.tup (xs ++ ys)))) : rCatT K (.ref p) (.ref q) H Q :=
  ⟨p, q, xs, ys, rfl, rfl, SqT.of h1, SqT.of h2, n1, sz, fun e => absurd e n2, fun _ => k⟩
theorem r_listTU (h : H p = some (.tup xs)) (k : ∀ l, H l = none → Q (.ref l) (upd H l (.lst xs))) : rListOf K [.ref p] H Q := ⟨p, xs, rfl, .inr (SqT.of h), k⟩
theorem r_slT {lo hi : Option Int} (h : H p = some (.tup xs)) (ne : ¬ (HT.sIx xs.length 0 lo = 0 ∧ HT.sIx xs.length xs.length hi = xs.length)) (k : ∀ l, H l = none → Q (.ref l) (upd H l (.tup (cutV xs lo hi)))) : rSlT K (.ref p) lo hi H Q := ⟨p, xs, rfl, SqT.of h, ne, k⟩
end
theorem r_pI {R : Int → Prop} {i : Int} (h : R i) : ∃ j, V.int i = .int j ∧ R j := ⟨i, rfl, h⟩
theorem cutV_to (xs : List V) (n : Nat) : cutV xs none (some (n : Int)) = xs.take n := by
  unfold cutV
  rw [HT.sIx_none, HT.sIx_nat, List.drop_zero, Nat.sub_zero, List.take_eq_take_iff]
  omega
theorem cutV_from {xs : List V} {n : Nat} (h : n ≤ xs.length) : cutV xs (some (n : Int)) none = xs.drop n := by
  unfold cutV
  rw [HT.sIx_none, HT.sIx_nat, Nat.min_eq_left h]
  exact List.take_of_length_le (by rw [List.length_drop]; exact Nat.le_refl _)
theorem cutV_from1 {xs : List V} {n : Nat} (h : n + 1 ≤ xs.length) : cutV xs (some ((n : Int) + 1)) none = xs.drop (n + 1) := cutV_from (n := n + 1) h
theorem cutV_to1 (xs : List V) (n : Nat) : cutV xs none (some ((n : Int) + 1)) = xs.take (n + 1) := cutV_to xs (n + 1)
theorem OkPts.le256 {ps : List (Int × Int)} {c : Int} (ok : OkPts ps c) : ps.length ≤ 256 := by
  have nd : ((List.range 256).map fun i : Nat => (i : Int)).Nodup := by
    rw [List.nodup_iff_pairwise_ne, List.pairwise_map]
    exact List.pairwise_lt_range.imp fun h => by omega
  have z := le_of_sub ok.nd nd fun o ho => by
    obtain ⟨p, hp, rfl⟩ := List.mem_map.mp ho
    have := ok.pl p hp
    exact List.mem_map.mpr ⟨p.1.toNat, List.mem_range.mpr (by omega), by omega⟩
  rw [List.length_map, List.length_map, List.length_range] at z
  exact z
theorem okRing_dup {ps : List (Int × Int)} {k : Nat} {q : D} {c : D} (hk : k < ps.length) (h : (ptD q).1 = ps[k].1) : okRing (.lst ((ps.map ptD').take k ++ [q] ++ (ps.map ptD').drop k)) c = false := by
  refine twice_ring fun nd => ?_
  have e5 : (((ps.map ptD').take k ++ [q] ++ (ps.map ptD').drop k).map fun d => (ptD d).1) = (ps.map (·.1)).take k ++ [ps[k].1] ++ (ps.map (·.1)).drop k := by
    rw [List.map_append, List.map_append, List.map_take, List.map_drop, List.map_map, List.map_singleton, h]
    rfl
  rw [e5] at nd
  have m1 : ps[k].1 ∈ ps.map (·.1) := List.mem_map_of_mem (List.getElem_mem hk)
  rw [← List.take_append_drop k (ps.map (·.1))] at m1
  rw [List.append_assoc, List.nodup_append] at nd
  rcases List.mem_append.mp m1 with z | z
  · exact nd.2.2 _ z _ List.mem_cons_self rfl
  · exact (List.nodup_cons.mp nd.2.1).1 z
theorem turned_no {ps : List (Int × Int)} {k : Nat} (asc : Asc ps) (h0 : 0 < k) (hk : k < ps.length) : ¬ Asc (ps.drop k ++ ps.take k) := by
  intro z
  have z2 := List.pairwise_append.mp z
  have m1 : ps[k] ∈ ps.drop k := by
    rw [List.drop_eq_getElem_cons hk]
    exact List.mem_cons_self
  have m2 : ps[0] ∈ ps.take k := by
    rw [List.mem_take_iff_getElem]
    exact ⟨0, by omega, rfl⟩
  have h1 := z2.2.2 _ m1 _ m2
  have h2 := asc.take_lt h0 hk
  omega
theorem okRV_of {c : Int} {ds : List D} (h : okRing (.lst ds) (.int c) = false ∨ ¬ Asc (ds.map ptD)) : okRV (.tup [.int c, .tup ds]) = false := by
  show (okRing (.lst ds) (.int c) && decide (Asc (ds.map ptD))) = false
  rcases h with h | h
  · rw [h, Bool.false_and]
  · rw [decide_eq_false h, Bool.and_false]
/-! ### trees of ints -/
def TreeI : Nat → D → Prop
  | 0, d => ∃ i, d = .int i
  | n + 1, d => (∃ i, d = .int i) ∨ ∃ ds, d = .tup ds ∧ ∀ e ∈ ds, TreeI n e
def spAlike (K : PySem.W.Frag) (CC : Addr → Prop) (n : Nat) : Sp := fun vs H Q _ => ∃ (v u : V) (d : D), vs = [v, u] ∧ Rep K CC H v d ∧ Rep K CC H u d ∧ TreeI n d ∧ ∀ H', Same H H' → Q (.bl true) H'
def spAl (K : PySem.W.Frag) (CC : Addr → Prop) : Nat → Sp
  | 0 => fun _ _ _ _ => False
  | n + 1 => spAlike K CC n
theorem fnok_bot {P : Program} {w : World} {K : PySem.W.Frag} {mg : Str → Option Value} {base : Heap} {f : Addr} {fd : FuncData} {ps : List Str} : FnOk P w K mg base C8.CX0 0 f fd ps (fun _ _ _ _ => False) :=
  ⟨fun _ _ _ _ h => h.elim, fun _ _ _ _ _ _ _ _ _ _ _ _ _ h => h.elim⟩
theorem rep_monoX {K : PySem.W.Frag} {CC : Addr → Prop} {H H' : Hp} {x : V} {d : D} (h : Rep K CC H x d) (s : Same H H') : Rep K CC H' x d := h.mono s
theorem okRV_e {e : D} {ds : List D} (h : okRing (.lst ds) e = false) : okRV (.tup [e, .tup ds]) = false := by
  cases e with
  | int c => exact okRV_of (.inl h)
  | _ => rfl
theorem r_nePts {K : PySem.W.Frag} {H : Hp} {Q : VK} {a b : Addr} {xs : List V} {ps : List (Int × Int)} (ha : H a = some (.lst xs)) (hb : H b = some (.lst xs)) (hP : PtsAt H xs ps) (q : Q (.bl false) H) : rNeD K (.ref a) (.ref b) H Q := by
  have ih := lay_pts ps
  have sh : SeqAt.shaped (.list (ps.map ptP)) = true := by
    refine shaped_of (by simp [PyData.canLay0, ih.1]) ?_
    simp only [PyData.depth]
    omega
  have ev : PyData.eqv (.list (ps.map ptP)) (.list (ps.map ptP)) = true := by
    have := eqv_pts ps ps
    simp [PyData.eqv, this]
  refine ⟨_, _, .lst (SqL.of ha) (pts_dp hP), .lst (SqL.of hb) (pts_dp hP), sh, sh, ?_⟩
  rw [ev]
  exact q
def spRefused25 (K : PySem.W.Frag) : Sp := fun vs H Q _ => ∃ (p v tp l : Addr) (c : Int) (xs ys : List V) (ps qs : List (Int × Int)) (ds : List Int), vs = [.ref p, .int c, .ref v, .ref l] ∧ H p = some (.lst xs) ∧ PtsAt H xs ps ∧ OkPts ps c ∧ OkPts ps 1 ∧ ps ≠ [] ∧
  H v = some (.tup [.int c, .ref tp]) ∧ H tp = some (.tup ys) ∧ PtsAt H ys qs ∧ qs.Perm ps ∧ Asc qs ∧ H l = some (.lst (ds.map V.int)) ∧ DrawsOk ds ∧ ∀ H', Same H H' → Q (.bl true) H'
theorem r_bm0G {K : PySem.W.Frag} {σ : L2.St} {H : Hp} {Q : VK} {T : String} {r : V → List V → Hp → VK → Prop} {to : TE} (h : to σ H fun x H1 => tyV K T x H1 ∧ r x [] H1 Q) : tBM0 K T r to σ H Q := h
theorem r_refR {K : PySem.W.Frag} {CC : Addr → Prop} {H : Hp} {Q : VK} {E : XK} {a : V} {da : D} {c : Int} (r : Rep K CC H a da) (nl : ∀ es, da ≠ .lst es) (q : ∀ H7, Same H H7 → Q (.bl true) H7) : spRefR K CC [a, .int c] H Q E :=
  ⟨a, .int c, da, .int c, rfl, r, .int c, fun es z => absurd z (nl es), lst_ring nl, q⟩
theorem tree_val (c : Int) (ps : List (Int × Int)) : TreeI 3 (.tup [.int c, .tup (ps.map ptD')]) := by
  refine .inr ⟨_, rfl, fun e he => ?_⟩
  simp only [List.mem_cons, List.not_mem_nil, or_false] at he
  rcases he with rfl | rfl
  · exact .inl ⟨_, rfl⟩
  · refine .inr ⟨_, rfl, fun e he => ?_⟩
    obtain ⟨p, _, rfl⟩ := List.mem_map.mp he
    refine .inr ⟨_, rfl, fun e he => ?_⟩
    simp only [List.mem_cons, List.not_mem_nil, or_false] at he
    rcases he with rfl | rfl
    · exact ⟨_, rfl⟩
    · exact ⟨_, rfl⟩
theorem tree_two (a b : Int) : TreeI 3 (.tup [.int a, .int b]) := by
  refine .inr ⟨_, rfl, fun e he => ?_⟩
  simp only [List.mem_cons, List.not_mem_nil, or_false] at he
  rcases he with rfl | rfl <;> exact .inl ⟨_, rfl⟩
theorem val_rep {K : PySem.W.Frag} {CC : Addr → Prop} {H : Hp} {v tp : Addr} {c : Int} {xs : List V} {ps : List (Int × Int)} (hv : H v = some (.tup [.int c, .ref tp])) (ht : H tp = some (.tup xs)) (hp : PtsAt H xs ps) (few : ps.length ≤ 1000) : Rep K CC H (.ref v) (.tup [.int c, .tup (ps.map ptD')]) :=
  rep_tupA hv (.cons (.int c) (.cons (pts_tup ht hp few) .nil)) (leB rfl)
/-- two ascending lists of the same houses -/
theorem houses_one {us ms : List Int} {ps qs : List (Int × Int)} (pm : qs.Perm ps) (pu : us.Perm (dd (ps.map (·.2)))) (au : us.Pairwise (· ≤ ·)) (am : ms.Pairwise (· < ·)) (mm : ∀ k, k ∈ ms ↔ k ∈ qs.map (·.2)) : ms = us := by
  have nd : us.Nodup := pu.nodup_iff.mpr (dd_nodup _)
  refine asc_one am ?_ fun k => ?_
  · have nd2 : us.Pairwise (· ≠ ·) := nd
    exact (au.and nd2).imp fun h => by omega
  · rw [mm k, pu.mem_iff, dd_mem, (pm.map (·.2)).mem_iff]
end RH
namespace RH
open PySem L2
def top (i : Nat) : Stmt := PySem.Challenge.pw_ringheld_k25_rings_that_are_made.main.body.getD i (.Pass ⟨0, 0, 0, 0⟩)
abbrev s_law : Stmt := top 36
theorem sc_law : FnScope ["script", "draws", "points", "copies", "passed", "ring", "due", "houses", "told", "again"] ["script"] (defScope s_law) := ⟨rfl, rfl, rfl, by decide +kernel, rfl, by decide +kernel, by decide +kernel⟩
abbrev s_Ring_houses : Stmt := inClass (top 14) 4
theorem sc_Ring_houses : FnScope ["self", "place", "house"] ["self"] (defScope s_Ring_houses) := ⟨rfl, rfl, rfl, by decide +kernel, rfl, by decide +kernel, by decide +kernel⟩
abbrev s_Ring_value : Stmt := inClass (top 14) 6
theorem sc_Ring_value : FnScope ["self"] ["self"] (defScope s_Ring_value) := ⟨rfl, rfl, rfl, by decide +kernel, rfl, by decide +kernel, by decide +kernel⟩
abbrev s_Ring_copies : Stmt := inClass (top 14) 1
theorem sc_Ring_copies : FnScope ["self"] ["self"] (defScope s_Ring_copies) := ⟨rfl, rfl, rfl, by decide +kernel, rfl, by decide +kernel, by decide +kernel⟩
abbrev s_Ring_from_value : Stmt := inClass (top 14) 7
theorem sc_Ring_from_value : FnScope ["value", "copies", "points", "ring"] ["value"] (defScope s_Ring_from_value) := ⟨rfl, rfl, rfl, by decide +kernel, rfl, by decide +kernel, by decide +kernel⟩
abbrev s_Ring___init__ : Stmt := inClass (top 14) 0
theorem sc_Ring___init__ : FnScope ["self", "points", "copies", "place", "house"] ["self", "points", "copies"] (defScope s_Ring___init__) := ⟨rfl, rfl, rfl, by decide +kernel, rfl, by decide +kernel, by decide +kernel⟩
abbrev s_is_integer : Stmt := top 9
theorem sc_is_integer : FnScope ["thing"] ["thing"] (defScope s_is_integer) := ⟨rfl, rfl, rfl, by decide +kernel, rfl, by decide +kernel, by decide +kernel⟩
abbrev s__owners_by_place : Stmt := top 17
theorem sc__owners_by_place : FnScope ["points", "copies", "houses", "found", "at", "owners", "place", "house"] ["points", "copies"] (defScope s__owners_by_place) := ⟨rfl, rfl, rfl, by decide +kernel, rfl, by decide +kernel, by decide +kernel⟩
abbrev s__first_met : Stmt := top 18
theorem sc__first_met : FnScope ["houses", "copies", "owners", "house"] ["houses", "copies"] (defScope s__first_met) := ⟨rfl, rfl, rfl, by decide +kernel, rfl, by decide +kernel, by decide +kernel⟩
abbrev s__are_points : Stmt := top 15
theorem sc__are_points : FnScope ["thing", "part", "place", "house"] ["thing"] (defScope s__are_points) := ⟨rfl, rfl, rfl, by decide +kernel, rfl, by decide +kernel, by decide +kernel⟩
abbrev s__is_point : Stmt := top 16
theorem sc__is_point : FnScope ["thing"] ["thing"] (defScope s__is_point) := ⟨rfl, rfl, rfl, by decide +kernel, rfl, by decide +kernel, by decide +kernel⟩
abbrev s_is_number : Stmt := top 10
theorem sc_is_number : FnScope ["thing"] ["thing"] (defScope s_is_number) := ⟨rfl, rfl, rfl, by decide +kernel, rfl, by decide +kernel, by decide +kernel⟩
abbrev s__law_same_list : Stmt := top 27
theorem sc__law_same_list : FnScope ["told", "due", "k"] ["told", "due"] (defScope s__law_same_list) := ⟨rfl, rfl, rfl, by decide +kernel, rfl, by decide +kernel, by decide +kernel⟩
abbrev s__law_refused : Stmt := top 35
theorem sc__law_refused : FnScope ["points", "copies", "value", "draws", "draw", "more", "bad", "worse"] ["points", "copies", "value", "draws"] (defScope s__law_refused) := ⟨rfl, rfl, rfl, by decide +kernel, rfl, by decide +kernel, by decide +kernel⟩
abbrev s__law_refuses_value : Stmt := top 33
theorem sc__law_refuses_value : FnScope ["value", "e"] ["value"] (defScope s__law_refuses_value) := ⟨rfl, rfl, rfl, by decide +kernel, rfl, by decide +kernel, by decide +kernel⟩
abbrev s__law_refuses_ring : Stmt := top 32
theorem sc__law_refuses_ring : FnScope ["points", "copies", "e"] ["points", "copies"] (defScope s__law_refuses_ring) := ⟨rfl, rfl, rfl, by decide +kernel, rfl, by decide +kernel, by decide +kernel⟩
abbrev s__law_draw : Stmt := top 22
theorem sc__law_draw : FnScope ["draws", "k"] ["draws", "k"] (defScope s__law_draw) := ⟨rfl, rfl, rfl, by decide +kernel, rfl, by decide +kernel, by decide +kernel⟩
abbrev s__law_bad_value : Stmt := top 34
theorem sc__law_bad_value : FnScope ["value", "draw", "more", "points", "place", "turned"] ["value", "draw", "more"] (defScope s__law_bad_value) := ⟨rfl, rfl, rfl, by decide +kernel, rfl, by decide +kernel, by decide +kernel⟩
abbrev s__law_bad_points : Stmt := top 30
theorem sc__law_bad_points : FnScope ["points", "draw", "more", "place"] ["points", "draw", "more"] (defScope s__law_bad_points) := ⟨rfl, rfl, rfl, by decide +kernel, rfl, by decide +kernel, by decide +kernel⟩
abbrev s__law_bad_point : Stmt := top 29
theorem sc__law_bad_point : FnScope ["point", "draw", "great", "bad"] ["point", "draw"] (defScope s__law_bad_point) := ⟨rfl, rfl, rfl, by decide +kernel, rfl, by decide +kernel, by decide +kernel⟩
abbrev s__law_bad_copies : Stmt := top 31
theorem sc__law_bad_copies : FnScope ["points", "draw", "many", "bad"] ["points", "draw"] (defScope s__law_bad_copies) := ⟨rfl, rfl, rfl, by decide +kernel, rfl, by decide +kernel, by decide +kernel⟩
abbrev s__law_houses : Stmt := top 25
theorem sc__law_houses : FnScope ["points", "houses", "point"] ["points"] (defScope s__law_houses) := ⟨rfl, rfl, rfl, by decide +kernel, rfl, by decide +kernel, by decide +kernel⟩
abbrev s__law_pool : Stmt := top 23
theorem sc__law_pool : FnScope ["script", "draws", "mode", "start", "pool", "k"] ["script", "draws"] (defScope s__law_pool) := ⟨rfl, rfl, rfl, by decide +kernel, rfl, by decide +kernel, by decide +kernel⟩
abbrev s__law_cell : Stmt := top 20
theorem sc__law_cell : FnScope ["script", "k"] ["script", "k"] (defScope s__law_cell) := ⟨rfl, rfl, rfl, by decide +kernel, rfl, by decide +kernel, by decide +kernel⟩
abbrev s__law_points : Stmt := top 24
theorem sc__law_points : FnScope ["draws", "first", "pool", "draw", "count", "spread", "points", "step", "k", "cell", "point"] ["draws", "first", "pool"] (defScope s__law_points) := ⟨rfl, rfl, rfl, by decide +kernel, rfl, by decide +kernel, by decide +kernel⟩
abbrev s__law_draws : Stmt := top 21
theorem sc__law_draws : FnScope ["script", "many", "draws", "cell", "rest", "k", "mixed"] ["script", "many"] (defScope s__law_draws) := ⟨rfl, rfl, rfl, by decide +kernel, rfl, by decide +kernel, by decide +kernel⟩
abbrev s__law_copies : Stmt := top 26
theorem sc__law_copies : FnScope ["points", "draw"] ["points", "draw"] (defScope s__law_copies) := ⟨rfl, rfl, rfl, by decide +kernel, rfl, by decide +kernel, by decide +kernel⟩
abbrev s__law_alike : Stmt := top 28
theorem sc__law_alike : FnScope ["told", "due", "k"] ["told", "due"] (defScope s__law_alike) := ⟨rfl, rfl, rfl, by decide +kernel, rfl, by decide +kernel, by decide +kernel⟩
structure Txt (K : PySem.W.Frag) (mg : Str → Option Value) : Prop where
  g_LIMIT : ∃ u, mg "LIMIT" = some u ∧ RelV (.int (1000000000000)) u
  g_MOST_COPIES : ∃ u, mg "MOST_COPIES" = some u ∧ RelV (.int (7)) u
  g_PLACES : ∃ u, mg "PLACES" = some u ∧ RelV (.int (256)) u
  z_ValueError : mg "ValueError" = none
  z_abs : mg "abs" = none
  z_all : mg "all" = none
  z_bool : mg "bool" = none
  z_int : mg "int" = none
  z_isinstance : mg "isinstance" = none
  z_len : mg "len" = none
  z_list : mg "list" = none
  z_min : mg "min" = none
  z_property : mg "property" = none
  z_range : mg "range" = none
  z_sorted : mg "sorted" = none
  z_staticmethod : mg "staticmethod" = none
  z_tuple : mg "tuple" = none
  z_type : mg "type" = none
end RH
namespace RH
open PySem L2
local macro_rules | `(tactic| walk_at "rdh") => `(tactic| first | assumption | exact upd_same | (rw [upd_ne (by assumption)]; assumption) | (rw [upd_ne (Ne.symm (by assumption))]; assumption))
local macro_rules | `(tactic| walk_at "rdc") => `(tactic| first | assumption | decide | omega | exact cmul_r (by decide) (by decide) | exact cmul_l (by decide) (by decide) | exact cpow (by decide) (by decide) (by decide) | exact cdiv (by decide) (by decide) | exact wide_div (b := 200) (by assumption) (by omega) (by decide) (by decide) | exact cmul_r (by omega) (by omega) | exact cmul_l (by omega) (by omega))
local macro_rules | `(tactic| walk_at "rd1") => `(tactic| first
  | with_reducible apply r_op | ((with_reducible apply r_var); exact rfl) | with_reducible apply r_c | with_reducible apply r_cons | with_reducible apply r_nil | with_reducible apply r_I0
  | with_reducible apply r_seq | with_reducible apply r_asg | with_reducible apply r_name | with_reducible apply r_cb | with_reducible apply r_test | with_reducible apply r_k
  | with_reducible apply r_ifS | with_reducible apply r_call | with_reducible apply r_ret | ((with_reducible apply r_I); walk_at "rdc") | ((with_reducible apply r_eq); exact rfl) | ((with_reducible apply r_ne); exact rfl)
  | ((with_reducible apply r_ixL); walk_at "rdh"; exact rfl) | ((with_reducible apply r_ixT); walk_at "rdh"; exact rfl) | with_reducible apply r_sub | ((with_reducible apply r_setL); walk_at "rdh"; exact rfl)
  | with_reducible apply r_un | with_reducible apply r_U | with_reducible apply r_B | with_reducible apply r_and | with_reducible apply r_or | with_reducible apply r_not
  | with_reducible apply r_andV | with_reducible apply r_orV | with_reducible apply r_notV | with_reducible apply r_if | with_reducible apply r_tup | with_reducible apply r_lst
  | ((with_reducible apply r_ixgT); walk_at "rdh"; exact rfl) | ((with_reducible apply r_ixgL); walk_at "rdh"; exact rfl)
  | with_reducible apply r_next | with_reducible apply r_drop | with_reducible apply r_int1 | with_reducible apply r_chain | with_reducible apply r_ord | with_reducible apply r_abs | with_reducible apply r_min2 | with_reducible apply r_max2
  | with_reducible apply r_leStr | with_reducible apply r_inSign | with_reducible apply r_notInSign | ((with_reducible apply r_isTy); assumption)
  | ((with_reducible apply r_lenL); walk_at "rdh") | ((with_reducible apply r_lenT); walk_at "rdh")
  | refine Rep.typ (by assumption) (fun _ _ => ?_) | refine r_isi (by assumption) (by assumption) (by decide) ?_)
local macro_rules | `(tactic| walk_at "rd") => `(tactic| repeat walk_at "rd1")

section
variable {P : Program} {w : World} {K : PySem.W.Frag} {mg : Str → Option Value} {base : Heap} {CC : Addr → Prop}
theorem spB_len {f : D → Bool} : ∀ vs H Q E, spB K CC f vs H Q E → vs.length = 1 := by
  rintro vs H Q E ⟨x, d, rfl, _⟩
  rfl
theorem ok_is_integer {f : Addr} {fd : FuncData} (F : Fun K "is_integer" "is_integer" s_is_integer f fd) (T : Txt K mg) : FnOk P w K mg base CX0 1 f fd ["thing"] (spB K CC isInt) := by
  refine F.ok sc_is_integer spB_len (fun cdv A outer s H vs Q E hr h => ?_)
  obtain ⟨x, d, rfl, R, q⟩ := h
  refine ⟨_, (pss_one (ps_ret (pe_and (pe_cmpR op_isTyG (pe_callTy call_typeG rfl T.z_type (by decide +kernel) (pa_cons (pv 0) pa_nil)) (pe_bltn (v := .ty "int") (u := .type "int") rfl T.z_int (by decide +kernel) rfl) (nomark _)) (pe_one (pe_chain op_le op_le (pe_un un_neg (C8.pe_gc rfl T.g_LIMIT)) (pv 0) (C8.pe_gc rfl T.g_LIMIT)))))), ?_⟩
  walk_at "rd"
  refine ite2 (fun e => ?_) (fun e => ?_)
  · obtain ⟨i, rfl⟩ := tyB_int e
    cases R
    walk_at "rd"
    refine ite2 (fun e => ?_) (fun e => ?_)
    · walk_at "rd"
      have := q H (Same.refl H)
      rw [show isInt (.int i) = decide (i ≤ 1000000000000) by show limI i = _; unfold limI; rw [e, Bool.true_and]] at this
      exact this
    · have := q H (Same.refl H)
      rw [show isInt (.int i) = false by show limI i = _; unfold limI; rw [Bool.eq_false_iff.mpr e, Bool.false_and]] at this
      exact this
  · have := q H (Same.refl H)
    rw [nint e] at this
    exact this
theorem ok_is_number {f : Addr} {fd : FuncData} (F : Fun K "is_number" "is_number" s_is_number f fd) (T : Txt K mg) (c_is_integer : C8.Cal P w K mg base 1 "is_integer" (spB K CC isInt) []) : FnOk P w K mg base CX0 2 f fd ["thing"] (spB K CC isNum) := by
  refine F.ok sc_is_number spB_len (fun cdv A outer s H vs Q E hr h => ?_)
  obtain ⟨x, d, rfl, R, q⟩ := h
  refine ⟨_, (pss_one (ps_ret (pe_and (C8.pe_c c_is_integer hr (by decide) rfl (pa_cons (pv 0) pa_nil)) (pe_one (pe_cmpR op_ge (pv 0) pe_int (nomark _)))))), ?_⟩
  walk_at "rd"
  refine ⟨_, _, rfl, R, fun H1 s1 => ?_⟩
  walk_at "rd"
  have q1 := q H1 s1
  refine ite2 (fun e => ?_) (fun e => ?_)
  · cases R with
    | int i =>
      walk_at "rd"
      rw [show isNum (.int i) = decide (0 ≤ i) by show (limI i && _) = _; rw [show limI i = true from e, Bool.true_and]] at q1
      exact q1
    | _ => cases e
  · cases R with
    | int i =>
      rw [show isNum (.int i) = false by show (limI i && _) = _; rw [show limI i = false from Bool.eq_false_iff.mpr e, Bool.false_and]] at q1
      exact q1
    | _ => exact q1
end
end RH
namespace RH
open PySem L2
local macro_rules | `(tactic| walk_at "rdh") => `(tactic| first | assumption | exact upd_same | (rw [upd_ne (by assumption)]; assumption) | (rw [upd_ne (Ne.symm (by assumption))]; assumption))
local macro_rules | `(tactic| walk_at "rdc") => `(tactic| first | assumption | decide | omega | exact cmul_r (by decide) (by decide) | exact cmul_l (by decide) (by decide) | exact cpow (by decide) (by decide) (by decide) | exact cdiv (by decide) (by decide) | exact wide_div (b := 200) (by assumption) (by omega) (by decide) (by decide) | exact cmul_r (by omega) (by omega) | exact cmul_l (by omega) (by omega))
local macro_rules | `(tactic| walk_at "rd1") => `(tactic| first
  | with_reducible apply r_op | ((with_reducible apply r_var); exact rfl) | with_reducible apply r_c | with_reducible apply r_cons | with_reducible apply r_nil | with_reducible apply r_I0
  | with_reducible apply r_seq | with_reducible apply r_asg | with_reducible apply r_name | with_reducible apply r_cb | with_reducible apply r_test | with_reducible apply r_k
  | with_reducible apply r_ifS | with_reducible apply r_call | with_reducible apply r_ret | ((with_reducible apply r_I); walk_at "rdc") | ((with_reducible apply r_eq); exact rfl) | ((with_reducible apply r_ne); exact rfl)
  | ((with_reducible apply r_ixL); walk_at "rdh"; exact rfl) | ((with_reducible apply r_ixT); walk_at "rdh"; exact rfl) | with_reducible apply r_sub | ((with_reducible apply r_setL); walk_at "rdh"; exact rfl)
  | with_reducible apply r_un | with_reducible apply r_U | with_reducible apply r_B | with_reducible apply r_and | with_reducible apply r_or | with_reducible apply r_not
  | with_reducible apply r_andV | with_reducible apply r_orV | with_reducible apply r_notV | with_reducible apply r_if | with_reducible apply r_tup | with_reducible apply r_lst
  | ((with_reducible apply r_ixgT); walk_at "rdh"; exact rfl) | ((with_reducible apply r_ixgL); walk_at "rdh"; exact rfl)
  | with_reducible apply r_next | with_reducible apply r_drop | with_reducible apply r_int1 | with_reducible apply r_chain | with_reducible apply r_ord | with_reducible apply r_abs | with_reducible apply r_min2 | with_reducible apply r_max2
  | with_reducible apply r_leStr | with_reducible apply r_inSign | with_reducible apply r_notInSign | ((with_reducible apply r_isTy); assumption)
  | ((with_reducible apply r_lenL); walk_at "rdh") | ((with_reducible apply r_lenT); walk_at "rdh")
  | refine Rep.typ (by assumption) (fun _ _ => ?_) | refine r_isi (by assumption) (by assumption) (by decide) ?_)
local macro_rules | `(tactic| walk_at "rd") => `(tactic| repeat walk_at "rd1")

section
variable {P : Program} {w : World} {K : PySem.W.Frag} {mg : Str → Option Value} {base : Heap} {CC : Addr → Prop}
theorem ok__law_cell {f : Addr} {fd : FuncData} (F : Fun K "_law_cell" "_law_cell" s__law_cell f fd) (T : Txt K mg) : FnOk P w K mg base CX0 1 f fd ["script", "k"] (spCell K) := by
  refine F.ok sc__law_cell (fun vs H Q E h => ?_) (fun cdv A outer s H vs Q E hr h => ?_)
  · obtain ⟨a, ns, k, rfl, _⟩ := h
    rfl
  · obtain ⟨a, ns, k, rfl, hS, h0, q⟩ := h
    refine ⟨_, (pss_cons (ps_if (pt_cmpR op_lt (pv 1) (pe_callB call_lenG rfl T.z_len (by decide +kernel) (pa_cons (pv 0) pa_nil)) (nomark _))
 (pss_one (ps_ret (pe_ix ix_list (pv 0) (pv 1) (fun _ _ => rfl))))
 pss_nil)
 (pss_one (ps_ret pe_int))), ?_⟩
    walk_at "rd"
    refine r_lenQ hS ?_
    walk_at "rd"
    rw [List.length_map]
    refine ite2 (fun e => ?_) (fun e => ?_)
    · have h1 : k < ns.length := of_decide_eq_true e
      obtain ⟨m, rfl⟩ : ∃ m : Nat, k = (m : Int) := ⟨k.toNat, by omega⟩
      have hm : m < ns.length := by omega
      walk_at "rd"
      refine ⟨a, ns.map V.int, m, .int ns[m], rfl, rfl, hS, atI_nat (by rw [List.getElem?_map, List.getElem?_eq_getElem hm]; rfl), ?_⟩
      walk_at "rd"
      exact q _
    · walk_at "rd"
      exact q _
end
end RH
namespace RH
open PySem L2
local macro_rules | `(tactic| walk_at "rdh") => `(tactic| first | assumption | exact upd_same | (rw [upd_ne (by assumption)]; assumption) | (rw [upd_ne (Ne.symm (by assumption))]; assumption))
local macro_rules | `(tactic| walk_at "rdc") => `(tactic| first | assumption | decide | omega | exact cmul_r (by decide) (by decide) | exact cmul_l (by decide) (by decide) | exact cpow (by decide) (by decide) (by decide) | exact cdiv (by decide) (by decide) | exact wide_div (b := 200) (by assumption) (by omega) (by decide) (by decide) | exact cmul_r (by omega) (by omega) | exact cmul_l (by omega) (by omega))
local macro_rules | `(tactic| walk_at "rd1") => `(tactic| first
  | with_reducible apply r_op | ((with_reducible apply r_var); exact rfl) | with_reducible apply r_c | with_reducible apply r_cons | with_reducible apply r_nil | with_reducible apply r_I0
  | with_reducible apply r_seq | with_reducible apply r_asg | with_reducible apply r_name | with_reducible apply r_cb | with_reducible apply r_test | with_reducible apply r_k
  | with_reducible apply r_ifS | with_reducible apply r_call | with_reducible apply r_ret | ((with_reducible apply r_I); walk_at "rdc") | ((with_reducible apply r_eq); exact rfl) | ((with_reducible apply r_ne); exact rfl)
  | ((with_reducible apply r_ixL); walk_at "rdh"; exact rfl) | ((with_reducible apply r_ixT); walk_at "rdh"; exact rfl) | with_reducible apply r_sub | ((with_reducible apply r_setL); walk_at "rdh"; exact rfl)
  | with_reducible apply r_un | with_reducible apply r_U | with_reducible apply r_B | with_reducible apply r_and | with_reducible apply r_or | with_reducible apply r_not
  | with_reducible apply r_andV | with_reducible apply r_orV | with_reducible apply r_notV | with_reducible apply r_if | with_reducible apply r_tup | with_reducible apply r_lst
  | ((with_reducible apply r_ixgT); walk_at "rdh"; exact rfl) | ((with_reducible apply r_ixgL); walk_at "rdh"; exact rfl)
  | with_reducible apply r_next | with_reducible apply r_drop | with_reducible apply r_int1 | with_reducible apply r_chain | with_reducible apply r_ord | with_reducible apply r_abs | with_reducible apply r_min2 | with_reducible apply r_max2
  | with_reducible apply r_leStr | with_reducible apply r_inSign | with_reducible apply r_notInSign | ((with_reducible apply r_isTy); assumption)
  | ((with_reducible apply r_lenL); walk_at "rdh") | ((with_reducible apply r_lenT); walk_at "rdh")
  | refine Rep.typ (by assumption) (fun _ _ => ?_) | refine r_isi (by assumption) (by assumption) (by decide) ?_)
local macro_rules | `(tactic| walk_at "rd") => `(tactic| repeat walk_at "rd1")

section
variable {P : Program} {w : World} {K : PySem.W.Frag} {mg : Str → Option Value} {base : Heap} {CC : Addr → Prop}
theorem ok__law_draw {f : Addr} {fd : FuncData} (F : Fun K "_law_draw" "_law_draw" s__law_draw f fd) (T : Txt K mg) : FnOk P w K mg base CX0 1 f fd ["draws", "k"] spDrawF := by
  refine F.ok sc__law_draw (fun vs H Q E h => ?_) (fun cdv A outer s H vs Q E hr h => ?_)
  · obtain ⟨l, ds, k, rfl, _⟩ := h
    rfl
  · obtain ⟨l, ds, k, rfl, hl, k0, q⟩ := h
    refine ⟨_, (pss_cons (ps_if (pt_cmpR op_lt (pv 1) (pe_callB call_lenG rfl T.z_len (by decide +kernel) (pa_cons (pv 0) pa_nil)) (nomark _))
 (pss_one (ps_ret (pe_ix ix_list (pv 0) (pv 1) (fun _ _ => rfl))))
 pss_nil)
 (pss_one (ps_ret pe_int))), ?_⟩
    walk_at "rd"
    rw [List.length_map]
    obtain ⟨m, rfl⟩ : ∃ m : Nat, k = (m : Int) := ⟨k.toNat, by omega⟩
    have ed : drawF ds (m : Int) = (ds[m]?).getD 0 := rfl
    refine ite2 (fun e => ?_) (fun e => ?_)
    · have h1 : (m : Int) < ds.length := of_decide_eq_true e
      have hm : m < ds.length := by omega
      rw [List.getElem?_eq_getElem hm] at ed
      walk_at "rd"
      refine r_ixL hl (atI_nat (v := .int ds[m]) (by rw [List.getElem?_map, List.getElem?_eq_getElem hm]; rfl)) ?_
      walk_at "rd"
      rw [ed] at q
      exact q
    · have h1 : ¬ (m : Int) < ds.length := fun z => e (decide_eq_true z)
      rw [List.getElem?_eq_none (by omega)] at ed
      walk_at "rd"
      rw [ed] at q
      exact q
theorem ok__law_draws {f : Addr} {fd : FuncData} (F : Fun K "_law_draws" "_law_draws" s__law_draws f fd) (T : Txt K mg) : FnOk P w K mg base CX0 1 f fd ["script", "many"] (spStream K 27720) := by
  refine F.ok sc__law_draws (fun vs H Q E h => ?_) (fun cdv A outer s H vs Q E hr h => ?_)
  · obtain ⟨a, ns, n, rfl, _⟩ := h
    rfl
  · obtain ⟨a, ns, n, rfl, hS, hn, q⟩ := h
    refine ⟨_, (pss_cons (ps_set (i := 2) sc__law_draws.nd rfl (Or.inl rfl) (pe_lst pa_nil))
 (pss_cons (ps_for PassesOwn.never rfl (pi_list (pv 0)) (pg_name (i := 3) sc__law_draws.nd rfl (Or.inl rfl))
 (pss_cons (ps_if (pt_cmpR op_ge (pe_callB call_lenG rfl T.z_len (by decide +kernel) (pa_cons (pv 2) pa_nil)) (pv 1) (nomark _))
 (pss_one ps_break)
 pss_nil)
 (pss_one (ps_if (pt_cmpR op_ge (pv 3) (pe_op op_pow pe_int pe_int) (nomark _))
 (pss_cons (ps_set (i := 4) sc__law_draws.nd rfl (Or.inl rfl) (pv 3))
 (pss_one (ps_for PassesOwn.never rfl (pi_range1 rfl T.z_range (pa_cons pe_int pa_nil)) (pg_name (i := 5) sc__law_draws.nd rfl (Or.inl rfl))
 (pss_one (ps_if (pt_cmpR op_gt (pv 4) pe_int (nomark _))
 (pss_cons (ps_expr (pe_bm PySem.F.plainAttrs_list PySem.F.slot_list_append PySem.F.type_list_append mt_append (pv 2) (pa_cons (pe_op op_mod (pe_callTy call_int1G rfl T.z_int (by decide +kernel) (pa_cons (pv 4) pa_nil)) pe_int) pa_nil)))
 (pss_one (ps_set (i := 4) sc__law_draws.nd rfl (Or.inl rfl) (pe_op op_fdiv (pv 4) pe_int))))
 pss_nil)))))
 (pss_cons (ps_set (i := 6) sc__law_draws.nd rfl (Or.inl rfl) (pe_op op_mod (pe_callTy call_int1G rfl T.z_int (by decide +kernel) (pa_cons (pe_op op_add (pe_op op_add (pe_op op_mul (pv 3) pe_int) (pe_op op_mul (pe_callB call_lenG rfl T.z_len (by decide +kernel) (pa_cons (pv 2) pa_nil)) pe_int)) pe_int) pa_nil)) pe_int))
 (pss_one (ps_for PassesOwn.never rfl (pi_range1 rfl T.z_range (pa_cons pe_int pa_nil)) (pg_name (i := 5) sc__law_draws.nd rfl (Or.inl rfl))
 (pss_cons (ps_set (i := 6) sc__law_draws.nd rfl (Or.inl rfl) (pe_op op_mod (pe_callTy call_int1G rfl T.z_int (by decide +kernel) (pa_cons (pe_op op_add (pe_op op_add (pe_op op_mul (pv 6) pe_int) (pe_op op_mul pe_int (pv 5))) pe_int) pa_nil)) pe_int))
 (pss_one (ps_expr (pe_bm PySem.F.plainAttrs_list PySem.F.slot_list_append PySem.F.type_list_append mt_append (pv 2) (pa_cons (pe_op op_mod (pe_callTy call_int1G rfl T.z_int (by decide +kernel) (pa_cons (pe_op op_fdiv (pv 6) pe_int) pa_nil)) pe_int) pa_nil))))))))))))
 (pss_one (ps_ret (pv 2))))), ?_⟩
    walk_at "rd"
    refine ⟨szL rfl, fun l hl => ?_⟩
    walk_at "rd"
    refine r_for (r_list ?_)
    walk_at "rd"
    have s0 : Same H (upd H l (.lst [])) := same_new hl
    refine ⟨a, rfl, ⟨_, s0.seq hS⟩, ?_⟩
    refine go_it (walk_list (xs := ns.map V.int)) (fun i σ' H' => ∃ u1 u2 u3 u4 ds, σ' = [some (.ref a), some (.int n), some (.ref l), u1, u2, u3, u4] ∧ (∀ b o, b ≠ l → H b = some o → H' b = some o) ∧ H' l = some (.lst ((ds : List Int).map V.int)) ∧ ds.length ≤ 300 ∧ ∀ d ∈ ds, 0 ≤ d ∧ d < 27720)
      ⟨_, _, _, _, [], rfl, fun b o n e => by rw [upd_ne n]; exact e, upd_same, by decide, fun _ m => nomatch m⟩ ?_ ?_ ?_
    · rintro i σ' H1 _ ⟨_, _, _, _, _, _, fr, _⟩
      exact (show Same H H1 from fun b o e => fr b o (ne_of_none e hl) e).seq hS
    · rintro i x σ' H1 H2 hi ⟨u1, u2, u3, u4, ds, rfl, fr, hl1, sz, rg⟩ ⟨rfl, hx⟩
      obtain ⟨c, hc, rfl⟩ : ∃ c, ns[i]? = some c ∧ x = .int c := by
        rw [List.getElem?_map] at hx
        cases z : ns[i]? with
        | none => rw [z] at hx; cases hx
        | some c => rw [z] at hx; exact ⟨c, rfl, (Option.some.inj hx).symm⟩
      walk_at "rd"
      rw [List.length_map]
      refine ite2 (fun e => ?_) (fun e => ?_)
      · walk_at "rd"
        refine r_brk ?_
        walk_at "rd"
        exact q _ l (fun b o e => fr b o (ne_of_none e hl) e) hl ⟨ds, hl1, by omega, rg⟩
      · have lt : (ds.length : Int) < n := by
          rcases Int.lt_or_le (ds.length : Int) n with z | z
          · exact z
          · exact absurd (decide_eq_true z) e
        walk_at "rd"
        refine ite2 (fun e2 => ?_) (fun e2 => ?_)
        · walk_at "rd"
          refine r_for (r_rng1 ?_)
          walk_at "rd"
          refine ⟨_, rfl, by omega, by omega, ?_⟩
          refine go_range (fun j σ' H' => ∃ u2 u4 ds r, σ' = [some (.ref a), some (.int n), some (.ref l), some (.int c), some (.int r), u2, u4] ∧ (∀ b o, b ≠ l → H b = some o → H' b = some o) ∧ H' l = some (.lst ((ds : List Int).map V.int)) ∧ ds.length ≤ 100 + j ∧ ∀ d ∈ ds, 0 ≤ d ∧ d < 27720)
            ⟨_, _, ds, c, rfl, fr, hl1, by omega, rg⟩ ?_ ?_
          · rintro j x σ' H3 hj ⟨w2, w4, es, r, rfl, fr3, hl3, sz3, rg3⟩ rfl
            have hj : j < 60 := hj
            walk_at "rd"
            refine ite2 (fun e3 => ?_) (fun e3 => ?_)
            · walk_at "rd"
              refine r_bmL rfl hl3 ?_
              walk_at "rd"
              refine r_append hl3 (by rw [List.length_map]; exact small1000 (by omega)) ?_
              walk_at "rd"
              refine ⟨_, _, es ++ [r % 27720], _, rfl, fun b o n e => by rw [upd_ne n]; exact fr3 b o n e, by rw [upd_same]; simp, by rw [List.length_append, List.length_singleton]; omega, fun d hd => ?_⟩
              rcases List.mem_append.mp hd with z | z
              · exact rg3 d z
              · rw [List.mem_singleton.mp z]
                exact ⟨Int.emod_nonneg _ (by decide), Int.emod_lt_of_pos _ (by decide)⟩
            · walk_at "rd"
              exact ⟨_, _, es, r, rfl, fr3, hl3, by omega, rg3⟩
          · rintro σ' H3 ⟨w2, w4, es, r, rfl, fr3, hl3, sz3, rg3⟩
            have sz3 : es.length ≤ 160 := sz3
            exact ⟨_, _, _, _, es, rfl, fr3, hl3, by omega, rg3⟩
        · walk_at "rd"
          refine r_for (r_rng1 ?_)
          walk_at "rd"
          refine ⟨_, rfl, by omega, by omega, ?_⟩
          refine go_range (fun j σ' H' => ∃ u1 u2 ds r, σ' = [some (.ref a), some (.int n), some (.ref l), some (.int c), u1, u2, some (.int r)] ∧ (∀ b o, b ≠ l → H b = some o → H' b = some o) ∧ H' l = some (.lst ((ds : List Int).map V.int)) ∧ ds.length ≤ 100 + j ∧ ∀ d ∈ ds, 0 ≤ d ∧ d < 27720)
            ⟨_, _, ds, _, rfl, fr, hl1, by omega, rg⟩ ?_ ?_
          · rintro j x σ' H3 hj ⟨w2, w4, es, r, rfl, fr3, hl3, sz3, rg3⟩ rfl
            have hj : j < 5 := hj
            walk_at "rd"
            refine r_bmL rfl hl3 ?_
            walk_at "rd"
            refine r_append hl3 (by rw [List.length_map]; exact small1000 (by omega)) ?_
            refine ⟨_, _, es ++ [(r * 48271 + 13 * (0 + (j : Int)) + 5) % 2147483629 / 11 % 27720], _, rfl, fun b o n e => by rw [upd_ne n]; exact fr3 b o n e, by rw [upd_same]; simp, by rw [List.length_append, List.length_singleton]; omega, fun d hd => ?_⟩
            rcases List.mem_append.mp hd with z | z
            · exact rg3 d z
            · rw [List.mem_singleton.mp z]
              exact ⟨Int.emod_nonneg _ (by decide), Int.emod_lt_of_pos _ (by decide)⟩
          · rintro σ' H3 ⟨w2, w4, es, r, rfl, fr3, hl3, sz3, rg3⟩
            have sz3 : es.length ≤ 105 := sz3
            exact ⟨_, _, _, _, es, rfl, fr3, hl3, by omega, rg3⟩
    · rintro σ' H1 ⟨u1, u2, u3, u4, ds, rfl, fr, hl1, sz, rg⟩
      walk_at "rd"
      exact q _ l (fun b o e => fr b o (ne_of_none e hl) e) hl ⟨ds, hl1, by omega, rg⟩
end
end RH
namespace RH
open PySem L2
local macro_rules | `(tactic| walk_at "rdh") => `(tactic| first | assumption | exact upd_same | (rw [upd_ne (by assumption)]; assumption) | (rw [upd_ne (Ne.symm (by assumption))]; assumption))
local macro_rules | `(tactic| walk_at "rdc") => `(tactic| first | assumption | decide | omega | exact cmul_r (by decide) (by decide) | exact cmul_l (by decide) (by decide) | exact cpow (by decide) (by decide) (by decide) | exact cdiv (by decide) (by decide) | exact wide_div (b := 200) (by assumption) (by omega) (by decide) (by decide) | exact cmul_r (by omega) (by omega) | exact cmul_l (by omega) (by omega))
local macro_rules | `(tactic| walk_at "rd1") => `(tactic| first
  | with_reducible apply r_op | ((with_reducible apply r_var); exact rfl) | with_reducible apply r_c | with_reducible apply r_cons | with_reducible apply r_nil | with_reducible apply r_I0
  | with_reducible apply r_seq | with_reducible apply r_asg | with_reducible apply r_name | with_reducible apply r_cb | with_reducible apply r_test | with_reducible apply r_k
  | with_reducible apply r_ifS | with_reducible apply r_call | with_reducible apply r_ret | ((with_reducible apply r_I); walk_at "rdc") | ((with_reducible apply r_eq); exact rfl) | ((with_reducible apply r_ne); exact rfl)
  | ((with_reducible apply r_ixL); walk_at "rdh"; exact rfl) | ((with_reducible apply r_ixT); walk_at "rdh"; exact rfl) | with_reducible apply r_sub | ((with_reducible apply r_setL); walk_at "rdh"; exact rfl)
  | with_reducible apply r_un | with_reducible apply r_U | with_reducible apply r_B | with_reducible apply r_and | with_reducible apply r_or | with_reducible apply r_not
  | with_reducible apply r_andV | with_reducible apply r_orV | with_reducible apply r_notV | with_reducible apply r_if | with_reducible apply r_tup | with_reducible apply r_lst
  | ((with_reducible apply r_ixgT); walk_at "rdh"; exact rfl) | ((with_reducible apply r_ixgL); walk_at "rdh"; exact rfl)
  | with_reducible apply r_next | with_reducible apply r_drop | with_reducible apply r_int1 | with_reducible apply r_chain | with_reducible apply r_ord | with_reducible apply r_abs | with_reducible apply r_min2 | with_reducible apply r_max2
  | with_reducible apply r_leStr | with_reducible apply r_inSign | with_reducible apply r_notInSign | ((with_reducible apply r_isTy); assumption)
  | ((with_reducible apply r_lenL); walk_at "rdh") | ((with_reducible apply r_lenT); walk_at "rdh")
  | refine Rep.typ (by assumption) (fun _ _ => ?_) | refine r_isi (by assumption) (by assumption) (by decide) ?_)
local macro_rules | `(tactic| walk_at "rd") => `(tactic| repeat walk_at "rd1")

section
variable {P : Program} {w : World} {K : PySem.W.Frag} {mg : Str → Option Value} {base : Heap} {CC : Addr → Prop}
end
end RH
namespace RH
open PySem L2
local macro_rules | `(tactic| walk_at "rdh") => `(tactic| first | assumption | exact upd_same | (rw [upd_ne (by assumption)]; assumption) | (rw [upd_ne (Ne.symm (by assumption))]; assumption))
local macro_rules | `(tactic| walk_at "rdc") => `(tactic| first | assumption | decide | omega | exact cmul_r (by decide) (by decide) | exact cmul_l (by decide) (by decide) | exact cpow (by decide) (by decide) (by decide) | exact cdiv (by decide) (by decide) | exact wide_div (b := 200) (by assumption) (by omega) (by decide) (by decide) | exact cmul_r (by omega) (by omega) | exact cmul_l (by omega) (by omega))
local macro_rules | `(tactic| walk_at "rd1") => `(tactic| first
  | with_reducible apply r_op | ((with_reducible apply r_var); exact rfl) | with_reducible apply r_c | with_reducible apply r_cons | with_reducible apply r_nil | with_reducible apply r_I0
  | with_reducible apply r_seq | with_reducible apply r_asg | with_reducible apply r_name | with_reducible apply r_cb | with_reducible apply r_test | with_reducible apply r_k
  | with_reducible apply r_ifS | with_reducible apply r_call | with_reducible apply r_ret | ((with_reducible apply r_I); walk_at "rdc") | ((with_reducible apply r_eq); exact rfl) | ((with_reducible apply r_ne); exact rfl)
  | ((with_reducible apply r_ixL); walk_at "rdh"; exact rfl) | ((with_reducible apply r_ixT); walk_at "rdh"; exact rfl) | with_reducible apply r_sub | ((with_reducible apply r_setL); walk_at "rdh"; exact rfl)
  | with_reducible apply r_un | with_reducible apply r_U | with_reducible apply r_B | with_reducible apply r_and | with_reducible apply r_or | with_reducible apply r_not
  | with_reducible apply r_andV | with_reducible apply r_orV | with_reducible apply r_notV | with_reducible apply r_if | with_reducible apply r_tup | with_reducible apply r_lst
  | ((with_reducible apply r_ixgT); walk_at "rdh"; exact rfl) | ((with_reducible apply r_ixgL); walk_at "rdh"; exact rfl)
  | with_reducible apply r_next | with_reducible apply r_drop | with_reducible apply r_int1 | with_reducible apply r_chain | with_reducible apply r_ord | with_reducible apply r_abs | with_reducible apply r_min2 | with_reducible apply r_max2
  | with_reducible apply r_leStr | with_reducible apply r_inSign | with_reducible apply r_notInSign | ((with_reducible apply r_isTy); assumption)
  | ((with_reducible apply r_lenL); walk_at "rdh") | ((with_reducible apply r_lenT); walk_at "rdh")
  | refine Rep.typ (by assumption) (fun _ _ => ?_) | refine r_isi (by assumption) (by assumption) (by decide) ?_)
local macro_rules | `(tactic| walk_at "rd") => `(tactic| repeat walk_at "rd1")

section
variable {P : Program} {w : World} {K : PySem.W.Frag} {mg : Str → Option Value} {base : Heap} {CC : Addr → Prop}
theorem ok__first_met {f : Addr} {fd : FuncData} (F : Fun K "_first_met" "_first_met" s__first_met f fd) (T : Txt K mg) : FnOk P w K mg base CX0 1 f fd ["houses", "copies"] spMet := by
  refine F.ok sc__first_met (fun vs H Q E h => ?_) (fun cdv A outer s H vs Q E hr h => ?_)
  · obtain ⟨a, hs, c, rfl, _⟩ := h
    rfl
  · obtain ⟨a, hs, c, rfl, ha, sz, many, c1, q⟩ := h
    refine ⟨_, (pss_cons (ps_set (i := 2) sc__first_met.nd rfl (Or.inl rfl) (pe_lst pa_nil))
 (pss_cons (ps_for PassesOwn.never rfl (pi_list (pv 0)) (pg_name (i := 3) sc__first_met.nd rfl (Or.inl rfl))
 (C8.pss_cut (ps_if (pt_cmpR op_notIn_seq (pv 3) (pv 2) rfl)
 (pss_one (ps_expr (pe_bm PySem.F.plainAttrs_list PySem.F.slot_list_append PySem.F.type_list_append mt_append (pv 2) (pa_cons (pv 3) pa_nil))))
 pss_nil)
 (pss_one (ps_if (pt_cmpR op_eq (pe_callB call_lenG rfl T.z_len (by decide +kernel) (pa_cons (pv 2) pa_nil)) (pv 1) (nomark _))
 (pss_one ps_break)
 pss_nil))))
 (pss_one (ps_ret (pv 2))))), ?_⟩
    walk_at "rd"
    refine ⟨szL rfl, fun p hp => ?_⟩
    walk_at "rd"
    refine r_for (r_list ?_)
    walk_at "rd"
    have s0 : Same H (upd H p (.lst [])) := same_new hp
    refine ⟨a, rfl, ⟨_, SqL.of (s0 _ _ ha)⟩, ?_⟩
    refine go_it (walk_list (xs := hs.map V.int)) (fun i σ' H' => ∃ u os, σ' = [some (.ref a), some (.int c), some (.ref p), u] ∧ (∀ b o, b ≠ p → H b = some o → H' b = some o) ∧ H' p = some (.lst ((os : List Int).map V.int)) ∧ os = dd (hs.take i) ∧ (os.length : Int) < c)
      ⟨_, [], rfl, fun b o n e => by rw [upd_ne n]; exact e, upd_same, rfl, by show (0 : Int) < c; omega⟩ ?_ ?_ ?_
    · rintro i σ' H1 _ ⟨_, _, _, fr, _⟩
      exact SqL.of (fr a _ (ne_of_none ha hp) ha)
    · rintro i x σ' H1 H2 hi ⟨u, os, rfl, fr, hm, eo, lt⟩ ⟨rfl, hx⟩
      obtain ⟨h, hh, rfl⟩ : ∃ h, hs[i]? = some h ∧ x = .int h := by
        rw [List.getElem?_map] at hx
        cases z : hs[i]? with
        | none => rw [z] at hx; cases hx
        | some c => rw [z] at hx; exact ⟨c, rfl, (Option.some.inj hx).symm⟩
      have en : dd (hs.take (i + 1)) = if h ∈ os then os else os ++ [h] := by rw [take_snoc hh, dd_S eo]
      have lo : os.length ≤ 600 := by
        have h1 := dd_len (hs.take i)
        rw [List.length_take] at h1
        rw [eo]
        omega
      refine r_name ?_
      refine r_cut (fun σ' H' => ∃ os, σ' = [some (.ref a), some (.int c), some (.ref p), some (.int h)] ∧ (∀ b o, b ≠ p → H b = some o → H' b = some o) ∧ H' p = some (.lst ((os : List Int).map V.int)) ∧ os = dd (hs.take (i + 1))) ?_ ?_
      · walk_at "rd"
        refine r_notInI (SqL.of hm) ?_
        walk_at "rd"
        refine ite2 (fun e => ?_) (fun e => ?_)
        · have e1 : h ∉ os := by simpa using e
          rw [if_neg e1] at en
          walk_at "rd"
          refine r_bmL rfl hm ?_
          walk_at "rd"
          refine r_append hm (by rw [List.length_map]; exact small1000 (by omega)) ?_
          exact ⟨os ++ [h], rfl, fun b o n e => by rw [upd_ne n]; exact fr b o n e, by rw [upd_same]; simp, en.symm⟩
        · have e1 : h ∈ os := by simpa using e
          rw [if_pos e1] at en
          walk_at "rd"
          exact ⟨os, rfl, fr, hm, en.symm⟩
      · rintro σ' H3 ⟨os2, rfl, fr3, hm3, eo3⟩
        have le : (os2.length : Int) ≤ c := by
          rw [eo3, en]
          split
          · omega
          · rw [List.length_append, List.length_singleton]
            omega
        walk_at "rd"
        rw [List.length_map]
        refine ite2 (fun e => ?_) (fun e => ?_)
        · have e1 : (os2.length : Int) = c := V.int.inj (of_decide_eq_true e)
          walk_at "rd"
          refine r_brk ?_
          walk_at "rd"
          refine q _ p os2 (fun b o e => fr3 b o (ne_of_none e hp) e) hp hm3 ⟨by rw [eo3]; exact dd_nodup _, e1, fun o ho => ?_⟩ ?_
          · rw [eo3, dd_mem] at ho
            exact List.mem_of_mem_take ho
          · rw [dd_first (i := i + 1) (by rw [← eo3]; omega)]
            exact eo3
        · have e1 : ¬ (os2.length : Int) = c := fun z => e (decide_eq_true (congrArg V.int z))
          walk_at "rd"
          exact ⟨_, os2, rfl, fr3, hm3, eo3, by omega⟩
    · rintro σ' H1 ⟨u, os, rfl, fr, hm, eo, lt⟩
      rw [show (hs.map V.int).length = hs.length from List.length_map .., List.take_length] at eo
      rw [← eo] at many
      omega
end
end RH
namespace RH
open PySem L2
local macro_rules | `(tactic| walk_at "rdh") => `(tactic| first | assumption | exact upd_same | (rw [upd_ne (by assumption)]; assumption) | (rw [upd_ne (Ne.symm (by assumption))]; assumption))
local macro_rules | `(tactic| walk_at "rdc") => `(tactic| first | assumption | decide | omega | exact cmul_r (by decide) (by decide) | exact cmul_l (by decide) (by decide) | exact cpow (by decide) (by decide) (by decide) | exact cdiv (by decide) (by decide) | exact wide_div (b := 200) (by assumption) (by omega) (by decide) (by decide) | exact cmul_r (by omega) (by omega) | exact cmul_l (by omega) (by omega))
local macro_rules | `(tactic| walk_at "rd1") => `(tactic| first
  | with_reducible apply r_op | ((with_reducible apply r_var); exact rfl) | with_reducible apply r_c | with_reducible apply r_cons | with_reducible apply r_nil | with_reducible apply r_I0
  | with_reducible apply r_seq | with_reducible apply r_asg | with_reducible apply r_name | with_reducible apply r_cb | with_reducible apply r_test | with_reducible apply r_k
  | with_reducible apply r_ifS | with_reducible apply r_call | with_reducible apply r_ret | ((with_reducible apply r_I); walk_at "rdc") | ((with_reducible apply r_eq); exact rfl) | ((with_reducible apply r_ne); exact rfl)
  | ((with_reducible apply r_ixL); walk_at "rdh"; exact rfl) | ((with_reducible apply r_ixT); walk_at "rdh"; exact rfl) | with_reducible apply r_sub | ((with_reducible apply r_setL); walk_at "rdh"; exact rfl)
  | with_reducible apply r_un | with_reducible apply r_U | with_reducible apply r_B | with_reducible apply r_and | with_reducible apply r_or | with_reducible apply r_not
  | with_reducible apply r_andV | with_reducible apply r_orV | with_reducible apply r_notV | with_reducible apply r_if | with_reducible apply r_tup | with_reducible apply r_lst
  | ((with_reducible apply r_ixgT); walk_at "rdh"; exact rfl) | ((with_reducible apply r_ixgL); walk_at "rdh"; exact rfl)
  | with_reducible apply r_next | with_reducible apply r_drop | with_reducible apply r_int1 | with_reducible apply r_chain | with_reducible apply r_ord | with_reducible apply r_abs | with_reducible apply r_min2 | with_reducible apply r_max2
  | with_reducible apply r_leStr | with_reducible apply r_inSign | with_reducible apply r_notInSign | ((with_reducible apply r_isTy); assumption)
  | ((with_reducible apply r_lenL); walk_at "rdh") | ((with_reducible apply r_lenT); walk_at "rdh")
  | refine Rep.typ (by assumption) (fun _ _ => ?_) | refine r_isi (by assumption) (by assumption) (by decide) ?_)
local macro_rules | `(tactic| walk_at "rd") => `(tactic| repeat walk_at "rd1")

theorem cut_from (ns : List Int) (n : Nat) : cutV (ns.map V.int) (some (n : Int)) none = (ns.drop n).map V.int := by
  unfold cutV
  rw [HT.sIx_none, HT.sIx_nat, List.map_drop, List.length_map]
  by_cases h : n ≤ ns.length
  · rw [Nat.min_eq_left h, List.take_of_length_le (by rw [List.length_drop, List.length_map]; omega)]
  · rw [Nat.min_eq_right (by omega), Nat.sub_self, List.take_zero, List.drop_of_length_le (by rw [List.length_map]; omega)]
theorem rot_mem {hs : List Int} {n : Nat} {j : Int} : j ∈ hs.drop n ++ hs.take n ↔ j ∈ hs := by
  rw [List.mem_append, Or.comm, ← List.mem_append, List.take_append_drop]
theorem rep_one (n : Nat) (v : V) : (List.replicate n [v]).flatten = List.replicate n v := by
  induction n with
  | zero => rfl
  | succ n ih => rw [List.replicate_succ, List.flatten_cons, ih]; rfl
section
variable {P : Program} {w : World} {K : PySem.W.Frag} {mg : Str → Option Value} {base : Heap} {CC : Addr → Prop}
theorem ok__owners_by_place {f : Addr} {fd : FuncData} (F : Fun K "_owners_by_place" "_owners_by_place" s__owners_by_place f fd) (T : Txt K mg) (c__first_met : C8.Cal P w K mg base 1 "_first_met" spMet []) : FnOk P w K mg base CX0 2 f fd ["points", "copies"] (spByPlace K) := by
  refine F.ok sc__owners_by_place (fun vs H Q E h => ?_) (fun cdv A outer s H vs Q E hr h => ?_)
  · obtain ⟨a, xs, ps, c, rfl, _⟩ := h
    rfl
  · obtain ⟨a, xs, ps, c, rfl, ha, hp, ok, asc, q⟩ := h
    refine ⟨_, (pss_cons (ps_setLc (i := 2) (own := [("place", 6), ("house", 7)]) rfl sc__owners_by_place.nd rfl rfl (sw_true rfl rfl rfl (by decide +kernel)) (pi_tup (pv 0)) (blkOk_by (sc := defScope s__owners_by_place) (N := ["points", "copies", "houses", "found", "at", "owners", "place", "house"]) (by decide +kernel)) (fun _ _ _ _ _ => by exact (pg_tupB (K := K) (n := 2) rfl rfl (pgs_cons (pg_name (i := 6) sc__owners_by_place.nd rfl (Or.inl rfl)) (pgs_cons (pg_name (i := 7) sc__owners_by_place.nd rfl (Or.inl rfl)) pgs_nil)))) (fun _ _ _ _ _ => pts_nil) (fun _ _ _ _ _ => by exact (pv 7)))
 (pss_cons (ps_set (i := 3) sc__owners_by_place.nd rfl (Or.inl rfl) (pe_lst pa_nil))
 (pss_cons (ps_for PassesOwn.never rfl (pi_range1 rfl T.z_range (pa_cons (pe_callB call_lenG rfl T.z_len (by decide +kernel) (pa_cons (pv 0) pa_nil)) pa_nil)) (pg_name (i := 4) sc__owners_by_place.nd rfl (Or.inl rfl))
 (pss_cons (ps_set (i := 5) sc__owners_by_place.nd rfl (Or.inl rfl) (C8.pe_c c__first_met hr (by decide) rfl (pa_cons (pe_op op_cat (pe_slice sl_list (pv 2) (po_some (pv 4)) po_none) (pe_slice sl_list (pv 2) po_none (po_some (pv 4)))) (pa_cons (pv 1) pa_nil))))
 (pss_one (ps_expr (pe_bm PySem.F.plainAttrs_list PySem.F.slot_list_extend PySem.F.type_list_extend mt_extend (pv 3) (pa_cons (pe_op op_rep (pe_lst (pa_cons (pv 5) pa_nil)) (pe_op op_sub (pe_op op_add (pe_ix ix_seq (pe_ix ix_tup (pv 0) (pv 4) (fun _ _ => rfl)) pe_int (fun _ _ => rfl)) pe_int) (pe_callB call_lenG rfl T.z_len (by decide +kernel) (pa_cons (pv 3) pa_nil)))) pa_nil))))))
 (pss_one (ps_ret (pe_op op_cat (pv 3) (pe_op op_rep (pe_lst (pa_cons (pe_ix ix_list (pv 3) pe_int (fun _ _ => rfl)) pa_nil)) (pe_op op_sub (C8.pe_gc rfl T.g_PLACES) (pe_callB call_lenG rfl T.z_len (by decide +kernel) (pa_cons (pv 3) pa_nil)))))))))), ?_⟩
    have few := ok.few
    have lx : xs.length = ps.length := hp.1
    walk_at "rd"
    refine r_lc ?_
    refine ⟨_, rfl, a, rfl, ⟨xs, SqT.of ha⟩, fun D hD => ?_⟩
    refine lc_pureG (walk_tup (xs := xs)) (Y' := fun i x => xs[i]? = some x) (fun i H x H' y => y) ((ps.map (·.2)).map V.int) (by rw [List.length_map, List.length_map, lx]) (by omega) hD (fun H1 s1 => SqT.of (s1 _ _ ha)) ?_ ?_
    · intro i x y H1 hx hy s1 Q1 q1
      have hi : i < ps.length := by rw [← lx]; exact (List.getElem?_eq_some_iff.mp hx).1
      obtain ⟨t, rfl, ht⟩ := (hp.2 i x ps[i] hx (List.getElem?_eq_getElem hi)).mono s1
      obtain rfl : y = .int ps[i].2 := by
        rw [List.getElem?_map, List.getElem?_map, List.getElem?_eq_getElem hi] at hy
        exact (Option.some.inj hy).symm
      refine r_gtup (SqT.of ht) rfl (r_gcons (r_name (r_gcons (r_name (r_gnil ?_)))))
      refine ⟨rfl, ?_⟩
      walk_at "rd"
      exact q1 _ (Same.refl _)
    · intro H1 s1 hL
      have ha1 := s1 _ _ ha
      have hp1 := hp.mono s1
      have many := ok.many
      have c1 := ok.c1
      have hsl : (ps.map (·.2)).length = ps.length := List.length_map ..
      generalize hhs : ps.map (·.2) = hs at hL many hsl
      walk_at "rd"
      refine ⟨szL rfl, fun fp hfp => ?_⟩
      walk_at "rd"
      refine r_for (r_rng1 ?_)
      have sf : Same H1 (upd H1 fp (.lst [])) := same_new hfp
      have haf := sf _ _ ha1
      walk_at "rd"
      rw [lx]
      refine ⟨_, rfl, by omega, by omega, ?_⟩
      refine go_range (fun i σ' H' => ∃ u1 u2 fs, σ' = [some (.ref a), some (.int c), some (.ref D), some (.ref fp), u1, u2, none, none] ∧ (∀ b o, b ≠ fp → H1 b = some o → H' b = some o) ∧ H' fp = some (.lst fs) ∧ fs.length ≤ 256 ∧ (0 < i → 0 < fs.length) ∧ (∀ p ∈ ps.take i, p.1 < fs.length) ∧ (∀ p ∈ ps.drop i, (fs.length : Int) ≤ p.1) ∧ ∀ q, q < fs.length → ∃ b, fs[q]? = some (V.ref b) ∧ b ≠ fp ∧ H' b = some (.lst ((own ps c q).map V.int)) ∧ OwnOk hs c (own ps c q))
        ⟨_, _, [], rfl, fun b o n e => by rw [upd_ne n]; exact e, upd_same, by decide, fun h => absurd h (Nat.lt_irrefl _), (fun _ m => by simp at m), (fun p m => (ok.pl p m).1), (fun q h => absurd h (Nat.not_lt_zero q))⟩ ?_ ?_
      · rintro i x σ' H2 hi ⟨u1, u2, fs, rfl, fr, hf, lf, pf, low, high, ent⟩ rfl
        have hi : i < ps.length := hi
        rw [Int.zero_add]
        have back : ∀ {H' : Hp}, (∀ b o, b ≠ fp → H1 b = some o → H' b = some o) → Same H1 H' := fun h b o e => h b o (ne_of_none e hfp) e
        have hL2 := back fr _ _ hL
        walk_at "rd"
        refine r_slice ?_
        walk_at "rd"
        refine r_part ?_
        walk_at "rd"
        refine ⟨_, rfl, r_nopart (r_slL hL2 fun p1 hp1 => ?_)⟩
        rw [cut_from]
        have s3 : Same H2 (upd H2 p1 (.lst ((hs.drop i).map V.int))) := same_new hp1
        have a3 : (upd H2 p1 (.lst ((hs.drop i).map V.int))) p1 = some (.lst ((hs.drop i).map V.int)) := upd_same
        generalize upd H2 p1 (.lst ((hs.drop i).map V.int)) = H3 at s3 a3
        have hL3 := s3 _ _ hL2
        refine r_slice ?_
        walk_at "rd"
        refine r_nopart (r_part ?_)
        walk_at "rd"
        refine ⟨_, rfl, r_slL hL3 fun p2 hp2 => ?_⟩
        rw [cut_to]
        have n12 : p1 ≠ p2 := fun z => by rw [z, hp2] at a3; cases a3
        refine r_cat (by rw [upd_ne n12]; exact a3) upd_same (by rw [List.length_map, List.length_map, List.length_drop, List.length_take]; exact sz1000 (by omega)) fun p3 hp3 => ?_
        rw [← List.map_append]
        have s4 : Same H3 (upd (upd H3 p2 (.lst ((hs.take i).map V.int))) p3 (.lst ((hs.drop i ++ hs.take i).map V.int))) := (same_new hp2).trans (same_new hp3)
        have a4 : (upd (upd H3 p2 (.lst ((hs.take i).map V.int))) p3 (.lst ((hs.drop i ++ hs.take i).map V.int))) p3 = some (.lst ((hs.drop i ++ hs.take i).map V.int)) := upd_same
        generalize upd (upd H3 p2 (.lst ((hs.take i).map V.int))) p3 (.lst ((hs.drop i ++ hs.take i).map V.int)) = H4 at s4 a4
        have s24 := s3.trans s4
        walk_at "rd"
        refine ⟨p3, _, c, rfl, a4, by rw [List.length_append, List.length_drop, List.length_take]; omega, by rw [dd_same fun j => rot_mem]; exact many, c1, fun H5 po os s5 npo hpo ok5 eos => ?_⟩
        have s25 := s24.trans s5
        have okh : OwnOk hs c os := ⟨ok5.nd, ok5.len, fun o ho => rot_mem.mp (ok5.sub o ho)⟩
        have hf5 := s25 _ _ hf
        have fr5 : ∀ b o, b ≠ fp → H1 b = some o → H5 b = some o := fun b o n e => s25 _ _ (fr b o n e)
        have ent5 : ∀ q, q < fs.length → ∃ b, fs[q]? = some (V.ref b) ∧ b ≠ fp ∧ H5 b = some (.lst ((own ps c q).map V.int)) ∧ OwnOk hs c (own ps c q) := fun q hq => by
          obtain ⟨b, e1, e2, e3, e4⟩ := ent q hq
          exact ⟨b, e1, e2, s25 _ _ e3, e4⟩
        have npf : po ≠ fp := fun z => by rw [z, s24 _ _ hf] at npo; cases npo
        clear s3 s4 s5 s24 a3 a4 hL2 hL3 fr ent hf hp1 hp2 hp3 n12 npo
        have s15 := back fr5
        obtain ⟨t, et, ht⟩ := (hp1.mono s15).at_ hi
        have ha5 := s15 _ _ ha1
        have pl := ok.pl ps[i] (List.getElem_mem hi)
        walk_at "rd"
        refine r_bmL rfl hf5 ?_
        walk_at "rd"
        refine ⟨szL rfl, fun p6 hp6 => ?_⟩
        have s6 : Same H5 (upd H5 p6 (.lst [V.ref po])) := same_new hp6
        have a6 : (upd H5 p6 (.lst [V.ref po])) p6 = some (.lst [V.ref po]) := upd_same
        generalize upd H5 p6 (.lst [V.ref po]) = H6 at s6 a6
        have ha6 := s6 _ _ ha5
        have ht6 := s6 _ _ ht
        have hf6 := s6 _ _ hf5
        walk_at "rd"
        refine r_ixT ha6 (atI_nat et) ?_
        walk_at "rd"
        have nn : (ps[i].1 + 1 - (fs.length : Int)).toNat ≤ 256 := by omega
        refine ⟨p6, _, [V.ref po], rfl, rfl, a6, by omega, by omega, ?_, fun p7 hp7 => ?_⟩
        · rw [List.length_singleton, Nat.one_mul]
          exact sz1000 (by omega)
        rw [rep_one]
        have s7 : Same H6 (upd H6 p7 (.lst (List.replicate (ps[i].1 + 1 - (fs.length : Int)).toNat (V.ref po)))) := same_new hp7
        have a7 : (upd H6 p7 (.lst (List.replicate (ps[i].1 + 1 - (fs.length : Int)).toNat (V.ref po)))) p7 = some (.lst (List.replicate (ps[i].1 + 1 - (fs.length : Int)).toNat (V.ref po))) := upd_same
        generalize upd H6 p7 (.lst (List.replicate (ps[i].1 + 1 - (fs.length : Int)).toNat (V.ref po))) = H7 at s7 a7
        have s57 := s6.trans s7
        have hf7 := s7 _ _ hf6
        walk_at "rd"
        refine ⟨fp, p7, fs, _, rfl, rfl, hf7, a7, by rw [List.length_replicate]; exact sz1000 (by omega), ?_⟩
        have hi_i : ps[i] ∈ ps.drop i := by
          rw [List.drop_eq_getElem_cons hi]
          exact List.mem_cons_self
        have hge := high _ hi_i
        have nl : ((fs ++ List.replicate (ps[i].1 + 1 - (fs.length : Int)).toNat (V.ref po)).length : Int) = ps[i].1 + 1 := by
          rw [List.length_append, List.length_replicate]
          omega
        refine ⟨_, _, _, rfl, fun b o n e => by rw [upd_ne n]; exact s57 _ _ (fr5 b o n e), upd_same, by omega, fun _ => by omega, fun p hpt => ?_, fun p hpd => ?_, fun q hq => ?_⟩
        · rw [nl]
          rw [List.take_add_one, List.getElem?_eq_getElem hi, Option.toList_some] at hpt
          rcases List.mem_append.mp hpt with z | z
          · have := low p z
            omega
          · rw [List.mem_singleton.mp z]
            omega
        · rw [nl]
          obtain ⟨j, hj, ej⟩ := List.getElem_of_mem hpd
          rw [List.getElem_drop] at ej
          have hj2 : i + 1 + j < ps.length := by
            rw [List.length_drop] at hj
            omega
          have := asc.take_lt (i := i) (j := i + 1 + j) (by omega) hj2
          rw [ej] at this
          omega
        · by_cases lt : q < fs.length
          · obtain ⟨b, e1, e2, e3, e4⟩ := ent5 q lt
            exact ⟨b, by rw [List.getElem?_append_left lt]; exact e1, e2, by rw [upd_ne e2]; exact s57 _ _ e3, e4⟩
          · have hq2 : (q : Int) ≤ ps[i].1 := by omega
            have et : turn ps q = ps.drop i ++ ps.take i := turn_at (fun p hpt => by have := low p hpt; omega) fun p hpd => by
              obtain ⟨j, hj, ej⟩ := List.getElem_of_mem hpd
              rw [List.getElem_drop] at ej
              have hj2 : i + j < ps.length := by
                rw [List.length_drop] at hj
                omega
              by_cases z : j = 0
              · subst z
                rw [← ej]
                exact hq2
              · have := asc.take_lt (i := i) (j := i + j) (by omega) hj2
                rw [ej] at this
                omega
            have eo : own ps c q = os := by
              unfold own
              rw [et, eos, ← hhs, List.map_append, List.map_drop, List.map_take]
            rw [eo]
            refine ⟨po, ?_, npf, ?_, okh⟩
            · rw [List.getElem?_append_right (by omega), List.getElem?_replicate, if_pos]
              rw [List.length_append, List.length_replicate] at hq
              omega
            · rw [upd_ne npf]
              exact s57 _ _ hpo
      · rintro σ' H2 ⟨u1, u2, fs, rfl, fr, hf, lf, pf, low, _, ent⟩
        have p0 : 0 < ps.length := by
          have := dd_len hs
          omega
        have pf := pf p0
        obtain ⟨v0, fr0, rfl⟩ : ∃ v0 r0, fs = v0 :: r0 := by
          cases fs with
          | nil => exact absurd pf (Nat.lt_irrefl _)
          | cons a b => exact ⟨a, b, rfl⟩
        walk_at "rd"
        refine r_ixL hf (show atI (v0 :: fr0) 0 = some v0 from atI_nat (xs := v0 :: fr0) (j := 0) rfl) ?_
        walk_at "rd"
        refine ⟨szL rfl, fun p6 hp6 => ?_⟩
        have s6 : Same H2 (upd H2 p6 (.lst [v0])) := same_new hp6
        have a6 : (upd H2 p6 (.lst [v0])) p6 = some (.lst [v0]) := upd_same
        generalize upd H2 p6 (.lst [v0]) = H6 at s6 a6
        have hf6 := s6 _ _ hf
        walk_at "rd"
        generalize hk : (256 : Int) - ((v0 :: fr0).length : Int) = k
        refine ⟨p6, k, [v0], rfl, rfl, a6, by omega, by omega, ?_, fun p7 hp7 => ?_⟩
        · rw [List.length_singleton, Nat.one_mul]
          exact sz1000 (by omega)
        rw [rep_one]
        have s7 : Same H6 (upd H6 p7 (.lst (List.replicate k.toNat v0))) := same_new hp7
        have a7 : (upd H6 p7 (.lst (List.replicate k.toNat v0))) p7 = some (.lst (List.replicate k.toNat v0)) := upd_same
        generalize upd H6 p7 (.lst (List.replicate k.toNat v0)) = H7 at s7 a7
        have hf7 := s7 _ _ hf6
        refine r_cat hf7 a7 (by rw [List.length_replicate]; exact sz1000 (by omega)) fun p8 hp8 => ?_
        have s8 : Same H7 (upd H7 p8 (.lst (v0 :: fr0 ++ List.replicate k.toNat v0))) := same_new hp8
        have s28 := (s6.trans s7).trans s8
        have s12 : Same H1 H2 := fun b o e => fr b o (ne_of_none e hfp) e
        refine q _ p8 (v0 :: fr0 ++ List.replicate k.toNat v0) ((s1.trans s12).trans s28) ?_ upd_same ?_ fun q hq => ?_
        · exact s1.free (s12.free (s6.free (s7.free hp8)))
        · rw [List.length_append, List.length_replicate]
          omega
        · rw [Int.toNat_natCast, List.take_length] at low
          by_cases lt : q < (v0 :: fr0).length
          · obtain ⟨b, e1, e2, e3, e4⟩ := ent q lt
            exact ⟨b, by rw [List.getElem?_append_left lt]; exact e1, s28 _ _ e3, by rw [hhs]; exact e4⟩
          · obtain ⟨b, e1, e2, e3, e4⟩ := ent 0 (by simp)
            have t0 : turn ps ((0 : Nat) : Int) = ps := by
              have z := turn_at (ps := ps) (i := 0) (q := 0) (fun p m => by simp at m) (fun p m => (ok.pl p m).1)
              rw [List.drop_zero, List.take_zero, List.append_nil] at z
              exact z
            have tq : turn ps (q : Int) = ps := by
              have z := turn_at (ps := ps) (i := ps.length) (q := (q : Int)) (fun p m => by rw [List.take_length] at m; have := low p m; omega) (fun p m => by rw [List.drop_length] at m; cases m)
              rw [List.drop_length, List.take_length, List.nil_append] at z
              exact z
            have eo : own ps c q = own ps c (0 : Nat) := by
              unfold own
              rw [t0, tq]
            rw [← eo] at e3 e4
            refine ⟨b, ?_, s28 _ _ e3, by rw [hhs]; exact e4⟩
            rw [List.getElem?_append_right (by omega), List.getElem?_replicate, if_pos (by omega)]
            exact e1
end
end RH
namespace RH
open PySem L2 ItX
local macro_rules | `(tactic| walk_at "tdc") => `(tactic| first | assumption | decide | omega | exact cmul_r (by decide) (by decide) | exact cmul_l (by decide) (by decide) | exact cpow (by decide) (by decide) (by decide) | exact cdiv (by decide) (by decide) | exact wide_div (b := 200) (by assumption) (by omega) (by decide) (by decide) | exact cmul_r (by omega) (by omega) | exact cmul_l (by omega) (by omega))
local macro_rules | `(tactic| walk_at "td1") => `(tactic| first
  | with_reducible apply r_op | ((with_reducible apply r_var); exact rfl) | with_reducible apply r_c | with_reducible apply r_cons | with_reducible apply r_nil | with_reducible apply r_I0
  | with_reducible apply r_seq | with_reducible apply r_asg | with_reducible apply r_name | with_reducible apply r_cb | with_reducible apply r_test | with_reducible apply r_k
  | with_reducible apply r_ifS | with_reducible apply r_call | with_reducible apply r_ret | ((with_reducible apply r_I); walk_at "tdc") | ((with_reducible apply r_eq); exact rfl) | ((with_reducible apply r_ne); exact rfl)
  | ((with_reducible apply r_ixL); walk_at "tdh"; exact rfl) | ((with_reducible apply r_ixT); walk_at "tdh"; exact rfl) | with_reducible apply r_sub | ((with_reducible apply r_setL); walk_at "tdh"; exact rfl)
  | with_reducible apply r_un | with_reducible apply r_U | with_reducible apply r_B | with_reducible apply r_and | with_reducible apply r_or | with_reducible apply r_not
  | with_reducible apply r_andV | with_reducible apply r_orV | with_reducible apply r_notV | with_reducible apply r_if | with_reducible apply r_tup | with_reducible apply r_lst
  | ((with_reducible apply r_ixgT); walk_at "tdh"; exact rfl) | ((with_reducible apply r_ixgL); walk_at "tdh"; exact rfl)
  | with_reducible apply r_next | with_reducible apply r_drop | with_reducible apply r_int1 | with_reducible apply r_chain | with_reducible apply r_ord | with_reducible apply r_abs | with_reducible apply r_min2 | with_reducible apply r_max2
  | with_reducible apply r_leStr | with_reducible apply r_inSign | with_reducible apply r_notInSign | ((with_reducible apply r_isTy); assumption) | ((with_reducible apply r_notTy); assumption)
  | ((with_reducible apply r_lenL); walk_at "tdh") | ((with_reducible apply r_lenT); walk_at "tdh")
  | ((with_reducible apply r_fldV); exact rfl; walk_at "tdh"; assumption; assumption; exact rfl) | with_reducible apply r_bmG | with_reducible apply r_bm0G | with_reducible apply r_isN | with_reducible apply r_notN | with_reducible apply r_prop | ((with_reducible apply r_prX); walk_at "tdh") | with_reducible apply r_fld | ((apply r_fldX); walk_at "tdh"; assumption; assumption; exact rfl; walk_at "tdi") | with_reducible apply r_mtE | with_reducible apply r_cS | (refine r_gtup (SqT.of (by walk_at "tdh")) rfl ?_) | with_reducible apply r_gcons | with_reducible apply r_gnil | with_reducible apply r_sta | with_reducible apply r_staX | with_reducible apply r_mtG | ((with_reducible apply r_mtX); walk_at "tdh"; exact rfl) | with_reducible apply r_par2 | with_reducible apply r_par3 | ((with_reducible apply r_tyL); walk_at "tdh")
  | refine Rep.typ (by assumption) (fun _ _ => ?_) | refine r_isi (by assumption) (by assumption) (by decide) ?_)
local macro_rules | `(tactic| walk_at "td") => `(tactic| repeat walk_at "td1")
local macro_rules | `(tactic| walk_at "tdf") => `(tactic| (generalize hu : upd _ _ (.lst (_ ++ [_])) = H2; have f := fr_gen hu; have a := at_gen hu; clear hu))
local macro_rules | `(tactic| walk_at "tds") => `(tactic| (generalize hu : upd _ _ (.lst (List.set _ _ _)) = H2; have f := fr_gen hu; have a := at_gen hu; clear hu))
local macro_rules | `(tactic| walk_at "tdev") => `(tactic| first | exact ev_int _ | exact ev_bl _ | exact ev_non | exact ev_str _ (by decide +kernel) | assumption | (refine ev_tup (by walk_at "tdh") ?_; walk_at "tdall") | (refine Ev.mono (by assumption) ?_; walk_at "tdtk"))
local macro_rules | `(tactic| walk_at "tdall") => `(tactic| first | exact allN | (refine List.forall_mem_cons.mpr ⟨?_, ?_⟩; walk_at "tdev"; walk_at "tdall"))
local macro_rules | `(tactic| walk_at "tdn") => `(tactic| (refine ⟨szL rfl, fun p hp => ?_⟩; generalize hu : upd _ p _ = H2; have s := same_gen hu hp; have a := at_gen hu; clear hu))
local macro_rules | `(tactic| walk_at "tdt") => `(tactic| repeat (first | walk_at "td1" | walk_at "tdn" | walk_at "tdm"))
local macro_rules | `(tactic| walk_at "tdg") => `(tactic| (intro p hp; generalize hu : upd _ p _ = H2; have s := same_gen hu hp; have a := at_gen hu; clear hu))
local macro_rules | `(tactic| walk_at "tdh") => `(tactic| first | assumption | exact upd_same | (rw [upd_ne (by assumption)]; assumption) | (rw [upd_ne (Ne.symm (by assumption))]; assumption) | (apply same_step; assumption; walk_at "tdh") | (apply fr_step; assumption; walk_at "tdne"; walk_at "tdh") | (apply fr_stepK; assumption; walk_at "tdh"; walk_at "tdh"; (intro z; cases z)))
local macro_rules | `(tactic| walk_at "tdne") => `(tactic| first | assumption | exact Ne.symm (by assumption) | (apply ne_noneX; assumption; walk_at "tdh") | (apply Ne.symm; apply ne_noneX; assumption; walk_at "tdh"))
local macro_rules | `(tactic| walk_at "tdsm") => `(tactic| first | assumption | exact Same.refl _ | (apply same_chain; assumption; walk_at "tdsm") | (apply same_frX; assumption; walk_at "tdsm"; walk_at "tdno"))
local macro_rules | `(tactic| walk_at "tdno") => `(tactic| first | assumption | (apply none_backX; assumption; walk_at "tdsm"))
local macro_rules | `(tactic| walk_at "tdtk") => `(tactic| first | assumption | exact TuK.refl _ | (apply tuk_same; assumption; walk_at "tdtk") | (apply tuk_fr; assumption; walk_at "tdh"; walk_at "tdtk") | (apply tuk_frI; assumption; walk_at "tdh"; walk_at "tdtk"))
local macro_rules | `(tactic| walk_at "tdi") => `(tactic| (generalize hu : upd _ _ (.ins _ _ (putF _ _ _)) = H2; have f := fr_gen hu; have a := at_gen hu; clear hu))
local macro_rules | `(tactic| walk_at "tdrp") => `(tactic| first | exact .int _ | exact .bl _ | exact .non | exact .str _ (okS_of (by decide +kernel)) | assumption | (apply rep_monoX; assumption; walk_at "tdsm") | (apply rep_tupA; walk_at "tdh"; walk_at "tdrpa"; exact leB rfl) | (apply rep_lstA; walk_at "tdh"; walk_at "tdrpa"; exact leB rfl) | exact .dct (by walk_at "tdh"))
local macro_rules | `(tactic| walk_at "tdrpa") => `(tactic| first | exact .nil | (apply RepAll.cons; walk_at "tdrp"; walk_at "tdrpa"))
local macro_rules | `(tactic| walk_at "tdm") => `(tactic| first | ((with_reducible apply r_catT); walk_at "tdh"; walk_at "tdh"; exact List.cons_ne_nil _ _; exact List.cons_ne_nil _ _; exact szL rfl; walk_at "tdg") | ((with_reducible apply r_listTU); walk_at "tdh"; walk_at "tdg") | ((with_reducible apply r_listL); walk_at "tdh"; walk_at "tdg") | ((with_reducible apply r_dnew); walk_at "tdg") | with_reducible apply r_slice | with_reducible apply r_nopart | with_reducible apply r_part | with_reducible apply r_pI | ((with_reducible apply r_slT); walk_at "tdh"; exact of_decide_eq_false rfl; walk_at "tdg") | ((with_reducible apply r_slL); walk_at "tdh"; walk_at "tdg"))

section
variable {P : Program} {w : World} {K : PySem.W.Frag} {mg : Str → Option Value} {base : Heap} {CC : Addr → Prop}
theorem ok__is_point {f : Addr} {fd : FuncData} (F : Fun K "_is_point" "_is_point" s__is_point f fd) (T : Txt K mg) (c_is_number : C8.Cal P w K mg base 2 "is_number" (spB K CC isNum) []) : FnOk P w K mg base CX0 3 f fd ["thing"] (spB K CC isPtD) := by
  refine F.ok sc__is_point spB_len (fun cdv A outer s H vs Q E hr h => ?_)
  obtain ⟨x, d, rfl, R, q⟩ := h
  refine ⟨_, (pss_one (ps_ret (pe_and (pe_cmpR op_isTyG (pe_callTy call_typeG rfl T.z_type (by decide +kernel) (pa_cons (pv 0) pa_nil)) (pe_bltn (v := .ty "tuple") (u := .type "tuple") rfl T.z_tuple (by decide +kernel) rfl) (nomark _)) (pe_and (pe_cmpR op_eq (pe_callB call_lenG rfl T.z_len (by decide +kernel) (pa_cons (pv 0) pa_nil)) pe_int (nomark _)) (pe_and (C8.pe_c c_is_number hr (by decide) rfl (pa_cons (pe_ix ix_seq (pv 0) pe_int (fun _ _ => rfl)) pa_nil)) (pe_and (pe_cmpR op_lt (pe_ix ix_seq (pv 0) pe_int (fun _ _ => rfl)) (C8.pe_gc rfl T.g_PLACES) (nomark _)) (pe_one (C8.pe_c c_is_number hr (by decide) rfl (pa_cons (pe_ix ix_seq (pv 0) pe_int (fun _ _ => rfl)) pa_nil))))))))), ?_⟩
  walk_at "td"
  refine ite2 (fun e => ?_) (fun e => ?_)
  · obtain ⟨ds, rfl⟩ := tyB_tup e
    cases R with
    | @tup a xs _ ha hl hs hi =>
    walk_at "td"
    refine ite2 (fun e => ?_) (fun e => ?_)
    · have h2 : xs.length = 2 := by have := of_decide_eq_true e; have := V.int.inj this; omega
      obtain ⟨x1, x2, rfl⟩ : ∃ x1 x2, xs = [x1, x2] := by
        match xs, h2 with
        | [x1, x2], _ => exact ⟨x1, x2, rfl⟩
      obtain ⟨d1, d2, rfl⟩ : ∃ d1 d2, ds = [d1, d2] := by
        match ds, hl with
        | [d1, d2], _ => exact ⟨d1, d2, rfl⟩
      have R1 := hi 0 x1 d1 rfl rfl
      have R2 := hi 1 x2 d2 rfl rfl
      have en : isPtD (.tup [d1, d2]) = (isNum d1 && (lt256 d1 && isNum d2)) := rfl
      walk_at "td"
      refine ⟨_, _, rfl, R1, fun H1 s1 => ?_⟩
      have ha1 := s1 _ _ ha
      walk_at "td"
      refine ite2 (fun e1 => ?_) (fun e1 => ?_)
      · obtain ⟨i, rfl⟩ : ∃ i, d1 = .int i := by
          cases d1 with
          | int i => exact ⟨i, rfl⟩
          | _ => cases e1
        cases R1
        walk_at "td"
        refine ite2 (fun e3 => ?_) (fun e3 => ?_)
        · walk_at "td"
          refine ⟨_, _, rfl, R2.mono s1, fun H2 s2 => ?_⟩
          walk_at "td"
          refine qbl (q H2 (s1.trans s2)) ?_
          rw [en, e1, show lt256 (.int i) = true from e3]
          rfl
        · walk_at "td"
          refine qbl (q H1 s1) ?_
          rw [en, show lt256 (.int i) = false from Bool.eq_false_iff.mpr e3, Bool.false_and, Bool.and_false]
      · walk_at "td"
        refine qbl (q H1 s1) ?_
        rw [en, Bool.eq_false_iff.mpr e1, Bool.false_and]
    · refine qbl (q H (Same.refl H)) ?_
      have h2 : ¬ ds.length = 2 := fun z => e (decide_eq_true (congrArg V.int (by omega)))
      match ds, h2 with
      | [], _ => rfl
      | [_], _ => rfl
      | [_, _], h2 => exact absurd rfl h2
      | _ :: _ :: _ :: _, _ => rfl
  · refine qbl (q H (Same.refl H)) ?_
    cases d <;> first | rfl | exact absurd rfl e
theorem ok__are_points {f : Addr} {fd : FuncData} (F : Fun K "_are_points" "_are_points" s__are_points f fd) (T : Txt K mg) (c__is_point : C8.Cal P w K mg base 3 "_is_point" (spB K CC isPtD) []) : FnOk P w K mg base CX0 4 f fd ["thing"] (spB K CC arePts) := by
  refine F.ok sc__are_points spB_len (fun cdv A outer s H vs Q E hr h => ?_)
  obtain ⟨x, d, rfl, R, q⟩ := h
  refine ⟨_, (pss_one (ps_ret (pe_and (pe_cmpR op_isTyG (pe_callTy call_typeG rfl T.z_type (by decide +kernel) (pa_cons (pv 0) pa_nil)) (pe_bltn (v := .ty "list") (u := .type "list") rfl T.z_list (by decide +kernel) rfl) (nomark _)) (pe_and (pe_callB (cr_all rfl) rfl T.z_all (by decide +kernel) (pa_cons (pe_lc (own := [("part", 1)]) rfl sc__are_points.nd (pi_list (pv 0)) (blkOk_by (sc := defScope s__are_points) (N := ["thing", "part", "place", "house"]) (by decide +kernel)) (fun _ _ _ _ _ => (pg_name (i := 1) sc__are_points.nd rfl (Or.inl rfl))) (fun _ _ _ _ _ => pts_nil) (fun _ _ _ _ _ => (C8.pe_c c__is_point hr (by decide) rfl (pa_cons (pv 1) pa_nil)))) pa_nil)) (pe_one (pe_cmpR op_eq (pe_callB call_lenSt rfl T.z_len (by decide +kernel) (pa_cons (pe_scI (own := [("place", 2), ("house", 3)]) rfl sc__are_points.nd (pi_list (pv 0)) (blkOk_by (sc := defScope s__are_points) (N := ["thing", "part", "place", "house"]) (by decide +kernel)) (fun _ _ _ _ _ => by exact (pg_tupB (K := K) (n := 2) rfl rfl (pgs_cons (pg_name (i := 2) sc__are_points.nd rfl (Or.inl rfl)) (pgs_cons (pg_name (i := 3) sc__are_points.nd rfl (Or.inl rfl)) pgs_nil)))) (fun _ _ _ _ _ => pts_nil) (fun _ _ _ _ _ => by exact (pv 2))) pa_nil)) (pe_callB call_lenG rfl T.z_len (by decide +kernel) (pa_cons (pv 0) pa_nil)) (nomark _))))))), ?_⟩
  walk_at "td"
  refine ite2 (fun e => ?_) (fun e => ?_)
  · obtain ⟨ds, rfl⟩ : ∃ ds, d = .lst ds := by
      cases d <;> first | exact ⟨_, rfl⟩ | (exact absurd (show false = true from e) Bool.false_ne_true)
    cases R with
    | @lst a xs _ ha hl hs hi =>
    refine r_andV (r_cb (r_cons (r_lc (r_list ?_))))
    walk_at "td"
    refine ⟨a, rfl, ⟨_, SqL.of ha⟩, fun D hD => ?_⟩
    refine lc_pure (n := xs.length) walk_list (Y' := fun i x => xs[i]? = some x) (fun i H x H' y => y) ((ds.map isPtD).map V.bl) (by simp [hl]) hs hD (fun H1 s1 => SqL.of (s1 _ _ ha)) (fun x => rfl) ?_ ?_
    · intro i x y H1 hx hy s1 Q1 q1
      have hi2 : i < ds.length := by rw [← hl]; exact (List.getElem?_eq_some_iff.mp hx).1
      have hd : ds[i]? = some ds[i] := List.getElem?_eq_getElem hi2
      rw [List.getElem?_map, List.getElem?_map, hd] at hy
      obtain rfl := Option.some.inj hy
      walk_at "td"
      exact ⟨x, ds[i], rfl, (hi i x _ hx hd).mono s1, q1⟩
    · intro H1 s1 hL
      walk_at "td"
      refine ⟨D, ds.map isPtD, rfl, SqL.of hL, ?_⟩
      have ea : ((ds.map isPtD).all id) = ds.all isPtD := by rw [List.all_map]; rfl
      have ee : arePts (.lst ds) = (ds.all isPtD && decide ((dd (ds.map fun d => (ptD d).1)).length = ds.length)) := rfl
      refine ⟨_, rfl, ?_⟩
      rw [ea]
      refine ite2 (fun e2 => ?_) (fun e2 => ?_)
      · have hp := pts_rep hl hi e2
        have ha1 := s1 _ _ ha
        have hp1 := hp.mono s1
        refine r_op (r_cb (r_cons (r_sc (r_list ?_))))
        walk_at "td"
        refine ⟨a, rfl, ⟨_, SqL.of ha1⟩, fun D2 hD2 => ?_⟩
        refine sc_pure (walk_list (xs := xs)) (Y' := fun i x => xs[i]? = some x) (fun i H x H' y => y) (ds.map fun d => (ptD d).1) (by rw [List.length_map, hl]) hs hD2 (fun H2 s2 => SqL.of (s2 _ _ ha1)) ?_ ?_
        · intro i x k H2 hx hk s2 Q2 q2
          have hi2 : i < (ds.map ptD).length := by rw [List.length_map, ← hl]; exact (List.getElem?_eq_some_iff.mp hx).1
          obtain ⟨t, rfl, ht⟩ := (hp1.2 i x (ds.map ptD)[i] hx (List.getElem?_eq_getElem hi2)).mono s2
          obtain rfl : k = (ds.map ptD)[i].1 := by
            have e9 : (ds.map fun d => (ptD d).1)[i]? = some (ds.map ptD)[i].1 := by
              rw [show (fun d => (ptD d).1) = (fun p : Int × Int => p.1) ∘ ptD from rfl, ← List.map_map, List.getElem?_map, List.getElem?_eq_getElem hi2]
              rfl
            rw [e9] at hk
            exact (Option.some.inj hk).symm
          refine r_gtup (SqT.of ht) rfl (r_gcons (r_name (r_gcons (r_name (r_gnil ?_)))))
          refine ⟨rfl, ?_⟩
          walk_at "td"
          exact q2 _ (Same.refl _)
        · intro H2 s2 at2
          walk_at "td"
          refine ⟨D2, _, _, rfl, at2, ?_⟩
          have ha2 := s2 _ _ ha1
          walk_at "td"
          refine qbl (q H2 (s1.trans s2)) ?_
          rw [ee, e2, Bool.true_and, hl]
          exact decide_eq_decide.mpr ⟨fun z => by rw [z], fun z => by have := V.int.inj z; omega⟩
      · refine qbl (q H1 s1) ?_
        rw [ee, Bool.eq_false_iff.mpr e2, Bool.false_and]
  · refine qbl (q H (Same.refl H)) ?_
    cases d <;> first | rfl | exact absurd rfl e
theorem ok_Ring___init__ {f C CB : Addr} {fd : FuncData} (F : Fun K "__init__" "Ring.__init__" s_Ring___init__ f fd) (T : Txt K mg) (cl_Ring : Cls K C) (na_Ring__copies : NoAttr K C "_copies") (na_Ring__points : NoAttr K C "_points") (na_Ring__owners : NoAttr K C "_owners") (e_BadValue : Err K mg "BadValue" CB)
    (c__are_points : C8.Cal P w K mg base 4 "_are_points" (spB K CC arePts) []) (c_is_integer : C8.Cal P w K mg base 1 "is_integer" (spB K CC isInt) []) (c__owners_by_place : C8.Cal P w K mg base 2 "_owners_by_place" (spByPlace K) []) : FnOk P w K mg base (L2.CX P w) 5 f fd ["self", "points", "copies"] (spRingX K CC C CB) := by
  refine F.okX sc_Ring___init__ (fun vs H Q E h => ?_) (fun cdv A outer s H vs Q E hr h => ?_)
  · obtain ⟨x, dx, a, c, da, dc, rfl, _⟩ := h
    rfl
  · obtain ⟨x, dx, av, cv, da, dc, rfl, hx, Ra, Rc, few, q, no⟩ := h
    refine ⟨_, (pss_cons (ps_if (pt_not (pt_val (C8.pe_c c__are_points hr (by decide) rfl (pa_cons (pv 1) pa_nil))))
 (pss_one (ps_rai e_BadValue rfl (takes_of rfl rfl rfl rfl) rfl))
 pss_nil)
 (pss_cons (ps_if (PW.pt (pw_or (pt_not (pt_val (C8.pe_c c_is_integer hr (by decide) rfl (pa_cons (pv 2) pa_nil)))) (pw_or1 (pt_not (pt_chain op_le op_le pe_int (pv 2) (C8.pe_gc rfl T.g_MOST_COPIES))))))
 (pss_one (ps_rai e_BadValue rfl (takes_of rfl rfl rfl rfl) rfl))
 pss_nil)
 (pss_cons (ps_if (pt_cmpR op_lt (pe_callB call_lenSt rfl T.z_len (by decide +kernel) (pa_cons (pe_scI (own := [("place", 3), ("house", 4)]) rfl sc_Ring___init__.nd (pi_list (pv 1)) (blkOk_by (sc := defScope s_Ring___init__) (N := ["self", "points", "copies", "place", "house"]) (by decide +kernel)) (fun _ _ _ _ _ => by exact (pg_tupB (K := K) (n := 2) rfl rfl (pgs_cons (pg_name (i := 3) sc_Ring___init__.nd rfl (Or.inl rfl)) (pgs_cons (pg_name (i := 4) sc_Ring___init__.nd rfl (Or.inl rfl)) pgs_nil)))) (fun _ _ _ _ _ => pts_nil) (fun _ _ _ _ _ => by exact (pv 4))) pa_nil)) (pv 2) (nomark _))
 (pss_one (ps_rai e_BadValue rfl (takes_of rfl rfl rfl rfl) rfl))
 pss_nil)
 (pss_cons (ps_fld (pv 0) (pv 2) rfl)
 (pss_cons (ps_fld (pv 0) (pe_callTy call_tupleG rfl T.z_tuple (by decide +kernel) (pa_cons (pe_callB cr_sortedPO rfl T.z_sorted (by decide +kernel) (pa_cons (pv 1) pa_nil)) pa_nil)) rfl)
 (pss_one (ps_fld (pv 0) (C8.pe_c c__owners_by_place hr (by decide) rfl (pa_cons (pe_fld (pv 0) rfl) (pa_cons (pv 2) pa_nil))) rfl))))))), ?_⟩
    walk_at "td"
    refine ⟨_, _, rfl, Ra, fun H1 s1 => ?_⟩
    have hx1 := s1 _ _ hx
    walk_at "td"
    refine ite2 (fun e1 => ?_) (fun e1 => ?_)
    · refine no ?_ H1 s1
      have e2 : arePts da = false := by
        cases z : arePts da with
        | false => rfl
        | true => rw [z] at e1; cases e1
      unfold okRing
      split
      · rw [e2, Bool.false_and]
      · rfl
    have e1 : arePts da = true := by
      cases z : arePts da with
      | true => rfl
      | false => rw [z] at e1; exact absurd rfl e1
    obtain ⟨ds, rfl⟩ : ∃ ds, da = .lst ds := by
      cases da <;> first | exact ⟨_, rfl⟩ | (exact absurd (show false = true from e1) Bool.false_ne_true)
    cases Ra with
    | @lst a xs _ ha hlx hsx hix =>
    have few := few ds rfl
    have allpt : ds.all isPtD = true := by
      have z : (ds.all isPtD && decide ((dd (ds.map fun d => (ptD d).1)).length = ds.length)) = true := e1
      rw [Bool.and_eq_true] at z
      exact z.1
    have hp := pts_rep hlx hix allpt
    generalize hps : ds.map ptD = ps at hp
    have lx : xs.length = ps.length := hp.1
    have lp : ps.length = ds.length := by rw [← hps, List.length_map]
    have ha1 := s1 _ _ ha
    have hp1 := hp.mono s1
    have em : (ds.map fun d => (ptD d).2) = ps.map (·.2) := by rw [← hps, List.map_map]; rfl
    have eR : ∀ c : Int, okRing (.lst ds) (.int c) = (okCp (.int c) && decide (c ≤ ((dd (ps.map (·.2))).length : Int))) := fun c => by
      show (arePts (.lst ds) && (okCp (.int c) && decide (c ≤ ((dd (ds.map fun d => (ptD d).2)).length : Int)))) = _
      rw [e1, Bool.true_and, em]
    have eN : ∀ d : D, (∀ c, d ≠ .int c) → okRing (.lst ds) d = false := fun d h => by
      cases d <;> first | rfl | exact absurd rfl (h _)
    walk_at "td"
    refine ⟨_, _, rfl, Rc.mono s1, fun H2 s2 => ?_⟩
    have s12 := s1.trans s2
    have ha2 := s2 _ _ ha1
    have hp2 := hp1.mono s2
    have hx2 := s2 _ _ hx1
    walk_at "td"
    refine ite2 (fun e2 => ?_) (fun e2 => ?_)
    · refine no ?_ H2 s12
      cases dc with
      | int c =>
        have z : limI c = false := by
          cases y : limI c with
          | false => rfl
          | true => exact absurd (show (!limI c) = true from e2) (by rw [y]; decide)
        rw [eR]
        have z2 : okCp (.int c) = false := by
          show (decide (1 ≤ c) && decide (c ≤ 7)) = false
          unfold limI at z
          refine Bool.eq_false_iff.mpr fun y => ?_
          rw [Bool.and_eq_true, decide_eq_true_iff, decide_eq_true_iff] at y
          refine Bool.eq_false_iff.mp z ?_
          rw [Bool.and_eq_true, decide_eq_true_iff, decide_eq_true_iff]
          omega
        rw [z2, Bool.false_and]
      | _ => exact eN _ fun c y => nomatch y
    obtain ⟨c, rfl⟩ : ∃ c, dc = .int c := by
      cases dc <;> first | exact ⟨_, rfl⟩ | exact absurd rfl e2
    cases Rc
    walk_at "td"
    refine ite2 (fun c1 => ?_) (fun c1 => ?_)
    rotate_left
    · have c1 : ¬ 1 ≤ c := fun z => c1 (decide_eq_true z)
      walk_at "td"
      refine no ?_ H2 s12
      rw [eR, show okCp (.int c) = (decide (1 ≤ c) && decide (c ≤ 7)) from rfl, decide_eq_false c1, Bool.false_and, Bool.false_and]
    have c1 : 1 ≤ c := of_decide_eq_true c1
    walk_at "td"
    refine ite2 (fun c7 => ?_) (fun c7 => ?_)
    · have c7 : ¬ c ≤ 7 := fun z => by rw [decide_eq_true z] at c7; cases c7
      refine no ?_ H2 s12
      rw [eR, show okCp (.int c) = (decide (1 ≤ c) && decide (c ≤ 7)) from rfl, decide_eq_false c7, Bool.and_false, Bool.false_and]
    have c7 : c ≤ 7 := by
      by_cases z : c ≤ 7
      · exact z
      · rw [decide_eq_false z] at c7
        exact absurd rfl c7
    walk_at "td"
    refine r_sc (r_list ?_)
    walk_at "td"
    refine ⟨a, rfl, ⟨_, SqL.of ha2⟩, fun D hD => ?_⟩
    refine sc_pure (walk_list (xs := xs)) (Y' := fun i x => xs[i]? = some x) (fun i H x H' y => y) (ps.map (·.2)) (by rw [List.length_map, lx]) hsx hD (fun H3 s3 => SqL.of (s3 _ _ ha2)) ?_ ?_
    · intro i x k H3 hx hk s3 Q3 q3
      have hi : i < ps.length := by rw [← lx]; exact (List.getElem?_eq_some_iff.mp hx).1
      obtain ⟨t, rfl, ht⟩ := (hp2.2 i x ps[i] hx (List.getElem?_eq_getElem hi)).mono s3
      obtain rfl : k = ps[i].2 := by
        rw [List.getElem?_map, List.getElem?_eq_getElem hi] at hk
        exact (Option.some.inj hk).symm
      refine r_gtup (SqT.of ht) rfl (r_gcons (r_name (r_gcons (r_name (r_gnil ?_)))))
      refine ⟨rfl, ?_⟩
      walk_at "td"
      exact q3 _ (Same.refl _)
    · intro H3 s3 at3
      have ha3 := s3 _ _ ha2
      have hp3 := hp2.mono s3
      have hx3 := s3 _ _ hx2
      walk_at "td"
      refine ⟨D, _, _, rfl, at3, ?_⟩
      walk_at "td"
      refine ite2 (fun e4 => ?_) (fun e4 => ?_)
      · have e4 := of_decide_eq_true e4
        refine no ?_ H3 (s12.trans s3)
        rw [eR, decide_eq_false (show ¬ c ≤ ((dd (ps.map (·.2))).length : Int) by omega), Bool.and_false]
      have many : c ≤ ((dd (ps.map (·.2))).length : Int) := by
        have e5 : ¬ ((dd (ps.map (·.2))).length : Int) < c := fun z => e4 (decide_eq_true z)
        omega
      have okR : okRing (.lst ds) (.int c) = true := by
        rw [eR, show okCp (.int c) = (decide (1 ≤ c) && decide (c ≤ 7)) from rfl, decide_eq_true c1, decide_eq_true c7, decide_eq_true many]
        rfl
      have ok : OkPts ps c := by
        rw [← hps]
        exact okPts_of few okR
      have q := q a xs ds c rfl ha rfl rfl okR
      rw [hps] at q
      walk_at "td"
      rename_i H4 f4 hx4
      have na : a ≠ x := fun z => by rw [z, hx3] at ha3; cases ha3
      have ha4 := f4 _ _ na ha3
      have hp4 := hp3.frI f4 hx3
      refine ⟨a, xs, kAt H4, rfl, SqL.of ha4, fun y hy => ?_, fun ys o srt stb ho => ?_⟩
      · obtain ⟨i, hi, e⟩ := List.getElem_of_mem hy
        have hi2 : i < ps.length := by rw [← lx]; exact hi
        obtain ⟨t, e2, ht⟩ := hp4.at_ hi2
        rw [List.getElem?_eq_getElem hi, e] at e2
        obtain rfl := Option.some.inj e2
        exact ⟨t, rfl, by rw [kAt_at (d := ps[i]) ht]; exact ht⟩
      obtain ⟨qs, hq, okq, ascq, pmq⟩ := pts_permX hp4 srt stb.perm ok
      have s5 : Same H4 (upd H4 o (.lst ys)) := same_new ho
      have a5 : (upd H4 o (.lst ys)) o = some (.lst ys) := upd_same
      generalize upd H4 o (.lst ys) = H5 at s5 a5
      walk_at "td"
      refine r_tupL a5 fun tp htp => ?_
      have s6 : Same H5 (upd H5 tp (.tup ys)) := same_new htp
      have a6 : (upd H5 tp (.tup ys)) tp = some (.tup ys) := upd_same
      generalize upd H5 tp (.tup ys) = H6 at s6 a6
      have hx6 := (s5.trans s6) _ _ hx4
      walk_at "td"
      rename_i H7 f7 hx7
      have a7 : H7 tp = some (.tup ys) := f7 _ _ (ne_obj a6 hx6 (fun z => by cases z)) a6
      have hq7 := (hq.mono (s5.trans s6)).frI f7 hx6
      refine ⟨tp, ys, qs, c, rfl, a7, hq7, okq, ascq, fun H8 ow fs s8 now how f1 own => ?_⟩
      have hx8 := s8 _ _ hx7
      walk_at "td"
      rename_i H9 f9 hx9
      have nx8 : ∀ (y : Addr) (t : List V), H8 y = some (.lst t) → y ≠ x := fun y t e z => by rw [z, hx8] at e; cases e
      have nt8 : ∀ (y : Addr) (t : List V), H8 y = some (.tup t) → y ≠ x := fun y t e z => by rw [z, hx8] at e; cases e
      refine q H9 qs (fun y u n e => ?_) pmq ⟨dx, tp, ow, ys, fs, hx9, f9 _ _ (nt8 _ _ (s8 _ _ a7)) (s8 _ _ a7), (hq7.mono s8).frI f9 hx8, okq, ascq, f9 _ _ (nx8 _ _ how) how, f1, fun v hv => ?_⟩
      · exact f9 _ _ n (s8 _ _ (f7 _ _ n ((s5.trans s6) _ _ (f4 _ _ n (s3 _ _ (s12 _ _ e))))))
      · obtain ⟨b, e, hb, okb⟩ := own v hv
        exact ⟨b, e, f9 _ _ (nx8 _ _ hb) hb, okb⟩
end
end RH
namespace RH
open PySem L2 ItX
local macro_rules | `(tactic| walk_at "tdc") => `(tactic| first | assumption | decide | omega | exact cmul_r (by decide) (by decide) | exact cmul_l (by decide) (by decide) | exact cpow (by decide) (by decide) (by decide) | exact cdiv (by decide) (by decide) | exact wide_div (b := 200) (by assumption) (by omega) (by decide) (by decide) | exact cmul_r (by omega) (by omega) | exact cmul_l (by omega) (by omega))
local macro_rules | `(tactic| walk_at "td1") => `(tactic| first
  | with_reducible apply r_op | ((with_reducible apply r_var); exact rfl) | with_reducible apply r_c | with_reducible apply r_cons | with_reducible apply r_nil | with_reducible apply r_I0
  | with_reducible apply r_seq | with_reducible apply r_asg | with_reducible apply r_name | with_reducible apply r_cb | with_reducible apply r_test | with_reducible apply r_k
  | with_reducible apply r_ifS | with_reducible apply r_call | with_reducible apply r_ret | ((with_reducible apply r_I); walk_at "tdc") | ((with_reducible apply r_eq); exact rfl) | ((with_reducible apply r_ne); exact rfl)
  | ((with_reducible apply r_ixL); walk_at "tdh"; exact rfl) | ((with_reducible apply r_ixT); walk_at "tdh"; exact rfl) | with_reducible apply r_sub | ((with_reducible apply r_setL); walk_at "tdh"; exact rfl)
  | with_reducible apply r_un | with_reducible apply r_U | with_reducible apply r_B | with_reducible apply r_and | with_reducible apply r_or | with_reducible apply r_not
  | with_reducible apply r_andV | with_reducible apply r_orV | with_reducible apply r_notV | with_reducible apply r_if | with_reducible apply r_tup | with_reducible apply r_lst
  | ((with_reducible apply r_ixgT); walk_at "tdh"; exact rfl) | ((with_reducible apply r_ixgL); walk_at "tdh"; exact rfl)
  | with_reducible apply r_next | with_reducible apply r_drop | with_reducible apply r_int1 | with_reducible apply r_chain | with_reducible apply r_ord | with_reducible apply r_abs | with_reducible apply r_min2 | with_reducible apply r_max2
  | with_reducible apply r_leStr | with_reducible apply r_inSign | with_reducible apply r_notInSign | ((with_reducible apply r_isTy); assumption) | ((with_reducible apply r_notTy); assumption)
  | ((with_reducible apply r_lenL); walk_at "tdh") | ((with_reducible apply r_lenT); walk_at "tdh")
  | ((with_reducible apply r_fldV); exact rfl; walk_at "tdh"; assumption; assumption; exact rfl) | with_reducible apply r_bmG | with_reducible apply r_bm0G | with_reducible apply r_isN | with_reducible apply r_notN | with_reducible apply r_prop | ((with_reducible apply r_prX); walk_at "tdh") | with_reducible apply r_fld | ((apply r_fldX); walk_at "tdh"; assumption; assumption; exact rfl; walk_at "tdi") | with_reducible apply r_mtE | with_reducible apply r_cS | (refine r_gtup (SqT.of (by walk_at "tdh")) rfl ?_) | with_reducible apply r_gcons | with_reducible apply r_gnil | with_reducible apply r_sta | with_reducible apply r_staX | with_reducible apply r_mtG | ((with_reducible apply r_mtX); walk_at "tdh"; exact rfl) | with_reducible apply r_par2 | with_reducible apply r_par3 | ((with_reducible apply r_tyL); walk_at "tdh")
  | refine Rep.typ (by assumption) (fun _ _ => ?_) | refine r_isi (by assumption) (by assumption) (by decide) ?_)
local macro_rules | `(tactic| walk_at "td") => `(tactic| repeat walk_at "td1")
local macro_rules | `(tactic| walk_at "tdf") => `(tactic| (generalize hu : upd _ _ (.lst (_ ++ [_])) = H2; have f := fr_gen hu; have a := at_gen hu; clear hu))
local macro_rules | `(tactic| walk_at "tds") => `(tactic| (generalize hu : upd _ _ (.lst (List.set _ _ _)) = H2; have f := fr_gen hu; have a := at_gen hu; clear hu))
local macro_rules | `(tactic| walk_at "tdev") => `(tactic| first | exact ev_int _ | exact ev_bl _ | exact ev_non | exact ev_str _ (by decide +kernel) | assumption | (refine ev_tup (by walk_at "tdh") ?_; walk_at "tdall") | (refine Ev.mono (by assumption) ?_; walk_at "tdtk"))
local macro_rules | `(tactic| walk_at "tdall") => `(tactic| first | exact allN | (refine List.forall_mem_cons.mpr ⟨?_, ?_⟩; walk_at "tdev"; walk_at "tdall"))
local macro_rules | `(tactic| walk_at "tdn") => `(tactic| (refine ⟨szL rfl, fun p hp => ?_⟩; generalize hu : upd _ p _ = H2; have s := same_gen hu hp; have a := at_gen hu; clear hu))
local macro_rules | `(tactic| walk_at "tdt") => `(tactic| repeat (first | walk_at "td1" | walk_at "tdn" | walk_at "tdm"))
local macro_rules | `(tactic| walk_at "tdg") => `(tactic| (intro p hp; generalize hu : upd _ p _ = H2; have s := same_gen hu hp; have a := at_gen hu; clear hu))
local macro_rules | `(tactic| walk_at "tdh") => `(tactic| first | assumption | exact upd_same | (rw [upd_ne (by assumption)]; assumption) | (rw [upd_ne (Ne.symm (by assumption))]; assumption) | (apply same_step; assumption; walk_at "tdh") | (apply fr_step; assumption; walk_at "tdne"; walk_at "tdh") | (apply fr_stepK; assumption; walk_at "tdh"; walk_at "tdh"; (intro z; cases z)))
local macro_rules | `(tactic| walk_at "tdne") => `(tactic| first | assumption | exact Ne.symm (by assumption) | (apply ne_noneX; assumption; walk_at "tdh") | (apply Ne.symm; apply ne_noneX; assumption; walk_at "tdh"))
local macro_rules | `(tactic| walk_at "tdsm") => `(tactic| first | assumption | exact Same.refl _ | (apply same_chain; assumption; walk_at "tdsm") | (apply same_frX; assumption; walk_at "tdsm"; walk_at "tdno"))
local macro_rules | `(tactic| walk_at "tdno") => `(tactic| first | assumption | (apply none_backX; assumption; walk_at "tdsm"))
local macro_rules | `(tactic| walk_at "tdtk") => `(tactic| first | assumption | exact TuK.refl _ | (apply tuk_same; assumption; walk_at "tdtk") | (apply tuk_fr; assumption; walk_at "tdh"; walk_at "tdtk") | (apply tuk_frI; assumption; walk_at "tdh"; walk_at "tdtk"))
local macro_rules | `(tactic| walk_at "tdi") => `(tactic| (generalize hu : upd _ _ (.ins _ _ (putF _ _ _)) = H2; have f := fr_gen hu; have a := at_gen hu; clear hu))
local macro_rules | `(tactic| walk_at "tdrp") => `(tactic| first | exact .int _ | exact .bl _ | exact .non | exact .str _ (okS_of (by decide +kernel)) | assumption | (apply rep_monoX; assumption; walk_at "tdsm") | (apply rep_tupA; walk_at "tdh"; walk_at "tdrpa"; exact leB rfl) | (apply rep_lstA; walk_at "tdh"; walk_at "tdrpa"; exact leB rfl) | exact .dct (by walk_at "tdh"))
local macro_rules | `(tactic| walk_at "tdrpa") => `(tactic| first | exact .nil | (apply RepAll.cons; walk_at "tdrp"; walk_at "tdrpa"))
local macro_rules | `(tactic| walk_at "tdm") => `(tactic| first | ((with_reducible apply r_catT); walk_at "tdh"; walk_at "tdh"; exact List.cons_ne_nil _ _; exact List.cons_ne_nil _ _; exact szL rfl; walk_at "tdg") | ((with_reducible apply r_listTU); walk_at "tdh"; walk_at "tdg") | ((with_reducible apply r_listL); walk_at "tdh"; walk_at "tdg") | ((with_reducible apply r_dnew); walk_at "tdg") | with_reducible apply r_slice | with_reducible apply r_nopart | with_reducible apply r_part | with_reducible apply r_pI | ((with_reducible apply r_slT); walk_at "tdh"; exact of_decide_eq_false rfl; walk_at "tdg") | ((with_reducible apply r_slL); walk_at "tdh"; walk_at "tdg"))

-- tail: CB=BadValue
section
variable {P : Program} {w : World} {K : PySem.W.Frag} {mg : Str → Option Value} {base : Heap} {CC : Addr → Prop}
theorem ok_Ring_copies {f C : Addr} {fd : FuncData} (F : Fun K "copies" "Ring.copies" s_Ring_copies f fd) (T : Txt K mg) (cl_Ring : Cls K C) (na_Ring__copies : NoAttr K C "_copies") : FnOk P w K mg base CX0 1 f fd ["self"] (spRingCV C) := by
  refine F.ok sc_Ring_copies (fun vs H Q E h => ?_) (fun cdv A outer s H vs Q E hr h => ?_)
  · obtain ⟨x, c, hs, rfl, _⟩ := h
    rfl
  · obtain ⟨x, c, ps, rfl, ⟨dx, tp, ow, xs, hx, _⟩, q⟩ := h
    refine ⟨_, (pss_one (ps_ret (pe_fld (pv 0) rfl))), ?_⟩
    walk_at "td"
    exact q
theorem ok_Ring_value {f C : Addr} {fd : FuncData} (F : Fun K "value" "Ring.value" s_Ring_value f fd) (T : Txt K mg) (cl_Ring : Cls K C) (na_Ring__copies : NoAttr K C "_copies") (na_Ring__points : NoAttr K C "_points") : FnOk P w K mg base CX0 1 f fd ["self"] (spRingVR C) := by
  refine F.ok sc_Ring_value (fun vs H Q E h => ?_) (fun cdv A outer s H vs Q E hr h => ?_)
  · obtain ⟨r, c, tp, rfl, _⟩ := h
    rfl
  · obtain ⟨r, c, ps, rfl, ⟨dx, tp, ow, xs, hx, htp, hp, _⟩, q⟩ := h
    refine ⟨_, (pss_one (ps_ret (pe_tup (pa_cons (pe_fld (pv 0) rfl) (pa_cons (pe_fld (pv 0) rfl) pa_nil))))), ?_⟩
    walk_at "td"
    refine ⟨szL rfl, fun p hnp => ?_⟩
    exact q _ p tp xs (same_new hnp) hnp upd_same (same_new hnp _ _ htp) (hp.mono (same_new hnp))
theorem ok_Ring_houses {f C : Addr} {fd : FuncData} (F : Fun K "houses" "Ring.houses" s_Ring_houses f fd) (T : Txt K mg) (cl_Ring : Cls K C) (na_Ring__points : NoAttr K C "_points") : FnOk P w K mg base CX0 1 f fd ["self"] (spRingHs C) := by
  refine F.ok sc_Ring_houses (fun vs H Q E h => ?_) (fun cdv A outer s H vs Q E hr h => ?_)
  · obtain ⟨r, c, tp, rfl, _⟩ := h
    rfl
  · obtain ⟨r, c, ps, rfl, ⟨dx, tp, ow, xs, hx, htp, hp, ok, _⟩, q⟩ := h
    refine ⟨_, (pss_one (ps_ret (pe_callB (call_sortSI rfl) rfl T.z_sorted (by decide +kernel) (pa_cons (pe_scI (own := [("place", 1), ("house", 2)]) rfl sc_Ring_houses.nd (pi_tup (pe_fld (pv 0) rfl)) (blkOk_by (sc := defScope s_Ring_houses) (N := ["self", "place", "house"]) (by decide +kernel)) (fun _ _ _ _ _ => by exact (pg_tupB (K := K) (n := 2) rfl rfl (pgs_cons (pg_name (i := 1) sc_Ring_houses.nd rfl (Or.inl rfl)) (pgs_cons (pg_name (i := 2) sc_Ring_houses.nd rfl (Or.inl rfl)) pgs_nil)))) (fun _ _ _ _ _ => pts_nil) (fun _ _ _ _ _ => by exact (pv 2))) pa_nil)))), ?_⟩
    have lx : xs.length = ps.length := hp.1
    have few := ok.few
    refine r_ret (r_cb (r_cons (r_sc ?_)))
    refine ⟨_, rfl, r, C, dx, _, _, rfl, hx, cl_Ring, na_Ring__points, rfl, ?_⟩
    refine ⟨tp, rfl, ⟨_, SqT.of htp⟩, fun D hD => ?_⟩
    refine sc_pure (walk_tup (xs := xs)) (Y' := fun i x => xs[i]? = some x) (fun i H x H' y => y) (ps.map (·.2)) (by rw [List.length_map, lx]) (by omega) hD (fun H3 s3 => SqT.of (s3 _ _ htp)) ?_ ?_
    · intro i x k H3 hx hk s3 Q3 q3
      have hi : i < ps.length := by rw [← lx]; exact (List.getElem?_eq_some_iff.mp hx).1
      obtain ⟨t, rfl, ht⟩ := (hp.2 i x ps[i] hx (List.getElem?_eq_getElem hi)).mono s3
      obtain rfl : k = ps[i].2 := by
        rw [List.getElem?_map, List.getElem?_eq_getElem hi] at hk
        exact (Option.some.inj hk).symm
      refine r_gtup (SqT.of ht) rfl (r_gcons (r_name (r_gcons (r_name (r_gnil ?_)))))
      refine ⟨rfl, ?_⟩
      walk_at "td"
      exact q3 _ (Same.refl _)
    · intro H3 s3 at3
      refine r_nil ⟨D, _, _, rfl, at3, by have := dd_len (ps.map (·.2)); rw [List.length_map] at this; omega, fun ns p asc mem len hnp => ?_⟩
      refine q _ p ns (s3.trans (same_new hnp)) (s3.free hnp) upd_same asc (fun k => ?_) len
      rw [mem k]
      exact decide_eq_true_iff
theorem ok_Ring_from_value {f C CB : Addr} {fd : FuncData} (F : Fun K "from_value" "Ring.from_value" s_Ring_from_value f fd) (T : Txt K mg) (e_BadValue : Err K mg "BadValue" CB) (m_Ring : MakX P w K mg base 5 "Ring" C (spRingX K CC C CB))
    (c_Ring_value : C8.Met P w K mg base 1 C "value" (spRingVR C) []) : FnOk P w K mg base (L2.CX P w) 7 f fd ["value"] (spFromVR K CC C CB) := by
  refine F.okX sc_Ring_from_value (fun vs H Q E h => ?_) (fun cdv A outer s H vs Q E hr h => ?_)
  · obtain ⟨v, d, rfl, _⟩ := h
    rfl
  · obtain ⟨v, d, rfl, R, few, q, no⟩ := h
    refine ⟨_, (pss_cons (ps_if (PW.pt (pw_or (pt_cmpR op_notTyG (pe_callTy call_typeG rfl T.z_type (by decide +kernel) (pa_cons (pv 0) pa_nil)) (pe_bltn (v := .ty "tuple") (u := .type "tuple") rfl T.z_tuple (by decide +kernel) rfl) (nomark _)) (pw_or1 (pt_cmpR op_ne (pe_callB call_lenG rfl T.z_len (by decide +kernel) (pa_cons (pv 0) pa_nil)) pe_int (nomark _)))))
 (pss_one (ps_rai e_BadValue rfl (takes_of rfl rfl rfl rfl) rfl))
 pss_nil)
 (pss_cons (ps_asg (pv 0) (pg_tup rfl (pgs_cons (pg_name (i := 1) sc_Ring_from_value.nd rfl (Or.inl rfl)) (pgs_cons (pg_name (i := 2) sc_Ring_from_value.nd rfl (Or.inl rfl)) pgs_nil))))
 (pss_cons (ps_if (pt_cmpR op_notTyG (pe_callTy call_typeG rfl T.z_type (by decide +kernel) (pa_cons (pv 2) pa_nil)) (pe_bltn (v := .ty "tuple") (u := .type "tuple") rfl T.z_tuple (by decide +kernel) rfl) (nomark _))
 (pss_one (ps_rai e_BadValue rfl (takes_of rfl rfl rfl rfl) rfl))
 pss_nil)
 (pss_cons (ps_set (i := 3) sc_Ring_from_value.nd rfl (Or.inl rfl) (pe_mkT m_Ring hr (by decide) rfl (takes_of rfl rfl rfl rfl) (pa_cons (pe_callTy call_listG rfl T.z_list (by decide +kernel) (pa_cons (pv 2) pa_nil)) (pa_cons (pv 1) pa_nil))))
 (pss_cons (ps_if (pt_cmpR (op_neD hr.units) (C8.pe_mt0 c_Ring_value hr (by decide) (pv 3)) (pv 0) (nomark _))
 (pss_one (ps_rai e_BadValue rfl (takes_of rfl rfl rfl rfl) rfl))
 pss_nil)
 (pss_one (ps_ret (pv 3)))))))), ?_⟩
    have no0 := fun z => no z H (Same.refl H)
    walk_at "td"
    refine ite2 (fun e => ?_) (fun e => ?_)
    · walk_at "td"
      refine iteT (no0 ?_)
      cases d <;> first | rfl | (exact absurd (show (!true) = true from e) (by decide))
    obtain ⟨ds, rfl⟩ : ∃ ds, d = .tup ds := by
      cases d <;> first | exact ⟨_, rfl⟩ | exact absurd rfl e
    cases R with
    | @tup a xs _ ha hl hs hi =>
    walk_at "td"
    refine ite2 (fun e2 => ?_) (fun e2 => ?_)
    · have h2 : ¬ ds.length = 2 := fun z => by
        rw [show V.int (xs.length : Int) = V.int 2 from congrArg V.int (by omega)] at e2
        rw [decide_eq_true rfl] at e2
        cases e2
      refine no0 ?_
      match ds, h2 with
      | [], _ => rfl
      | [_], _ => unfold okRV; split <;> simp_all
      | [_, _], h2 => exact absurd rfl h2
      | _ :: _ :: _ :: _, _ => unfold okRV; split <;> simp_all
    have h2 : xs.length = 2 := by
      by_cases z : xs.length = 2
      · exact z
      · exfalso
        apply e2
        rw [decide_eq_false (fun y => z (by have := V.int.inj y; omega))]
        rfl
    obtain ⟨x1, x2, rfl⟩ : ∃ x1 x2, xs = [x1, x2] := by
      match xs, h2 with
      | [x1, x2], _ => exact ⟨x1, x2, rfl⟩
    obtain ⟨d1, d2, rfl⟩ : ∃ d1 d2, ds = [d1, d2] := by
      match ds, hl with
      | [d1, d2], _ => exact ⟨d1, d2, rfl⟩
    have R1 := hi 0 x1 d1 rfl rfl
    have R2 := hi 1 x2 d2 rfl rfl
    walk_at "td"
    refine ite2 (fun e3 => ?_) (fun e3 => ?_)
    · refine no0 ?_
      unfold okRV
      split
      · rename_i c es he
        cases he
        exact absurd (show (!true) = true from e3) (by decide)
      · rfl
    obtain ⟨es, rfl⟩ : ∃ es, d2 = .tup es := by
      cases d2 <;> first | exact ⟨_, rfl⟩ | exact absurd rfl e3
    have fewE : es.length ≤ 300 := few d1 es rfl
    cases R2 with
    | @tup b ys _ hb hly hsy hiy =>
    walk_at "td"
    refine r_mk ?_
    walk_at "td"
    refine ⟨b, ys, rfl, .inr (SqT.of hb), fun l hl => ?_⟩
    generalize hu : upd H l (.lst ys) = H2
    have s2 := same_gen hu hl
    have a2 := at_gen hu
    clear hu
    walk_at "td"
    intro x dx hx hdx nx
    have s3 : Same H2 (upd (upd H2 dx (.own x)) x (.ins C dx [])) := (same_new hdx).trans (same_new (by rw [upd_ne nx.symm]; exact hx))
    have s23 := s2.trans s3
    have Rl : Rep K CC (upd (upd H2 dx (.own x)) x (.ins C dx [])) (.ref l) (.lst es) := .lst (s3 _ _ a2) hly hsy fun i y d a b => (hiy i y d a b).mono s23
    have bad : okRing (.lst es) d1 = false → okRV (.tup [d1, .tup es]) = false := fun z => by
      cases d1 with
      | int c => show (okRing (.lst es) (.int c) && _) = false; rw [z, Bool.false_and]
      | _ => rfl
    refine ⟨x, dx, _, _, _, _, rfl, upd_same, Rl, R1.mono s23, fun es' z => by cases z; exact fewE, fun p zs es' c ep hp ed ec okR H5 qs k5 pm hR => ⟨rfl, ?_⟩, fun z H5 s5 => no (bad z) _ (s23.trans s5)⟩
    cases ed
    subst ec
    cases R1
    have sA : Same H H5 := fun y o e => k5 y o (ne_of_none (s2 _ _ e) hx) (s23 _ _ e)
    have okp := okPts_of fewE okR
    have hpt := pts_rep hly hiy (by
      have z : (arePts (.lst es) && (okCp (.int c) && decide (c ≤ ((dd (es.map fun d => (ptD d).2)).length : Int)))) = true := okR
      rw [Bool.and_eq_true] at z
      have z2 : (es.all isPtD && decide ((dd (es.map fun d => (ptD d).1)).length = es.length)) = true := z.1
      rw [Bool.and_eq_true] at z2
      exact z2.1)
    have ascq : Asc qs := by
      obtain ⟨_, _, _, _, _, _, _, _, _, z, _⟩ := hR
      exact z
    obtain ⟨dr, tp0, ow, hr1⟩ := hR.look
    walk_at "td"
    refine ⟨x, c, qs, rfl, hR.v, fun H6 p6 tp6 xs6 s6 np6 a6 b6 hp6 => ?_⟩
    walk_at "td"
    refine ⟨rvP c qs, rvP c (es.map ptD), rv_dp a6 b6 hp6, rv_dp (s6 _ _ (sA _ _ ha)) (s6 _ _ (sA _ _ hb)) (hpt.mono (sA.trans s6)), rv_shaped _ _, rv_shaped _ _, ?_⟩
    rw [rv_eqv]
    have eV : okRV (.tup [.int c, .tup es]) = (okRing (.lst es) (.int c) && decide (Asc (es.map ptD))) := rfl
    walk_at "td"
    refine ite2 (fun e9 => ?_) (fun e9 => ?_)
    · refine no ?_ H6 (sA.trans s6)
      rw [eV, okR, Bool.true_and]
      refine decide_eq_false fun asc => ?_
      rw [asc_perm pm ascq asc, decide_eq_true rfl] at e9
      cases e9
    · have eq : qs = es.map ptD := by
        by_cases z : qs = es.map ptD
        · exact z
        · rw [decide_eq_false z] at e9
          exact absurd rfl e9
      walk_at "td"
      rw [eq] at hR ascq
      exact q c es rfl (by rw [eV, okR, decide_eq_true ascq]; rfl) H6 x (sA.trans s6) (hR.mono s6)
end
end RH
namespace RH
open PySem L2
local macro_rules | `(tactic| walk_at "rdh") => `(tactic| first | assumption | exact upd_same | (rw [upd_ne (by assumption)]; assumption) | (rw [upd_ne (Ne.symm (by assumption))]; assumption))
local macro_rules | `(tactic| walk_at "rdc") => `(tactic| first | assumption | decide | omega | exact cmul_r (by decide) (by decide) | exact cmul_l (by decide) (by decide) | exact cpow (by decide) (by decide) (by decide) | exact cdiv (by decide) (by decide) | exact wide_div (b := 200) (by assumption) (by omega) (by decide) (by decide) | exact cmul_r (by omega) (by omega) | exact cmul_l (by omega) (by omega))
local macro_rules | `(tactic| walk_at "rd1") => `(tactic| first
  | with_reducible apply r_op | ((with_reducible apply r_var); exact rfl) | with_reducible apply r_c | with_reducible apply r_cons | with_reducible apply r_nil | with_reducible apply r_I0
  | with_reducible apply r_seq | with_reducible apply r_asg | with_reducible apply r_name | with_reducible apply r_cb | with_reducible apply r_test | with_reducible apply r_k
  | with_reducible apply r_ifS | with_reducible apply r_call | with_reducible apply r_ret | ((with_reducible apply r_I); walk_at "rdc") | ((with_reducible apply r_eq); exact rfl) | ((with_reducible apply r_ne); exact rfl)
  | ((with_reducible apply r_ixL); walk_at "rdh"; exact rfl) | ((with_reducible apply r_ixT); walk_at "rdh"; exact rfl) | with_reducible apply r_sub | ((with_reducible apply r_setL); walk_at "rdh"; exact rfl)
  | with_reducible apply r_un | with_reducible apply r_U | with_reducible apply r_B | with_reducible apply r_and | with_reducible apply r_or | with_reducible apply r_not
  | with_reducible apply r_andV | with_reducible apply r_orV | with_reducible apply r_notV | with_reducible apply r_if | with_reducible apply r_tup | with_reducible apply r_lst
  | ((with_reducible apply r_ixgT); walk_at "rdh"; exact rfl) | ((with_reducible apply r_ixgL); walk_at "rdh"; exact rfl)
  | with_reducible apply r_next | with_reducible apply r_drop | with_reducible apply r_int1 | with_reducible apply r_chain | with_reducible apply r_ord | with_reducible apply r_abs | with_reducible apply r_min2 | with_reducible apply r_max2
  | with_reducible apply r_leStr | with_reducible apply r_inSign | with_reducible apply r_notInSign | ((with_reducible apply r_isTy); assumption)
  | ((with_reducible apply r_lenL); walk_at "rdh") | ((with_reducible apply r_lenT); walk_at "rdh")
  | refine Rep.typ (by assumption) (fun _ _ => ?_) | refine r_isi (by assumption) (by assumption) (by decide) ?_)
local macro_rules | `(tactic| walk_at "rd") => `(tactic| repeat walk_at "rd1")

theorem at_ints {ns : List Int} {i : Int} (h0 : 0 ≤ i) (h1 : i < ns.length) : ∃ n, n ∈ ns ∧ atI (ns.map V.int) i = some (.int n) := by
  obtain ⟨m, rfl⟩ : ∃ m : Nat, i = (m : Int) := ⟨i.toNat, by omega⟩
  have hm : m < ns.length := by omega
  exact ⟨ns[m], List.getElem_mem hm, atI_nat (by rw [List.getElem?_map, List.getElem?_eq_getElem hm]; rfl)⟩
section
variable {P : Program} {w : World} {K : PySem.W.Frag} {mg : Str → Option Value} {base : Heap} {CC : Addr → Prop}
theorem ok__law_pool {f : Addr} {fd : FuncData} (F : Fun K "_law_pool" "_law_pool" s__law_pool f fd) (T : Txt K mg) (c__law_draw : C8.Cal P w K mg base 1 "_law_draw" spDrawF []) (c__law_cell : C8.Cal P w K mg base 1 "_law_cell" (spCell K) []) : FnOk P w K mg base CX0 2 f fd ["script", "draws"] (spPool K) := by
  refine F.ok sc__law_pool (fun vs H Q E h => ?_) (fun cdv A outer s H vs Q E hr h => ?_)
  · obtain ⟨a, l, ns, ds, rfl, _⟩ := h
    rfl
  · obtain ⟨a, l, ns, ds, rfl, hS, hD, okD, q⟩ := h
    refine ⟨_, (pss_cons (ps_set (i := 2) sc__law_pool.nd rfl (Or.inl rfl) (pe_op op_mod (C8.pe_c c__law_draw hr (by decide) rfl (pa_cons (pv 1) (pa_cons pe_int pa_nil))) pe_int))
 (pss_cons (ps_set (i := 3) sc__law_pool.nd rfl (Or.inl rfl) (pe_callB call_absG rfl T.z_abs (by decide +kernel) (pa_cons (C8.pe_c c__law_cell hr (by decide) rfl (pa_cons (pv 0) (pa_cons pe_int pa_nil))) pa_nil)))
 (pss_cons (ps_set (i := 4) sc__law_pool.nd rfl (Or.inl rfl) (pe_lst pa_nil))
 (pss_cons (ps_for PassesOwn.never rfl (pi_range1 rfl T.z_range (pa_cons pe_int pa_nil)) (pg_name (i := 5) sc__law_pool.nd rfl (Or.inl rfl))
 (pss_one (ps_if (pt_cmpR op_lt (pv 2) pe_int (nomark _))
 (pss_one (ps_expr (pe_bm PySem.F.plainAttrs_list PySem.F.slot_list_append PySem.F.type_list_append mt_append (pv 4) (pa_cons (pv 5) pa_nil))))
 (pss_one (ps_if (pt_cmpR op_eq (pv 2) pe_int (nomark _))
 (pss_one (ps_expr (pe_bm PySem.F.plainAttrs_list PySem.F.slot_list_append PySem.F.type_list_append mt_append (pv 4) (pa_cons (pe_op op_sub (pe_op op_pow pe_int pe_int) (pe_op op_mul pe_int (pv 5))) pa_nil))))
 (pss_one (ps_expr (pe_bm PySem.F.plainAttrs_list PySem.F.slot_list_append PySem.F.type_list_append mt_append (pv 4) (pa_cons (pe_op op_mod (pe_callTy call_int1G rfl T.z_int (by decide +kernel) (pa_cons (pe_op op_fdiv (pv 3) (pe_op op_add (pv 5) pe_int)) pa_nil)) (pe_op op_add (pe_op op_pow pe_int pe_int) pe_int)) pa_nil)))))))))
 (pss_one (ps_ret (pv 4))))))), ?_⟩
    walk_at "rd"
    refine ⟨l, ds, 0, rfl, hD, by decide, ?_⟩
    walk_at "rd"
    generalize drawF ds 0 % 4 = md
    refine ⟨a, ns, 0, rfl, hS, by decide, fun k0 => ?_⟩
    walk_at "rd"
    have st0 : 0 ≤ (if k0 < 0 then -k0 else k0) := by split <;> omega
    generalize (if k0 < 0 then -k0 else k0) = st at st0
    refine ⟨szL rfl, fun p hp => ?_⟩
    walk_at "rd"
    refine r_for (r_rng1 ?_)
    walk_at "rd"
    refine ⟨_, rfl, by omega, by omega, ?_⟩
    refine go_range (fun i σ' H' => ∃ u ms, σ' = [some (.ref a), some (.ref l), some (.int md), some (.int st), some (.ref p), u] ∧ (∀ b o, b ≠ p → H b = some o → H' b = some o) ∧ H' p = some (.lst ((ms : List Int).map V.int)) ∧ ms.length = i ∧ ∀ m ∈ ms, 0 ≤ m ∧ m ≤ 1000000000000)
      ⟨_, [], rfl, fun b o n e => by rw [upd_ne n]; exact e, upd_same, rfl, fun _ m => nomatch m⟩ ?_ ?_
    · rintro i x σ' H1 hi ⟨u, ms, rfl, fr, hm, lm, bd⟩ rfl
      have hi : i < 9 := hi
      have fin : ∀ (j : Int), 0 ≤ j → j ≤ 1000000000000 → ∃ u' ms', [some (V.ref a), some (.ref l), some (.int md), some (.int st), some (.ref p), some (.int (0 + (i : Int)))] = [some (V.ref a), some (.ref l), some (.int md), some (.int st), some (.ref p), u'] ∧ (∀ b o, b ≠ p → H b = some o → (upd H1 p (.lst (ms.map V.int ++ [V.int j]))) b = some o) ∧
          (upd H1 p (.lst (ms.map V.int ++ [V.int j]))) p = some (.lst ((ms' : List Int).map V.int)) ∧ ms'.length = i + 1 ∧ ∀ m ∈ ms', 0 ≤ m ∧ m ≤ 1000000000000 := fun j j0 j1 =>
        ⟨_, ms ++ [j], rfl, fun b o n e => by rw [upd_ne n]; exact fr b o n e, by rw [upd_same]; simp, by rw [List.length_append, List.length_singleton, lm], fun m hm => by
          rcases List.mem_append.mp hm with z | z
          · exact bd m z
          · rw [List.mem_singleton.mp z]
            exact ⟨j0, j1⟩⟩
      walk_at "rd"
      refine ite2 (fun e => ?_) (fun e => ?_)
      · walk_at "rd"
        refine r_bmL rfl hm ?_
        walk_at "rd"
        refine r_append hm (by rw [List.length_map]; exact small1000 (by omega)) ?_
        exact fin _ (by omega) (by omega)
      · walk_at "rd"
        refine ite2 (fun e2 => ?_) (fun e2 => ?_)
        · walk_at "rd"
          refine r_bmL rfl hm ?_
          walk_at "rd"
          refine r_append hm (by rw [List.length_map]; exact small1000 (by omega)) ?_
          have : (10 : Int) ^ Int.toNat 12 = 1000000000000 := by decide
          exact fin _ (by omega) (by omega)
        · walk_at "rd"
          refine r_bmL rfl hm ?_
          walk_at "rd"
          refine r_I (cdiv (by omega) (by omega)) ?_
          walk_at "rd"
          refine r_append hm (by rw [List.length_map]; exact small1000 (by omega)) ?_
          have h10 : (10 : Int) ^ Int.toNat 12 + 1 = 1000000000001 := by decide
          rw [h10]
          refine fin _ (Int.emod_nonneg _ (by decide)) ?_
          have := Int.emod_lt_of_pos (st / (0 + (i : Int) + 1)) (show (0 : Int) < 1000000000001 by decide)
          omega
    · rintro σ' H1 ⟨u, ms, rfl, fr, hm, lm, bd⟩
      walk_at "rd"
      exact q _ p ms (fun b o e => fr b o (ne_of_none e hp) e) hp hm lm bd
theorem ok__law_houses {f : Addr} {fd : FuncData} (F : Fun K "_law_houses" "_law_houses" s__law_houses f fd) (T : Txt K mg) : FnOk P w K mg base CX0 1 f fd ["points"] spHouses := by
  refine F.ok sc__law_houses (fun vs H Q E h => ?_) (fun cdv A outer s H vs Q E hr h => ?_)
  · obtain ⟨a, xs, ps, rfl, _⟩ := h
    rfl
  · obtain ⟨a, xs, ps, rfl, ha, hp, few, q⟩ := h
    refine ⟨_, (pss_cons (ps_set (i := 1) sc__law_houses.nd rfl (Or.inl rfl) (pe_lst pa_nil))
 (pss_cons (ps_for PassesOwn.never rfl (pi_list (pv 0)) (pg_name (i := 2) sc__law_houses.nd rfl (Or.inl rfl))
 (pss_one (ps_if (pt_cmpR op_notIn_seq (pe_ix ix_seq (pv 2) pe_int (fun _ _ => rfl)) (pv 1) rfl)
 (pss_one (ps_expr (pe_bm PySem.F.plainAttrs_list PySem.F.slot_list_append PySem.F.type_list_append mt_append (pv 1) (pa_cons (pe_ix ix_seq (pv 2) pe_int (fun _ _ => rfl)) pa_nil))))
 pss_nil)))
 (pss_one (ps_ret (pv 1))))), ?_⟩
    have lx := hp.1
    walk_at "rd"
    refine ⟨szL rfl, fun p hpn => ?_⟩
    walk_at "rd"
    refine r_for (r_list ?_)
    walk_at "rd"
    have s0 : Same H (upd H p (.lst [])) := same_new hpn
    refine ⟨a, rfl, ⟨_, SqL.of (s0 _ _ ha)⟩, ?_⟩
    have back : ∀ {H' : Hp}, (∀ b o, b ≠ p → H b = some o → H' b = some o) → Same H H' := fun h b o e => h b o (ne_of_none e hpn) e
    refine go_it (walk_list (xs := xs)) (fun i σ' H' => ∃ u, σ' = [some (.ref a), some (.ref p), u] ∧ (∀ b o, b ≠ p → H b = some o → H' b = some o) ∧ H' p = some (.lst ((dd ((ps.map (·.2)).take i)).map V.int)))
      ⟨_, rfl, fun b o n e => by rw [upd_ne n]; exact e, upd_same⟩ ?_ ?_ ?_
    · rintro i σ' H1 _ ⟨_, _, fr, _⟩
      exact SqL.of (back fr _ _ ha)
    · rintro i x σ' H1 H2 hi ⟨u, rfl, fr, hm⟩ ⟨rfl, hx⟩
      have hi2 : i < ps.length := by rw [← lx]; exact (List.getElem?_eq_some_iff.mp hx).1
      obtain ⟨t, rfl, ht⟩ := (hp.2 i x ps[i] hx (List.getElem?_eq_getElem hi2)).mono (back fr)
      have hk : (ps.map (·.2))[i]? = some ps[i].2 := by rw [List.getElem?_map, List.getElem?_eq_getElem hi2]; rfl
      have en : dd ((ps.map (·.2)).take (i + 1)) = if ps[i].2 ∈ dd ((ps.map (·.2)).take i) then dd ((ps.map (·.2)).take i) else dd ((ps.map (·.2)).take i) ++ [ps[i].2] := by rw [take_snoc hk, dd_S rfl]
      have lo : (dd ((ps.map (·.2)).take i)).length ≤ 300 := by
        have h1 := dd_len ((ps.map (·.2)).take i)
        rw [List.length_take, List.length_map] at h1
        omega
      generalize dd ((ps.map (·.2)).take i) = os at hm en lo
      walk_at "rd"
      refine r_notInI (SqL.of hm) ?_
      walk_at "rd"
      refine ite2 (fun e => ?_) (fun e => ?_)
      · have e1 : ps[i].2 ∉ os := by simpa using e
        rw [if_neg e1] at en
        walk_at "rd"
        refine r_bmL rfl hm ?_
        walk_at "rd"
        refine r_append hm (by rw [List.length_map]; exact small1000 (by omega)) ?_
        exact ⟨_, rfl, fun b o n e => by rw [upd_ne n]; exact fr b o n e, by rw [upd_same, en]; simp⟩
      · have e1 : ps[i].2 ∈ os := by simpa using e
        rw [if_pos e1] at en
        walk_at "rd"
        exact ⟨_, rfl, fr, by rw [en]; exact hm⟩
    · rintro σ' H1 ⟨u, rfl, fr, hm⟩
      rw [lx, show ps.length = (ps.map (·.2)).length by rw [List.length_map], List.take_length] at hm
      walk_at "rd"
      exact q _ p (back fr) hpn hm
theorem ok__law_copies {f : Addr} {fd : FuncData} (F : Fun K "_law_copies" "_law_copies" s__law_copies f fd) (T : Txt K mg) (c__law_houses : C8.Cal P w K mg base 1 "_law_houses" spHouses []) : FnOk P w K mg base CX0 2 f fd ["points", "draw"] spCopies := by
  refine F.ok sc__law_copies (fun vs H Q E h => ?_) (fun cdv A outer s H vs Q E hr h => ?_)
  · obtain ⟨a, xs, ps, d, rfl, _⟩ := h
    rfl
  · obtain ⟨a, xs, ps, d, rfl, ha, hp, ok, d0, q⟩ := h
    refine ⟨_, (pss_one (ps_ret (pe_op op_add pe_int (pe_op op_mod (pv 1) (pe_callB (call_min2G rfl) rfl T.z_min (by decide +kernel) (pa_cons pe_int (pa_cons (pe_callB call_lenG rfl T.z_len (by decide +kernel) (pa_cons (C8.pe_c c__law_houses hr (by decide) rfl (pa_cons (pv 0) pa_nil)) pa_nil)) pa_nil))))))), ?_⟩
    have few := ok.few
    have many := ok.many
    walk_at "rd"
    refine ⟨a, xs, ps, rfl, ha, hp, few, fun H1 p s1 np hm => ?_⟩
    walk_at "rd"
    rw [List.length_map]
    have m1 : 0 < (if ((dd (ps.map (·.2))).length : Int) < 7 then ((dd (ps.map (·.2))).length : Int) else 7) := by split <;> omega
    have m2 : (if ((dd (ps.map (·.2))).length : Int) < 7 then ((dd (ps.map (·.2))).length : Int) else 7) ≤ 7 := by split <;> omega
    have m3 : (if ((dd (ps.map (·.2))).length : Int) < 7 then ((dd (ps.map (·.2))).length : Int) else 7) ≤ ((dd (ps.map (·.2))).length : Int) := by split <;> omega
    generalize (if ((dd (ps.map (·.2))).length : Int) < 7 then ((dd (ps.map (·.2))).length : Int) else 7) = m at m1 m2 m3
    refine r_I m1 ?_
    have e0 := Int.emod_nonneg d (show m ≠ 0 by omega)
    have e1 := Int.emod_lt_of_pos d m1
    walk_at "rd"
    exact q _ _ s1 ⟨ok.pl, ok.hs, ok.nd, ok.few, by omega, by omega, by omega⟩
end
end RH
namespace RH
open PySem L2
local macro_rules | `(tactic| walk_at "rdh") => `(tactic| first | assumption | exact upd_same | (rw [upd_ne (by assumption)]; assumption) | (rw [upd_ne (Ne.symm (by assumption))]; assumption))
local macro_rules | `(tactic| walk_at "rdc") => `(tactic| first | assumption | decide | omega | exact cmul_r (by decide) (by decide) | exact cmul_l (by decide) (by decide) | exact cpow (by decide) (by decide) (by decide) | exact cdiv (by decide) (by decide) | exact wide_div (b := 200) (by assumption) (by omega) (by decide) (by decide) | exact cmul_r (by omega) (by omega) | exact cmul_l (by omega) (by omega))
local macro_rules | `(tactic| walk_at "rd1") => `(tactic| first
  | with_reducible apply r_op | ((with_reducible apply r_var); exact rfl) | with_reducible apply r_c | with_reducible apply r_cons | with_reducible apply r_nil | with_reducible apply r_I0
  | with_reducible apply r_seq | with_reducible apply r_asg | with_reducible apply r_name | with_reducible apply r_cb | with_reducible apply r_test | with_reducible apply r_k
  | with_reducible apply r_ifS | with_reducible apply r_call | with_reducible apply r_ret | ((with_reducible apply r_I); walk_at "rdc") | ((with_reducible apply r_eq); exact rfl) | ((with_reducible apply r_ne); exact rfl)
  | ((with_reducible apply r_ixL); walk_at "rdh"; exact rfl) | ((with_reducible apply r_ixT); walk_at "rdh"; exact rfl) | with_reducible apply r_sub | ((with_reducible apply r_setL); walk_at "rdh"; exact rfl)
  | with_reducible apply r_un | with_reducible apply r_U | with_reducible apply r_B | with_reducible apply r_and | with_reducible apply r_or | with_reducible apply r_not
  | with_reducible apply r_andV | with_reducible apply r_orV | with_reducible apply r_notV | with_reducible apply r_if | with_reducible apply r_tup | with_reducible apply r_lst
  | ((with_reducible apply r_ixgT); walk_at "rdh"; exact rfl) | ((with_reducible apply r_ixgL); walk_at "rdh"; exact rfl)
  | with_reducible apply r_next | with_reducible apply r_drop | with_reducible apply r_int1 | with_reducible apply r_chain | with_reducible apply r_ord | with_reducible apply r_abs | with_reducible apply r_min2 | with_reducible apply r_max2
  | with_reducible apply r_leStr | with_reducible apply r_inSign | with_reducible apply r_notInSign | ((with_reducible apply r_isTy); assumption)
  | ((with_reducible apply r_lenL); walk_at "rdh") | ((with_reducible apply r_lenT); walk_at "rdh")
  | refine Rep.typ (by assumption) (fun _ _ => ?_) | refine r_isi (by assumption) (by assumption) (by decide) ?_)
local macro_rules | `(tactic| walk_at "rd") => `(tactic| repeat walk_at "rd1")

section
variable {P : Program} {w : World} {K : PySem.W.Frag} {mg : Str → Option Value} {base : Heap} {CC : Addr → Prop}
theorem ok__law_points {f : Addr} {fd : FuncData} (F : Fun K "_law_points" "_law_points" s__law_points f fd) (T : Txt K mg) (c__law_draw : C8.Cal P w K mg base 1 "_law_draw" spDrawF []) : FnOk P w K mg base CX0 2 f fd ["draws", "first", "pool"] spLawPoints := by
  refine F.ok sc__law_points (fun vs H Q E h => ?_) (fun cdv A outer s H vs Q E hr h => ?_)
  · obtain ⟨l, pl, ds, ms, first, rfl, _⟩ := h
    rfl
  · obtain ⟨l, pl, ds, ms, first, rfl, hD, okD, f0, hP, lP, bP, q⟩ := h
    refine ⟨_, (pss_cons (ps_set (i := 3) sc__law_points.nd rfl (Or.inl rfl) (C8.pe_c c__law_draw hr (by decide) rfl (pa_cons (pv 0) (pa_cons pe_int pa_nil))))
 (pss_cons (ps_set (i := 4) sc__law_points.nd rfl (Or.inl rfl) (pe_op op_add pe_int (pe_op op_mod (pv 3) pe_int)))
 (pss_cons (ps_set (i := 5) sc__law_points.nd rfl (Or.inl rfl) (pe_op op_add pe_int (pe_op op_mod (pe_op op_fdiv (pv 3) pe_int) pe_int)))
 (pss_cons (ps_set (i := 6) sc__law_points.nd rfl (Or.inl rfl) (pe_lst pa_nil))
 (pss_cons (ps_if (pt_cmpR op_eq (pe_op op_mod (pe_op op_fdiv (pv 3) pe_int) pe_int) pe_int (nomark _))
 (pss_cons (ps_set (i := 7) sc__law_points.nd rfl (Or.inl rfl) (pe_op op_add (pe_op op_mul pe_int (pe_op op_mod (C8.pe_c c__law_draw hr (by decide) rfl (pa_cons (pv 0) (pa_cons pe_int pa_nil))) pe_int)) pe_int))
 (pss_cons (ps_for PassesOwn.never rfl (pi_range1 rfl T.z_range (pa_cons (pe_op op_add (pe_op op_add pe_int (pe_op op_mod (pe_op op_fdiv (C8.pe_c c__law_draw hr (by decide) rfl (pa_cons (pv 0) (pa_cons pe_int pa_nil))) pe_int) pe_int)) (pe_op op_mod (pe_op op_fdiv (pv 3) pe_int) pe_int)) pa_nil)) (pg_name (i := 8) sc__law_points.nd rfl (Or.inl rfl))
 (pss_one (ps_expr (pe_bm PySem.F.plainAttrs_list PySem.F.slot_list_append PySem.F.type_list_append mt_append (pv 6) (pa_cons (pe_tup (pa_cons (pe_op op_mod (pe_op op_add (C8.pe_c c__law_draw hr (by decide) rfl (pa_cons (pv 0) (pa_cons pe_int pa_nil))) (pe_op op_mul (pv 8) (pv 7))) pe_int) (pa_cons (pe_ix ix_list (pv 2) (pe_op op_mod (pe_op op_add (pe_op op_mul (pv 8) (pv 8)) (pe_op op_fdiv (pe_op op_mul (C8.pe_c c__law_draw hr (by decide) rfl (pa_cons (pv 0) (pa_cons pe_int pa_nil))) (pv 8)) pe_int)) (pv 5)) (fun _ _ => rfl)) pa_nil))) pa_nil)))))
 (pss_one (ps_ret (pv 6)))))
 pss_nil)
 (pss_cons (ps_for PassesOwn.never rfl (pi_range1 rfl T.z_range (pa_cons (pv 4) pa_nil)) (pg_name (i := 8) sc__law_points.nd rfl (Or.inl rfl))
 (pss_cons (ps_set (i := 9) sc__law_points.nd rfl (Or.inl rfl) (C8.pe_c c__law_draw hr (by decide) rfl (pa_cons (pv 0) (pa_cons (pe_op op_add (pv 1) (pv 8)) pa_nil))))
 (pss_one (ps_if (pt_cmpR op_notIn_seq (pe_op op_mod (pv 9) pe_int) (pe_lc (own := [("point", 10)]) rfl sc__law_points.nd (pi_list (pv 6)) (blkOk_by (sc := defScope s__law_points) (N := ["draws", "first", "pool", "draw", "count", "spread", "points", "step", "k", "cell", "point"]) (by decide +kernel)) (fun _ _ _ _ _ => (pg_name (i := 10) sc__law_points.nd rfl (Or.inl rfl))) (fun _ _ _ _ _ => pts_nil) (fun _ _ _ _ _ => (pe_ix (r := rIx K) ix_seq (pv 10) pe_int (fun _ _ => rfl)))) rfl)
 (pss_one (ps_expr (pe_bm PySem.F.plainAttrs_list PySem.F.slot_list_append PySem.F.type_list_append mt_append (pv 6) (pa_cons (pe_tup (pa_cons (pe_op op_mod (pv 9) pe_int) (pa_cons (pe_ix ix_list (pv 2) (pe_op op_mod (pe_op op_fdiv (pv 9) pe_int) (pv 5)) (fun _ _ => rfl)) pa_nil))) pa_nil))))
 pss_nil))))
 (pss_one (ps_ret (pv 6))))))))), ?_⟩
    walk_at "rd"
    refine ⟨l, ds, 1, rfl, hD, by decide, ?_⟩
    walk_at "rd"
    have in1 := drawF_in okD 1
    generalize drawF ds 1 = d1 at in1
    have sp0 := Int.emod_nonneg (d1 / 24) (show (9 : Int) ≠ 0 by decide)
    have sp1 := Int.emod_lt_of_pos (d1 / 24) (show (0 : Int) < 9 by decide)
    have ct0 := Int.emod_nonneg d1 (show (24 : Int) ≠ 0 by decide)
    have ct1 := Int.emod_lt_of_pos d1 (show (0 : Int) < 24 by decide)
    generalize hsp : 1 + d1 / 24 % 9 = sp
    generalize hct : 1 + d1 % 24 = ct
    refine ⟨szL rfl, fun p hp => ?_⟩
    have back : ∀ {H' : Hp}, (∀ b o, b ≠ p → H b = some o → H' b = some o) → Same H H' := fun h b o e => h b o (ne_of_none e hp) e
    have pick : ∀ (i : Int), 0 ≤ i → i < 9 → ∃ n, (0 ≤ n ∧ n ≤ 1000000000000) ∧ atI (ms.map V.int) i = some (.int n) := fun i h0 h1 => by
      obtain ⟨n, hn, e⟩ := at_ints (ns := ms) h0 (by omega)
      exact ⟨n, bP n hn, e⟩
    walk_at "rd"
    refine ite2 (fun e => ?_) (fun e => ?_)
    · walk_at "rd"
      have sH : Same H (upd H p (.lst [])) := same_new hp
      refine ⟨l, ds, 2, rfl, sH _ _ hD, by decide, ?_⟩
      walk_at "rd"
      have in2 := drawF_in okD 2
      generalize drawF ds 2 = d2 at in2
      have st0 := Int.emod_nonneg d2 (show (128 : Int) ≠ 0 by decide)
      refine r_for (r_rng1 ?_)
      walk_at "rd"
      refine ⟨l, ds, 2, rfl, sH _ _ hD, by decide, ?_⟩
      walk_at "rd"
      have in2' := drawF_in okD 2
      generalize drawF ds 2 = d2' at in2'
      generalize hst : 2 * (d2 % 128) + 1 = st
      have r0 := Int.emod_nonneg (d2' / 128) (show (216 : Int) ≠ 0 by decide)
      have r1 := Int.emod_lt_of_pos (d2' / 128) (show (0 : Int) < 216 by decide)
      have r2 := Int.emod_nonneg (d1 / 1728) (show (41 : Int) ≠ 0 by decide)
      have r3 := Int.emod_lt_of_pos (d1 / 1728) (show (0 : Int) < 41 by decide)
      generalize hn : 1 + d2' / 128 % 216 + d1 / 1728 % 41 = n
      refine ⟨_, rfl, by omega, by omega, ?_⟩
      refine go_range (fun i σ' H' => ∃ u xs, ∃ ps : List (Int × Int), σ' = [some (.ref l), some (.int first), some (.ref pl), some (.int d1), some (.int ct), some (.int sp), some (.ref p), some (.int st), u, none, none] ∧ (∀ b o, b ≠ p → H b = some o → H' b = some o) ∧ H' p = some (.lst xs) ∧ PtsAt H' xs ps ∧ ps.length = i ∧
          ps.map (·.1) = (List.range i).map (fun k : Nat => (drawF ds 3 + (k : Int) * st) % 256) ∧ ∀ x ∈ ps, 0 ≤ x.2 ∧ x.2 ≤ 1000000000000)
        ⟨_, [], [], rfl, fun b o n e => by rw [upd_ne n]; exact e, upd_same, PtsAt.nil, rfl, rfl, fun _ m => nomatch m⟩ ?_ ?_
      · rintro i x σ' H1 hi ⟨u, xs, ps, rfl, fr, hm, hps, lps, pls, hss⟩ rfl
        have s1 := back fr
        have hD1 := s1 _ _ hD
        have hP1 := s1 _ _ hP
        have lxs := hps.1
        rw [Int.zero_add]
        walk_at "rd"
        refine r_bmL rfl hm ?_
        walk_at "rd"
        refine ⟨l, ds, 3, rfl, hD1, by decide, ?_⟩
        walk_at "rd"
        refine ⟨l, ds, 4, rfl, hD1, by decide, ?_⟩
        walk_at "rd"
        have x0 := Int.emod_nonneg ((i : Int) * i + drawF ds 4 * i / 7) (show sp ≠ 0 by omega)
        have x1 := Int.emod_lt_of_pos ((i : Int) * i + drawF ds 4 * i / 7) (show 0 < sp by omega)
        obtain ⟨hn2, bd, eh⟩ := pick _ x0 (by omega)
        refine r_ixL hP1 eh ?_
        walk_at "rd"
        refine ⟨szL rfl, fun t ht => ?_⟩
        have s2 : Same H1 (upd H1 t (.tup [V.int ((drawF ds 3 + (i : Int) * st) % 256), V.int hn2])) := same_new ht
        have a2 : (upd H1 t (.tup [V.int ((drawF ds 3 + (i : Int) * st) % 256), V.int hn2])) t = some (.tup [V.int ((drawF ds 3 + (i : Int) * st) % 256), V.int hn2]) := upd_same
        generalize upd H1 t (.tup [V.int ((drawF ds 3 + (i : Int) * st) % 256), V.int hn2]) = H2 at s2 a2
        have hm2 := s2 _ _ hm
        have hps2 : PtsAt H2 (xs ++ [.ref t]) (ps ++ [((drawF ds 3 + (i : Int) * st) % 256, hn2)]) := (hps.mono s2).snoc ⟨t, rfl, a2⟩
        walk_at "rd"
        refine r_append hm2 (small1000 (by omega)) ?_
        refine ⟨_, _, _, rfl, fun b o n e => by rw [upd_ne n]; exact s2 _ _ (fr b o n e), upd_same, hps2.put hm2, by rw [List.length_append, lps]; rfl, ?_, fun x hx => ?_⟩
        · rw [List.map_append, pls, List.range_succ, List.map_append]
          rfl
        · rcases List.mem_append.mp hx with z | z
          · exact hss x z
          · rw [List.mem_singleton.mp z]
            exact bd
      · rintro σ' H1 ⟨u, xs, ps, rfl, fr, hm, hps, lps, pls, hss⟩
        walk_at "rd"
        refine q _ p xs ps (back fr) hp hm hps ⟨fun x hx => ?_, hss, ?_, by omega, by decide, by decide, ?_⟩
        · have : x.1 ∈ ps.map (·.1) := List.mem_map_of_mem hx
          rw [pls] at this
          obtain ⟨k, _, ek⟩ := List.mem_map.mp this
          rw [← ek]
          exact ⟨Int.emod_nonneg _ (by decide), Int.emod_lt_of_pos _ (by decide)⟩
        · rw [pls]
          unfold List.Nodup
          rw [List.pairwise_map]
          refine List.Pairwise.imp_of_mem (fun {a b} ha hb lt => ?_) List.pairwise_lt_range
          exact odd_steps ⟨d2 % 128, hst.symm⟩ (by omega) lt (by have := List.mem_range.mp hb; omega)
        · have : 0 < (dd (ps.map (·.2))).length := List.length_pos_iff.mpr fun z => by
            have h0 : 0 < ps.length := by omega
            have := (dd_mem (l := ps.map (·.2)) (j := ps[0].2)).mpr (List.mem_map_of_mem (List.getElem_mem h0))
            rw [z] at this
            cases this
          omega
    · walk_at "rd"
      refine r_for (r_rng1 ?_)
      walk_at "rd"
      refine ⟨_, rfl, by omega, by omega, ?_⟩
      refine go_range (fun i σ' H' => ∃ u v w xs, ∃ ps : List (Int × Int), σ' = [some (.ref l), some (.int first), some (.ref pl), some (.int d1), some (.int ct), some (.int sp), some (.ref p), none, u, v, w] ∧ (∀ b o, b ≠ p → H b = some o → H' b = some o) ∧ H' p = some (.lst xs) ∧ PtsAt H' xs ps ∧ ps.length ≤ i ∧ (0 < i → 0 < ps.length) ∧
          (ps.map (·.1)).Nodup ∧ (∀ x ∈ ps, 0 ≤ x.1 ∧ x.1 < 256) ∧ ∀ x ∈ ps, 0 ≤ x.2 ∧ x.2 ≤ 1000000000000)
        ⟨_, _, _, [], [], rfl, fun b o n e => by rw [upd_ne n]; exact e, upd_same, PtsAt.nil, Nat.le_refl _, fun h => absurd h (Nat.lt_irrefl _), List.nodup_nil, (fun _ m => nomatch m), (fun _ m => nomatch m)⟩ ?_ ?_
      · rintro i x σ' H1 hi ⟨u, v, w', xs, ps, rfl, fr, hm, hps, lps, pos, nd, pls, hss⟩ rfl
        have s1 := back fr
        have hD1 := s1 _ _ hD
        have hP1 := s1 _ _ hP
        have lxs := hps.1
        walk_at "rd"
        refine ⟨l, ds, _, rfl, hD1, by omega, ?_⟩
        walk_at "rd"
        have inc := drawF_in okD (first + (0 + (i : Int)))
        generalize drawF ds (first + (0 + (i : Int))) = cell at inc
        have y0 := Int.emod_nonneg cell (show (256 : Int) ≠ 0 by decide)
        have y1 := Int.emod_lt_of_pos cell (show (0 : Int) < 256 by decide)
        generalize hpc : cell % 256 = pc at y0 y1
        refine r_lc (r_list ?_)
        walk_at "rd"
        refine ⟨p, rfl, ⟨_, SqL.of hm⟩, fun D hD => ?_⟩
        refine lc_pure (n := xs.length) walk_list (Y' := fun j x => xs[j]? = some x) (fun i H x H' y => y) ((ps.map (·.1)).map V.int) (by rw [List.length_map, List.length_map, lxs]) (by omega) hD (fun H2 s2 => SqL.of (s2 _ _ hm)) (fun _ => rfl) ?_ ?_
        · intro j x y H2 hx hy s2 Q2 q2
          have hj : j < ps.length := by rw [← lxs]; exact (List.getElem?_eq_some_iff.mp hx).1
          obtain ⟨t, rfl, ht⟩ := (hps.2 j x ps[j] hx (List.getElem?_eq_getElem hj)).mono s2
          obtain rfl : y = .int ps[j].1 := by
            rw [List.getElem?_map, List.getElem?_map, List.getElem?_eq_getElem hj] at hy
            exact (Option.some.inj hy).symm
          walk_at "rd"
          exact q2 _ (Same.refl _)
        · intro H2 s2 hL
          have hm2 := s2 _ _ hm
          have hP2 := s2 _ _ hP1
          have hps2 := hps.mono s2
          walk_at "rd"
          refine r_notInI (SqL.of hL) ?_
          walk_at "rd"
          refine ite2 (fun e => ?_) (fun e => ?_)
          · have e1 : pc ∉ ps.map (·.1) := by simpa using e
            walk_at "rd"
            refine r_bmL rfl hm2 ?_
            walk_at "rd"
            rw [hpc]
            have x0 := Int.emod_nonneg (cell / 256) (show sp ≠ 0 by omega)
            have x1 := Int.emod_lt_of_pos (cell / 256) (show 0 < sp by omega)
            obtain ⟨hn2, bd, eh⟩ := pick _ x0 (by omega)
            refine r_ixL hP2 eh ?_
            walk_at "rd"
            refine ⟨szL rfl, fun t ht => ?_⟩
            have s3 : Same H2 (upd H2 t (.tup [V.int pc, V.int hn2])) := same_new ht
            have a3 : (upd H2 t (.tup [V.int pc, V.int hn2])) t = some (.tup [V.int pc, V.int hn2]) := upd_same
            generalize upd H2 t (.tup [V.int pc, V.int hn2]) = H3 at s3 a3
            have hm3 := s3 _ _ hm2
            have hps3 : PtsAt H3 (xs ++ [.ref t]) (ps ++ [(pc, hn2)]) := (hps2.mono s3).snoc ⟨t, rfl, a3⟩
            walk_at "rd"
            refine r_append hm3 (small1000 (by omega)) ?_
            refine ⟨_, _, _, _, _, rfl, fun b o n e => by rw [upd_ne n]; exact s3 _ _ (s2 _ _ (fr b o n e)), upd_same, hps3.put hm3, by rw [List.length_append, List.length_singleton]; omega, fun _ => by rw [List.length_append, List.length_singleton]; omega, ?_, fun x hx => ?_, fun x hx => ?_⟩
            · rw [List.map_append]
              refine List.nodup_append.mpr ⟨nd, by simp, fun a ha b hb z => e1 ?_⟩
              obtain rfl : b = pc := by simpa using hb
              rw [← z]
              exact ha
            · rcases List.mem_append.mp hx with z | z
              · exact pls x z
              · rw [List.mem_singleton.mp z]
                exact ⟨y0, y1⟩
            · rcases List.mem_append.mp hx with z | z
              · exact hss x z
              · rw [List.mem_singleton.mp z]
                exact bd
          · walk_at "rd"
            refine ⟨_, _, _, _, ps, rfl, fun b o n e => s2 _ _ (fr b o n e), hm2, hps2, by omega, fun _ => ?_, nd, pls, hss⟩
            have e1 : pc ∈ ps.map (·.1) := by simpa using e
            have := List.length_pos_of_mem e1
            rw [List.length_map] at this
            exact this
      · rintro σ' H1 ⟨u, v, w', xs, ps, rfl, fr, hm, hps, lps, pos, nd, pls, hss⟩
        walk_at "rd"
        refine q _ p xs ps (back fr) hp hm hps ⟨pls, hss, nd, by omega, by decide, by decide, ?_⟩
        have h0 : 0 < ps.length := pos (by omega)
        have : 0 < (dd (ps.map (·.2))).length := List.length_pos_iff.mpr fun z => by
          have := (dd_mem (l := ps.map (·.2)) (j := ps[0].2)).mpr (List.mem_map_of_mem (List.getElem_mem h0))
          rw [z] at this
          cases this
        omega
end
end RH
namespace RH
open PySem L2 ItX
local macro_rules | `(tactic| walk_at "tdc") => `(tactic| first | assumption | decide | omega | exact cmul_r (by decide) (by decide) | exact cmul_l (by decide) (by decide) | exact cpow (by decide) (by decide) (by decide) | exact cdiv (by decide) (by decide) | exact wide_div (b := 200) (by assumption) (by omega) (by decide) (by decide) | exact cmul_r (by omega) (by omega) | exact cmul_l (by omega) (by omega))
local macro_rules | `(tactic| walk_at "td1") => `(tactic| first
  | with_reducible apply r_op | ((with_reducible apply r_var); exact rfl) | with_reducible apply r_c | with_reducible apply r_cons | with_reducible apply r_nil | with_reducible apply r_I0
  | with_reducible apply r_seq | with_reducible apply r_asg | with_reducible apply r_name | with_reducible apply r_cb | with_reducible apply r_test | with_reducible apply r_k
  | with_reducible apply r_ifS | with_reducible apply r_call | with_reducible apply r_ret | ((with_reducible apply r_I); walk_at "tdc") | ((with_reducible apply r_eq); exact rfl) | ((with_reducible apply r_ne); exact rfl)
  | ((with_reducible apply r_ixL); walk_at "tdh"; exact rfl) | ((with_reducible apply r_ixT); walk_at "tdh"; exact rfl) | with_reducible apply r_sub | ((with_reducible apply r_setL); walk_at "tdh"; exact rfl)
  | with_reducible apply r_un | with_reducible apply r_U | with_reducible apply r_B | with_reducible apply r_and | with_reducible apply r_or | with_reducible apply r_not
  | with_reducible apply r_andV | with_reducible apply r_orV | with_reducible apply r_notV | with_reducible apply r_if | with_reducible apply r_tup | with_reducible apply r_lst
  | ((with_reducible apply r_ixgT); walk_at "tdh"; exact rfl) | ((with_reducible apply r_ixgL); walk_at "tdh"; exact rfl)
  | with_reducible apply r_next | with_reducible apply r_drop | with_reducible apply r_int1 | with_reducible apply r_chain | with_reducible apply r_ord | with_reducible apply r_abs | with_reducible apply r_min2 | with_reducible apply r_max2
  | with_reducible apply r_leStr | with_reducible apply r_inSign | with_reducible apply r_notInSign | ((with_reducible apply r_isTy); assumption) | ((with_reducible apply r_notTy); assumption)
  | ((with_reducible apply r_lenL); walk_at "tdh") | ((with_reducible apply r_lenT); walk_at "tdh")
  | ((with_reducible apply r_fldV); exact rfl; walk_at "tdh"; assumption; assumption; exact rfl) | with_reducible apply r_bmG | with_reducible apply r_bm0G | with_reducible apply r_isN | with_reducible apply r_notN | with_reducible apply r_prop | ((with_reducible apply r_prX); walk_at "tdh") | with_reducible apply r_fld | ((apply r_fldX); walk_at "tdh"; assumption; assumption; exact rfl; walk_at "tdi") | with_reducible apply r_mtE | with_reducible apply r_cS | (refine r_gtup (SqT.of (by walk_at "tdh")) rfl ?_) | with_reducible apply r_gcons | with_reducible apply r_gnil | with_reducible apply r_sta | with_reducible apply r_staX | with_reducible apply r_mtG | ((with_reducible apply r_mtX); walk_at "tdh"; exact rfl) | with_reducible apply r_par2 | with_reducible apply r_par3 | ((with_reducible apply r_tyL); walk_at "tdh")
  | refine Rep.typ (by assumption) (fun _ _ => ?_) | refine r_isi (by assumption) (by assumption) (by decide) ?_)
local macro_rules | `(tactic| walk_at "td") => `(tactic| repeat walk_at "td1")
local macro_rules | `(tactic| walk_at "tdf") => `(tactic| (generalize hu : upd _ _ (.lst (_ ++ [_])) = H2; have f := fr_gen hu; have a := at_gen hu; clear hu))
local macro_rules | `(tactic| walk_at "tds") => `(tactic| (generalize hu : upd _ _ (.lst (List.set _ _ _)) = H2; have f := fr_gen hu; have a := at_gen hu; clear hu))
local macro_rules | `(tactic| walk_at "tdev") => `(tactic| first | exact ev_int _ | exact ev_bl _ | exact ev_non | exact ev_str _ (by decide +kernel) | assumption | (refine ev_tup (by walk_at "tdh") ?_; walk_at "tdall") | (refine Ev.mono (by assumption) ?_; walk_at "tdtk"))
local macro_rules | `(tactic| walk_at "tdall") => `(tactic| first | exact allN | (refine List.forall_mem_cons.mpr ⟨?_, ?_⟩; walk_at "tdev"; walk_at "tdall"))
local macro_rules | `(tactic| walk_at "tdn") => `(tactic| (refine ⟨szL rfl, fun p hp => ?_⟩; generalize hu : upd _ p _ = H2; have s := same_gen hu hp; have a := at_gen hu; clear hu))
local macro_rules | `(tactic| walk_at "tdt") => `(tactic| repeat (first | walk_at "td1" | walk_at "tdn" | walk_at "tdm"))
local macro_rules | `(tactic| walk_at "tdg") => `(tactic| (intro p hp; generalize hu : upd _ p _ = H2; have s := same_gen hu hp; have a := at_gen hu; clear hu))
local macro_rules | `(tactic| walk_at "tdh") => `(tactic| first | assumption | exact upd_same | (rw [upd_ne (by assumption)]; assumption) | (rw [upd_ne (Ne.symm (by assumption))]; assumption) | (apply same_step; assumption; walk_at "tdh") | (apply fr_step; assumption; walk_at "tdne"; walk_at "tdh") | (apply fr_stepK; assumption; walk_at "tdh"; walk_at "tdh"; (intro z; cases z)))
local macro_rules | `(tactic| walk_at "tdne") => `(tactic| first | assumption | exact Ne.symm (by assumption) | (apply ne_noneX; assumption; walk_at "tdh") | (apply Ne.symm; apply ne_noneX; assumption; walk_at "tdh"))
local macro_rules | `(tactic| walk_at "tdsm") => `(tactic| first | assumption | exact Same.refl _ | (apply same_chain; assumption; walk_at "tdsm") | (apply same_frX; assumption; walk_at "tdsm"; walk_at "tdno"))
local macro_rules | `(tactic| walk_at "tdno") => `(tactic| first | assumption | (apply none_backX; assumption; walk_at "tdsm"))
local macro_rules | `(tactic| walk_at "tdtk") => `(tactic| first | assumption | exact TuK.refl _ | (apply tuk_same; assumption; walk_at "tdtk") | (apply tuk_fr; assumption; walk_at "tdh"; walk_at "tdtk") | (apply tuk_frI; assumption; walk_at "tdh"; walk_at "tdtk"))
local macro_rules | `(tactic| walk_at "tdi") => `(tactic| (generalize hu : upd _ _ (.ins _ _ (putF _ _ _)) = H2; have f := fr_gen hu; have a := at_gen hu; clear hu))
local macro_rules | `(tactic| walk_at "tdrp") => `(tactic| first | exact .int _ | exact .bl _ | exact .non | exact .str _ (okS_of (by decide +kernel)) | assumption | (apply rep_monoX; assumption; walk_at "tdsm") | (apply rep_tupA; walk_at "tdh"; walk_at "tdrpa"; exact leB rfl) | (apply rep_lstA; walk_at "tdh"; walk_at "tdrpa"; exact leB rfl) | exact .dct (by walk_at "tdh"))
local macro_rules | `(tactic| walk_at "tdrpa") => `(tactic| first | exact .nil | (apply RepAll.cons; walk_at "tdrp"; walk_at "tdrpa"))
local macro_rules | `(tactic| walk_at "tdm") => `(tactic| first | ((with_reducible apply r_catT); walk_at "tdh"; walk_at "tdh"; exact List.cons_ne_nil _ _; exact List.cons_ne_nil _ _; exact szL rfl; walk_at "tdg") | ((with_reducible apply r_listTU); walk_at "tdh"; walk_at "tdg") | ((with_reducible apply r_listL); walk_at "tdh"; walk_at "tdg") | ((with_reducible apply r_dnew); walk_at "tdg") | with_reducible apply r_slice | with_reducible apply r_nopart | with_reducible apply r_part | with_reducible apply r_pI | ((with_reducible apply r_slT); walk_at "tdh"; exact of_decide_eq_false rfl; walk_at "tdg") | ((with_reducible apply r_slL); walk_at "tdh"; walk_at "tdg"))

section
variable {P : Program} {w : World} {K : PySem.W.Frag} {mg : Str → Option Value} {base : Heap} {CC : Addr → Prop}
theorem ok__law_bad_point {f : Addr} {fd : FuncData} (F : Fun K "_law_bad_point" "_law_bad_point" s__law_bad_point f fd) (T : Txt K mg) : FnOk P w K mg base CX0 1 f fd ["point", "draw"] (spBadPt K CC) := by
  refine F.ok sc__law_bad_point (fun vs H Q E h => ?_) (fun cdv A outer s H vs Q E hr h => ?_)
  · obtain ⟨t, a, b, d, rfl, _⟩ := h
    rfl
  · obtain ⟨t, a, b, d, rfl, ht, d0, q⟩ := h
    refine ⟨_, (pss_cons (ps_set (i := 2) sc__law_bad_point.nd rfl (Or.inl rfl) (pe_op op_add (pe_op op_add (pe_op op_pow pe_int pe_int) pe_int) (pv 1)))
 (pss_cons (ps_set (i := 3) sc__law_bad_point.nd rfl (Or.inl rfl) (pe_tup (pa_cons (pe_tup (pa_cons (pe_un un_neg pe_int) (pa_cons (pe_ix ix_tup (pv 0) pe_int (fun _ _ => rfl)) pa_nil))) (pa_cons (pe_tup (pa_cons pe_int (pa_cons (pe_ix ix_tup (pv 0) pe_int (fun _ _ => rfl)) pa_nil))) (pa_cons (pe_tup (pa_cons (pv 2) (pa_cons (pe_ix ix_tup (pv 0) pe_int (fun _ _ => rfl)) pa_nil))) (pa_cons (pe_tup (pa_cons pe_bl (pa_cons (pe_ix ix_tup (pv 0) pe_int (fun _ _ => rfl)) pa_nil))) (pa_cons (pe_tup (pa_cons pe_str (pa_cons (pe_ix ix_tup (pv 0) pe_int (fun _ _ => rfl)) pa_nil))) (pa_cons (pe_tup (pa_cons pe_non (pa_cons (pe_ix ix_tup (pv 0) pe_int (fun _ _ => rfl)) pa_nil))) pa_nil))))))))
 (pss_cons (ps_set (i := 3) sc__law_bad_point.nd rfl (Or.inl rfl) (pe_op op_catT (pv 3) (pe_tup (pa_cons (pe_tup (pa_cons (pe_ix ix_tup (pv 0) pe_int (fun _ _ => rfl)) (pa_cons (pe_op op_sub (pe_un un_neg pe_int) (pv 1)) pa_nil))) (pa_cons (pe_tup (pa_cons (pe_ix ix_tup (pv 0) pe_int (fun _ _ => rfl)) (pa_cons (pv 2) pa_nil))) (pa_cons (pe_tup (pa_cons (pe_ix ix_tup (pv 0) pe_int (fun _ _ => rfl)) (pa_cons pe_bl pa_nil))) (pa_cons (pe_tup (pa_cons (pe_ix ix_tup (pv 0) pe_int (fun _ _ => rfl)) (pa_cons pe_str pa_nil))) (pa_cons (pe_tup (pa_cons (pe_ix ix_tup (pv 0) pe_int (fun _ _ => rfl)) (pa_cons pe_non pa_nil))) pa_nil))))))))
 (pss_cons (ps_set (i := 3) sc__law_bad_point.nd rfl (Or.inl rfl) (pe_op op_catT (pv 3) (pe_tup (pa_cons (pe_callTy call_listG rfl T.z_list (by decide +kernel) (pa_cons (pv 0) pa_nil)) (pa_cons (pe_slice sl_tup (pv 0) po_none (po_some pe_int)) (pa_cons (pe_op op_catT (pv 0) (pe_tup (pa_cons pe_int pa_nil))) (pa_cons (pe_ix ix_tup (pv 0) pe_int (fun _ _ => rfl)) (pa_cons pe_non (pa_cons (pe_tup pa_nil) (pa_cons (pe_tup (pa_cons (pe_tup (pa_cons (pe_ix ix_tup (pv 0) pe_int (fun _ _ => rfl)) (pa_cons (pe_ix ix_tup (pv 0) pe_int (fun _ _ => rfl)) pa_nil))) pa_nil)) (pa_cons (pe_tup (pa_cons (pe_ix ix_tup (pv 0) pe_int (fun _ _ => rfl)) (pa_cons (pe_tup (pa_cons pe_int pa_nil)) pa_nil))) pa_nil)))))))))))
 (pss_one (ps_ret (pe_ix ix_tup (pv 3) (pe_op op_mod (pv 1) pe_int) (fun _ _ => rfl)))))))), ?_⟩
    walk_at "tdt"
    have e12 : (10 : Int) ^ (12 : Int).toNat = 1000000000000 := by decide +kernel
    refine r_ixMemT (by walk_at "tdh") (Int.emod_nonneg _ (by decide)) (by show _ < (19 : Int); exact Int.emod_lt_of_pos _ (by decide)) ?_
    simp only [List.forall_mem_cons, List.cons_append, List.nil_append]
    have b1 : isNum (.int (10 ^ (12 : Int).toNat + 1 + d)) = false := by rw [e12]; exact num_big (.inl (by omega))
    have b2 : isNum (.int (-1 - d)) = false := num_big (.inr (by omega))
    have fin : ∀ v e H', Same H H' → Rep K CC H' v e → isPtD e = false → Q v H' := fun v e H' s1 R z => q H' v e s1 R z
    refine ⟨?_, ?_, ?_, ?_, ?_, ?_, ?_, ?_, ?_, ?_, ?_, ?_, ?_, ?_, ?_, ?_, ?_, ?_, ?_, allN⟩
    all_goals
      apply q
      walk_at "tdsm"
      walk_at "tdrp"
      first
        | rfl
        | exact ptl b1
        | exact ptr b1
        | exact ptr b2
        | exact ptl rfl
        | exact ptr rfl
end
end RH
namespace RH
open PySem L2 ItX
local macro_rules | `(tactic| walk_at "tdc") => `(tactic| first | assumption | decide | omega | exact cmul_r (by decide) (by decide) | exact cmul_l (by decide) (by decide) | exact cpow (by decide) (by decide) (by decide) | exact cdiv (by decide) (by decide) | exact wide_div (b := 200) (by assumption) (by omega) (by decide) (by decide) | exact cmul_r (by omega) (by omega) | exact cmul_l (by omega) (by omega))
local macro_rules | `(tactic| walk_at "td1") => `(tactic| first
  | with_reducible apply r_op | ((with_reducible apply r_var); exact rfl) | with_reducible apply r_c | with_reducible apply r_cons | with_reducible apply r_nil | with_reducible apply r_I0
  | with_reducible apply r_seq | with_reducible apply r_asg | with_reducible apply r_name | with_reducible apply r_cb | with_reducible apply r_test | with_reducible apply r_k
  | with_reducible apply r_ifS | with_reducible apply r_call | with_reducible apply r_ret | ((with_reducible apply r_I); walk_at "tdc") | ((with_reducible apply r_eq); exact rfl) | ((with_reducible apply r_ne); exact rfl)
  | ((with_reducible apply r_ixL); walk_at "tdh"; exact rfl) | ((with_reducible apply r_ixT); walk_at "tdh"; exact rfl) | with_reducible apply r_sub | ((with_reducible apply r_setL); walk_at "tdh"; exact rfl)
  | with_reducible apply r_un | with_reducible apply r_U | with_reducible apply r_B | with_reducible apply r_and | with_reducible apply r_or | with_reducible apply r_not
  | with_reducible apply r_andV | with_reducible apply r_orV | with_reducible apply r_notV | with_reducible apply r_if | with_reducible apply r_tup | with_reducible apply r_lst
  | ((with_reducible apply r_ixgT); walk_at "tdh"; exact rfl) | ((with_reducible apply r_ixgL); walk_at "tdh"; exact rfl)
  | with_reducible apply r_next | with_reducible apply r_drop | with_reducible apply r_int1 | with_reducible apply r_chain | with_reducible apply r_ord | with_reducible apply r_abs | with_reducible apply r_min2 | with_reducible apply r_max2
  | with_reducible apply r_leStr | with_reducible apply r_inSign | with_reducible apply r_notInSign | ((with_reducible apply r_isTy); assumption) | ((with_reducible apply r_notTy); assumption)
  | ((with_reducible apply r_lenL); walk_at "tdh") | ((with_reducible apply r_lenT); walk_at "tdh")
  | ((with_reducible apply r_fldV); exact rfl; walk_at "tdh"; assumption; assumption; exact rfl) | with_reducible apply r_bmG | with_reducible apply r_bm0G | with_reducible apply r_isN | with_reducible apply r_notN | with_reducible apply r_prop | ((with_reducible apply r_prX); walk_at "tdh") | with_reducible apply r_fld | ((apply r_fldX); walk_at "tdh"; assumption; assumption; exact rfl; walk_at "tdi") | with_reducible apply r_mtE | with_reducible apply r_cS | (refine r_gtup (SqT.of (by walk_at "tdh")) rfl ?_) | with_reducible apply r_gcons | with_reducible apply r_gnil | with_reducible apply r_sta | with_reducible apply r_staX | with_reducible apply r_mtG | ((with_reducible apply r_mtX); walk_at "tdh"; exact rfl) | with_reducible apply r_par2 | with_reducible apply r_par3 | ((with_reducible apply r_tyL); walk_at "tdh")
  | refine Rep.typ (by assumption) (fun _ _ => ?_) | refine r_isi (by assumption) (by assumption) (by decide) ?_)
local macro_rules | `(tactic| walk_at "td") => `(tactic| repeat walk_at "td1")
local macro_rules | `(tactic| walk_at "tdf") => `(tactic| (generalize hu : upd _ _ (.lst (_ ++ [_])) = H2; have f := fr_gen hu; have a := at_gen hu; clear hu))
local macro_rules | `(tactic| walk_at "tds") => `(tactic| (generalize hu : upd _ _ (.lst (List.set _ _ _)) = H2; have f := fr_gen hu; have a := at_gen hu; clear hu))
local macro_rules | `(tactic| walk_at "tdev") => `(tactic| first | exact ev_int _ | exact ev_bl _ | exact ev_non | exact ev_str _ (by decide +kernel) | assumption | (refine ev_tup (by walk_at "tdh") ?_; walk_at "tdall") | (refine Ev.mono (by assumption) ?_; walk_at "tdtk"))
local macro_rules | `(tactic| walk_at "tdall") => `(tactic| first | exact allN | (refine List.forall_mem_cons.mpr ⟨?_, ?_⟩; walk_at "tdev"; walk_at "tdall"))
local macro_rules | `(tactic| walk_at "tdn") => `(tactic| (refine ⟨szL rfl, fun p hp => ?_⟩; generalize hu : upd _ p _ = H2; have s := same_gen hu hp; have a := at_gen hu; clear hu))
local macro_rules | `(tactic| walk_at "tdt") => `(tactic| repeat (first | walk_at "td1" | walk_at "tdn" | walk_at "tdm"))
local macro_rules | `(tactic| walk_at "tdg") => `(tactic| (intro p hp; generalize hu : upd _ p _ = H2; have s := same_gen hu hp; have a := at_gen hu; clear hu))
local macro_rules | `(tactic| walk_at "tdh") => `(tactic| first | assumption | exact upd_same | (rw [upd_ne (by assumption)]; assumption) | (rw [upd_ne (Ne.symm (by assumption))]; assumption) | (apply same_step; assumption; walk_at "tdh") | (apply fr_step; assumption; walk_at "tdne"; walk_at "tdh") | (apply fr_stepK; assumption; walk_at "tdh"; walk_at "tdh"; (intro z; cases z)))
local macro_rules | `(tactic| walk_at "tdne") => `(tactic| first | assumption | exact Ne.symm (by assumption) | (apply ne_noneX; assumption; walk_at "tdh") | (apply Ne.symm; apply ne_noneX; assumption; walk_at "tdh"))
local macro_rules | `(tactic| walk_at "tdsm") => `(tactic| first | assumption | exact Same.refl _ | (apply same_chain; assumption; walk_at "tdsm") | (apply same_frX; assumption; walk_at "tdsm"; walk_at "tdno"))
local macro_rules | `(tactic| walk_at "tdno") => `(tactic| first | assumption | (apply none_backX; assumption; walk_at "tdsm"))
local macro_rules | `(tactic| walk_at "tdtk") => `(tactic| first | assumption | exact TuK.refl _ | (apply tuk_same; assumption; walk_at "tdtk") | (apply tuk_fr; assumption; walk_at "tdh"; walk_at "tdtk") | (apply tuk_frI; assumption; walk_at "tdh"; walk_at "tdtk"))
local macro_rules | `(tactic| walk_at "tdi") => `(tactic| (generalize hu : upd _ _ (.ins _ _ (putF _ _ _)) = H2; have f := fr_gen hu; have a := at_gen hu; clear hu))
local macro_rules | `(tactic| walk_at "tdrp") => `(tactic| first | exact .int _ | exact .bl _ | exact .non | exact .str _ (okS_of (by decide +kernel)) | assumption | (apply rep_monoX; assumption; walk_at "tdsm") | (apply rep_tupA; walk_at "tdh"; walk_at "tdrpa"; exact leB rfl) | (apply rep_lstA; walk_at "tdh"; walk_at "tdrpa"; exact leB rfl) | exact .dct (by walk_at "tdh"))
local macro_rules | `(tactic| walk_at "tdrpa") => `(tactic| first | exact .nil | (apply RepAll.cons; walk_at "tdrp"; walk_at "tdrpa"))
local macro_rules | `(tactic| walk_at "tdm") => `(tactic| first | ((with_reducible apply r_catT); walk_at "tdh"; walk_at "tdh"; exact List.cons_ne_nil _ _; exact List.cons_ne_nil _ _; exact szL rfl; walk_at "tdg") | ((with_reducible apply r_listTU); walk_at "tdh"; walk_at "tdg") | ((with_reducible apply r_listL); walk_at "tdh"; walk_at "tdg") | ((with_reducible apply r_dnew); walk_at "tdg") | with_reducible apply r_slice | with_reducible apply r_nopart | with_reducible apply r_part | with_reducible apply r_pI | ((with_reducible apply r_slT); walk_at "tdh"; exact of_decide_eq_false rfl; walk_at "tdg") | ((with_reducible apply r_slL); walk_at "tdh"; walk_at "tdg"))

section
variable {P : Program} {w : World} {K : PySem.W.Frag} {mg : Str → Option Value} {base : Heap} {CC : Addr → Prop}
theorem ok__law_bad_points {f : Addr} {fd : FuncData} (F : Fun K "_law_bad_points" "_law_bad_points" s__law_bad_points f fd) (T : Txt K mg) (c__law_bad_point : C8.Cal P w K mg base 1 "_law_bad_point" (spBadPt K CC) []) : FnOk P w K mg base CX0 2 f fd ["points", "draw", "more"] (spBadPts K CC) := by
  refine F.ok sc__law_bad_points (fun vs H Q E h => ?_) (fun cdv A outer s H vs Q E hr h => ?_)
  · obtain ⟨p, xs, ps, d, m, rfl, _⟩ := h
    rfl
  · obtain ⟨p, xs, ps, d, m, rfl, hp, hP, ok, ne, d0, m0, q⟩ := h
    refine ⟨_, (pss_cons (ps_set (i := 3) sc__law_bad_points.nd rfl (Or.inl rfl) (pe_op op_mod (pv 2) (pe_callB call_lenG rfl T.z_len (by decide +kernel) (pa_cons (pv 0) pa_nil))))
 (pss_cons (ps_if (pt_cmpR op_eq (pe_op op_mod (pv 1) pe_int) pe_int (nomark _))
 (pss_one (ps_ret (pe_op op_cat (pe_op op_cat (pe_slice sl_list (pv 0) po_none (po_some (pv 3))) (pe_lst (pa_cons (C8.pe_c c__law_bad_point hr (by decide) rfl (pa_cons (pe_ix ix_list (pv 0) (pv 3) (fun _ _ => rfl)) (pa_cons (pe_op op_fdiv (pv 2) pe_int) pa_nil))) pa_nil))) (pe_slice sl_list (pv 0) (po_some (pe_op op_add (pv 3) pe_int)) po_none))))
 pss_nil)
 (pss_cons (ps_if (pt_cmpR op_eq (pe_op op_mod (pv 1) pe_int) pe_int (nomark _))
 (pss_one (ps_ret (pe_op op_cat (pe_op op_cat (pe_slice sl_list (pv 0) po_none (po_some (pv 3))) (pe_lst (pa_cons (pe_tup (pa_cons (pe_ix ix_seq (pe_ix ix_list (pv 0) (pe_op op_mod (pe_op op_fdiv (pv 1) pe_int) (pe_callB call_lenG rfl T.z_len (by decide +kernel) (pa_cons (pv 0) pa_nil))) (fun _ _ => rfl)) pe_int (fun _ _ => rfl)) (pa_cons (pe_op op_add (pe_ix ix_seq (pe_ix ix_list (pv 0) (pv 3) (fun _ _ => rfl)) pe_int (fun _ _ => rfl)) (pe_op op_mod (pv 2) pe_int)) pa_nil))) pa_nil))) (pe_slice sl_list (pv 0) (po_some (pv 3)) po_none))))
 pss_nil)
 (pss_cons (ps_if (pt_cmpR op_eq (pe_op op_mod (pv 1) pe_int) pe_int (nomark _))
 (pss_one (ps_ret (pe_lst pa_nil)))
 pss_nil)
 (pss_one (ps_ret (pe_op op_cat (pv 0) (pe_lst (pa_cons (C8.pe_c c__law_bad_point hr (by decide) rfl (pa_cons (pe_ix ix_list (pv 0) (pv 3) (fun _ _ => rfl)) (pa_cons (pe_op op_fdiv (pv 2) pe_int) pa_nil))) pa_nil))))))))), ?_⟩
    have lx := hP.1
    have few := ok.le256
    have pos : 0 < ps.length := List.length_pos_iff.mpr ne
    have RA : RepAll K CC H xs (ps.map ptD') := pts_all hP
    walk_at "td"
    have pl0 : 0 ≤ m % (xs.length : Int) := Int.emod_nonneg _ (by omega)
    have pl1 : m % (xs.length : Int) < xs.length := Int.emod_lt_of_pos _ (by omega)
    generalize m % (xs.length : Int) = pl at pl0 pl1
    obtain ⟨k, rfl⟩ : ∃ k : Nat, pl = (k : Int) := ⟨pl.toNat, by omega⟩
    have hk : k < ps.length := by omega
    obtain ⟨t, et, ht⟩ := hP.at_ hk
    refine ite2 (fun e => ?_) (fun e => ?_)
    · walk_at "tdt"
      refine r_ixL (by walk_at "tdh") (atI_nat et) ?_
      walk_at "tdt"
      refine ⟨t, _, _, _, rfl, by walk_at "tdh", Int.ediv_nonneg m0 (by decide), fun H4 v e s4 R4 bad => ?_⟩
      walk_at "tdt"
      refine r_cat (by walk_at "tdh") (by walk_at "tdh") (by rw [cutV_to, List.length_take]; exact sz1000 (by simp only [List.length_singleton]; omega)) ?_
      walk_at "tdg"
      walk_at "tdt"
      refine r_cat (by walk_at "tdh") (by walk_at "tdh") (by rw [cutV_to, cutV_from1 (by omega)]; exact sz1000 (by simp only [List.length_append, List.length_take, List.length_drop, List.length_singleton]; omega)) fun l hl => ?_
      generalize hu : upd _ l _ = H9
      have s9 := same_gen hu hl
      have a9 := at_gen hu
      clear hu
      rw [cutV_to, cutV_from1 (by omega)] at a9
      walk_at "tdt"
      have sm4 : Same H4 H9 := by walk_at "tdsm"
      refine q H9 l _ _ (by walk_at "tdsm") (by walk_at "tdno") a9 (((RA.take k).mono (by walk_at "tdsm")).app (.cons (R4.mono sm4) .nil) |>.app ((RA.drop (k + 1)).mono (by walk_at "tdsm"))) (by simp only [List.length_append, List.length_take, List.length_drop, List.length_map, List.length_cons, List.length_nil]; omega) fun c => ?_
      exact no_ring (d := e) (List.mem_append_left _ (List.mem_append_right _ List.mem_cons_self)) bad
    · walk_at "tdt"
      refine ite2 (fun e2 => ?_) (fun e2 => ?_)
      · walk_at "tdt"
        have j0 : 0 ≤ d / 4 % (xs.length : Int) := Int.emod_nonneg _ (by omega)
        have j1 : d / 4 % (xs.length : Int) < xs.length := Int.emod_lt_of_pos _ (by omega)
        generalize d / 4 % (xs.length : Int) = jl at j0 j1
        obtain ⟨j, rfl⟩ : ∃ j : Nat, jl = (j : Int) := ⟨jl.toNat, by omega⟩
        have hj : j < ps.length := by omega
        obtain ⟨t2, et2, ht2⟩ := hP.at_ hj
        refine r_ixL (by walk_at "tdh") (atI_nat et2) ?_
        walk_at "tdt"
        refine r_ixL (by walk_at "tdh") (atI_nat et) ?_
        walk_at "tdt"
        refine r_cat (by walk_at "tdh") (by walk_at "tdh") (by rw [cutV_to, List.length_take]; exact sz1000 (by simp only [List.length_singleton]; omega)) ?_
        walk_at "tdg"
        walk_at "tdt"
        refine r_cat (by walk_at "tdh") (by walk_at "tdh") (by rw [cutV_to, cutV_from (by omega)]; exact sz1000 (by simp only [List.length_append, List.length_take, List.length_drop, List.length_singleton]; omega)) fun l hl => ?_
        generalize hu : upd _ l _ = H9
        have s9 := same_gen hu hl
        have a9 := at_gen hu
        clear hu
        rw [cutV_to, cutV_from (by omega)] at a9
        walk_at "tdt"
        refine q H9 l _ _ (by walk_at "tdsm") (by walk_at "tdno") a9 ((((RA.take k).mono (by walk_at "tdsm")).app (.cons (d := .tup [.int ps[j].1, .int (ps[k].2 + m % 2)]) (by walk_at "tdrp") .nil)).app ((RA.drop k).mono (by walk_at "tdsm"))) (by simp only [List.length_append, List.length_take, List.length_drop, List.length_map, List.length_cons, List.length_nil]; omega) fun c => ?_
        refine twice_ring fun nd => ?_
        have e5 : (((ps.map ptD').take k ++ [D.tup [.int ps[j].1, .int (ps[k].2 + m % 2)]] ++ (ps.map ptD').drop k).map fun d => (ptD d).1) = (ps.map (·.1)).take k ++ [ps[j].1] ++ (ps.map (·.1)).drop k := by
          rw [List.map_append, List.map_append, List.map_take, List.map_drop, List.map_map]
          rfl
        rw [e5] at nd
        have m1 : ps[j].1 ∈ ps.map (·.1) := List.mem_map_of_mem (List.getElem_mem hj)
        rw [← List.take_append_drop k (ps.map (·.1))] at m1
        rw [List.append_assoc, List.nodup_append] at nd
        rcases List.mem_append.mp m1 with z | z
        · exact nd.2.2 _ z _ List.mem_cons_self rfl
        · exact (List.nodup_cons.mp nd.2.1).1 z
      · walk_at "tdt"
        refine ite2 (fun e3 => ?_) (fun e3 => ?_)
        · walk_at "td"
          refine ⟨szL rfl, fun l hl => ?_⟩
          exact q _ l [] [] (same_new hl) hl upd_same .nil (by decide) fun c => nil_ring
        · walk_at "tdt"
          refine r_ixL hp (atI_nat et) ?_
          walk_at "tdt"
          refine ⟨t, _, _, _, rfl, ht, Int.ediv_nonneg m0 (by decide), fun H4 v e s4 R4 bad => ?_⟩
          walk_at "tdt"
          refine r_cat (by walk_at "tdh") (by walk_at "tdh") (sz1000 (by simp only [List.length_singleton]; omega)) fun l hl => ?_
          generalize hu : upd _ l _ = H9
          have s9 := same_gen hu hl
          have a9 := at_gen hu
          clear hu
          have sm4 : Same H4 H9 := by walk_at "tdsm"
          refine q H9 l _ _ (by walk_at "tdsm") (by walk_at "tdno") a9 ((RA.mono (by walk_at "tdsm")).app (.cons (R4.mono sm4) .nil)) (by simp only [List.length_append, List.length_map, List.length_cons, List.length_nil]; omega) fun c => ?_
          exact no_ring (d := e) (List.mem_append_right _ List.mem_cons_self) bad
end
end RH
namespace RH
open PySem L2 ItX
local macro_rules | `(tactic| walk_at "tdc") => `(tactic| first | assumption | decide | omega | exact cmul_r (by decide) (by decide) | exact cmul_l (by decide) (by decide) | exact cpow (by decide) (by decide) (by decide) | exact cdiv (by decide) (by decide) | exact wide_div (b := 200) (by assumption) (by omega) (by decide) (by decide) | exact cmul_r (by omega) (by omega) | exact cmul_l (by omega) (by omega))
local macro_rules | `(tactic| walk_at "td1") => `(tactic| first
  | with_reducible apply r_op | ((with_reducible apply r_var); exact rfl) | with_reducible apply r_c | with_reducible apply r_cons | with_reducible apply r_nil | with_reducible apply r_I0
  | with_reducible apply r_seq | with_reducible apply r_asg | with_reducible apply r_name | with_reducible apply r_cb | with_reducible apply r_test | with_reducible apply r_k
  | with_reducible apply r_ifS | with_reducible apply r_call | with_reducible apply r_ret | ((with_reducible apply r_I); walk_at "tdc") | ((with_reducible apply r_eq); exact rfl) | ((with_reducible apply r_ne); exact rfl)
  | ((with_reducible apply r_ixL); walk_at "tdh"; exact rfl) | ((with_reducible apply r_ixT); walk_at "tdh"; exact rfl) | with_reducible apply r_sub | ((with_reducible apply r_setL); walk_at "tdh"; exact rfl)
  | with_reducible apply r_un | with_reducible apply r_U | with_reducible apply r_B | with_reducible apply r_and | with_reducible apply r_or | with_reducible apply r_not
  | with_reducible apply r_andV | with_reducible apply r_orV | with_reducible apply r_notV | with_reducible apply r_if | with_reducible apply r_tup | with_reducible apply r_lst
  | ((with_reducible apply r_ixgT); walk_at "tdh"; exact rfl) | ((with_reducible apply r_ixgL); walk_at "tdh"; exact rfl)
  | with_reducible apply r_next | with_reducible apply r_drop | with_reducible apply r_int1 | with_reducible apply r_chain | with_reducible apply r_ord | with_reducible apply r_abs | with_reducible apply r_min2 | with_reducible apply r_max2
  | with_reducible apply r_leStr | with_reducible apply r_inSign | with_reducible apply r_notInSign | ((with_reducible apply r_isTy); assumption) | ((with_reducible apply r_notTy); assumption)
  | ((with_reducible apply r_lenL); walk_at "tdh") | ((with_reducible apply r_lenT); walk_at "tdh")
  | ((with_reducible apply r_fldV); exact rfl; walk_at "tdh"; assumption; assumption; exact rfl) | with_reducible apply r_bmG | with_reducible apply r_bm0G | with_reducible apply r_isN | with_reducible apply r_notN | with_reducible apply r_prop | ((with_reducible apply r_prX); walk_at "tdh") | with_reducible apply r_fld | ((apply r_fldX); walk_at "tdh"; assumption; assumption; exact rfl; walk_at "tdi") | with_reducible apply r_mtE | with_reducible apply r_cS | (refine r_gtup (SqT.of (by walk_at "tdh")) rfl ?_) | with_reducible apply r_gcons | with_reducible apply r_gnil | with_reducible apply r_sta | with_reducible apply r_staX | with_reducible apply r_mtG | ((with_reducible apply r_mtX); walk_at "tdh"; exact rfl) | with_reducible apply r_par2 | with_reducible apply r_par3 | ((with_reducible apply r_tyL); walk_at "tdh")
  | refine Rep.typ (by assumption) (fun _ _ => ?_) | refine r_isi (by assumption) (by assumption) (by decide) ?_)
local macro_rules | `(tactic| walk_at "td") => `(tactic| repeat walk_at "td1")
local macro_rules | `(tactic| walk_at "tdf") => `(tactic| (generalize hu : upd _ _ (.lst (_ ++ [_])) = H2; have f := fr_gen hu; have a := at_gen hu; clear hu))
local macro_rules | `(tactic| walk_at "tds") => `(tactic| (generalize hu : upd _ _ (.lst (List.set _ _ _)) = H2; have f := fr_gen hu; have a := at_gen hu; clear hu))
local macro_rules | `(tactic| walk_at "tdev") => `(tactic| first | exact ev_int _ | exact ev_bl _ | exact ev_non | exact ev_str _ (by decide +kernel) | assumption | (refine ev_tup (by walk_at "tdh") ?_; walk_at "tdall") | (refine Ev.mono (by assumption) ?_; walk_at "tdtk"))
local macro_rules | `(tactic| walk_at "tdall") => `(tactic| first | exact allN | (refine List.forall_mem_cons.mpr ⟨?_, ?_⟩; walk_at "tdev"; walk_at "tdall"))
local macro_rules | `(tactic| walk_at "tdn") => `(tactic| (refine ⟨szL rfl, fun p hp => ?_⟩; generalize hu : upd _ p _ = H2; have s := same_gen hu hp; have a := at_gen hu; clear hu))
local macro_rules | `(tactic| walk_at "tdt") => `(tactic| repeat (first | walk_at "td1" | walk_at "tdn" | walk_at "tdm"))
local macro_rules | `(tactic| walk_at "tdg") => `(tactic| (intro p hp; generalize hu : upd _ p _ = H2; have s := same_gen hu hp; have a := at_gen hu; clear hu))
local macro_rules | `(tactic| walk_at "tdh") => `(tactic| first | assumption | exact upd_same | (rw [upd_ne (by assumption)]; assumption) | (rw [upd_ne (Ne.symm (by assumption))]; assumption) | (apply same_step; assumption; walk_at "tdh") | (apply fr_step; assumption; walk_at "tdne"; walk_at "tdh") | (apply fr_stepK; assumption; walk_at "tdh"; walk_at "tdh"; (intro z; cases z)))
local macro_rules | `(tactic| walk_at "tdne") => `(tactic| first | assumption | exact Ne.symm (by assumption) | (apply ne_noneX; assumption; walk_at "tdh") | (apply Ne.symm; apply ne_noneX; assumption; walk_at "tdh"))
local macro_rules | `(tactic| walk_at "tdsm") => `(tactic| first | assumption | exact Same.refl _ | (apply same_chain; assumption; walk_at "tdsm") | (apply same_frX; assumption; walk_at "tdsm"; walk_at "tdno"))
local macro_rules | `(tactic| walk_at "tdno") => `(tactic| first | assumption | (apply none_backX; assumption; walk_at "tdsm"))
local macro_rules | `(tactic| walk_at "tdtk") => `(tactic| first | assumption | exact TuK.refl _ | (apply tuk_same; assumption; walk_at "tdtk") | (apply tuk_fr; assumption; walk_at "tdh"; walk_at "tdtk") | (apply tuk_frI; assumption; walk_at "tdh"; walk_at "tdtk"))
local macro_rules | `(tactic| walk_at "tdi") => `(tactic| (generalize hu : upd _ _ (.ins _ _ (putF _ _ _)) = H2; have f := fr_gen hu; have a := at_gen hu; clear hu))
local macro_rules | `(tactic| walk_at "tdrp") => `(tactic| first | exact .int _ | exact .bl _ | exact .non | exact .str _ (okS_of (by decide +kernel)) | assumption | (apply rep_monoX; assumption; walk_at "tdsm") | (apply rep_tupA; walk_at "tdh"; walk_at "tdrpa"; exact leB rfl) | (apply rep_lstA; walk_at "tdh"; walk_at "tdrpa"; exact leB rfl) | exact .dct (by walk_at "tdh"))
local macro_rules | `(tactic| walk_at "tdrpa") => `(tactic| first | exact .nil | (apply RepAll.cons; walk_at "tdrp"; walk_at "tdrpa"))
local macro_rules | `(tactic| walk_at "tdm") => `(tactic| first | ((with_reducible apply r_catT); walk_at "tdh"; walk_at "tdh"; exact List.cons_ne_nil _ _; exact List.cons_ne_nil _ _; exact szL rfl; walk_at "tdg") | ((with_reducible apply r_listTU); walk_at "tdh"; walk_at "tdg") | ((with_reducible apply r_listL); walk_at "tdh"; walk_at "tdg") | ((with_reducible apply r_dnew); walk_at "tdg") | with_reducible apply r_slice | with_reducible apply r_nopart | with_reducible apply r_part | with_reducible apply r_pI | ((with_reducible apply r_slT); walk_at "tdh"; exact of_decide_eq_false rfl; walk_at "tdg") | ((with_reducible apply r_slL); walk_at "tdh"; walk_at "tdg"))

-- tail: CB=BadValue
section
variable {P : Program} {w : World} {K : PySem.W.Frag} {mg : Str → Option Value} {base : Heap} {CC : Addr → Prop}
theorem ok__law_bad_copies {f : Addr} {fd : FuncData} (F : Fun K "_law_bad_copies" "_law_bad_copies" s__law_bad_copies f fd) (T : Txt K mg) (c__law_houses : C8.Cal P w K mg base 1 "_law_houses" spHouses []) : FnOk P w K mg base CX0 2 f fd ["points", "draw"] (spBadCp K CC) := by
  refine F.ok sc__law_bad_copies (fun vs H Q E h => ?_) (fun cdv A outer s H vs Q E hr h => ?_)
  · obtain ⟨p, xs, ps, d, rfl, _⟩ := h
    rfl
  · obtain ⟨p, xs, ps, d, rfl, hp, hP, ok, d0, q⟩ := h
    refine ⟨_, (pss_cons (ps_set (i := 2) sc__law_bad_copies.nd rfl (Or.inl rfl) (pe_callB call_lenG rfl T.z_len (by decide +kernel) (pa_cons (C8.pe_c c__law_houses hr (by decide) rfl (pa_cons (pv 0) pa_nil)) pa_nil)))
 (pss_cons (ps_set (i := 3) sc__law_bad_copies.nd rfl (Or.inl rfl) (pe_tup (pa_cons pe_int (pa_cons (pe_un un_neg pe_int) (pa_cons pe_int (pa_cons (pe_op op_add (pe_op op_pow pe_int pe_int) pe_int) (pa_cons (pe_op op_sub (pe_un un_neg pe_int) (pv 1)) (pa_cons pe_bl (pa_cons pe_non (pa_cons pe_str (pa_cons (pe_lst (pa_cons pe_int pa_nil)) (pa_cons (pe_tup (pa_cons pe_int pa_nil)) (pa_cons (pe_op op_add pe_int (pv 1)) (pa_cons (pe_op op_add (pv 2) pe_int) pa_nil))))))))))))))
 (pss_one (ps_ret (pe_ix ix_tup (pv 3) (pe_op op_mod (pv 1) pe_int) (fun _ _ => rfl)))))), ?_⟩
    have few := ok.few
    walk_at "td"
    refine ⟨p, xs, ps, rfl, hp, hP, few, fun H1 ph s1 nh h1 => ?_⟩
    walk_at "tdt"
    have e12 : (10 : Int) ^ (12 : Int).toNat = 1000000000000 := by decide +kernel
    refine r_ixMemT (by walk_at "tdh") (Int.emod_nonneg _ (by decide)) (by show _ < (12 : Int); exact Int.emod_lt_of_pos _ (by decide)) ?_
    simp only [List.forall_mem_cons]
    have fin : ∀ v e H', Same H H' → Rep K CC H' v e → okCp e = false → Q v H' := fun v e H' s2 R z => q H' v e s2 R (cp_ring z) fun _ _ => cp_ring z
    refine ⟨?_, ?_, ?_, ?_, ?_, ?_, ?_, ?_, ?_, ?_, ?_, ?_, allN⟩
    rotate_left 11
    · apply q
      walk_at "tdsm"
      walk_at "tdrp"
      · exact many_ring (by rw [List.length_map]; omega)
      · intro qs pm
        refine many_ring ?_
        rw [dd_same fun j => (pm.map (·.2)).mem_iff, List.length_map]
        omega
    all_goals
      apply fin
      walk_at "tdsm"
      walk_at "tdrp"
      first
        | rfl
        | exact cpI (by rw [e12]; omega)
        | exact cpI (by omega)
theorem ok__law_refuses_ring {f C CB CR CY CH CU : Addr} {fd : FuncData} (F : Fun K "_law_refuses_ring" "_law_refuses_ring" s__law_refuses_ring f fd) (T : Txt K mg) (hC : ∀ C, CC C → ClsI K C) (e_BadValue : Err K mg "BadValue" CB) (e_RingError : Err K mg "RingError" CR) (e_Busy : Err K mg "Busy" CY) (e_HouseDown : Err K mg "HouseDown" CH) (e_Unknown : Err K mg "Unknown" CU)
    (x_BadValue : ExcC K CB) (ex_BadValue_RingError : PySem.W.exmOne K (.ref CB) (.ref CR) = some true) (ko_BadValue_BadValue_true : PySem.W.kitOne K (.ref CB) (.ref CB) = some true) (ko_BadValue_Busy_false : PySem.W.kitOne K (.ref CB) (.ref CY) = some false)
    (ko_BadValue_HouseDown_false : PySem.W.kitOne K (.ref CB) (.ref CH) = some false) (ko_BadValue_Unknown_false : PySem.W.kitOne K (.ref CB) (.ref CU) = some false) (kb_BadValue_ValueError_true : PySem.W.kitOne K (.ref CB) (.type "ValueError") = some true)
    (m_Ring : MakX P w K mg base 5 "Ring" C (spRingX K CC C CB)) : FnOk P w K mg base CX0 7 f fd ["points", "copies"] (spRefR K CC) := by
  refine F.ok sc__law_refuses_ring (fun vs H Q E h => ?_) (fun cdv A outer s H vs Q E hr h => ?_)
  · obtain ⟨a, c, da, dc, rfl, _⟩ := h
    rfl
  · obtain ⟨a, c, da, dc, rfl, Ra, Rc, few, no, q⟩ := h
    refine ⟨_, (pss_cons (ps_try_as (i := 2) rfl rfl sc__law_refuses_ring.nd rfl rfl ⟨rfl, by decide, .inl e_RingError.gF⟩ takes0 (fun W pn xe tk _ => by exact (pss_one (ps_expr (pe_mkT m_Ring hr (by decide) rfl tk (pa_cons (pv 0) (pa_cons (pv 1) pa_nil))))))
 (fun a oe cls d pn hz hf => by exact (pss_cons (ps_if (PW.pt (pw_or (pt_not (pt_val (pe_callB (call_isEx hz hf) rfl T.z_isinstance (by decide +kernel) (pa_cons (pv 2) (pa_cons (pe_err e_BadValue rfl) pa_nil))))) (pw_or1 (pt_not (pt_val (pe_callB (call_isEx hz hf) rfl T.z_isinstance (by decide +kernel) (pa_cons (pv 2) (pa_cons (pe_bltn (v := .ty "ValueError") (u := .type "ValueError") rfl T.z_ValueError (by decide +kernel) rfl) pa_nil))))))))
 (pss_one (ps_ret pe_bl))
 pss_nil)
 (pss_one (ps_ret (pe_and (pe_not (pe_callB (call_isEx hz hf) rfl T.z_isinstance (by decide +kernel) (pa_cons (pv 2) (pa_cons (pe_err e_Busy rfl) pa_nil)))) (pe_and (pe_not (pe_callB (call_isEx hz hf) rfl T.z_isinstance (by decide +kernel) (pa_cons (pv 2) (pa_cons (pe_err e_HouseDown rfl) pa_nil)))) (pe_one (pe_not (pe_callB (call_isEx hz hf) rfl T.z_isinstance (by decide +kernel) (pa_cons (pv 2) (pa_cons (pe_err e_Unknown rfl) pa_nil))))))))))))
 (pss_one (ps_ret pe_bl))), ?_⟩
    walk_at "td"
    refine r_mk ?_
    walk_at "td"
    intro x dx hx hdx nx
    have s1 : Same H (upd (upd H dx (.own x)) x (.ins C dx [])) := (same_new hdx).trans (same_new (by rw [upd_ne nx.symm]; exact hx))
    refine ⟨x, dx, a, c, da, dc, rfl, upd_same, Ra.mono s1, Rc.mono s1, few, fun p zs es ci _ _ _ _ z => absurd (no.symm.trans z) (by decide), fun _ H1 s2 => ?_⟩
    have s12 := s1.trans s2
    refine ⟨true, ex_BadValue_RingError, fun _ ea hea => ?_, fun z => nomatch z⟩
    dsimp only
    walk_at "td"
    refine r_isE x_BadValue (fun u h => h) ko_BadValue_BadValue_true ?_
    walk_at "td"
    refine iteF ?_
    walk_at "td"
    refine r_isE x_BadValue (fun u h => h) kb_BadValue_ValueError_true ?_
    walk_at "td"
    refine iteF ?_
    walk_at "td"
    refine r_isE x_BadValue (fun u h => h) ko_BadValue_Busy_false ?_
    walk_at "td"
    refine iteT ?_
    walk_at "td"
    refine r_isE x_BadValue (fun u h => h) ko_BadValue_HouseDown_false ?_
    walk_at "td"
    refine iteT ?_
    walk_at "td"
    refine r_isE x_BadValue (fun u h => h) ko_BadValue_Unknown_false ?_
    walk_at "td"
    exact q _ s12
theorem ok__law_refuses_value {f C CB CR CY CH CU : Addr} {fd : FuncData} (F : Fun K "_law_refuses_value" "_law_refuses_value" s__law_refuses_value f fd) (T : Txt K mg) (hC : ∀ C, CC C → ClsI K C) (mg_Ring : mg "Ring" = some (.ref C)) (e_BadValue : Err K mg "BadValue" CB) (e_RingError : Err K mg "RingError" CR) (e_Busy : Err K mg "Busy" CY) (e_HouseDown : Err K mg "HouseDown" CH) (e_Unknown : Err K mg "Unknown" CU)
    (x_BadValue : ExcC K CB) (ex_BadValue_RingError : PySem.W.exmOne K (.ref CB) (.ref CR) = some true) (ko_BadValue_BadValue_true : PySem.W.kitOne K (.ref CB) (.ref CB) = some true) (ko_BadValue_Busy_false : PySem.W.kitOne K (.ref CB) (.ref CY) = some false)
    (ko_BadValue_HouseDown_false : PySem.W.kitOne K (.ref CB) (.ref CH) = some false) (ko_BadValue_Unknown_false : PySem.W.kitOne K (.ref CB) (.ref CU) = some false) (kb_BadValue_ValueError_true : PySem.W.kitOne K (.ref CB) (.type "ValueError") = some true)
    (c_Ring_from_value : Sta P w K mg base 7 C "from_value" (spFromVR K CC C CB)) : FnOk P w K mg base CX0 8 f fd ["value"] (spRefV K CC) := by
  refine F.ok sc__law_refuses_value (fun vs H Q E h => ?_) (fun cdv A outer s H vs Q E hr h => ?_)
  · obtain ⟨v, d, rfl, _⟩ := h
    rfl
  · obtain ⟨v, d, rfl, R, few, no, q⟩ := h
    refine ⟨_, (pss_cons (ps_try_as (i := 1) rfl rfl sc__law_refuses_value.nd rfl rfl ⟨rfl, by decide, .inl e_RingError.gF⟩ takes0 (fun W pn xe tk _ => by exact (pss_one (ps_expr (pe_staT c_Ring_from_value hr (by decide) tk (pe_glob (v := .ref C) rfl mg_Ring rfl) (pa_cons (pv 0) pa_nil)))))
 (fun a oe cls d pn hz hf => by exact (pss_cons (ps_if (PW.pt (pw_or (pt_not (pt_val (pe_callB (call_isEx hz hf) rfl T.z_isinstance (by decide +kernel) (pa_cons (pv 1) (pa_cons (pe_err e_BadValue rfl) pa_nil))))) (pw_or1 (pt_not (pt_val (pe_callB (call_isEx hz hf) rfl T.z_isinstance (by decide +kernel) (pa_cons (pv 1) (pa_cons (pe_bltn (v := .ty "ValueError") (u := .type "ValueError") rfl T.z_ValueError (by decide +kernel) rfl) pa_nil))))))))
 (pss_one (ps_ret pe_bl))
 pss_nil)
 (pss_one (ps_ret (pe_and (pe_not (pe_callB (call_isEx hz hf) rfl T.z_isinstance (by decide +kernel) (pa_cons (pv 1) (pa_cons (pe_err e_Busy rfl) pa_nil)))) (pe_and (pe_not (pe_callB (call_isEx hz hf) rfl T.z_isinstance (by decide +kernel) (pa_cons (pv 1) (pa_cons (pe_err e_HouseDown rfl) pa_nil)))) (pe_one (pe_not (pe_callB (call_isEx hz hf) rfl T.z_isinstance (by decide +kernel) (pa_cons (pv 1) (pa_cons (pe_err e_Unknown rfl) pa_nil))))))))))))
 (pss_one (ps_ret pe_bl))), ?_⟩
    walk_at "td"
    refine ⟨v, d, rfl, R, few, fun c ds _ z => absurd (no.symm.trans z) (by decide), fun _ H1 s2 => ?_⟩
    refine ⟨true, ex_BadValue_RingError, fun _ ea hea => ?_, fun z => nomatch z⟩
    dsimp only
    walk_at "td"
    refine r_isE x_BadValue (fun u h => h) ko_BadValue_BadValue_true ?_
    walk_at "td"
    refine iteF ?_
    walk_at "td"
    refine r_isE x_BadValue (fun u h => h) kb_BadValue_ValueError_true ?_
    walk_at "td"
    refine iteF ?_
    walk_at "td"
    refine r_isE x_BadValue (fun u h => h) ko_BadValue_Busy_false ?_
    walk_at "td"
    refine iteT ?_
    walk_at "td"
    refine r_isE x_BadValue (fun u h => h) ko_BadValue_HouseDown_false ?_
    walk_at "td"
    refine iteT ?_
    walk_at "td"
    refine r_isE x_BadValue (fun u h => h) ko_BadValue_Unknown_false ?_
    walk_at "td"
    exact q _ s2
end
end RH
namespace RH
open PySem L2 ItX
local macro_rules | `(tactic| walk_at "tdc") => `(tactic| first | assumption | decide | omega | exact cmul_r (by decide) (by decide) | exact cmul_l (by decide) (by decide) | exact cpow (by decide) (by decide) (by decide) | exact cdiv (by decide) (by decide) | exact wide_div (b := 200) (by assumption) (by omega) (by decide) (by decide) | exact cmul_r (by omega) (by omega) | exact cmul_l (by omega) (by omega))
local macro_rules | `(tactic| walk_at "td1") => `(tactic| first
  | with_reducible apply r_op | ((with_reducible apply r_var); exact rfl) | with_reducible apply r_c | with_reducible apply r_cons | with_reducible apply r_nil | with_reducible apply r_I0
  | with_reducible apply r_seq | with_reducible apply r_asg | with_reducible apply r_name | with_reducible apply r_cb | with_reducible apply r_test | with_reducible apply r_k
  | with_reducible apply r_ifS | with_reducible apply r_call | with_reducible apply r_ret | ((with_reducible apply r_I); walk_at "tdc") | ((with_reducible apply r_eq); exact rfl) | ((with_reducible apply r_ne); exact rfl)
  | ((with_reducible apply r_ixL); walk_at "tdh"; exact rfl) | ((with_reducible apply r_ixT); walk_at "tdh"; exact rfl) | with_reducible apply r_sub | ((with_reducible apply r_setL); walk_at "tdh"; exact rfl)
  | with_reducible apply r_un | with_reducible apply r_U | with_reducible apply r_B | with_reducible apply r_and | with_reducible apply r_or | with_reducible apply r_not
  | with_reducible apply r_andV | with_reducible apply r_orV | with_reducible apply r_notV | with_reducible apply r_if | with_reducible apply r_tup | with_reducible apply r_lst
  | ((with_reducible apply r_ixgT); walk_at "tdh"; exact rfl) | ((with_reducible apply r_ixgL); walk_at "tdh"; exact rfl)
  | with_reducible apply r_next | with_reducible apply r_drop | with_reducible apply r_int1 | with_reducible apply r_chain | with_reducible apply r_ord | with_reducible apply r_abs | with_reducible apply r_min2 | with_reducible apply r_max2
  | with_reducible apply r_leStr | with_reducible apply r_inSign | with_reducible apply r_notInSign | ((with_reducible apply r_isTy); assumption) | ((with_reducible apply r_notTy); assumption)
  | ((with_reducible apply r_lenL); walk_at "tdh") | ((with_reducible apply r_lenT); walk_at "tdh")
  | ((with_reducible apply r_fldV); exact rfl; walk_at "tdh"; assumption; assumption; exact rfl) | with_reducible apply r_bmG | with_reducible apply r_bm0G | with_reducible apply r_isN | with_reducible apply r_notN | with_reducible apply r_prop | ((with_reducible apply r_prX); walk_at "tdh") | with_reducible apply r_fld | ((apply r_fldX); walk_at "tdh"; assumption; assumption; exact rfl; walk_at "tdi") | with_reducible apply r_mtE | with_reducible apply r_cS | (refine r_gtup (SqT.of (by walk_at "tdh")) rfl ?_) | with_reducible apply r_gcons | with_reducible apply r_gnil | with_reducible apply r_sta | with_reducible apply r_staX | with_reducible apply r_mtG | ((with_reducible apply r_mtX); walk_at "tdh"; exact rfl) | with_reducible apply r_par2 | with_reducible apply r_par3 | ((with_reducible apply r_tyL); walk_at "tdh")
  | refine Rep.typ (by assumption) (fun _ _ => ?_) | refine r_isi (by assumption) (by assumption) (by decide) ?_)
local macro_rules | `(tactic| walk_at "td") => `(tactic| repeat walk_at "td1")
local macro_rules | `(tactic| walk_at "tdf") => `(tactic| (generalize hu : upd _ _ (.lst (_ ++ [_])) = H2; have f := fr_gen hu; have a := at_gen hu; clear hu))
local macro_rules | `(tactic| walk_at "tds") => `(tactic| (generalize hu : upd _ _ (.lst (List.set _ _ _)) = H2; have f := fr_gen hu; have a := at_gen hu; clear hu))
local macro_rules | `(tactic| walk_at "tdev") => `(tactic| first | exact ev_int _ | exact ev_bl _ | exact ev_non | exact ev_str _ (by decide +kernel) | assumption | (refine ev_tup (by walk_at "tdh") ?_; walk_at "tdall") | (refine Ev.mono (by assumption) ?_; walk_at "tdtk"))
local macro_rules | `(tactic| walk_at "tdall") => `(tactic| first | exact allN | (refine List.forall_mem_cons.mpr ⟨?_, ?_⟩; walk_at "tdev"; walk_at "tdall"))
local macro_rules | `(tactic| walk_at "tdn") => `(tactic| (refine ⟨szL rfl, fun p hp => ?_⟩; generalize hu : upd _ p _ = H2; have s := same_gen hu hp; have a := at_gen hu; clear hu))
local macro_rules | `(tactic| walk_at "tdt") => `(tactic| repeat (first | walk_at "td1" | walk_at "tdn" | walk_at "tdm"))
local macro_rules | `(tactic| walk_at "tdg") => `(tactic| (intro p hp; generalize hu : upd _ p _ = H2; have s := same_gen hu hp; have a := at_gen hu; clear hu))
local macro_rules | `(tactic| walk_at "tdh") => `(tactic| first | assumption | exact upd_same | (rw [upd_ne (by assumption)]; assumption) | (rw [upd_ne (Ne.symm (by assumption))]; assumption) | (apply same_step; assumption; walk_at "tdh") | (apply fr_step; assumption; walk_at "tdne"; walk_at "tdh") | (apply fr_stepK; assumption; walk_at "tdh"; walk_at "tdh"; (intro z; cases z)))
local macro_rules | `(tactic| walk_at "tdne") => `(tactic| first | assumption | exact Ne.symm (by assumption) | (apply ne_noneX; assumption; walk_at "tdh") | (apply Ne.symm; apply ne_noneX; assumption; walk_at "tdh"))
local macro_rules | `(tactic| walk_at "tdsm") => `(tactic| first | assumption | exact Same.refl _ | (apply same_chain; assumption; walk_at "tdsm") | (apply same_frX; assumption; walk_at "tdsm"; walk_at "tdno"))
local macro_rules | `(tactic| walk_at "tdno") => `(tactic| first | assumption | (apply none_backX; assumption; walk_at "tdsm"))
local macro_rules | `(tactic| walk_at "tdtk") => `(tactic| first | assumption | exact TuK.refl _ | (apply tuk_same; assumption; walk_at "tdtk") | (apply tuk_fr; assumption; walk_at "tdh"; walk_at "tdtk") | (apply tuk_frI; assumption; walk_at "tdh"; walk_at "tdtk"))
local macro_rules | `(tactic| walk_at "tdi") => `(tactic| (generalize hu : upd _ _ (.ins _ _ (putF _ _ _)) = H2; have f := fr_gen hu; have a := at_gen hu; clear hu))
local macro_rules | `(tactic| walk_at "tdrp") => `(tactic| first | exact .int _ | exact .bl _ | exact .non | exact .str _ (okS_of (by decide +kernel)) | assumption | (apply rep_monoX; assumption; walk_at "tdsm") | (apply rep_tupA; walk_at "tdh"; walk_at "tdrpa"; exact leB rfl) | (apply rep_lstA; walk_at "tdh"; walk_at "tdrpa"; exact leB rfl) | exact .dct (by walk_at "tdh"))
local macro_rules | `(tactic| walk_at "tdrpa") => `(tactic| first | exact .nil | (apply RepAll.cons; walk_at "tdrp"; walk_at "tdrpa"))
local macro_rules | `(tactic| walk_at "tdm") => `(tactic| first | ((with_reducible apply r_catT); walk_at "tdh"; walk_at "tdh"; exact List.cons_ne_nil _ _; exact List.cons_ne_nil _ _; exact szL rfl; walk_at "tdg") | ((with_reducible apply r_listTU); walk_at "tdh"; walk_at "tdg") | ((with_reducible apply r_listL); walk_at "tdh"; walk_at "tdg") | ((with_reducible apply r_dnew); walk_at "tdg") | with_reducible apply r_slice | with_reducible apply r_nopart | with_reducible apply r_part | with_reducible apply r_pI | ((with_reducible apply r_slT); walk_at "tdh"; exact of_decide_eq_false rfl; walk_at "tdg") | ((with_reducible apply r_slL); walk_at "tdh"; walk_at "tdg"))

section
variable {P : Program} {w : World} {K : PySem.W.Frag} {mg : Str → Option Value} {base : Heap} {CC : Addr → Prop}
theorem ok__law_alike {f : Addr} {fd : FuncData} (F : Fun K "_law_alike" "_law_alike" s__law_alike f fd) (T : Txt K mg) (hC : ∀ C, CC C → ClsI K C) (r__law_alike : Rec K mg "_law_alike" f fd ["told", "due"]) : FnOk P w K mg base CX0 4 f fd ["told", "due"] (spAlike K CC 3) := by
  have go : ∀ n, FnOk P w K mg base CX0 n f fd ["told", "due"] (spAl K CC n) := by
    intro n
    induction n with
    | zero => exact fnok_bot
    | succ n ih =>
      have c__law_alike := r__law_alike.cal ih
      refine F.ok sc__law_alike (fun vs H Q E h => ?_) (fun cdv A outer s H vs Q E hr h => ?_)
      · obtain ⟨v, u, d, rfl, _⟩ := h
        rfl
      · obtain ⟨v, u, d, rfl, Rv, Ru, tree, q⟩ := h
        refine ⟨_, (pss_cons (ps_if (pt_val (pe_callB call_isi rfl T.z_isinstance (by decide +kernel) (pa_cons (pv 1) (pa_cons (pe_bltn (v := .ty "tuple") (u := .type "tuple") rfl T.z_tuple (by decide +kernel) rfl) pa_nil))))
 (pss_cons (ps_if (PW.pt (pw_or (pt_not (pt_val (pe_callB call_isi rfl T.z_isinstance (by decide +kernel) (pa_cons (pv 0) (pa_cons (pe_bltn (v := .ty "tuple") (u := .type "tuple") rfl T.z_tuple (by decide +kernel) rfl) pa_nil))))) (pw_or1 (pt_cmpR op_ne (pe_callB call_lenG rfl T.z_len (by decide +kernel) (pa_cons (pv 0) pa_nil)) (pe_callB call_lenG rfl T.z_len (by decide +kernel) (pa_cons (pv 1) pa_nil)) (nomark _)))))
 (pss_one (ps_ret pe_bl))
 pss_nil)
 (pss_cons (ps_for PassesOwn.never rfl (pi_range1 rfl T.z_range (pa_cons (pe_callB call_lenG rfl T.z_len (by decide +kernel) (pa_cons (pv 1) pa_nil)) pa_nil)) (pg_name (i := 2) sc__law_alike.nd rfl (Or.inl rfl))
 (pss_one (ps_if (pt_not (pt_val (C8.pe_c c__law_alike hr (Nat.le_refl _) rfl (pa_cons (pe_ix ix_seq (pv 0) (pv 2) (fun _ _ => rfl)) (pa_cons (pe_ix ix_seq (pv 1) (pv 2) (fun _ _ => rfl)) pa_nil)))))
 (pss_one (ps_ret pe_bl))
 pss_nil)))
 (pss_one (ps_ret pe_bl))))
 pss_nil)
 (pss_one (ps_ret (pe_and (pe_callB call_isi rfl T.z_isinstance (by decide +kernel) (pa_cons (pv 0) (pa_cons (pe_bltn (v := .ty "int") (u := .type "int") rfl T.z_int (by decide +kernel) rfl) pa_nil))) (pe_and (pe_not (pe_callB call_isi rfl T.z_isinstance (by decide +kernel) (pa_cons (pv 0) (pa_cons (pe_bltn (v := .ty "bool") (u := .type "bool") rfl T.z_bool (by decide +kernel) rfl) pa_nil)))) (pe_one (pe_cmpR op_eq (pv 0) (pv 1) (nomark _)))))))), ?_⟩
        have ii : (∃ i, d = .int i) ∨ ∃ m ds, n = m + 1 ∧ d = .tup ds ∧ ∀ e ∈ ds, TreeI m e := by
          cases n with
          | zero => exact .inl tree
          | succ m =>
            rcases tree with z | ⟨ds, z, y⟩
            · exact .inl z
            · exact .inr ⟨m, ds, rfl, z, y⟩
        walk_at "td"
        rcases ii with ⟨i, rfl⟩ | ⟨m, ds, rfl, rfl, sub⟩
        · cases Rv
          cases Ru
          refine iteF ?_
          walk_at "td"
          refine r_isi (d := .int i) hC (.int _) (by decide) ?_
          walk_at "td"
          refine iteT ?_
          walk_at "td"
          refine r_isi (d := .int i) hC (.int _) (by decide) ?_
          walk_at "td"
          refine iteT ?_
          walk_at "td"
          exact qbl (q H (Same.refl H)) (decide_eq_true rfl).symm
        · have Rv0 := Rv
          have Ru0 := Ru
          cases Rv with
          | @tup a xs _ ha hl hs hi =>
          cases Ru with
          | @tup b ys _ hb hl2 hs2 hi2 =>
          refine iteT ?_
          walk_at "td"
          refine iteF ?_
          walk_at "td"
          refine ite2 (fun e => ?_) (fun _ => ?_)
          · rw [show V.int (xs.length : Int) = V.int (ys.length : Int) from congrArg V.int (by omega), decide_eq_true rfl] at e
            cases e
          walk_at "td"
          refine r_for (r_rng1 ?_)
          walk_at "td"
          refine ⟨_, rfl, by omega, by omega, ?_⟩
          refine go_range (fun i σ' H' => Same H H' ∧ ∃ w, σ' = [some (.ref a), some (.ref b), w]) ⟨Same.refl _, _, rfl⟩ ?_ ?_
          · rintro i x σ' H1 hi3 ⟨s1, w, rfl⟩ rfl
            have hi3 : i < ys.length := by simpa using hi3
            have h1 : xs[i]? = some (xs[i]'(by omega)) := List.getElem?_eq_getElem (by omega)
            have h2 : ys[i]? = some ys[i] := List.getElem?_eq_getElem hi3
            have h3 : ds[i]? = some (ds[i]'(by omega)) := List.getElem?_eq_getElem (by omega)
            walk_at "td"
            rw [Int.zero_add]
            refine r_ixgT (s1 _ _ ha) (atI_nat h1) ?_
            walk_at "td"
            refine r_ixgT (s1 _ _ hb) (atI_nat h2) ?_
            walk_at "td"
            refine ⟨_, _, _, rfl, (hi i _ _ h1 h3).mono s1, (hi2 i _ _ h2 h3).mono s1, sub _ (List.getElem_mem _), fun H2 s2 => ?_⟩
            walk_at "td"
            refine iteF ?_
            walk_at "td"
            exact ⟨s1.trans s2, _, rfl⟩
          · rintro σ' H1 ⟨s1, w, rfl⟩
            walk_at "td"
            exact q H1 s1
  exact go 4
theorem ok__law_bad_value {f : Addr} {fd : FuncData} (F : Fun K "_law_bad_value" "_law_bad_value" s__law_bad_value f fd) (T : Txt K mg) : FnOk P w K mg base CX0 1 f fd ["value", "draw", "more"] (spBadVal K CC) := by
  refine F.ok sc__law_bad_value (fun vs H Q E h => ?_) (fun cdv A outer s H vs Q E hr h => ?_)
  · obtain ⟨v, tp, c, d, m, xs, ps, rfl, _⟩ := h
    rfl
  · obtain ⟨v, tp, c, d, m, xs, ps, rfl, hv, htp, hP, asc, ne, few, d0, m0, q⟩ := h
    refine ⟨_, (pss_cons (ps_set (i := 3) sc__law_bad_value.nd rfl (Or.inl rfl) (pe_callTy call_listG rfl T.z_list (by decide +kernel) (pa_cons (pe_ix ix_tup (pv 0) pe_int (fun _ _ => rfl)) pa_nil)))
 (pss_cons (ps_set (i := 4) sc__law_bad_value.nd rfl (Or.inl rfl) (pe_op op_mod (pv 2) (pe_callB call_lenG rfl T.z_len (by decide +kernel) (pa_cons (pv 3) pa_nil))))
 (pss_cons (ps_set (i := 5) sc__law_bad_value.nd rfl (Or.inl rfl) (pe_callTy call_tupleG rfl T.z_tuple (by decide +kernel) (pa_cons (pe_op op_cat (pe_slice sl_list (pv 3) (po_some (pe_op op_add (pv 4) pe_int)) po_none) (pe_slice sl_list (pv 3) po_none (po_some (pe_op op_add (pv 4) pe_int)))) pa_nil)))
 (pss_cons (ps_if (PW.pt (pw_and (pt_cmpR op_eq (pe_op op_mod (pv 1) pe_int) pe_int (nomark _)) (pw_and1 (pt_cmpR op_lt (pe_op op_add (pv 4) pe_int) (pe_callB call_lenG rfl T.z_len (by decide +kernel) (pa_cons (pv 3) pa_nil)) (nomark _)))))
 (pss_one (ps_ret (pe_tup (pa_cons (pe_ix ix_tup (pv 0) pe_int (fun _ _ => rfl)) (pa_cons (pv 5) pa_nil)))))
 pss_nil)
 (pss_cons (ps_if (PW.pt (pw_and (pt_cmpR op_eq (pe_op op_mod (pv 1) pe_int) pe_int (nomark _)) (pw_and1 (pt_cmpR op_gt (pe_callB call_lenG rfl T.z_len (by decide +kernel) (pa_cons (pv 3) pa_nil)) pe_int (nomark _)))))
 (pss_one (ps_ret (pe_tup (pa_cons (pe_ix ix_tup (pv 0) pe_int (fun _ _ => rfl)) (pa_cons (pe_callTy call_tupleG rfl T.z_tuple (by decide +kernel) (pa_cons (pe_op op_cat (pe_op op_cat (pe_slice sl_list (pv 3) po_none (po_some (pv 4))) (pe_lst (pa_cons (pe_ix ix_list (pv 3) (pv 4) (fun _ _ => rfl)) pa_nil))) (pe_slice sl_list (pv 3) (po_some (pv 4)) po_none)) pa_nil)) pa_nil)))))
 pss_nil)
 (pss_one (ps_ret (pe_ix ix_tup (pe_tup (pa_cons (pe_callTy call_listG rfl T.z_list (by decide +kernel) (pa_cons (pv 0) pa_nil)) (pa_cons (pe_slice sl_tup (pv 0) po_none (po_some pe_int)) (pa_cons (pe_op op_catT (pv 0) (pe_tup (pa_cons pe_int pa_nil))) (pa_cons (pe_tup (pa_cons (pe_ix ix_tup (pv 0) pe_int (fun _ _ => rfl)) (pa_cons (pv 3) pa_nil))) (pa_cons (pe_tup (pa_cons (pe_ix ix_tup (pv 0) pe_int (fun _ _ => rfl)) (pa_cons (pe_ix ix_tup (pv 0) pe_int (fun _ _ => rfl)) pa_nil))) (pa_cons (pe_ix ix_tup (pv 0) pe_int (fun _ _ => rfl)) (pa_cons pe_non pa_nil)))))))) (pe_op op_mod (pv 1) pe_int) (fun _ _ => rfl))))))))), ?_⟩
    have lx := hP.1
    have pos : 0 < ps.length := List.length_pos_iff.mpr ne
    have RA : RepAll K CC H xs (ps.map ptD') := pts_all hP
    walk_at "td"
    refine r_listTU htp fun l hl => ?_
    generalize hu : upd _ l _ = H2
    have s2 := same_gen hu hl
    have a2 := at_gen hu
    clear hu
    walk_at "td"
    have pl0 : 0 ≤ m % (xs.length : Int) := Int.emod_nonneg _ (by omega)
    have pl1 : m % (xs.length : Int) < xs.length := Int.emod_lt_of_pos _ (by omega)
    generalize m % (xs.length : Int) = pl at pl0 pl1
    obtain ⟨k, rfl⟩ : ∃ k : Nat, pl = (k : Int) := ⟨pl.toNat, by omega⟩
    have hk : k < ps.length := by omega
    have hPk := hP.at_ hk
    obtain ⟨t, et, ht⟩ := hPk
    walk_at "tdt"
    refine r_cat (by walk_at "tdh") (by walk_at "tdh") (by rw [cutV_to1, cutV_from1 (by omega)]; exact sz1000 (by simp only [List.length_take, List.length_drop]; omega)) ?_
    walk_at "tdg"
    walk_at "td"
    refine r_tupL (by walk_at "tdh") ?_
    intro tt htt
    generalize hu : upd _ tt _ = H5
    have s5 := same_gen hu htt
    have a5 := at_gen hu
    clear hu
    rw [cutV_to1, cutV_from1 (by omega)] at a5
    walk_at "td"
    have al : H5 l = some (.lst xs) := by walk_at "tdh"
    have sm5 : Same H H5 := by walk_at "tdsm"
    have RA5 := RA.mono sm5
    have ev : H5 v = some (.tup [.int c, .ref tp]) := sm5 _ _ hv
    have etp : H5 tp = some (.tup xs) := sm5 _ _ htp
    have Rtp : Rep K CC H5 (.ref tp) (.tup (ps.map ptD')) := rep_tupA etp RA5 (by omega)
    have Rl : Rep K CC H5 (.ref l) (.lst (ps.map ptD')) := rep_lstA al RA5 (by omega)
    rename_i H3x s3x a3x H4x s4x a4x H4y s4y a4y
    clear a2
    have q := fun H' u e (s : Same H5 H') => q H' u e (sm5.trans s)
    have ht5 := sm5 _ _ ht
    clear sm5
    refine ite2 (fun e => ?_) (fun e => ?_)
    · walk_at "td"
      refine ite2 (fun e2 => ?_) (fun e2 => ?_)
      · have e2 := of_decide_eq_true e2
        walk_at "tdt"
        rename_i z9 hz9 H11 s11 a11
        have Rt : Rep K CC H11 (.ref tt) (.tup ((ps.map ptD').drop (k + 1) ++ (ps.map ptD').take (k + 1))) := rep_tupA (by walk_at "tdh") (((RA5.drop (k + 1)).mono (by walk_at "tdsm")).app ((RA5.take (k + 1)).mono (by walk_at "tdsm"))) (by simp only [List.length_append, List.length_take, List.length_drop]; omega)
        refine q H11 _ _ (by walk_at "tdsm") (rep_tupA a11 (.cons (.int c) (.cons Rt .nil)) (leB rfl)) ?_ (okRV_of (.inr ?_))
        · intro c2 ds z
          cases z
          simp only [List.length_append, List.length_take, List.length_drop, List.length_map]
          omega
        · rw [List.map_append, List.map_drop, List.map_take, map_ptD]
          exact turned_no asc (by omega) (by omega)
      · walk_at "td"
        refine ite2 (fun e1 => ?_) (fun e1 => ?_)
        · walk_at "td"
          refine ite2 (fun e2 => ?_) (fun e2 => ?_)
          · walk_at "tdt"
            refine r_ixL (by walk_at "tdh") (atI_nat et) ?_
            walk_at "tdt"
            refine r_cat (by walk_at "tdh") (by walk_at "tdh") (by rw [cutV_to, List.length_take]; exact sz1000 (by simp only [List.length_singleton]; omega)) ?_
            walk_at "tdg"
            walk_at "tdt"
            refine r_cat (by walk_at "tdh") (by walk_at "tdh") (by rw [cutV_to, cutV_from (by omega)]; exact sz1000 (by simp only [List.length_append, List.length_take, List.length_drop, List.length_singleton]; omega)) fun l9 hl9 => ?_
            generalize hu : upd _ l9 _ = H9
            have s9 := same_gen hu hl9
            have a9 := at_gen hu
            clear hu
            rw [cutV_to, cutV_from (by omega)] at a9
            walk_at "td"
            refine r_tupL a9 fun t9 ht9 => ?_
            generalize hu : upd _ t9 _ = H10
            have s10 := same_gen hu ht9
            have a10 := at_gen hu
            clear hu
            walk_at "td"
            refine ⟨szL rfl, fun z9 hz9 => ?_⟩
            generalize hu : upd _ z9 _ = H11
            have s11 := same_gen hu hz9
            have a11 := at_gen hu
            clear hu
            have Rt : Rep K CC H11 (.ref t9) (.tup ((ps.map ptD').take k ++ [.tup [.int ps[k].1, .int ps[k].2]] ++ (ps.map ptD').drop k)) := rep_tupA (by walk_at "tdh") ((((RA5.take k).mono (by walk_at "tdsm")).app (.cons (by walk_at "tdrp") .nil)).app ((RA5.drop k).mono (by walk_at "tdsm"))) (by simp only [List.length_append, List.length_take, List.length_drop, List.length_singleton]; omega)
            refine q H11 _ _ (by walk_at "tdsm") (rep_tupA a11 (.cons (.int c) (.cons Rt .nil)) (leB rfl)) ?_ (okRV_of (.inl (okRing_dup hk rfl)))
            intro c2 ds z
            cases z
            simp only [List.length_append, List.length_take, List.length_drop, List.length_map, List.length_singleton]
            omega
          · walk_at "tdt"
            refine r_ixMemT (by walk_at "tdh") (Int.emod_nonneg _ (by decide)) (by show _ < (7 : Int); exact Int.emod_lt_of_pos _ (by decide)) ?_
            simp only [List.forall_mem_cons]
            refine ⟨?_, ?_, ?_, ?_, ?_, ?_, ?_, allN⟩
            all_goals
              apply q
              walk_at "tdsm"
              walk_at "tdrp"
              all_goals first | rfl | (intro c ds z; cases z; done) | (intro c ds z; cases z; simp; omega)
        · walk_at "td"
          refine iteF ?_
          walk_at "tdt"
          refine r_ixMemT (by walk_at "tdh") (Int.emod_nonneg _ (by decide)) (by show _ < (7 : Int); exact Int.emod_lt_of_pos _ (by decide)) ?_
          simp only [List.forall_mem_cons]
          refine ⟨?_, ?_, ?_, ?_, ?_, ?_, ?_, allN⟩
          all_goals
            apply q
            walk_at "tdsm"
            walk_at "tdrp"
            all_goals first | rfl | (intro c ds z; cases z; done) | (intro c ds z; cases z; simp; omega)
    · walk_at "td"
      refine iteF ?_
      walk_at "td"
      refine ite2 (fun e1 => ?_) (fun e1 => ?_)
      · walk_at "td"
        refine ite2 (fun e2 => ?_) (fun e2 => ?_)
        · walk_at "tdt"
          refine r_ixL (by walk_at "tdh") (atI_nat et) ?_
          walk_at "tdt"
          refine r_cat (by walk_at "tdh") (by walk_at "tdh") (by rw [cutV_to, List.length_take]; exact sz1000 (by simp only [List.length_singleton]; omega)) ?_
          walk_at "tdg"
          walk_at "tdt"
          refine r_cat (by walk_at "tdh") (by walk_at "tdh") (by rw [cutV_to, cutV_from (by omega)]; exact sz1000 (by simp only [List.length_append, List.length_take, List.length_drop, List.length_singleton]; omega)) fun l9 hl9 => ?_
          generalize hu : upd _ l9 _ = H9
          have s9 := same_gen hu hl9
          have a9 := at_gen hu
          clear hu
          rw [cutV_to, cutV_from (by omega)] at a9
          walk_at "td"
          refine r_tupL a9 fun t9 ht9 => ?_
          generalize hu : upd _ t9 _ = H10
          have s10 := same_gen hu ht9
          have a10 := at_gen hu
          clear hu
          walk_at "td"
          refine ⟨szL rfl, fun z9 hz9 => ?_⟩
          generalize hu : upd _ z9 _ = H11
          have s11 := same_gen hu hz9
          have a11 := at_gen hu
          clear hu
          have Rt : Rep K CC H11 (.ref t9) (.tup ((ps.map ptD').take k ++ [.tup [.int ps[k].1, .int ps[k].2]] ++ (ps.map ptD').drop k)) := rep_tupA (by walk_at "tdh") ((((RA5.take k).mono (by walk_at "tdsm")).app (.cons (by walk_at "tdrp") .nil)).app ((RA5.drop k).mono (by walk_at "tdsm"))) (by simp only [List.length_append, List.length_take, List.length_drop, List.length_singleton]; omega)
          refine q H11 _ _ (by walk_at "tdsm") (rep_tupA a11 (.cons (.int c) (.cons Rt .nil)) (leB rfl)) ?_ (okRV_of (.inl (okRing_dup hk rfl)))
          intro c2 ds z
          cases z
          simp only [List.length_append, List.length_take, List.length_drop, List.length_map, List.length_singleton]
          omega
        · walk_at "tdt"
          refine r_ixMemT (by walk_at "tdh") (Int.emod_nonneg _ (by decide)) (by show _ < (7 : Int); exact Int.emod_lt_of_pos _ (by decide)) ?_
          simp only [List.forall_mem_cons]
          refine ⟨?_, ?_, ?_, ?_, ?_, ?_, ?_, allN⟩
          all_goals
            apply q
            walk_at "tdsm"
            walk_at "tdrp"
            all_goals first | rfl | (intro c ds z; cases z; done) | (intro c ds z; cases z; simp; omega)
      · walk_at "td"
        refine iteF ?_
        walk_at "tdt"
        refine r_ixMemT (by walk_at "tdh") (Int.emod_nonneg _ (by decide)) (by show _ < (7 : Int); exact Int.emod_lt_of_pos _ (by decide)) ?_
        simp only [List.forall_mem_cons]
        refine ⟨?_, ?_, ?_, ?_, ?_, ?_, ?_, allN⟩
        all_goals
          apply q
          walk_at "tdsm"
          walk_at "tdrp"
          all_goals first | rfl | (intro c ds z; cases z; done) | (intro c ds z; cases z; simp; omega)
end
end RH
namespace RH
open PySem L2 ItX
local macro_rules | `(tactic| walk_at "tdc") => `(tactic| first | assumption | decide | omega | exact cmul_r (by decide) (by decide) | exact cmul_l (by decide) (by decide) | exact cpow (by decide) (by decide) (by decide) | exact cdiv (by decide) (by decide) | exact wide_div (b := 200) (by assumption) (by omega) (by decide) (by decide) | exact cmul_r (by omega) (by omega) | exact cmul_l (by omega) (by omega))
local macro_rules | `(tactic| walk_at "td1") => `(tactic| first
  | with_reducible apply r_op | ((with_reducible apply r_var); exact rfl) | with_reducible apply r_c | with_reducible apply r_cons | with_reducible apply r_nil | with_reducible apply r_I0
  | with_reducible apply r_seq | with_reducible apply r_asg | with_reducible apply r_name | with_reducible apply r_cb | with_reducible apply r_test | with_reducible apply r_k
  | with_reducible apply r_ifS | with_reducible apply r_call | with_reducible apply r_ret | ((with_reducible apply r_I); walk_at "tdc") | ((with_reducible apply r_eq); exact rfl) | ((with_reducible apply r_ne); exact rfl)
  | ((with_reducible apply r_ixL); walk_at "tdh"; exact rfl) | ((with_reducible apply r_ixT); walk_at "tdh"; exact rfl) | with_reducible apply r_sub | ((with_reducible apply r_setL); walk_at "tdh"; exact rfl)
  | with_reducible apply r_un | with_reducible apply r_U | with_reducible apply r_B | with_reducible apply r_and | with_reducible apply r_or | with_reducible apply r_not
  | with_reducible apply r_andV | with_reducible apply r_orV | with_reducible apply r_notV | with_reducible apply r_if | with_reducible apply r_tup | with_reducible apply r_lst
  | ((with_reducible apply r_ixgT); walk_at "tdh"; exact rfl) | ((with_reducible apply r_ixgL); walk_at "tdh"; exact rfl)
  | with_reducible apply r_next | with_reducible apply r_drop | with_reducible apply r_int1 | with_reducible apply r_chain | with_reducible apply r_ord | with_reducible apply r_abs | with_reducible apply r_min2 | with_reducible apply r_max2
  | with_reducible apply r_leStr | with_reducible apply r_inSign | with_reducible apply r_notInSign | ((with_reducible apply r_isTy); assumption) | ((with_reducible apply r_notTy); assumption)
  | ((with_reducible apply r_lenL); walk_at "tdh") | ((with_reducible apply r_lenT); walk_at "tdh")
  | ((with_reducible apply r_fldV); exact rfl; walk_at "tdh"; assumption; assumption; exact rfl) | with_reducible apply r_bmG | with_reducible apply r_bm0G | with_reducible apply r_isN | with_reducible apply r_notN | with_reducible apply r_prop | ((with_reducible apply r_prX); walk_at "tdh") | with_reducible apply r_fld | ((apply r_fldX); walk_at "tdh"; assumption; assumption; exact rfl; walk_at "tdi") | with_reducible apply r_mtE | with_reducible apply r_cS | (refine r_gtup (SqT.of (by walk_at "tdh")) rfl ?_) | with_reducible apply r_gcons | with_reducible apply r_gnil | with_reducible apply r_sta | with_reducible apply r_staX | with_reducible apply r_mtG | ((with_reducible apply r_mtX); walk_at "tdh"; exact rfl) | with_reducible apply r_par2 | with_reducible apply r_par3 | ((with_reducible apply r_tyL); walk_at "tdh")
  | refine Rep.typ (by assumption) (fun _ _ => ?_) | refine r_isi (by assumption) (by assumption) (by decide) ?_)
local macro_rules | `(tactic| walk_at "td") => `(tactic| repeat walk_at "td1")
local macro_rules | `(tactic| walk_at "tdf") => `(tactic| (generalize hu : upd _ _ (.lst (_ ++ [_])) = H2; have f := fr_gen hu; have a := at_gen hu; clear hu))
local macro_rules | `(tactic| walk_at "tds") => `(tactic| (generalize hu : upd _ _ (.lst (List.set _ _ _)) = H2; have f := fr_gen hu; have a := at_gen hu; clear hu))
local macro_rules | `(tactic| walk_at "tdev") => `(tactic| first | exact ev_int _ | exact ev_bl _ | exact ev_non | exact ev_str _ (by decide +kernel) | assumption | (refine ev_tup (by walk_at "tdh") ?_; walk_at "tdall") | (refine Ev.mono (by assumption) ?_; walk_at "tdtk"))
local macro_rules | `(tactic| walk_at "tdall") => `(tactic| first | exact allN | (refine List.forall_mem_cons.mpr ⟨?_, ?_⟩; walk_at "tdev"; walk_at "tdall"))
local macro_rules | `(tactic| walk_at "tdn") => `(tactic| (refine ⟨szL rfl, fun p hp => ?_⟩; generalize hu : upd _ p _ = H2; have s := same_gen hu hp; have a := at_gen hu; clear hu))
local macro_rules | `(tactic| walk_at "tdt") => `(tactic| repeat (first | walk_at "td1" | walk_at "tdn" | walk_at "tdm"))
local macro_rules | `(tactic| walk_at "tdg") => `(tactic| (intro p hp; generalize hu : upd _ p _ = H2; have s := same_gen hu hp; have a := at_gen hu; clear hu))
local macro_rules | `(tactic| walk_at "tdh") => `(tactic| first | assumption | exact upd_same | (rw [upd_ne (by assumption)]; assumption) | (rw [upd_ne (Ne.symm (by assumption))]; assumption) | (apply same_step; assumption; walk_at "tdh") | (apply fr_step; assumption; walk_at "tdne"; walk_at "tdh") | (apply fr_stepK; assumption; walk_at "tdh"; walk_at "tdh"; (intro z; cases z)))
local macro_rules | `(tactic| walk_at "tdne") => `(tactic| first | assumption | exact Ne.symm (by assumption) | (apply ne_noneX; assumption; walk_at "tdh") | (apply Ne.symm; apply ne_noneX; assumption; walk_at "tdh"))
local macro_rules | `(tactic| walk_at "tdsm") => `(tactic| first | assumption | exact Same.refl _ | (apply same_chain; assumption; walk_at "tdsm") | (apply same_frX; assumption; walk_at "tdsm"; walk_at "tdno"))
local macro_rules | `(tactic| walk_at "tdno") => `(tactic| first | assumption | (apply none_backX; assumption; walk_at "tdsm"))
local macro_rules | `(tactic| walk_at "tdtk") => `(tactic| first | assumption | exact TuK.refl _ | (apply tuk_same; assumption; walk_at "tdtk") | (apply tuk_fr; assumption; walk_at "tdh"; walk_at "tdtk") | (apply tuk_frI; assumption; walk_at "tdh"; walk_at "tdtk"))
local macro_rules | `(tactic| walk_at "tdi") => `(tactic| (generalize hu : upd _ _ (.ins _ _ (putF _ _ _)) = H2; have f := fr_gen hu; have a := at_gen hu; clear hu))
local macro_rules | `(tactic| walk_at "tdrp") => `(tactic| first | exact .int _ | exact .bl _ | exact .non | exact .str _ (okS_of (by decide +kernel)) | assumption | (apply rep_monoX; assumption; walk_at "tdsm") | (apply rep_tupA; walk_at "tdh"; walk_at "tdrpa"; exact leB rfl) | (apply rep_lstA; walk_at "tdh"; walk_at "tdrpa"; exact leB rfl) | exact .dct (by walk_at "tdh"))
local macro_rules | `(tactic| walk_at "tdrpa") => `(tactic| first | exact .nil | (apply RepAll.cons; walk_at "tdrp"; walk_at "tdrpa"))
local macro_rules | `(tactic| walk_at "tdm") => `(tactic| first | ((with_reducible apply r_catT); walk_at "tdh"; walk_at "tdh"; exact List.cons_ne_nil _ _; exact List.cons_ne_nil _ _; exact szL rfl; walk_at "tdg") | ((with_reducible apply r_listTU); walk_at "tdh"; walk_at "tdg") | ((with_reducible apply r_listL); walk_at "tdh"; walk_at "tdg") | ((with_reducible apply r_dnew); walk_at "tdg") | with_reducible apply r_slice | with_reducible apply r_nopart | with_reducible apply r_part | with_reducible apply r_pI | ((with_reducible apply r_slT); walk_at "tdh"; exact of_decide_eq_false rfl; walk_at "tdg") | ((with_reducible apply r_slL); walk_at "tdh"; walk_at "tdg"))

section
variable {P : Program} {w : World} {K : PySem.W.Frag} {mg : Str → Option Value} {base : Heap} {CC : Addr → Prop}
theorem ok__law_refused {f : Addr} {fd : FuncData} (F : Fun K "_law_refused" "_law_refused" s__law_refused f fd) (T : Txt K mg) (c__law_draw : C8.Cal P w K mg base 1 "_law_draw" spDrawF []) (c__law_bad_points : C8.Cal P w K mg base 2 "_law_bad_points" (spBadPts K CC) []) (c__law_bad_copies : C8.Cal P w K mg base 2 "_law_bad_copies" (spBadCp K CC) [])
    (c__law_refuses_ring : C8.Cal P w K mg base 7 "_law_refuses_ring" (spRefR K CC) []) (c__law_refuses_value : C8.Cal P w K mg base 8 "_law_refuses_value" (spRefV K CC) []) (c__law_bad_value : C8.Cal P w K mg base 1 "_law_bad_value" (spBadVal K CC) []) : FnOk P w K mg base CX0 9 f fd ["points", "copies", "value", "draws"] (spRefused25 K) := by
  refine F.ok sc__law_refused (fun vs H Q E h => ?_) (fun cdv A outer s H vs Q E hr h => ?_)
  · obtain ⟨p, v, tp, l, c, xs, ys, ps, qs, ds, rfl, _⟩ := h
    rfl
  · obtain ⟨p, v, tp, l, c, xs, ys, ps, qs, ds, rfl, hp, hP, ok, ok1, ne, hv, htp, hQ, pm, asc, hl, dok, q⟩ := h
    refine ⟨_, (pss_cons (ps_set (i := 4) sc__law_refused.nd rfl (Or.inl rfl) (C8.pe_c c__law_draw hr (by decide) rfl (pa_cons (pv 3) (pa_cons pe_int pa_nil))))
 (pss_cons (ps_set (i := 5) sc__law_refused.nd rfl (Or.inl rfl) (C8.pe_c c__law_draw hr (by decide) rfl (pa_cons (pv 3) (pa_cons pe_int pa_nil))))
 (pss_cons (ps_set (i := 6) sc__law_refused.nd rfl (Or.inl rfl) (C8.pe_c c__law_bad_points hr (by decide) rfl (pa_cons (pv 0) (pa_cons (pv 4) (pa_cons (pv 5) pa_nil)))))
 (pss_cons (ps_set (i := 7) sc__law_refused.nd rfl (Or.inl rfl) (C8.pe_c c__law_bad_copies hr (by decide) rfl (pa_cons (pv 0) (pa_cons (pv 4) pa_nil))))
 (pss_cons (ps_if (PW.pt (pw_or (pt_not (pt_val (C8.pe_c c__law_refuses_ring hr (by decide) rfl (pa_cons (pv 6) (pa_cons (pv 1) pa_nil))))) (pw_or1 (pt_not (pt_val (C8.pe_c c__law_refuses_ring hr (by decide) rfl (pa_cons (pe_callTy call_listG rfl T.z_list (by decide +kernel) (pa_cons (pv 0) pa_nil)) (pa_cons (pv 7) pa_nil))))))))
 (pss_one (ps_ret pe_bl))
 pss_nil)
 (pss_cons (ps_if (pt_not (pt_val (C8.pe_c c__law_refuses_ring hr (by decide) rfl (pa_cons (pe_ix ix_tup (pe_tup (pa_cons (pe_callTy call_tupleG rfl T.z_tuple (by decide +kernel) (pa_cons (pv 0) pa_nil)) (pa_cons pe_non (pa_cons pe_dnewK (pa_cons pe_str (pa_cons pe_int pa_nil)))))) (pe_op op_mod (pv 5) pe_int) (fun _ _ => rfl)) (pa_cons (pv 1) pa_nil)))))
 (pss_one (ps_ret pe_bl))
 pss_nil)
 (pss_cons (ps_if (PW.pt (pw_or (pt_not (pt_val (C8.pe_c c__law_refuses_value hr (by decide) rfl (pa_cons (pe_tup (pa_cons (pv 1) (pa_cons (pe_callTy call_tupleG rfl T.z_tuple (by decide +kernel) (pa_cons (pv 6) pa_nil)) pa_nil))) pa_nil)))) (pw_or1 (pt_not (pt_val (C8.pe_c c__law_refuses_value hr (by decide) rfl (pa_cons (pe_tup (pa_cons (pv 7) (pa_cons (pe_ix ix_tup (pv 2) pe_int (fun _ _ => rfl)) pa_nil))) pa_nil)))))))
 (pss_one (ps_ret pe_bl))
 pss_nil)
 (pss_one (ps_ret (C8.pe_c c__law_refuses_value hr (by decide) rfl (pa_cons (C8.pe_c c__law_bad_value hr (by decide) rfl (pa_cons (pv 2) (pa_cons (pe_op op_fdiv (pv 4) pe_int) (pa_cons (pv 5) pa_nil)))) pa_nil))))))))))), ?_⟩
    have few := ok.le256
    have lq : qs.length = ps.length := pm.length_eq
    walk_at "td"
    refine ⟨l, ds, 5, rfl, hl, by decide, ?_⟩
    have d5 := drawF_in dok 5
    walk_at "td"
    refine ⟨l, ds, 6, rfl, hl, by decide, ?_⟩
    have d6 := drawF_in dok 6
    generalize drawF ds 5 = d at d5
    generalize drawF ds 6 = m at d6
    walk_at "td"
    refine ⟨p, xs, ps, d, m, rfl, hp, hP, ok1, ne, d5.1, d6.1, fun H1 b zs es s1 nb hb RB few1 no1 => ?_⟩
    walk_at "td"
    refine ⟨p, xs, ps, d, rfl, s1 _ _ hp, hP.mono s1, ok1, d5.1, fun H2 w2 e2 s2 R2 no2 no3 => ?_⟩
    have s12 := s1.trans s2
    walk_at "td"
    have Rb2 : Rep K CC H2 (.ref b) (.lst es) := rep_lstA (s2 _ _ hb) (RB.mono s2) (by rw [RB.len]; omega)
    refine ⟨_, _, _, _, rfl, Rb2, .int c, fun es' z => by cases z; exact few1, no1 _, fun H3 s3 => ?_⟩
    walk_at "td"
    refine iteF ?_
    have p3 : H3 p = some (.lst xs) := s3 _ _ (s12 _ _ hp)
    walk_at "td"
    refine r_listL p3 fun l4 hl4 => ?_
    generalize hu : upd _ l4 _ = H4
    have s4 := same_gen hu hl4
    have a4 := at_gen hu
    clear hu
    have s24 := s3.trans s4
    have s04 := s12.trans s24
    walk_at "td"
    refine ⟨_, _, _, _, rfl, pts_lst a4 (hP.mono s04) (by omega), R2.mono s24, fun es' z => by cases z; rw [List.length_map]; omega, no2, fun H5 s5 => ?_⟩
    walk_at "td"
    refine iteF ?_
    have p5 : H5 p = some (.lst xs) := s5 _ _ (s4 _ _ p3)
    have s05 := s04.trans s5
    walk_at "td"
    refine r_tupL p5 fun t6 ht6 => ?_
    generalize hu : upd _ t6 _ = H6
    have s6 := same_gen hu ht6
    have a6 := at_gen hu
    clear hu
    have p6 : H6 p = some (.lst xs) := s6 _ _ p5
    have P6 : PtsAt H6 xs ps := (hP.mono s05).mono s6
    have b6 : H6 b = some (.lst zs) := s6 _ _ (s5 _ _ (s24 _ _ (s2 _ _ hb)))
    have v6 : H6 v = some (.tup [.int c, .ref tp]) := s6 _ _ (s05 _ _ hv)
    have tp6 : H6 tp = some (.tup ys) := s6 _ _ (s05 _ _ htp)
    have RB6 : RepAll K CC H6 zs es := (RB.mono (s2.trans s24)).mono (s5.trans s6)
    have R26 : Rep K CC H6 w2 e2 := (R2.mono s24).mono (s5.trans s6)
    have Q6 : PtsAt H6 ys qs := (hQ.mono s05).mono s6
    have q := fun H' (s : Same H6 H') => q H' ((s05.trans s6).trans s)
    clear s1 s2 s3 s4 s5 s6 s12 s24 s04 s05 hp hv htp hl hb p3 p5 a4 hl4 ht6 nb Rb2
    clear hP hQ R2 RB
    walk_at "tdt"
    refine r_ixMemT (by walk_at "tdh") (Int.emod_nonneg _ (by decide)) (by show _ < (5 : Int); exact Int.emod_lt_of_pos _ (by decide)) ?_
    simp only [List.forall_mem_cons]
    have Rt6 : Rep K CC H6 (.ref t6) (.tup (ps.map ptD')) := pts_tup a6 P6 (by omega)
    have mid : ∀ (x : V) (dx : D) (H7 : Hp), Same H6 H7 → Rep K CC H7 x dx → (∀ es, dx ≠ .lst es) → (∀ H8, Same H7 H8 → Q (.bl true) H8) → True := fun _ _ _ _ _ _ _ => trivial
    clear mid
    refine ⟨?_, ?_, ?_, ?_, ?_, allN⟩
    all_goals
      walk_at "td"
      apply r_refR
      walk_at "tdrp"
      (intro es' z; cases z)
      intro H7 s7
      have up7 : Same H6 H7 := by walk_at "tdsm"
      have b7 := up7 _ _ b6
      have v7 := up7 _ _ v6
      have tp7 := up7 _ _ tp6
      have RB7 := RB6.mono up7
      have R27 := R26.mono up7
      have Q7 := Q6.mono up7
      have q := fun H' (s : Same H7 H') => q H' (up7.trans s)
      clear up7 s7
      walk_at "td"
      refine iteF ?_
      walk_at "td"
      refine r_tupL b7 fun t8 ht8 => ?_
      generalize hu : upd _ t8 _ = H8
      have s8 := same_gen hu ht8
      have a8 := at_gen hu
      clear hu
      walk_at "td"
      refine ⟨szL rfl, fun t9 ht9 => ?_⟩
      generalize hu : upd _ t9 _ = H9
      have s9 := same_gen hu ht9
      have a9 := at_gen hu
      clear hu
      walk_at "td"
      have Rt8 : Rep K CC H9 (.ref t8) (.tup es) := rep_tupA (s9 _ _ a8) (RB7.mono (s8.trans s9)) (by rw [RB7.len]; omega)
      refine ⟨_, _, rfl, rep_tupA a9 (.cons (.int c) (.cons Rt8 .nil)) (leB rfl), fun c2 es' z => by cases z; exact few1, okRV_of (.inl (no1 _)), fun H10 s10 => ?_⟩
      have up10 := (s8.trans s9).trans s10
      have v10 := up10 _ _ v7
      have tp10 := up10 _ _ tp7
      have Q10 := Q7.mono up10
      have R210 := R27.mono up10
      have q := fun H' (s : Same H10 H') => q H' (up10.trans s)
      clear up10 s8 s9 s10 v7 tp7 Q7 R27 b7 RB7
      walk_at "td"
      refine iteF ?_
      walk_at "td"
      refine ⟨szL rfl, fun t11 ht11 => ?_⟩
      generalize hu : upd _ t11 _ = H11
      have s11 := same_gen hu ht11
      have a11 := at_gen hu
      clear hu
      walk_at "td"
      have Rtp : Rep K CC H11 (.ref tp) (.tup (qs.map ptD')) := pts_tup (s11 _ _ tp10) (Q10.mono s11) (by omega)
      refine ⟨_, _, rfl, rep_tupA a11 (.cons (R210.mono s11) (.cons Rtp .nil)) (leB rfl), fun c2 es' z => by cases z; rw [List.length_map]; omega, okRV_e (no3 qs pm), fun H12 s12 => ?_⟩
      have up12 := s11.trans s12
      walk_at "td"
      refine iteF ?_
      walk_at "td"
      refine ⟨v, tp, c, d / 4, m, ys, qs, rfl, up12 _ _ v10, up12 _ _ tp10, Q10.mono up12, asc, (fun z => ne (by rw [z] at lq; exact List.eq_nil_of_length_eq_zero lq.symm)), by omega, by omega, d6.1, fun H13 u e s13 Ru few2 no4 => ?_⟩
      walk_at "td"
      exact ⟨u, e, rfl, Ru, few2, no4, fun H14 s14 => q H14 ((up12.trans s13).trans s14)⟩
end
end RH
namespace RH
open PySem L2
local macro_rules | `(tactic| walk_at "rdh") => `(tactic| first | assumption | exact upd_same | (rw [upd_ne (by assumption)]; assumption) | (rw [upd_ne (Ne.symm (by assumption))]; assumption))
local macro_rules | `(tactic| walk_at "rdc") => `(tactic| first | assumption | decide | omega | exact cmul_r (by decide) (by decide) | exact cmul_l (by decide) (by decide) | exact cpow (by decide) (by decide) (by decide) | exact cdiv (by decide) (by decide) | exact wide_div (b := 200) (by assumption) (by omega) (by decide) (by decide) | exact cmul_r (by omega) (by omega) | exact cmul_l (by omega) (by omega))
local macro_rules | `(tactic| walk_at "rd1") => `(tactic| first
  | with_reducible apply r_op | ((with_reducible apply r_var); exact rfl) | with_reducible apply r_c | with_reducible apply r_cons | with_reducible apply r_nil | with_reducible apply r_I0
  | with_reducible apply r_seq | with_reducible apply r_asg | with_reducible apply r_name | with_reducible apply r_cb | with_reducible apply r_test | with_reducible apply r_k
  | with_reducible apply r_ifS | with_reducible apply r_call | with_reducible apply r_ret | ((with_reducible apply r_I); walk_at "rdc") | ((with_reducible apply r_eq); exact rfl) | ((with_reducible apply r_ne); exact rfl)
  | ((with_reducible apply r_ixL); walk_at "rdh"; exact rfl) | ((with_reducible apply r_ixT); walk_at "rdh"; exact rfl) | with_reducible apply r_sub | ((with_reducible apply r_setL); walk_at "rdh"; exact rfl)
  | with_reducible apply r_un | with_reducible apply r_U | with_reducible apply r_B | with_reducible apply r_and | with_reducible apply r_or | with_reducible apply r_not
  | with_reducible apply r_andV | with_reducible apply r_orV | with_reducible apply r_notV | with_reducible apply r_if | with_reducible apply r_tup | with_reducible apply r_lst
  | ((with_reducible apply r_ixgT); walk_at "rdh"; exact rfl) | ((with_reducible apply r_ixgL); walk_at "rdh"; exact rfl)
  | with_reducible apply r_next | with_reducible apply r_drop | with_reducible apply r_int1 | with_reducible apply r_chain | with_reducible apply r_ord | with_reducible apply r_abs | with_reducible apply r_min2 | with_reducible apply r_max2
  | with_reducible apply r_leStr | with_reducible apply r_inSign | with_reducible apply r_notInSign | ((with_reducible apply r_isTy); assumption)
  | ((with_reducible apply r_lenL); walk_at "rdh") | ((with_reducible apply r_lenT); walk_at "rdh")
  | refine Rep.typ (by assumption) (fun _ _ => ?_) | refine r_isi (by assumption) (by assumption) (by decide) ?_)
local macro_rules | `(tactic| walk_at "rd") => `(tactic| repeat walk_at "rd1")

theorem rep_ints {K : PySem.W.Frag} {CC : Addr → Prop} {H : Hp} {a : Addr} {os : List Int} (h : H a = some (.lst (os.map V.int))) (sz : os.length ≤ 1000) : Rep K CC H (.ref a) (.lst (os.map D.int)) := by
  refine .lst h (by rw [List.length_map, List.length_map]) (by rw [List.length_map]; exact sz) fun i x d h1 h2 => ?_
  rw [List.getElem?_map] at h1 h2
  cases z : os[i]? with
  | none => rw [z] at h1; cases h1
  | some o =>
    rw [z] at h1 h2
    cases h1
    cases h2
    exact .int _
section
variable {P : Program} {w : World} {K : PySem.W.Frag} {mg : Str → Option Value} {base : Heap} {CC : Addr → Prop}
theorem ok__law_same_list {f : Addr} {fd : FuncData} (F : Fun K "_law_same_list" "_law_same_list" s__law_same_list f fd) (T : Txt K mg) (hC : ∀ C, CC C → ClsI K C) : FnOk P w K mg base CX0 1 f fd ["told", "due"] spSameInts := by
  refine F.ok sc__law_same_list (fun vs H Q E h => ?_) (fun cdv A outer s H vs Q E hr h => ?_)
  · obtain ⟨a, b, os, rfl, _⟩ := h
    rfl
  · obtain ⟨a, b, os, rfl, ha, hb, sz, q⟩ := h
    refine ⟨_, (pss_cons (ps_if (PW.pt (pw_or (pt_not (pt_val (pe_callB call_isi rfl T.z_isinstance (by decide +kernel) (pa_cons (pv 0) (pa_cons (pe_bltn (v := .ty "list") (u := .type "list") rfl T.z_list (by decide +kernel) rfl) pa_nil))))) (pw_or1 (pt_cmpR op_ne (pe_callB call_lenG rfl T.z_len (by decide +kernel) (pa_cons (pv 0) pa_nil)) (pe_callB call_lenG rfl T.z_len (by decide +kernel) (pa_cons (pv 1) pa_nil)) (nomark _)))))
 (pss_one (ps_ret pe_bl))
 pss_nil)
 (pss_cons (ps_for PassesOwn.never rfl (pi_range1 rfl T.z_range (pa_cons (pe_callB call_lenG rfl T.z_len (by decide +kernel) (pa_cons (pv 1) pa_nil)) pa_nil)) (pg_name (i := 2) sc__law_same_list.nd rfl (Or.inl rfl))
 (pss_one (ps_if (PW.pt (pw_or (pt_not (pt_val (pe_callB call_isi rfl T.z_isinstance (by decide +kernel) (pa_cons (pe_ix ix_list (pv 0) (pv 2) (fun _ _ => rfl)) (pa_cons (pe_bltn (v := .ty "int") (u := .type "int") rfl T.z_int (by decide +kernel) rfl) pa_nil))))) (pw_or (pt_val (pe_callB call_isi rfl T.z_isinstance (by decide +kernel) (pa_cons (pe_ix ix_list (pv 0) (pv 2) (fun _ _ => rfl)) (pa_cons (pe_bltn (v := .ty "bool") (u := .type "bool") rfl T.z_bool (by decide +kernel) rfl) pa_nil)))) (pw_or1 (pt_cmpR op_ne (pe_ix ix_list (pv 0) (pv 2) (fun _ _ => rfl)) (pe_ix ix_list (pv 1) (pv 2) (fun _ _ => rfl)) (nomark _))))))
 (pss_one (ps_ret pe_bl))
 pss_nil)))
 (pss_one (ps_ret pe_bl)))), ?_⟩
    walk_at "rd"
    refine r_isi (d := .lst (os.map D.int)) hC (rep_ints ha sz) (by decide) ?_
    walk_at "rd"
    refine iteF ?_
    walk_at "rd"
    refine iteN (by rw [decide_eq_true rfl]; rfl) ?_
    walk_at "rd"
    refine r_for (r_rng1 ?_)
    walk_at "rd"
    rw [List.length_map]
    refine ⟨_, rfl, by omega, by omega, ?_⟩
    refine go_range (fun i σ' H' => H' = H ∧ ∃ u, σ' = [some (.ref a), some (.ref b), u]) ⟨rfl, _, rfl⟩ ?_ ?_
    · rintro i x σ' H1 hi ⟨rfl, u, rfl⟩ rfl
      have hi : i < os.length := by simpa using hi
      have e : atI (os.map V.int) (i : Int) = some (.int os[i]) := atI_nat (by rw [List.getElem?_map, List.getElem?_eq_getElem hi]; rfl)
      rw [Int.zero_add]
      walk_at "rd"
      refine r_ixL ha e ?_
      walk_at "rd"
      refine r_isi (d := .int os[i]) hC (.int _) (by decide) ?_
      walk_at "rd"
      refine iteF ?_
      walk_at "rd"
      refine r_ixL ha e ?_
      walk_at "rd"
      refine r_isi (d := .int os[i]) hC (.int _) (by decide) ?_
      walk_at "rd"
      refine iteF ?_
      walk_at "rd"
      refine r_ixL ha e ?_
      walk_at "rd"
      refine r_ixL hb e ?_
      walk_at "rd"
      refine iteN (by rw [decide_eq_true rfl]; rfl) ?_
      walk_at "rd"
      exact ⟨rfl, _, rfl⟩
    · rintro σ' H1 ⟨rfl, u, rfl⟩
      walk_at "rd"
      exact q
end
end RH
namespace RH
open PySem L2 ItX
local macro_rules | `(tactic| walk_at "tdc") => `(tactic| first | assumption | decide | omega | exact cmul_r (by decide) (by decide) | exact cmul_l (by decide) (by decide) | exact cpow (by decide) (by decide) (by decide) | exact cdiv (by decide) (by decide) | exact wide_div (b := 200) (by assumption) (by omega) (by decide) (by decide) | exact cmul_r (by omega) (by omega) | exact cmul_l (by omega) (by omega))
local macro_rules | `(tactic| walk_at "td1") => `(tactic| first
  | with_reducible apply r_op | ((with_reducible apply r_var); exact rfl) | with_reducible apply r_c | with_reducible apply r_cons | with_reducible apply r_nil | with_reducible apply r_I0
  | with_reducible apply r_seq | with_reducible apply r_asg | with_reducible apply r_name | with_reducible apply r_cb | with_reducible apply r_test | with_reducible apply r_k
  | with_reducible apply r_ifS | with_reducible apply r_call | with_reducible apply r_ret | ((with_reducible apply r_I); walk_at "tdc") | ((with_reducible apply r_eq); exact rfl) | ((with_reducible apply r_ne); exact rfl)
  | ((with_reducible apply r_ixL); walk_at "tdh"; exact rfl) | ((with_reducible apply r_ixT); walk_at "tdh"; exact rfl) | with_reducible apply r_sub | ((with_reducible apply r_setL); walk_at "tdh"; exact rfl)
  | with_reducible apply r_un | with_reducible apply r_U | with_reducible apply r_B | with_reducible apply r_and | with_reducible apply r_or | with_reducible apply r_not
  | with_reducible apply r_andV | with_reducible apply r_orV | with_reducible apply r_notV | with_reducible apply r_if | with_reducible apply r_tup | with_reducible apply r_lst
  | ((with_reducible apply r_ixgT); walk_at "tdh"; exact rfl) | ((with_reducible apply r_ixgL); walk_at "tdh"; exact rfl)
  | with_reducible apply r_next | with_reducible apply r_drop | with_reducible apply r_int1 | with_reducible apply r_chain | with_reducible apply r_ord | with_reducible apply r_abs | with_reducible apply r_min2 | with_reducible apply r_max2
  | with_reducible apply r_leStr | with_reducible apply r_inSign | with_reducible apply r_notInSign | ((with_reducible apply r_isTy); assumption) | ((with_reducible apply r_notTy); assumption)
  | ((with_reducible apply r_lenL); walk_at "tdh") | ((with_reducible apply r_lenT); walk_at "tdh")
  | ((with_reducible apply r_fldV); exact rfl; walk_at "tdh"; assumption; assumption; exact rfl) | with_reducible apply r_bmG | with_reducible apply r_bm0G | with_reducible apply r_isN | with_reducible apply r_notN | with_reducible apply r_prop | ((with_reducible apply r_prX); walk_at "tdh") | with_reducible apply r_fld | ((apply r_fldX); walk_at "tdh"; assumption; assumption; exact rfl; walk_at "tdi") | with_reducible apply r_mtE | with_reducible apply r_cS | (refine r_gtup (SqT.of (by walk_at "tdh")) rfl ?_) | with_reducible apply r_gcons | with_reducible apply r_gnil | with_reducible apply r_sta | with_reducible apply r_staX | with_reducible apply r_mtG | ((with_reducible apply r_mtX); walk_at "tdh"; exact rfl) | with_reducible apply r_par2 | with_reducible apply r_par3 | ((with_reducible apply r_tyL); walk_at "tdh")
  | refine Rep.typ (by assumption) (fun _ _ => ?_) | refine r_isi (by assumption) (by assumption) (by decide) ?_)
local macro_rules | `(tactic| walk_at "td") => `(tactic| repeat walk_at "td1")
local macro_rules | `(tactic| walk_at "tdf") => `(tactic| (generalize hu : upd _ _ (.lst (_ ++ [_])) = H2; have f := fr_gen hu; have a := at_gen hu; clear hu))
local macro_rules | `(tactic| walk_at "tds") => `(tactic| (generalize hu : upd _ _ (.lst (List.set _ _ _)) = H2; have f := fr_gen hu; have a := at_gen hu; clear hu))
local macro_rules | `(tactic| walk_at "tdev") => `(tactic| first | exact ev_int _ | exact ev_bl _ | exact ev_non | exact ev_str _ (by decide +kernel) | assumption | (refine ev_tup (by walk_at "tdh") ?_; walk_at "tdall") | (refine Ev.mono (by assumption) ?_; walk_at "tdtk"))
local macro_rules | `(tactic| walk_at "tdall") => `(tactic| first | exact allN | (refine List.forall_mem_cons.mpr ⟨?_, ?_⟩; walk_at "tdev"; walk_at "tdall"))
local macro_rules | `(tactic| walk_at "tdn") => `(tactic| (refine ⟨szL rfl, fun p hp => ?_⟩; generalize hu : upd _ p _ = H2; have s := same_gen hu hp; have a := at_gen hu; clear hu))
local macro_rules | `(tactic| walk_at "tdt") => `(tactic| repeat (first | walk_at "td1" | walk_at "tdn" | walk_at "tdm"))
local macro_rules | `(tactic| walk_at "tdg") => `(tactic| (intro p hp; generalize hu : upd _ p _ = H2; have s := same_gen hu hp; have a := at_gen hu; clear hu))
local macro_rules | `(tactic| walk_at "tdh") => `(tactic| first | assumption | exact upd_same | (rw [upd_ne (by assumption)]; assumption) | (rw [upd_ne (Ne.symm (by assumption))]; assumption) | (apply same_step; assumption; walk_at "tdh") | (apply fr_step; assumption; walk_at "tdne"; walk_at "tdh") | (apply fr_stepK; assumption; walk_at "tdh"; walk_at "tdh"; (intro z; cases z)))
local macro_rules | `(tactic| walk_at "tdne") => `(tactic| first | assumption | exact Ne.symm (by assumption) | (apply ne_noneX; assumption; walk_at "tdh") | (apply Ne.symm; apply ne_noneX; assumption; walk_at "tdh"))
local macro_rules | `(tactic| walk_at "tdsm") => `(tactic| first | assumption | exact Same.refl _ | (apply same_chain; assumption; walk_at "tdsm") | (apply same_frX; assumption; walk_at "tdsm"; walk_at "tdno"))
local macro_rules | `(tactic| walk_at "tdno") => `(tactic| first | assumption | (apply none_backX; assumption; walk_at "tdsm"))
local macro_rules | `(tactic| walk_at "tdtk") => `(tactic| first | assumption | exact TuK.refl _ | (apply tuk_same; assumption; walk_at "tdtk") | (apply tuk_fr; assumption; walk_at "tdh"; walk_at "tdtk") | (apply tuk_frI; assumption; walk_at "tdh"; walk_at "tdtk"))
local macro_rules | `(tactic| walk_at "tdi") => `(tactic| (generalize hu : upd _ _ (.ins _ _ (putF _ _ _)) = H2; have f := fr_gen hu; have a := at_gen hu; clear hu))
local macro_rules | `(tactic| walk_at "tdrp") => `(tactic| first | exact .int _ | exact .bl _ | exact .non | exact .str _ (okS_of (by decide +kernel)) | assumption | (apply rep_monoX; assumption; walk_at "tdsm") | (apply rep_tupA; walk_at "tdh"; walk_at "tdrpa"; exact leB rfl) | (apply rep_lstA; walk_at "tdh"; walk_at "tdrpa"; exact leB rfl) | exact .dct (by walk_at "tdh"))
local macro_rules | `(tactic| walk_at "tdrpa") => `(tactic| first | exact .nil | (apply RepAll.cons; walk_at "tdrp"; walk_at "tdrpa"))
local macro_rules | `(tactic| walk_at "tdm") => `(tactic| first | ((with_reducible apply r_catT); walk_at "tdh"; walk_at "tdh"; exact List.cons_ne_nil _ _; exact List.cons_ne_nil _ _; exact szL rfl; walk_at "tdg") | ((with_reducible apply r_listTU); walk_at "tdh"; walk_at "tdg") | ((with_reducible apply r_listL); walk_at "tdh"; walk_at "tdg") | ((with_reducible apply r_dnew); walk_at "tdg") | with_reducible apply r_slice | with_reducible apply r_nopart | with_reducible apply r_part | with_reducible apply r_pI | ((with_reducible apply r_slT); walk_at "tdh"; exact of_decide_eq_false rfl; walk_at "tdg") | ((with_reducible apply r_slL); walk_at "tdh"; walk_at "tdg"))

-- tail: CB=BadValue
section
variable {P : Program} {w : World} {K : PySem.W.Frag} {mg : Str → Option Value} {base : Heap} {CC : Addr → Prop}
theorem ok_law {f C CB : Addr} {fd : FuncData} (F : Fun K "law" "law" s_law f fd) (T : Txt K mg) (hC : ∀ C, CC C → ClsI K C) (mg_Ring : mg "Ring" = some (.ref C))
    (c__law_draws : C8.Cal P w K mg base 1 "_law_draws" (spStream K 27720) []) (c__law_draw : C8.Cal P w K mg base 1 "_law_draw" spDrawF []) (c__law_pool : C8.Cal P w K mg base 2 "_law_pool" (spPool K) []) (c__law_points : C8.Cal P w K mg base 2 "_law_points" spLawPoints [])
    (c__law_copies : C8.Cal P w K mg base 2 "_law_copies" spCopies []) (c__law_houses : C8.Cal P w K mg base 1 "_law_houses" spHouses []) (c__law_alike : C8.Cal P w K mg base 4 "_law_alike" (spAlike K CC 3) []) (c__law_refused : C8.Cal P w K mg base 9 "_law_refused" (spRefused25 K) [])
    (c__law_same_list : C8.Cal P w K mg base 1 "_law_same_list" spSameInts []) (m_Ring : MakX P w K mg base 5 "Ring" C (spRingX K CC C CB)) (c_Ring_value : C8.Met P w K mg base 1 C "value" (spRingVR C) []) (c_Ring_houses : C8.Met P w K mg base 1 C "houses" (spRingHs C) [])
    (p_Ring_copies : Pro P w K mg base 1 C "copies" (spRingCV C)) (c_Ring_from_value : Sta P w K mg base 7 C "from_value" (spFromVR K CC C CB)) : FnOk P w K mg base CX0 10 f fd ["script"] (spLaw K) := by
  refine F.ok sc_law (fun vs H Q E h => ?_) (fun cdv A outer s Hb vs Q E hr h => ?_)
  · obtain ⟨a, ns, rfl, _⟩ := h
    rfl
  · obtain ⟨a, ns, rfl, hS, hl, q⟩ := h
    refine ⟨_, (pss_cons (ps_set (i := 1) sc_law.nd rfl (Or.inl rfl) (C8.pe_c c__law_draws hr (by decide) rfl (pa_cons (pe_slice sl_list (pv 0) (po_some pe_int) po_none) (pa_cons pe_int pa_nil))))
 (pss_cons (ps_set (i := 2) sc_law.nd rfl (Or.inl rfl) (C8.pe_c c__law_points hr (by decide) rfl (pa_cons (pv 1) (pa_cons pe_int (pa_cons (C8.pe_c c__law_pool hr (by decide) rfl (pa_cons (pv 0) (pa_cons (pv 1) pa_nil))) pa_nil)))))
 (pss_cons (ps_set (i := 3) sc_law.nd rfl (Or.inl rfl) (C8.pe_c c__law_copies hr (by decide) rfl (pa_cons (pv 2) (pa_cons (C8.pe_c c__law_draw hr (by decide) rfl (pa_cons (pv 1) (pa_cons pe_int pa_nil))) pa_nil))))
 (pss_cons (ps_set (i := 4) sc_law.nd rfl (Or.inl rfl) (pe_callTy call_listG rfl T.z_list (by decide +kernel) (pa_cons (pv 2) pa_nil)))
 (pss_cons (ps_set (i := 5) sc_law.nd rfl (Or.inl rfl) (pe_mk0 m_Ring hr (by decide) rfl (pa_cons (pv 4) (pa_cons (pv 3) pa_nil))))
 (pss_cons (ps_set (i := 6) sc_law.nd rfl (Or.inl rfl) (pe_tup (pa_cons (pv 3) (pa_cons (pe_callTy call_tupleG rfl T.z_tuple (by decide +kernel) (pa_cons (pe_callB cr_sortedPO rfl T.z_sorted (by decide +kernel) (pa_cons (pv 2) pa_nil)) pa_nil)) pa_nil))))
 (pss_cons (ps_set (i := 7) sc_law.nd rfl (Or.inl rfl) (pe_callB cr_sortedI rfl T.z_sorted (by decide +kernel) (pa_cons (C8.pe_c c__law_houses hr (by decide) rfl (pa_cons (pv 2) pa_nil)) pa_nil)))
 (pss_cons (ps_if (PW.pt (pw_or (pt_cmpR (op_neD hr.units) (pv 4) (pv 2) (nomark _)) (pw_or (pt_not (pt_val (C8.pe_c c__law_alike hr (by decide) rfl (pa_cons (C8.pe_mt0 c_Ring_value hr (by decide) (pv 5)) (pa_cons (pv 6) pa_nil))))) (pw_or1 (pt_not (pt_val (C8.pe_c c__law_refused hr (by decide) rfl (pa_cons (pv 2) (pa_cons (pv 3) (pa_cons (pv 6) (pa_cons (pv 1) pa_nil)))))))))))
 (pss_one (ps_ret pe_bl))
 pss_nil)
 (pss_cons (ps_expr (pe_bm0 PySem.F.plainAttrs_list PySem.F.slot_list_clear PySem.F.type_list_clear mt_clear (pv 4)))
 (pss_cons (ps_set (i := 8) sc_law.nd rfl (Or.inl rfl) (C8.pe_mt0 c_Ring_houses hr (by decide) (pv 5)))
 (pss_cons (ps_if (pt_not (pt_val (C8.pe_c c__law_same_list hr (by decide) rfl (pa_cons (pv 8) (pa_cons (pv 7) pa_nil)))))
 (pss_one (ps_ret pe_bl))
 pss_nil)
 (pss_cons (ps_expr (pe_bm PySem.F.plainAttrs_list PySem.F.slot_list_append PySem.F.type_list_append mt_append (pv 8) (pa_cons (pe_un un_neg pe_int) pa_nil)))
 (pss_cons (ps_set (i := 9) sc_law.nd rfl (Or.inl rfl) (pe_sta c_Ring_from_value hr (by decide) (pe_glob (v := .ref C) rfl mg_Ring rfl) (pa_cons (C8.pe_mt0 c_Ring_value hr (by decide) (pv 5)) pa_nil)))
 (pss_cons (ps_if (PW.pt (pw_or (pt_not (pt_val (C8.pe_c c__law_same_list hr (by decide) rfl (pa_cons (C8.pe_mt0 c_Ring_houses hr (by decide) (pv 5)) (pa_cons (pv 7) pa_nil))))) (pw_or1 (pt_not (pt_val (C8.pe_c c__law_same_list hr (by decide) rfl (pa_cons (C8.pe_mt0 c_Ring_houses hr (by decide) (pv 9)) (pa_cons (pv 7) pa_nil))))))))
 (pss_one (ps_ret pe_bl))
 pss_nil)
 (pss_cons (ps_if (pt_not (pt_val (C8.pe_c c__law_alike hr (by decide) rfl (pa_cons (pe_tup (pa_cons (pe_pr p_Ring_copies hr (by decide) (pv 5) rfl) (pa_cons (pe_pr p_Ring_copies hr (by decide) (pv 9) rfl) pa_nil))) (pa_cons (pe_tup (pa_cons (pv 3) (pa_cons (pv 3) pa_nil))) pa_nil)))))
 (pss_one (ps_ret pe_bl))
 pss_nil)
 (pss_one (ps_ret (pe_and (C8.pe_c c__law_alike hr (by decide) rfl (pa_cons (C8.pe_mt0 c_Ring_value hr (by decide) (pv 5)) (pa_cons (pv 6) pa_nil))) (pe_one (C8.pe_c c__law_alike hr (by decide) rfl (pa_cons (C8.pe_mt0 c_Ring_value hr (by decide) (pv 9)) (pa_cons (pv 6) pa_nil)))))))))))))))))))))), ?_⟩
    walk_at "td"
    refine r_slice ?_
    walk_at "td"
    refine r_part (r_c ⟨1, rfl, r_nopart ⟨a, _, rfl, hS, fun p1 hp1 => ?_⟩⟩)
    obtain ⟨x1, ex1, sub1⟩ := cut_sub ns (some 1) none
    rw [ex1]
    generalize hu : upd _ p1 _ = H1
    have s1 := same_gen hu hp1
    have a1 := at_gen hu
    clear hu
    walk_at "td"
    refine ⟨p1, x1, 34, rfl, SqL.of a1, by decide, fun H2 l s2 nl hD => ?_⟩
    obtain ⟨ds, hds, dsl, dsr⟩ := hD
    have dok : DrawsOk ds := ⟨dsl, dsr⟩
    have hS2 := (s1.trans s2).seq hS
    walk_at "td"
    refine ⟨a, l, ns, ds, rfl, hS2, hds, dok, fun H3 pl ms s3 npl hpl lm rm => ?_⟩
    have hds3 := s3 _ _ hds
    walk_at "td"
    refine ⟨l, pl, ds, ms, 8, rfl, hds3, dok, by decide, hpl, lm, rm, fun H4 p xs ps s4 np hp hP ok1 => ?_⟩
    have hds4 := s4 _ _ hds3
    clear hS hS2 s1 s2 s3 s4 a1 hds hds3 hpl hp1 nl npl np ex1
    have few := ok1.le256
    have ne : ps ≠ [] := fun z => by have := ok1.many; rw [z] at this; exact absurd this (by decide)
    walk_at "td"
    refine ⟨l, ds, 7, rfl, hds4, by decide, ?_⟩
    have d7 := drawF_in dok 7
    walk_at "td"
    refine ⟨p, xs, ps, _, rfl, hp, hP, ok1, d7.1, fun H5 c s5 ok => ?_⟩
    have hp5 := s5 _ _ hp
    have hP5 := hP.mono s5
    have hds5 := s5 _ _ hds4
    clear s5 hp hP hds4
    have lx := hP5.1
    walk_at "td"
    refine r_listL hp5 fun pa hpa => ?_
    generalize hu : upd _ pa _ = H6
    have s6 := same_gen hu hpa
    have a6 := at_gen hu
    clear hu
    have hp6 := s6 _ _ hp5
    have hP6 := hP5.mono s6
    have hds6 := s6 _ _ hds5
    have nap : p ≠ pa := ne_of_none hp5 hpa
    have nal : l ≠ pa := ne_of_none hds5 hpa
    walk_at "td"
    refine r_make ?_
    walk_at "td"
    intro r dr hr1 hdr ndr
    have s7 : Same H6 (upd (upd H6 dr (.own r)) r (.ins C dr [])) := (same_new hdr).trans (same_new (by rw [upd_ne ndr.symm]; exact hr1))
    refine ⟨r, dr, .ref pa, .int c, _, _, rfl, upd_same, pts_lst (s7 _ _ a6) (hP6.mono s7) (by omega), .int c, fun es z => by cases z; rw [List.length_map]; omega, fun p0 xs0 es ci e1 e2 e3 e4 _ H8 qs k8 pm hR => ⟨rfl, ?_⟩, fun z => absurd (okRing_of ok) (by rw [z]; decide)⟩
    cases e3
    cases e4
    rw [map_ptD] at pm
    have s8 : Same H6 H8 := fun b o e => k8 b o (ne_of_none e hr1) (s7 _ _ e)
    have hp8 := s8 _ _ hp6
    have hP8 := hP6.mono s8
    have hds8 := s8 _ _ hds6
    have a8 := s8 _ _ a6
    have hR := hR.v
    have ascq : Asc qs := by
      obtain ⟨_, _, _, _, _, _, _, _, z⟩ := hR
      exact z
    have okq : OkPts qs c := by
      obtain ⟨_, _, _, _, _, _, _, z, _⟩ := hR
      exact z
    have lq : qs.length = ps.length := pm.length_eq
    clear s6 s7 s8 hp5 hp6 hP5 hP6 hds5 hds6 a6 hpa hr1 hdr k8 ndr
    walk_at "td"
    refine ⟨p, xs, kAt H8, rfl, SqL.of hp8, fun y hy => ?_, fun ys o srt stb ho => ?_⟩
    · obtain ⟨i, hi, e⟩ := List.getElem_of_mem hy
      have hi2 : i < ps.length := by rw [← lx]; exact hi
      obtain ⟨t, e2, ht⟩ := hP8.at_ hi2
      rw [List.getElem?_eq_getElem hi, e] at e2
      obtain rfl := Option.some.inj e2
      exact ⟨t, rfl, by rw [kAt_at (d := ps[i]) ht]; exact ht⟩
    obtain ⟨qs2, hq2, okq2, ascq2, pmq2⟩ := pts_permX hP8 srt stb.perm ok
    obtain rfl : qs2 = qs := asc_perm (pmq2.trans pm.symm) ascq2 ascq
    generalize hu : upd _ o _ = H9
    have s9 := same_gen hu ho
    have a9 := at_gen hu
    clear hu
    walk_at "td"
    refine r_tupL a9 fun t9 ht9 => ?_
    generalize hu : upd _ t9 _ = H10
    have s10 := same_gen hu ht9
    have a10 := at_gen hu
    clear hu
    walk_at "td"
    refine ⟨szL rfl, fun du hdu => ?_⟩
    generalize hu : upd _ du _ = H11
    have s11 := same_gen hu hdu
    have a11 := at_gen hu
    clear hu
    have up := (s9.trans s10).trans s11
    have hQ := hq2.mono up
    have t11 := s11 _ _ a10
    have hp11 := up _ _ hp8
    have hP11 := hP8.mono up
    have hds11 := up _ _ hds8
    have a8 := up _ _ a8
    have hR := hR.mono up
    clear s9 s10 s11 up hp8 hP8 hds8 a9 a10 hdu ht9 ho srt stb hq2
    walk_at "td"
    refine ⟨p, xs, ps, rfl, hp11, hP11, ok1.few, fun H12 ph s12 nph hph => ?_⟩
    walk_at "td"
    refine ⟨ph, _, rfl, SqL.of hph, fun us po pmu ascu hpo => ?_⟩
    generalize hu : upd _ po _ = H13
    have s13 := same_gen hu hpo
    have ah := at_gen hu
    clear hu
    have up := s12.trans s13
    have hQ := hQ.mono up
    have t13 := up _ _ t11
    have a13 := up _ _ a11
    have hp13 := up _ _ hp11
    have hP13 := hP11.mono up
    have hds13 := up _ _ hds11
    have a8 := up _ _ a8
    have hR := hR.mono up
    have npo : pa ≠ po := ne_of_none (s12 _ _ (by assumption)) hpo
    clear s12 s13 up a11 t11 hp11 hP11 hds11 hph nph hpo
    have hl2 : us.length ≤ 300 := by
      rw [pmu.length_eq]
      have := dd_len (ps.map (·.2))
      rw [List.length_map] at this
      omega
    obtain ⟨dx1, tp1, ow1, hr1⟩ := hR.look
    walk_at "td"
    refine r_nePts a8 hp13 hP13 ?_
    walk_at "td"
    refine iteF ?_
    walk_at "td"
    refine ⟨r, c, _, rfl, hR, fun H14 v14 tp14 zs14 s14 nv14 hv14 ht14 hq14 => ?_⟩
    have hQ14 := hQ.mono s14
    walk_at "td"
    refine ⟨_, _, _, rfl, val_rep hv14 ht14 hq14 (by omega), val_rep (s14 _ _ a13) (s14 _ _ t13) hQ14 (by omega), tree_val _ _, fun H15 s15 => ?_⟩
    walk_at "td"
    refine iteF ?_
    have up := s14.trans s15
    walk_at "td"
    refine ⟨p, du, t9, l, c, xs, ys, ps, _, ds, rfl, up _ _ hp13, hP13.mono up, ok, ok1, ne, up _ _ a13, up _ _ t13, hQ.mono up, pm, ascq, up _ _ hds13, dok, fun H16 s16 => ?_⟩
    have up := up.trans s16
    have hR := hR.mono up
    have hQ := hQ.mono up
    have t16 := up _ _ t13
    have a16 := up _ _ a13
    have ah := up _ _ ah
    have a8 := up _ _ a8
    clear up s14 s15 s16 hv14 ht14 hq14 hQ14 t13 a13 hp13 hP13 hds13 nv14 hr1
    walk_at "td"
    refine iteF ?_
    walk_at "td"
    refine ⟨pa, xs, rfl, rfl, a8, ?_⟩
    generalize hu : upd _ pa _ = H17
    have f17 : Fr pa H16 H17 := fr_gen hu
    clear hu
    have hR := hR.fr f17 a8
    have hQ := hQ.fr f17 a8
    have t17 := f17 _ _ (ne_obj t16 a8 (fun z => by cases z)) t16
    have a17 := f17 _ _ (ne_obj a16 a8 (fun z => by cases z)) a16
    have ah := f17 _ _ npo.symm ah
    clear f17 t16 a16 a8
    obtain ⟨dx1, tp1, ow1, hr1⟩ := hR.look
    walk_at "td"
    refine ⟨r, c, _, rfl, hR, fun H18 pt ms s18 npt hpt asc18 mem18 len18 => ?_⟩
    obtain rfl := houses_one pm pmu ascu asc18 mem18
    walk_at "td"
    refine ⟨pt, po, ms, rfl, hpt, s18 _ _ ah, by omega, ?_⟩
    walk_at "td"
    refine iteF ?_
    walk_at "td"
    refine r_append hpt (by rw [List.length_map]; exact small1000 (by omega)) ?_
    walk_at "tdf"
    rename_i H19 f19 a19
    have hR := (hR.mono s18).fr f19 hpt
    have hQ := (hQ.mono s18).fr f19 hpt
    have t19 := f19 _ _ (ne_obj (s18 _ _ t17) hpt (fun z => by cases z)) (s18 _ _ t17)
    have a19' := f19 _ _ (ne_obj (s18 _ _ a17) hpt (fun z => by cases z)) (s18 _ _ a17)
    have ah := f19 _ _ (ne_of_none ah npt) (s18 _ _ ah)
    clear f19 s18 a19 hpt npt t17 a17 hr1
    obtain ⟨dx1, tp1, ow1, hr1⟩ := hR.look
    walk_at "td"
    refine ⟨r, c, _, rfl, hR, fun H20 v20 tp20 zs20 s20 nv20 hv20 ht20 hq20 => ?_⟩
    walk_at "td"
    have okv : okRV (.tup [.int c, .tup (qs2.map ptD')]) = true := by
      show (okRing (.lst (qs2.map ptD')) (.int c) && decide (Asc ((qs2.map ptD').map ptD))) = true
      rw [okRing_of okq, map_ptD, decide_eq_true ascq]
      rfl
    refine ⟨_, _, rfl, val_rep hv20 ht20 hq20 (by omega), fun c2 es z => by cases z; rw [List.length_map]; omega, fun c2 es z _ H21 g s21 hG => ?_, fun z => absurd okv (by rw [z]; decide)⟩
    cases z
    rw [map_ptD] at hG
    have hG := hG.v
    have up := s20.trans s21
    have hR := hR.mono up
    have hQ := hQ.mono up
    have t21 := up _ _ t19
    have a21 := up _ _ a19'
    have ah := up _ _ ah
    clear up s20 s21 hv20 ht20 hq20 nv20 t19 a19' hr1
    obtain ⟨dx1, tp1, ow1, hr1⟩ := hR.look
    obtain ⟨dx2, tp2, ow2, hg1⟩ := hG.look
    walk_at "td"
    refine ⟨r, c, _, rfl, hR, fun H22 p22 ms2 s22 np22 hp22 asc22 mem22 len22 => ?_⟩
    obtain rfl := houses_one pm pmu ascu asc22 mem22
    walk_at "td"
    refine ⟨p22, po, ms2, rfl, hp22, s22 _ _ ah, by omega, ?_⟩
    walk_at "td"
    refine iteF ?_
    walk_at "td"
    refine ⟨g, c, _, rfl, hG.mono s22, fun H23 p23 ms3 s23 np23 hp23 asc23 mem23 len23 => ?_⟩
    obtain rfl := houses_one pm pmu ascu asc23 mem23
    have up := s22.trans s23
    walk_at "td"
    refine ⟨p23, po, ms3, rfl, hp23, up _ _ ah, by omega, ?_⟩
    walk_at "td"
    refine iteF ?_
    have hR := hR.mono up
    have hG := hG.mono up
    have hQ := hQ.mono up
    have t23 := up _ _ t21
    have a23 := up _ _ a21
    clear up s22 s23 t21 a21 hp22 hp23 hr1 hg1
    obtain ⟨dx1, tp1, ow1, hr1⟩ := hR.look
    obtain ⟨dx2, tp2, ow2, hg1⟩ := hG.look
    walk_at "td"
    refine ⟨r, c, _, rfl, hR, ?_⟩
    walk_at "td"
    refine ⟨g, c, _, rfl, hG, ?_⟩
    walk_at "tdt"
    refine ⟨_, _, .tup [.int c, .int c], rfl, by walk_at "tdrp", by walk_at "tdrp", tree_two _ _, fun H26 s26 => ?_⟩
    rename_i p24 hp24 H24 s24 a24 p25 hp25 H25 s25 a25
    have up := (s24.trans s25).trans s26
    have hR := hR.mono up
    have hG := hG.mono up
    have hQ := hQ.mono up
    have t26 := up _ _ t23
    have a26 := up _ _ a23
    clear up s24 s25 s26 a24 a25 t23 a23 hr1 hg1 hp24 hp25
    obtain ⟨dx1, tp1, ow1, hr1⟩ := hR.look
    obtain ⟨dx2, tp2, ow2, hg1⟩ := hG.look
    walk_at "td"
    refine iteF ?_
    walk_at "td"
    refine ⟨r, c, _, rfl, hR, fun H27 v27 tp27 zs27 s27 _ hv27 ht27 hq27 => ?_⟩
    walk_at "td"
    refine ⟨_, _, _, rfl, val_rep hv27 ht27 hq27 (by omega), val_rep (s27 _ _ a26) (s27 _ _ t26) (hQ.mono s27) (by omega), tree_val _ _, fun H28 s28 => ?_⟩
    have up := s27.trans s28
    have hg2 := up _ _ hg1
    walk_at "td"
    refine iteT ?_
    walk_at "td"
    refine ⟨g, c, _, rfl, hG.mono up, fun H29 v29 tp29 zs29 s29 _ hv29 ht29 hq29 => ?_⟩
    have up := up.trans s29
    walk_at "td"
    refine ⟨_, _, _, rfl, val_rep hv29 ht29 hq29 (by omega), val_rep (up _ _ a26) (up _ _ t26) (hQ.mono up) (by omega), tree_val _ _, fun H30 s30 => ?_⟩
    exact q H30
end
end RH
namespace RH
open PySem L2
/-! ### what the top has written, the head -/
theorem all_mk {l : PySem.W.OpenLaw} {w : World} {K : PySem.W.Frag} {h : Heap} {mg : Str → Option Value} (X : K.In h) (G : h.Ns mainGlobals mg) {fa C_Ring C_BadValue C_Busy C_HouseDown C_RingError C_Unknown f_is_integer f_is_number f__law_cell f__law_draw f__law_draws f__first_met f__owners_by_place f__is_point f__are_points f_Ring___init__ f_Ring_copies f_Ring_value f_Ring_houses f_Ring_from_value f__law_pool f__law_houses f__law_copies f__law_points f__law_bad_point f__law_bad_points f__law_bad_copies f__law_refuses_ring f__law_refuses_value f__law_alike f__law_bad_value f__law_refused f__law_same_list f_law p0_Ring_copies p0_Ring_from_value : Addr} {rs_Ring_copies rs_Ring_from_value : List Value} {od_is_integer an_is_integer od_is_number an_is_number od__law_cell an__law_cell od__law_draw an__law_draw od__law_draws an__law_draws od__first_met an__first_met od__owners_by_place an__owners_by_place od__is_point an__is_point od__are_points an__are_points od_Ring___init__ an_Ring___init__ od_Ring_copies an_Ring_copies od_Ring_value an_Ring_value od_Ring_houses an_Ring_houses od_Ring_from_value an_Ring_from_value od__law_pool an__law_pool od__law_houses an__law_houses od__law_copies an__law_copies od__law_points an__law_points od__law_bad_point an__law_bad_point od__law_bad_points an__law_bad_points od__law_bad_copies an__law_bad_copies od__law_refuses_ring an__law_refuses_ring od__law_refuses_value an__law_refuses_value od__law_alike an__law_alike od__law_bad_value an__law_bad_value od__law_refused an__law_refused od__law_same_list an__law_same_list od_law an_law : Option Addr} {sl_is_integer sl_is_number sl__law_cell sl__law_draw sl__law_draws sl__first_met sl__owners_by_place sl__is_point sl__are_points sl_Ring___init__ sl_Ring_copies sl_Ring_value sl_Ring_houses sl_Ring_from_value sl__law_pool sl__law_houses sl__law_copies sl__law_points sl__law_bad_point sl__law_bad_points sl__law_bad_copies sl__law_refuses_ring sl__law_refuses_value sl__law_alike sl__law_bad_value sl__law_refused sl__law_same_list sl_law : Array (Option Value)} {oc_is_integer kV_is_integer dc_is_integer pm_is_integer cd_is_integer ct_is_integer oc_is_number kV_is_number dc_is_number pm_is_number cd_is_number ct_is_number oc__law_cell kV__law_cell dc__law_cell pm__law_cell cd__law_cell ct__law_cell oc__law_draw kV__law_draw dc__law_draw pm__law_draw cd__law_draw ct__law_draw oc__law_draws kV__law_draws dc__law_draws pm__law_draws cd__law_draws ct__law_draws oc__first_met kV__first_met dc__first_met pm__first_met cd__first_met ct__first_met oc__owners_by_place kV__owners_by_place dc__owners_by_place pm__owners_by_place cd__owners_by_place ct__owners_by_place oc__is_point kV__is_point dc__is_point pm__is_point cd__is_point ct__is_point oc__are_points kV__are_points dc__are_points pm__are_points cd__are_points ct__are_points oc_Ring___init__ kV_Ring___init__ dc_Ring___init__ pm_Ring___init__ cd_Ring___init__ ct_Ring___init__ oc_Ring_copies kV_Ring_copies dc_Ring_copies pm_Ring_copies cd_Ring_copies ct_Ring_copies oc_Ring_value kV_Ring_value dc_Ring_value pm_Ring_value cd_Ring_value ct_Ring_value oc_Ring_houses kV_Ring_houses dc_Ring_houses pm_Ring_houses cd_Ring_houses ct_Ring_houses oc_Ring_from_value kV_Ring_from_value dc_Ring_from_value pm_Ring_from_value cd_Ring_from_value ct_Ring_from_value oc__law_pool kV__law_pool dc__law_pool pm__law_pool cd__law_pool ct__law_pool oc__law_houses kV__law_houses dc__law_houses pm__law_houses cd__law_houses ct__law_houses oc__law_copies kV__law_copies dc__law_copies pm__law_copies cd__law_copies ct__law_copies oc__law_points kV__law_points dc__law_points pm__law_points cd__law_points ct__law_points oc__law_bad_point kV__law_bad_point dc__law_bad_point pm__law_bad_point cd__law_bad_point ct__law_bad_point oc__law_bad_points kV__law_bad_points dc__law_bad_points pm__law_bad_points cd__law_bad_points ct__law_bad_points oc__law_bad_copies kV__law_bad_copies dc__law_bad_copies pm__law_bad_copies cd__law_bad_copies ct__law_bad_copies oc__law_refuses_ring kV__law_refuses_ring dc__law_refuses_ring pm__law_refuses_ring cd__law_refuses_ring ct__law_refuses_ring oc__law_refuses_value kV__law_refuses_value dc__law_refuses_value pm__law_refuses_value cd__law_refuses_value ct__law_refuses_value oc__law_alike kV__law_alike dc__law_alike pm__law_alike cd__law_alike ct__law_alike oc__law_bad_value kV__law_bad_value dc__law_bad_value pm__law_bad_value cd__law_bad_value ct__law_bad_value oc__law_refused kV__law_refused dc__law_refused pm__law_refused cd__law_refused ct__law_refused oc__law_same_list kV__law_same_list dc__law_same_list pm__law_same_list cd__law_same_list ct__law_same_list oc_law kV_law dc_law pm_law cd_law ct_law : Value} {tg_LIMIT : Tok} {tg_MOST_COPIES : Tok} {tg_PLACES : Tok}
    (hfa : mg "law" = some (.ref fa))
    (a_Ring : PySem.W.nsIn K mainGlobals "Ring" = some (some (.ref C_Ring)))
    (pg_Ring : PySem.W.plainGet K C_Ring Str.empty = true)
    (hd_Ring : PySem.W.hasDictIn K C_Ring = true)
    (po_Ring : PySem.W.plainOver K C_Ring = true)
    (sa_Ring : PySem.W.findIn K (.ref C_Ring) "__setattr__" = some (some (.builtin "object.__setattr__")))
    (mk_Ring : PySem.W.makesIn K C_Ring = true)
    (kc_Ring : PySem.W.keepIn K (.ref C_Ring) = true)
    (ha_Ring : PySem.W.findIn K (.ref C_Ring) "__class__" = some (some (.builtin "object.__class__")))
    (hn_Ring : PySem.W.specialIn K (.builtin "object.__class__") "__get__" = some (some (.builtin "getset_descriptor.__get__")))
    (ht_Ring : PySem.W.takesIn K (.builtin "object.__class__") = some true)
    (hm_Ring : PySem.W.mroIn K C_Ring (.type "object") = some true)
    (kint_Ring : PySem.W.mroIn K C_Ring (.type "int") = some false)
    (kbool_Ring : PySem.W.mroIn K C_Ring (.type "bool") = some false)
    (kstr_Ring : PySem.W.mroIn K C_Ring (.type "str") = some false)
    (ktuple_Ring : PySem.W.mroIn K C_Ring (.type "tuple") = some false)
    (klist_Ring : PySem.W.mroIn K C_Ring (.type "list") = some false)
    (n_Ring__copies : PySem.W.findIn K (.ref C_Ring) "_copies" = some none)
    (n_Ring__owners : PySem.W.findIn K (.ref C_Ring) "_owners" = some none)
    (n_Ring__points : PySem.W.findIn K (.ref C_Ring) "_points" = some none)
    (a_BadValue : PySem.W.nsIn K mainGlobals "BadValue" = some (some (.ref C_BadValue)))
    (kF_BadValue : PySem.W.keepIn K (.ref C_BadValue) = true)
    (bF_BadValue : PySem.W.subIn K (.ref C_BadValue) (.type "BaseException") = some true)
    (tF_BadValue : PySem.W.typeIn K (.ref C_BadValue) = some (.type "type"))
    (iF_BadValue : PySem.W.isClsIn K C_BadValue = true)
    (xF_BadValue : PySem.W.excIn K C_BadValue [.type "ValueError", .type "Exception", .type "BaseException", .type "object"] "ValueError.__new__" = true)
    (hgE_BadValue : PySem.W.findIn K (.ref C_BadValue) "__getattribute__" = some (some (.builtin "BaseException.__getattribute__")))
    (hkE_BadValue : PySem.W.findIn K (.ref C_BadValue) "__getattr__" = some none)
    (hdE_BadValue : PySem.W.hasDictIn K C_BadValue = true)
    (haE_BadValue : PySem.W.findIn K (.ref C_BadValue) "__class__" = some (some (.builtin "object.__class__")))
    (hnE_BadValue : PySem.W.specialIn K (.builtin "object.__class__") "__get__" = some (some (.builtin "getset_descriptor.__get__")))
    (htE_BadValue : PySem.W.takesIn K (.builtin "object.__class__") = some true)
    (hmE_BadValue : PySem.W.mroIn K C_BadValue (.type "object") = some true)
    (sE_BadValue : PySem.W.mroIn K C_BadValue (.ref C_BadValue) = some true)
    (a_Busy : PySem.W.nsIn K mainGlobals "Busy" = some (some (.ref C_Busy)))
    (kF_Busy : PySem.W.keepIn K (.ref C_Busy) = true)
    (bF_Busy : PySem.W.subIn K (.ref C_Busy) (.type "BaseException") = some true)
    (tF_Busy : PySem.W.typeIn K (.ref C_Busy) = some (.type "type"))
    (iF_Busy : PySem.W.isClsIn K C_Busy = true)
    (xF_Busy : PySem.W.excIn K C_Busy [.type "ValueError", .type "Exception", .type "BaseException", .type "object"] "ValueError.__new__" = true)
    (a_HouseDown : PySem.W.nsIn K mainGlobals "HouseDown" = some (some (.ref C_HouseDown)))
    (kF_HouseDown : PySem.W.keepIn K (.ref C_HouseDown) = true)
    (bF_HouseDown : PySem.W.subIn K (.ref C_HouseDown) (.type "BaseException") = some true)
    (tF_HouseDown : PySem.W.typeIn K (.ref C_HouseDown) = some (.type "type"))
    (iF_HouseDown : PySem.W.isClsIn K C_HouseDown = true)
    (xF_HouseDown : PySem.W.excIn K C_HouseDown [.type "ValueError", .type "Exception", .type "BaseException", .type "object"] "ValueError.__new__" = true)
    (a_RingError : PySem.W.nsIn K mainGlobals "RingError" = some (some (.ref C_RingError)))
    (kF_RingError : PySem.W.keepIn K (.ref C_RingError) = true)
    (bF_RingError : PySem.W.subIn K (.ref C_RingError) (.type "BaseException") = some true)
    (tF_RingError : PySem.W.typeIn K (.ref C_RingError) = some (.type "type"))
    (iF_RingError : PySem.W.isClsIn K C_RingError = true)
    (xF_RingError : PySem.W.excIn K C_RingError [.type "ValueError", .type "Exception", .type "BaseException", .type "object"] "ValueError.__new__" = true)
    (a_Unknown : PySem.W.nsIn K mainGlobals "Unknown" = some (some (.ref C_Unknown)))
    (kF_Unknown : PySem.W.keepIn K (.ref C_Unknown) = true)
    (bF_Unknown : PySem.W.subIn K (.ref C_Unknown) (.type "BaseException") = some true)
    (tF_Unknown : PySem.W.typeIn K (.ref C_Unknown) = some (.type "type"))
    (iF_Unknown : PySem.W.isClsIn K C_Unknown = true)
    (xF_Unknown : PySem.W.excIn K C_Unknown [.type "ValueError", .type "Exception", .type "BaseException", .type "object"] "ValueError.__new__" = true)
    (sub_BadValue_RingError : PySem.W.subIn K (.ref C_BadValue) (.ref C_RingError) = some true)
    (tE_BadValue_ValueError : PySem.W.mroIn K C_BadValue (.type "ValueError") = some true)
    (mE_BadValue_Busy : PySem.W.mroIn K C_BadValue (.ref C_Busy) = some false)
    (mE_BadValue_HouseDown : PySem.W.mroIn K C_BadValue (.ref C_HouseDown) = some false)
    (mE_BadValue_Unknown : PySem.W.mroIn K C_BadValue (.ref C_Unknown) = some false)
    (na_Ring__copies : PySem.W.findIn K (.ref C_Ring) "_copies" = some none)
    (na_Ring__owners : PySem.W.findIn K (.ref C_Ring) "_owners" = some none)
    (na_Ring__points : PySem.W.findIn K (.ref C_Ring) "_points" = some none)
    (a_is_integer : PySem.W.nsIn K mainGlobals "is_integer" = some (some (.ref f_is_integer)))
    (l_is_integer : K.lookup f_is_integer = some ⟨oc_is_integer, od_is_integer, .func (PySem.W.fnOf "is_integer" "is_integer" (defArgs s_is_integer) (defBody s_is_integer) (defScope s_is_integer) .none kV_is_integer dc_is_integer pm_is_integer an_is_integer cd_is_integer ct_is_integer), sl_is_integer⟩)
    (c_is_integer : PySem.W.codeIn K cd_is_integer "is_integer" = true)
    (k_is_integer : PySem.W.keepIn K (.ref f_is_integer) = true)
    (a_is_number : PySem.W.nsIn K mainGlobals "is_number" = some (some (.ref f_is_number)))
    (l_is_number : K.lookup f_is_number = some ⟨oc_is_number, od_is_number, .func (PySem.W.fnOf "is_number" "is_number" (defArgs s_is_number) (defBody s_is_number) (defScope s_is_number) .none kV_is_number dc_is_number pm_is_number an_is_number cd_is_number ct_is_number), sl_is_number⟩)
    (c_is_number : PySem.W.codeIn K cd_is_number "is_number" = true)
    (k_is_number : PySem.W.keepIn K (.ref f_is_number) = true)
    (a__law_cell : PySem.W.nsIn K mainGlobals "_law_cell" = some (some (.ref f__law_cell)))
    (l__law_cell : K.lookup f__law_cell = some ⟨oc__law_cell, od__law_cell, .func (PySem.W.fnOf "_law_cell" "_law_cell" (defArgs s__law_cell) (defBody s__law_cell) (defScope s__law_cell) .none kV__law_cell dc__law_cell pm__law_cell an__law_cell cd__law_cell ct__law_cell), sl__law_cell⟩)
    (c__law_cell : PySem.W.codeIn K cd__law_cell "_law_cell" = true)
    (k__law_cell : PySem.W.keepIn K (.ref f__law_cell) = true)
    (a__law_draw : PySem.W.nsIn K mainGlobals "_law_draw" = some (some (.ref f__law_draw)))
    (l__law_draw : K.lookup f__law_draw = some ⟨oc__law_draw, od__law_draw, .func (PySem.W.fnOf "_law_draw" "_law_draw" (defArgs s__law_draw) (defBody s__law_draw) (defScope s__law_draw) .none kV__law_draw dc__law_draw pm__law_draw an__law_draw cd__law_draw ct__law_draw), sl__law_draw⟩)
    (c__law_draw : PySem.W.codeIn K cd__law_draw "_law_draw" = true)
    (k__law_draw : PySem.W.keepIn K (.ref f__law_draw) = true)
    (a__law_draws : PySem.W.nsIn K mainGlobals "_law_draws" = some (some (.ref f__law_draws)))
    (l__law_draws : K.lookup f__law_draws = some ⟨oc__law_draws, od__law_draws, .func (PySem.W.fnOf "_law_draws" "_law_draws" (defArgs s__law_draws) (defBody s__law_draws) (defScope s__law_draws) .none kV__law_draws dc__law_draws pm__law_draws an__law_draws cd__law_draws ct__law_draws), sl__law_draws⟩)
    (c__law_draws : PySem.W.codeIn K cd__law_draws "_law_draws" = true)
    (k__law_draws : PySem.W.keepIn K (.ref f__law_draws) = true)
    (a__first_met : PySem.W.nsIn K mainGlobals "_first_met" = some (some (.ref f__first_met)))
    (l__first_met : K.lookup f__first_met = some ⟨oc__first_met, od__first_met, .func (PySem.W.fnOf "_first_met" "_first_met" (defArgs s__first_met) (defBody s__first_met) (defScope s__first_met) .none kV__first_met dc__first_met pm__first_met an__first_met cd__first_met ct__first_met), sl__first_met⟩)
    (c__first_met : PySem.W.codeIn K cd__first_met "_first_met" = true)
    (k__first_met : PySem.W.keepIn K (.ref f__first_met) = true)
    (a__owners_by_place : PySem.W.nsIn K mainGlobals "_owners_by_place" = some (some (.ref f__owners_by_place)))
    (l__owners_by_place : K.lookup f__owners_by_place = some ⟨oc__owners_by_place, od__owners_by_place, .func (PySem.W.fnOf "_owners_by_place" "_owners_by_place" (defArgs s__owners_by_place) (defBody s__owners_by_place) (defScope s__owners_by_place) .none kV__owners_by_place dc__owners_by_place pm__owners_by_place an__owners_by_place cd__owners_by_place ct__owners_by_place), sl__owners_by_place⟩)
    (c__owners_by_place : PySem.W.codeIn K cd__owners_by_place "_owners_by_place" = true)
    (k__owners_by_place : PySem.W.keepIn K (.ref f__owners_by_place) = true)
    (a__is_point : PySem.W.nsIn K mainGlobals "_is_point" = some (some (.ref f__is_point)))
    (l__is_point : K.lookup f__is_point = some ⟨oc__is_point, od__is_point, .func (PySem.W.fnOf "_is_point" "_is_point" (defArgs s__is_point) (defBody s__is_point) (defScope s__is_point) .none kV__is_point dc__is_point pm__is_point an__is_point cd__is_point ct__is_point), sl__is_point⟩)
    (c__is_point : PySem.W.codeIn K cd__is_point "_is_point" = true)
    (k__is_point : PySem.W.keepIn K (.ref f__is_point) = true)
    (a__are_points : PySem.W.nsIn K mainGlobals "_are_points" = some (some (.ref f__are_points)))
    (l__are_points : K.lookup f__are_points = some ⟨oc__are_points, od__are_points, .func (PySem.W.fnOf "_are_points" "_are_points" (defArgs s__are_points) (defBody s__are_points) (defScope s__are_points) .none kV__are_points dc__are_points pm__are_points an__are_points cd__are_points ct__are_points), sl__are_points⟩)
    (c__are_points : PySem.W.codeIn K cd__are_points "_are_points" = true)
    (k__are_points : PySem.W.keepIn K (.ref f__are_points) = true)
    (a_Ring___init__ : PySem.W.findIn K (.ref C_Ring) "__init__" = some (some (.ref f_Ring___init__)))
    (i_Ring___init__ : PySem.W.isFn K (.ref f_Ring___init__) = true)
    (l_Ring___init__ : K.lookup f_Ring___init__ = some ⟨oc_Ring___init__, od_Ring___init__, .func (PySem.W.fnOf "__init__" "Ring.__init__" (defArgs s_Ring___init__) (defBody s_Ring___init__) (defScope s_Ring___init__) .none kV_Ring___init__ dc_Ring___init__ pm_Ring___init__ an_Ring___init__ cd_Ring___init__ ct_Ring___init__), sl_Ring___init__⟩)
    (c_Ring___init__ : PySem.W.codeIn K cd_Ring___init__ "Ring.__init__" = true)
    (k_Ring___init__ : PySem.W.keepIn K (.ref f_Ring___init__) = true)
    (pa_Ring_copies : PySem.W.findIn K (.ref C_Ring) "copies" = some (some (.ref p0_Ring_copies)))
    (pb_Ring_copies : PySem.W.specialIn K (.ref p0_Ring_copies) "__get__" = some (some (.builtin "property.__get__")))
    (pc_Ring_copies : PySem.W.takesIn K (.ref p0_Ring_copies) = some true)
    (pd_Ring_copies : PySem.W.recIn K p0_Ring_copies "property" = some (.ref f_Ring_copies :: rs_Ring_copies))
    (l_Ring_copies : K.lookup f_Ring_copies = some ⟨oc_Ring_copies, od_Ring_copies, .func (PySem.W.fnOf "copies" "Ring.copies" (defArgs s_Ring_copies) (defBody s_Ring_copies) (defScope s_Ring_copies) .none kV_Ring_copies dc_Ring_copies pm_Ring_copies an_Ring_copies cd_Ring_copies ct_Ring_copies), sl_Ring_copies⟩)
    (c_Ring_copies : PySem.W.codeIn K cd_Ring_copies "Ring.copies" = true)
    (k_Ring_copies : PySem.W.keepIn K (.ref f_Ring_copies) = true)
    (a_Ring_value : PySem.W.findIn K (.ref C_Ring) "value" = some (some (.ref f_Ring_value)))
    (i_Ring_value : PySem.W.isFn K (.ref f_Ring_value) = true)
    (l_Ring_value : K.lookup f_Ring_value = some ⟨oc_Ring_value, od_Ring_value, .func (PySem.W.fnOf "value" "Ring.value" (defArgs s_Ring_value) (defBody s_Ring_value) (defScope s_Ring_value) .none kV_Ring_value dc_Ring_value pm_Ring_value an_Ring_value cd_Ring_value ct_Ring_value), sl_Ring_value⟩)
    (c_Ring_value : PySem.W.codeIn K cd_Ring_value "Ring.value" = true)
    (k_Ring_value : PySem.W.keepIn K (.ref f_Ring_value) = true)
    (a_Ring_houses : PySem.W.findIn K (.ref C_Ring) "houses" = some (some (.ref f_Ring_houses)))
    (i_Ring_houses : PySem.W.isFn K (.ref f_Ring_houses) = true)
    (l_Ring_houses : K.lookup f_Ring_houses = some ⟨oc_Ring_houses, od_Ring_houses, .func (PySem.W.fnOf "houses" "Ring.houses" (defArgs s_Ring_houses) (defBody s_Ring_houses) (defScope s_Ring_houses) .none kV_Ring_houses dc_Ring_houses pm_Ring_houses an_Ring_houses cd_Ring_houses ct_Ring_houses), sl_Ring_houses⟩)
    (c_Ring_houses : PySem.W.codeIn K cd_Ring_houses "Ring.houses" = true)
    (k_Ring_houses : PySem.W.keepIn K (.ref f_Ring_houses) = true)
    (rd_Ring : PySem.W.readsIn K C_Ring (.type "type") = true)
    (rg_Ring : PySem.W.specialIn K (.ref C_Ring) "__getattribute__" = some (some (.builtin "type.__getattribute__")))
    (sa_Ring_from_value : PySem.W.findCls K (.ref C_Ring) (.type "type") "from_value" = some (.get (.builtin "staticmethod.__get__") (.ref p0_Ring_from_value) .none (.ref C_Ring)))
    (sb_Ring_from_value : PySem.W.recIn K p0_Ring_from_value "staticmethod" = some (.ref f_Ring_from_value :: rs_Ring_from_value))
    (l_Ring_from_value : K.lookup f_Ring_from_value = some ⟨oc_Ring_from_value, od_Ring_from_value, .func (PySem.W.fnOf "from_value" "Ring.from_value" (defArgs s_Ring_from_value) (defBody s_Ring_from_value) (defScope s_Ring_from_value) .none kV_Ring_from_value dc_Ring_from_value pm_Ring_from_value an_Ring_from_value cd_Ring_from_value ct_Ring_from_value), sl_Ring_from_value⟩)
    (c_Ring_from_value : PySem.W.codeIn K cd_Ring_from_value "Ring.from_value" = true)
    (k_Ring_from_value : PySem.W.keepIn K (.ref f_Ring_from_value) = true)
    (a__law_pool : PySem.W.nsIn K mainGlobals "_law_pool" = some (some (.ref f__law_pool)))
    (l__law_pool : K.lookup f__law_pool = some ⟨oc__law_pool, od__law_pool, .func (PySem.W.fnOf "_law_pool" "_law_pool" (defArgs s__law_pool) (defBody s__law_pool) (defScope s__law_pool) .none kV__law_pool dc__law_pool pm__law_pool an__law_pool cd__law_pool ct__law_pool), sl__law_pool⟩)
    (c__law_pool : PySem.W.codeIn K cd__law_pool "_law_pool" = true)
    (k__law_pool : PySem.W.keepIn K (.ref f__law_pool) = true)
    (a__law_houses : PySem.W.nsIn K mainGlobals "_law_houses" = some (some (.ref f__law_houses)))
    (l__law_houses : K.lookup f__law_houses = some ⟨oc__law_houses, od__law_houses, .func (PySem.W.fnOf "_law_houses" "_law_houses" (defArgs s__law_houses) (defBody s__law_houses) (defScope s__law_houses) .none kV__law_houses dc__law_houses pm__law_houses an__law_houses cd__law_houses ct__law_houses), sl__law_houses⟩)
    (c__law_houses : PySem.W.codeIn K cd__law_houses "_law_houses" = true)
    (k__law_houses : PySem.W.keepIn K (.ref f__law_houses) = true)
    (a__law_copies : PySem.W.nsIn K mainGlobals "_law_copies" = some (some (.ref f__law_copies)))
    (l__law_copies : K.lookup f__law_copies = some ⟨oc__law_copies, od__law_copies, .func (PySem.W.fnOf "_law_copies" "_law_copies" (defArgs s__law_copies) (defBody s__law_copies) (defScope s__law_copies) .none kV__law_copies dc__law_copies pm__law_copies an__law_copies cd__law_copies ct__law_copies), sl__law_copies⟩)
    (c__law_copies : PySem.W.codeIn K cd__law_copies "_law_copies" = true)
    (k__law_copies : PySem.W.keepIn K (.ref f__law_copies) = true)
    (a__law_points : PySem.W.nsIn K mainGlobals "_law_points" = some (some (.ref f__law_points)))
    (l__law_points : K.lookup f__law_points = some ⟨oc__law_points, od__law_points, .func (PySem.W.fnOf "_law_points" "_law_points" (defArgs s__law_points) (defBody s__law_points) (defScope s__law_points) .none kV__law_points dc__law_points pm__law_points an__law_points cd__law_points ct__law_points), sl__law_points⟩)
    (c__law_points : PySem.W.codeIn K cd__law_points "_law_points" = true)
    (k__law_points : PySem.W.keepIn K (.ref f__law_points) = true)
    (a__law_bad_point : PySem.W.nsIn K mainGlobals "_law_bad_point" = some (some (.ref f__law_bad_point)))
    (l__law_bad_point : K.lookup f__law_bad_point = some ⟨oc__law_bad_point, od__law_bad_point, .func (PySem.W.fnOf "_law_bad_point" "_law_bad_point" (defArgs s__law_bad_point) (defBody s__law_bad_point) (defScope s__law_bad_point) .none kV__law_bad_point dc__law_bad_point pm__law_bad_point an__law_bad_point cd__law_bad_point ct__law_bad_point), sl__law_bad_point⟩)
    (c__law_bad_point : PySem.W.codeIn K cd__law_bad_point "_law_bad_point" = true)
    (k__law_bad_point : PySem.W.keepIn K (.ref f__law_bad_point) = true)
    (a__law_bad_points : PySem.W.nsIn K mainGlobals "_law_bad_points" = some (some (.ref f__law_bad_points)))
    (l__law_bad_points : K.lookup f__law_bad_points = some ⟨oc__law_bad_points, od__law_bad_points, .func (PySem.W.fnOf "_law_bad_points" "_law_bad_points" (defArgs s__law_bad_points) (defBody s__law_bad_points) (defScope s__law_bad_points) .none kV__law_bad_points dc__law_bad_points pm__law_bad_points an__law_bad_points cd__law_bad_points ct__law_bad_points), sl__law_bad_points⟩)
    (c__law_bad_points : PySem.W.codeIn K cd__law_bad_points "_law_bad_points" = true)
    (k__law_bad_points : PySem.W.keepIn K (.ref f__law_bad_points) = true)
    (a__law_bad_copies : PySem.W.nsIn K mainGlobals "_law_bad_copies" = some (some (.ref f__law_bad_copies)))
    (l__law_bad_copies : K.lookup f__law_bad_copies = some ⟨oc__law_bad_copies, od__law_bad_copies, .func (PySem.W.fnOf "_law_bad_copies" "_law_bad_copies" (defArgs s__law_bad_copies) (defBody s__law_bad_copies) (defScope s__law_bad_copies) .none kV__law_bad_copies dc__law_bad_copies pm__law_bad_copies an__law_bad_copies cd__law_bad_copies ct__law_bad_copies), sl__law_bad_copies⟩)
    (c__law_bad_copies : PySem.W.codeIn K cd__law_bad_copies "_law_bad_copies" = true)
    (k__law_bad_copies : PySem.W.keepIn K (.ref f__law_bad_copies) = true)
    (a__law_refuses_ring : PySem.W.nsIn K mainGlobals "_law_refuses_ring" = some (some (.ref f__law_refuses_ring)))
    (l__law_refuses_ring : K.lookup f__law_refuses_ring = some ⟨oc__law_refuses_ring, od__law_refuses_ring, .func (PySem.W.fnOf "_law_refuses_ring" "_law_refuses_ring" (defArgs s__law_refuses_ring) (defBody s__law_refuses_ring) (defScope s__law_refuses_ring) .none kV__law_refuses_ring dc__law_refuses_ring pm__law_refuses_ring an__law_refuses_ring cd__law_refuses_ring ct__law_refuses_ring), sl__law_refuses_ring⟩)
    (c__law_refuses_ring : PySem.W.codeIn K cd__law_refuses_ring "_law_refuses_ring" = true)
    (k__law_refuses_ring : PySem.W.keepIn K (.ref f__law_refuses_ring) = true)
    (a__law_refuses_value : PySem.W.nsIn K mainGlobals "_law_refuses_value" = some (some (.ref f__law_refuses_value)))
    (l__law_refuses_value : K.lookup f__law_refuses_value = some ⟨oc__law_refuses_value, od__law_refuses_value, .func (PySem.W.fnOf "_law_refuses_value" "_law_refuses_value" (defArgs s__law_refuses_value) (defBody s__law_refuses_value) (defScope s__law_refuses_value) .none kV__law_refuses_value dc__law_refuses_value pm__law_refuses_value an__law_refuses_value cd__law_refuses_value ct__law_refuses_value), sl__law_refuses_value⟩)
    (c__law_refuses_value : PySem.W.codeIn K cd__law_refuses_value "_law_refuses_value" = true)
    (k__law_refuses_value : PySem.W.keepIn K (.ref f__law_refuses_value) = true)
    (a__law_alike : PySem.W.nsIn K mainGlobals "_law_alike" = some (some (.ref f__law_alike)))
    (l__law_alike : K.lookup f__law_alike = some ⟨oc__law_alike, od__law_alike, .func (PySem.W.fnOf "_law_alike" "_law_alike" (defArgs s__law_alike) (defBody s__law_alike) (defScope s__law_alike) .none kV__law_alike dc__law_alike pm__law_alike an__law_alike cd__law_alike ct__law_alike), sl__law_alike⟩)
    (c__law_alike : PySem.W.codeIn K cd__law_alike "_law_alike" = true)
    (k__law_alike : PySem.W.keepIn K (.ref f__law_alike) = true)
    (a__law_bad_value : PySem.W.nsIn K mainGlobals "_law_bad_value" = some (some (.ref f__law_bad_value)))
    (l__law_bad_value : K.lookup f__law_bad_value = some ⟨oc__law_bad_value, od__law_bad_value, .func (PySem.W.fnOf "_law_bad_value" "_law_bad_value" (defArgs s__law_bad_value) (defBody s__law_bad_value) (defScope s__law_bad_value) .none kV__law_bad_value dc__law_bad_value pm__law_bad_value an__law_bad_value cd__law_bad_value ct__law_bad_value), sl__law_bad_value⟩)
    (c__law_bad_value : PySem.W.codeIn K cd__law_bad_value "_law_bad_value" = true)
    (k__law_bad_value : PySem.W.keepIn K (.ref f__law_bad_value) = true)
    (a__law_refused : PySem.W.nsIn K mainGlobals "_law_refused" = some (some (.ref f__law_refused)))
    (l__law_refused : K.lookup f__law_refused = some ⟨oc__law_refused, od__law_refused, .func (PySem.W.fnOf "_law_refused" "_law_refused" (defArgs s__law_refused) (defBody s__law_refused) (defScope s__law_refused) .none kV__law_refused dc__law_refused pm__law_refused an__law_refused cd__law_refused ct__law_refused), sl__law_refused⟩)
    (c__law_refused : PySem.W.codeIn K cd__law_refused "_law_refused" = true)
    (k__law_refused : PySem.W.keepIn K (.ref f__law_refused) = true)
    (a__law_same_list : PySem.W.nsIn K mainGlobals "_law_same_list" = some (some (.ref f__law_same_list)))
    (l__law_same_list : K.lookup f__law_same_list = some ⟨oc__law_same_list, od__law_same_list, .func (PySem.W.fnOf "_law_same_list" "_law_same_list" (defArgs s__law_same_list) (defBody s__law_same_list) (defScope s__law_same_list) .none kV__law_same_list dc__law_same_list pm__law_same_list an__law_same_list cd__law_same_list ct__law_same_list), sl__law_same_list⟩)
    (c__law_same_list : PySem.W.codeIn K cd__law_same_list "_law_same_list" = true)
    (k__law_same_list : PySem.W.keepIn K (.ref f__law_same_list) = true)
    (a_law : PySem.W.nsIn K mainGlobals "law" = some (some (.ref f_law)))
    (l_law : K.lookup f_law = some ⟨oc_law, od_law, .func (PySem.W.fnOf "law" "law" (defArgs s_law) (defBody s_law) (defScope s_law) .none kV_law dc_law pm_law an_law cd_law ct_law), sl_law⟩)
    (c_law : PySem.W.codeIn K cd_law "law" = true)
    (k_law : PySem.W.keepIn K (.ref f_law) = true)
    (g_LIMIT : PySem.W.nsIn K mainGlobals "LIMIT" = some (some (.int (1000000000000) tg_LIMIT)))
    (g_MOST_COPIES : PySem.W.nsIn K mainGlobals "MOST_COPIES" = some (some (.int (7) tg_MOST_COPIES)))
    (g_PLACES : PySem.W.nsIn K mainGlobals "PLACES" = some (some (.int (256) tg_PLACES)))
    (z_ValueError : PySem.W.nsIn K mainGlobals "ValueError" = some none)
    (z_abs : PySem.W.nsIn K mainGlobals "abs" = some none)
    (z_all : PySem.W.nsIn K mainGlobals "all" = some none)
    (z_bool : PySem.W.nsIn K mainGlobals "bool" = some none)
    (z_int : PySem.W.nsIn K mainGlobals "int" = some none)
    (z_isinstance : PySem.W.nsIn K mainGlobals "isinstance" = some none)
    (z_len : PySem.W.nsIn K mainGlobals "len" = some none)
    (z_list : PySem.W.nsIn K mainGlobals "list" = some none)
    (z_min : PySem.W.nsIn K mainGlobals "min" = some none)
    (z_property : PySem.W.nsIn K mainGlobals "property" = some none)
    (z_range : PySem.W.nsIn K mainGlobals "range" = some none)
    (z_sorted : PySem.W.nsIn K mainGlobals "sorted" = some none)
    (z_staticmethod : PySem.W.nsIn K mainGlobals "staticmethod" = some none)
    (z_tuple : PySem.W.nsIn K mainGlobals "tuple" = some none)
    (z_type : PySem.W.nsIn K mainGlobals "type" = some none)
    : ∃ fd : FuncData, (∀ (s : Shared) (v : Value), BindsTo s fd ⟨[v], []⟩ [("script", v)]) ∧ ∀ base : Heap, K.In base → base.Ns mainGlobals mg → FnOk l.prog w K mg base CX0 10 fa fd ["script"] (spLaw K) := by
  have e := hfa.symm.trans (PySem.W.mg_of X G a_law)
  cases e
  have T : Txt K mg := ⟨⟨_, PySem.W.mg_of X G g_LIMIT, ⟨_, rfl⟩⟩, ⟨_, PySem.W.mg_of X G g_MOST_COPIES, ⟨_, rfl⟩⟩, ⟨_, PySem.W.mg_of X G g_PLACES, ⟨_, rfl⟩⟩, PySem.W.mg_none_of X G z_ValueError, PySem.W.mg_none_of X G z_abs, PySem.W.mg_none_of X G z_all, PySem.W.mg_none_of X G z_bool, PySem.W.mg_none_of X G z_int, PySem.W.mg_none_of X G z_isinstance, PySem.W.mg_none_of X G z_len, PySem.W.mg_none_of X G z_list, PySem.W.mg_none_of X G z_min, PySem.W.mg_none_of X G z_property, PySem.W.mg_none_of X G z_range, PySem.W.mg_none_of X G z_sorted, PySem.W.mg_none_of X G z_staticmethod, PySem.W.mg_none_of X G z_tuple, PySem.W.mg_none_of X G z_type⟩
  let CC : Addr → Prop := fun A => A = C_Ring
  have I_Ring : ClsI K C_Ring := ⟨⟨pg_Ring, hd_Ring, po_Ring, sa_Ring⟩, ha_Ring, hn_Ring, ht_Ring, hm_Ring, kit_ref kint_Ring (by decide +kernel), kit_ref kbool_Ring (by decide +kernel), kit_ref kstr_Ring (by decide +kernel), kit_ref ktuple_Ring (by decide +kernel), kit_ref klist_Ring (by decide +kernel)⟩
  have hC : ∀ C, CC C → ClsI K C := fun C e => by cases e; exact I_Ring
  have cl_Ring : Cls K C_Ring := ⟨pg_Ring, hd_Ring, po_Ring, sa_Ring⟩
  have mg_Ring := PySem.W.mg_of X G a_Ring
  have CC1 : CC C_Ring := rfl
  have e_BadValue : Err K mg "BadValue" C_BadValue := ⟨xF_BadValue, PySem.W.mg_of X G a_BadValue, kF_BadValue, bF_BadValue, tF_BadValue⟩
  have x_BadValue : ExcC K C_BadValue := ⟨hgE_BadValue, hkE_BadValue, bF_BadValue, hdE_BadValue, haE_BadValue, hnE_BadValue, htE_BadValue, hmE_BadValue⟩
  have e_Busy : Err K mg "Busy" C_Busy := ⟨xF_Busy, PySem.W.mg_of X G a_Busy, kF_Busy, bF_Busy, tF_Busy⟩
  have e_HouseDown : Err K mg "HouseDown" C_HouseDown := ⟨xF_HouseDown, PySem.W.mg_of X G a_HouseDown, kF_HouseDown, bF_HouseDown, tF_HouseDown⟩
  have e_RingError : Err K mg "RingError" C_RingError := ⟨xF_RingError, PySem.W.mg_of X G a_RingError, kF_RingError, bF_RingError, tF_RingError⟩
  have e_Unknown : Err K mg "Unknown" C_Unknown := ⟨xF_Unknown, PySem.W.mg_of X G a_Unknown, kF_Unknown, bF_Unknown, tF_Unknown⟩
  have ex_BadValue_RingError := exm_own bF_RingError iF_RingError tF_RingError sub_BadValue_RingError
  have kb_BadValue_ValueError_true := kit_ref tE_BadValue_ValueError (by decide +kernel)
  have ko_BadValue_BadValue_true := kit_own sE_BadValue sE_BadValue iF_BadValue tF_BadValue
  have ko_BadValue_Busy_false := kit_own mE_BadValue_Busy sE_BadValue iF_Busy tF_Busy
  have ko_BadValue_HouseDown_false := kit_own mE_BadValue_HouseDown sE_BadValue iF_HouseDown tF_HouseDown
  have ko_BadValue_Unknown_false := kit_own mE_BadValue_Unknown sE_BadValue iF_Unknown tF_Unknown
  have F_is_integer := fun_mk (st := s_is_integer) l_is_integer c_is_integer k_is_integer
  have b_is_integer := F_is_integer.binds (ps := ["thing"]) fun _ _ _ _ _ _ us hl => match us, hl with | [_], _ => rfl
  have F_is_number := fun_mk (st := s_is_number) l_is_number c_is_number k_is_number
  have b_is_number := F_is_number.binds (ps := ["thing"]) fun _ _ _ _ _ _ us hl => match us, hl with | [_], _ => rfl
  have F__law_cell := fun_mk (st := s__law_cell) l__law_cell c__law_cell k__law_cell
  have b__law_cell := F__law_cell.binds (ps := ["script", "k"]) fun _ _ _ _ _ _ us hl => match us, hl with | [_, _], _ => rfl
  have F__law_draw := fun_mk (st := s__law_draw) l__law_draw c__law_draw k__law_draw
  have b__law_draw := F__law_draw.binds (ps := ["draws", "k"]) fun _ _ _ _ _ _ us hl => match us, hl with | [_, _], _ => rfl
  have F__law_draws := fun_mk (st := s__law_draws) l__law_draws c__law_draws k__law_draws
  have b__law_draws := F__law_draws.binds (ps := ["script", "many"]) fun _ _ _ _ _ _ us hl => match us, hl with | [_, _], _ => rfl
  have F__first_met := fun_mk (st := s__first_met) l__first_met c__first_met k__first_met
  have b__first_met := F__first_met.binds (ps := ["houses", "copies"]) fun _ _ _ _ _ _ us hl => match us, hl with | [_, _], _ => rfl
  have F__owners_by_place := fun_mk (st := s__owners_by_place) l__owners_by_place c__owners_by_place k__owners_by_place
  have b__owners_by_place := F__owners_by_place.binds (ps := ["points", "copies"]) fun _ _ _ _ _ _ us hl => match us, hl with | [_, _], _ => rfl
  have F__is_point := fun_mk (st := s__is_point) l__is_point c__is_point k__is_point
  have b__is_point := F__is_point.binds (ps := ["thing"]) fun _ _ _ _ _ _ us hl => match us, hl with | [_], _ => rfl
  have F__are_points := fun_mk (st := s__are_points) l__are_points c__are_points k__are_points
  have b__are_points := F__are_points.binds (ps := ["thing"]) fun _ _ _ _ _ _ us hl => match us, hl with | [_], _ => rfl
  have F_Ring___init__ := fun_mk (st := s_Ring___init__) l_Ring___init__ c_Ring___init__ k_Ring___init__
  have b_Ring___init__ := F_Ring___init__.binds (ps := ["self", "points", "copies"]) fun _ _ _ _ _ _ us hl => match us, hl with | [_, _, _], _ => rfl
  have F_Ring_copies := fun_mk (st := s_Ring_copies) l_Ring_copies c_Ring_copies k_Ring_copies
  have b_Ring_copies := F_Ring_copies.binds (ps := ["self"]) fun _ _ _ _ _ _ us hl => match us, hl with | [_], _ => rfl
  have F_Ring_value := fun_mk (st := s_Ring_value) l_Ring_value c_Ring_value k_Ring_value
  have b_Ring_value := F_Ring_value.binds (ps := ["self"]) fun _ _ _ _ _ _ us hl => match us, hl with | [_], _ => rfl
  have F_Ring_houses := fun_mk (st := s_Ring_houses) l_Ring_houses c_Ring_houses k_Ring_houses
  have b_Ring_houses := F_Ring_houses.binds (ps := ["self"]) fun _ _ _ _ _ _ us hl => match us, hl with | [_], _ => rfl
  have F_Ring_from_value := fun_mk (st := s_Ring_from_value) l_Ring_from_value c_Ring_from_value k_Ring_from_value
  have b_Ring_from_value := F_Ring_from_value.binds (ps := ["value"]) fun _ _ _ _ _ _ us hl => match us, hl with | [_], _ => rfl
  have F__law_pool := fun_mk (st := s__law_pool) l__law_pool c__law_pool k__law_pool
  have b__law_pool := F__law_pool.binds (ps := ["script", "draws"]) fun _ _ _ _ _ _ us hl => match us, hl with | [_, _], _ => rfl
  have F__law_houses := fun_mk (st := s__law_houses) l__law_houses c__law_houses k__law_houses
  have b__law_houses := F__law_houses.binds (ps := ["points"]) fun _ _ _ _ _ _ us hl => match us, hl with | [_], _ => rfl
  have F__law_copies := fun_mk (st := s__law_copies) l__law_copies c__law_copies k__law_copies
  have b__law_copies := F__law_copies.binds (ps := ["points", "draw"]) fun _ _ _ _ _ _ us hl => match us, hl with | [_, _], _ => rfl
  have F__law_points := fun_mk (st := s__law_points) l__law_points c__law_points k__law_points
  have b__law_points := F__law_points.binds (ps := ["draws", "first", "pool"]) fun _ _ _ _ _ _ us hl => match us, hl with | [_, _, _], _ => rfl
  have F__law_bad_point := fun_mk (st := s__law_bad_point) l__law_bad_point c__law_bad_point k__law_bad_point
  have b__law_bad_point := F__law_bad_point.binds (ps := ["point", "draw"]) fun _ _ _ _ _ _ us hl => match us, hl with | [_, _], _ => rfl
  have F__law_bad_points := fun_mk (st := s__law_bad_points) l__law_bad_points c__law_bad_points k__law_bad_points
  have b__law_bad_points := F__law_bad_points.binds (ps := ["points", "draw", "more"]) fun _ _ _ _ _ _ us hl => match us, hl with | [_, _, _], _ => rfl
  have F__law_bad_copies := fun_mk (st := s__law_bad_copies) l__law_bad_copies c__law_bad_copies k__law_bad_copies
  have b__law_bad_copies := F__law_bad_copies.binds (ps := ["points", "draw"]) fun _ _ _ _ _ _ us hl => match us, hl with | [_, _], _ => rfl
  have F__law_refuses_ring := fun_mk (st := s__law_refuses_ring) l__law_refuses_ring c__law_refuses_ring k__law_refuses_ring
  have b__law_refuses_ring := F__law_refuses_ring.binds (ps := ["points", "copies"]) fun _ _ _ _ _ _ us hl => match us, hl with | [_, _], _ => rfl
  have F__law_refuses_value := fun_mk (st := s__law_refuses_value) l__law_refuses_value c__law_refuses_value k__law_refuses_value
  have b__law_refuses_value := F__law_refuses_value.binds (ps := ["value"]) fun _ _ _ _ _ _ us hl => match us, hl with | [_], _ => rfl
  have F__law_alike := fun_mk (st := s__law_alike) l__law_alike c__law_alike k__law_alike
  have b__law_alike := F__law_alike.binds (ps := ["told", "due"]) fun _ _ _ _ _ _ us hl => match us, hl with | [_, _], _ => rfl
  have F__law_bad_value := fun_mk (st := s__law_bad_value) l__law_bad_value c__law_bad_value k__law_bad_value
  have b__law_bad_value := F__law_bad_value.binds (ps := ["value", "draw", "more"]) fun _ _ _ _ _ _ us hl => match us, hl with | [_, _, _], _ => rfl
  have F__law_refused := fun_mk (st := s__law_refused) l__law_refused c__law_refused k__law_refused
  have b__law_refused := F__law_refused.binds (ps := ["points", "copies", "value", "draws"]) fun _ _ _ _ _ _ us hl => match us, hl with | [_, _, _, _], _ => rfl
  have F__law_same_list := fun_mk (st := s__law_same_list) l__law_same_list c__law_same_list k__law_same_list
  have b__law_same_list := F__law_same_list.binds (ps := ["told", "due"]) fun _ _ _ _ _ _ us hl => match us, hl with | [_, _], _ => rfl
  have F_law := fun_mk (st := s_law) l_law c_law k_law
  refine ⟨PySem.W.fnOf "law" "law" (defArgs s_law) (defBody s_law) (defScope s_law) .none kV_law dc_law pm_law an_law cd_law ct_law, fun s v => .of_eq rfl, fun base _ _ => ?_⟩
  have c_is_integer : C8.Cal l.prog w K mg base 1 "is_integer" (spB K CC isInt) [] := ⟨_, _, _, [], ok_is_integer F_is_integer T, PySem.W.mg_of X G a_is_integer, k_is_integer, b_is_integer, .nil⟩
  have c_is_number : C8.Cal l.prog w K mg base 2 "is_number" (spB K CC isNum) [] := ⟨_, _, _, [], ok_is_number F_is_number T c_is_integer, PySem.W.mg_of X G a_is_number, k_is_number, b_is_number, .nil⟩
  have c__law_cell : C8.Cal l.prog w K mg base 1 "_law_cell" (spCell K) [] := ⟨_, _, _, [], ok__law_cell F__law_cell T, PySem.W.mg_of X G a__law_cell, k__law_cell, b__law_cell, .nil⟩
  have c__law_draw : C8.Cal l.prog w K mg base 1 "_law_draw" spDrawF [] := ⟨_, _, _, [], ok__law_draw F__law_draw T, PySem.W.mg_of X G a__law_draw, k__law_draw, b__law_draw, .nil⟩
  have c__law_draws : C8.Cal l.prog w K mg base 1 "_law_draws" (spStream K 27720) [] := ⟨_, _, _, [], ok__law_draws F__law_draws T, PySem.W.mg_of X G a__law_draws, k__law_draws, b__law_draws, .nil⟩
  have c__first_met : C8.Cal l.prog w K mg base 1 "_first_met" spMet [] := ⟨_, _, _, [], ok__first_met F__first_met T, PySem.W.mg_of X G a__first_met, k__first_met, b__first_met, .nil⟩
  have c__owners_by_place : C8.Cal l.prog w K mg base 2 "_owners_by_place" (spByPlace K) [] := ⟨_, _, _, [], ok__owners_by_place F__owners_by_place T c__first_met, PySem.W.mg_of X G a__owners_by_place, k__owners_by_place, b__owners_by_place, .nil⟩
  have c__is_point : C8.Cal l.prog w K mg base 3 "_is_point" (spB K CC isPtD) [] := ⟨_, _, _, [], ok__is_point F__is_point T c_is_number, PySem.W.mg_of X G a__is_point, k__is_point, b__is_point, .nil⟩
  have c__are_points : C8.Cal l.prog w K mg base 4 "_are_points" (spB K CC arePts) [] := ⟨_, _, _, [], ok__are_points F__are_points T c__is_point, PySem.W.mg_of X G a__are_points, k__are_points, b__are_points, .nil⟩
  have m_Ring : MakX l.prog w K mg base 5 "Ring" C_Ring ((spRingX K CC C_Ring C_BadValue)) := ⟨_, _, _, ⟨mk_Ring, a_Ring___init__, i_Ring___init__, kc_Ring⟩, ok_Ring___init__ F_Ring___init__ T cl_Ring na_Ring__copies na_Ring__points na_Ring__owners e_BadValue c__are_points c_is_integer c__owners_by_place, mg_Ring, b_Ring___init__⟩
  have p_Ring_copies : Pro l.prog w K mg base 1 C_Ring "copies" ((spRingCV C_Ring)) := ⟨_, _, _, _, cl_Ring, ⟨pa_Ring_copies, pb_Ring_copies, pc_Ring_copies, ⟨_, pd_Ring_copies⟩⟩, ok_Ring_copies F_Ring_copies T cl_Ring na_Ring__copies, b_Ring_copies⟩
  have c_Ring_value : C8.Met l.prog w K mg base 1 C_Ring "value" (spRingVR C_Ring) [] := ⟨_, _, _, [], cl_Ring, ⟨a_Ring_value, i_Ring_value, k_Ring_value⟩, ok_Ring_value F_Ring_value T cl_Ring na_Ring__copies na_Ring__points, b_Ring_value, .nil⟩
  have c_Ring_houses : C8.Met l.prog w K mg base 1 C_Ring "houses" (spRingHs C_Ring) [] := ⟨_, _, _, [], cl_Ring, ⟨a_Ring_houses, i_Ring_houses, k_Ring_houses⟩, ok_Ring_houses F_Ring_houses T cl_Ring na_Ring__points, b_Ring_houses, .nil⟩
  have c_Ring_from_value : Sta l.prog w K mg base 7 C_Ring "from_value" (spFromVR K CC C_Ring C_BadValue) := ⟨_, _, _, _, rd_Ring, rg_Ring, sa_Ring_from_value, ⟨_, sb_Ring_from_value⟩, k_Ring_from_value, ok_Ring_from_value F_Ring_from_value T e_BadValue m_Ring c_Ring_value, b_Ring_from_value⟩
  have c__law_pool : C8.Cal l.prog w K mg base 2 "_law_pool" (spPool K) [] := ⟨_, _, _, [], ok__law_pool F__law_pool T c__law_draw c__law_cell, PySem.W.mg_of X G a__law_pool, k__law_pool, b__law_pool, .nil⟩
  have c__law_houses : C8.Cal l.prog w K mg base 1 "_law_houses" spHouses [] := ⟨_, _, _, [], ok__law_houses F__law_houses T, PySem.W.mg_of X G a__law_houses, k__law_houses, b__law_houses, .nil⟩
  have c__law_copies : C8.Cal l.prog w K mg base 2 "_law_copies" spCopies [] := ⟨_, _, _, [], ok__law_copies F__law_copies T c__law_houses, PySem.W.mg_of X G a__law_copies, k__law_copies, b__law_copies, .nil⟩
  have c__law_points : C8.Cal l.prog w K mg base 2 "_law_points" spLawPoints [] := ⟨_, _, _, [], ok__law_points F__law_points T c__law_draw, PySem.W.mg_of X G a__law_points, k__law_points, b__law_points, .nil⟩
  have c__law_bad_point : C8.Cal l.prog w K mg base 1 "_law_bad_point" (spBadPt K CC) [] := ⟨_, _, _, [], ok__law_bad_point F__law_bad_point T, PySem.W.mg_of X G a__law_bad_point, k__law_bad_point, b__law_bad_point, .nil⟩
  have c__law_bad_points : C8.Cal l.prog w K mg base 2 "_law_bad_points" (spBadPts K CC) [] := ⟨_, _, _, [], ok__law_bad_points F__law_bad_points T c__law_bad_point, PySem.W.mg_of X G a__law_bad_points, k__law_bad_points, b__law_bad_points, .nil⟩
  have c__law_bad_copies : C8.Cal l.prog w K mg base 2 "_law_bad_copies" (spBadCp K CC) [] := ⟨_, _, _, [], ok__law_bad_copies F__law_bad_copies T c__law_houses, PySem.W.mg_of X G a__law_bad_copies, k__law_bad_copies, b__law_bad_copies, .nil⟩
  have c__law_refuses_ring : C8.Cal l.prog w K mg base 7 "_law_refuses_ring" (spRefR K CC) [] := ⟨_, _, _, [], ok__law_refuses_ring F__law_refuses_ring T hC e_BadValue e_RingError e_Busy e_HouseDown e_Unknown x_BadValue ex_BadValue_RingError ko_BadValue_BadValue_true ko_BadValue_Busy_false ko_BadValue_HouseDown_false ko_BadValue_Unknown_false kb_BadValue_ValueError_true m_Ring, PySem.W.mg_of X G a__law_refuses_ring, k__law_refuses_ring, b__law_refuses_ring, .nil⟩
  have c__law_refuses_value : C8.Cal l.prog w K mg base 8 "_law_refuses_value" (spRefV K CC) [] := ⟨_, _, _, [], ok__law_refuses_value F__law_refuses_value T hC mg_Ring e_BadValue e_RingError e_Busy e_HouseDown e_Unknown x_BadValue ex_BadValue_RingError ko_BadValue_BadValue_true ko_BadValue_Busy_false ko_BadValue_HouseDown_false ko_BadValue_Unknown_false kb_BadValue_ValueError_true c_Ring_from_value, PySem.W.mg_of X G a__law_refuses_value, k__law_refuses_value, b__law_refuses_value, .nil⟩
  have r__law_alike : Rec K mg "_law_alike" f__law_alike _ ["told", "due"] := ⟨PySem.W.mg_of X G a__law_alike, k__law_alike, b__law_alike⟩
  have c__law_alike : C8.Cal l.prog w K mg base 4 "_law_alike" (spAlike K CC 3) [] := ⟨_, _, _, [], ok__law_alike F__law_alike T hC r__law_alike, PySem.W.mg_of X G a__law_alike, k__law_alike, b__law_alike, .nil⟩
  have c__law_bad_value : C8.Cal l.prog w K mg base 1 "_law_bad_value" (spBadVal K CC) [] := ⟨_, _, _, [], ok__law_bad_value F__law_bad_value T, PySem.W.mg_of X G a__law_bad_value, k__law_bad_value, b__law_bad_value, .nil⟩
  have c__law_refused : C8.Cal l.prog w K mg base 9 "_law_refused" (spRefused25 K) [] := ⟨_, _, _, [], ok__law_refused F__law_refused T c__law_draw c__law_bad_points c__law_bad_copies c__law_refuses_ring c__law_refuses_value c__law_bad_value, PySem.W.mg_of X G a__law_refused, k__law_refused, b__law_refused, .nil⟩
  have c__law_same_list : C8.Cal l.prog w K mg base 1 "_law_same_list" spSameInts [] := ⟨_, _, _, [], ok__law_same_list F__law_same_list T hC, PySem.W.mg_of X G a__law_same_list, k__law_same_list, b__law_same_list, .nil⟩
  exact ok_law F_law T hC mg_Ring c__law_draws c__law_draw c__law_pool c__law_points c__law_copies c__law_houses c__law_alike c__law_refused c__law_same_list m_Ring c_Ring_value c_Ring_houses p_Ring_copies c_Ring_from_value
theorem walk {l : PySem.W.OpenLaw} {q : Program} {loose : List Str} {XP : (Str → Option Value) → Heap → Prop} {YP : World → Heap → Prop} {d : DefRec} {K : Params → PySem.W.Frag} (hn : l.most = some 63) (hdf : d.params.defaults = [])
    (hY : ∀ (w : World) (h : Heap), YP w h → (K w.params).In h)
    (F : ∀ (w : World) (mg : Str → Option Value) (fa : Addr) (h : Heap), (K w.params).In h → h.Ns mainGlobals mg → mg d.name = some (.ref fa) →
      ∃ fd : FuncData, (∀ (s : Shared) (u : Value), BindsTo s fd ⟨[u], []⟩ [("script", u)]) ∧ ∀ base : Heap, (K w.params).In base → base.Ns mainGlobals mg → FnOk l.prog w (K w.params) mg base CX0 10 fa fd ["script"] (spLaw (K w.params))) :
    PySem.W.WalkO q loose XP YP l.row.toRowW d [] (fun f vs => PySem.call f vs) :=
  L2.walk_of (n := 63) (k := 10) (x := "script") (CX := fun _ => CX0) (sp := fun w => spLaw (K w.params)) hn (by decide) hdf ⟨rfl, by decide, by decide⟩ hY F (fun _ _ a ns hl _ hS => ⟨a, ns, rfl, hS, hl, fun _ => rfl⟩) fun _ _ _ _ _ z => z
end RH
open PySem PySem.W PyProof.Rows
set_option maxRecDepth 100000 in
set_option maxHeartbeats 0 in
theorem PySem.Challenge.cw_ringheld_k25_rings_that_are_made_holds : PySem.Challenge.rw_ringheld_k25_rings_that_are_made.Holds := by
  w_on; o_law; k_head; (case hw => w_witness2)
  k_fill
  refine RH.walk (l := PySem.Challenge.rw_ringheld_k25_rings_that_are_made) rfl rfl (fun w h Y => PySem.W.kIn_of Y) ?F
  case F =>
    intro w mg fa h KX G hmg
    refine' RH.all_mk KX G hmg ?a_Ring ?pg_Ring ?hd_Ring ?po_Ring ?sa_Ring ?mk_Ring ?kc_Ring ?ha_Ring ?hn_Ring ?ht_Ring ?hm_Ring ?kint_Ring ?kbool_Ring ?kstr_Ring ?ktuple_Ring ?klist_Ring ?n_Ring__copies ?n_Ring__owners ?n_Ring__points ?a_BadValue ?kF_BadValue ?bF_BadValue ?tF_BadValue ?iF_BadValue ?xF_BadValue ?hgE_BadValue ?hkE_BadValue ?hdE_BadValue ?haE_BadValue ?hnE_BadValue ?htE_BadValue ?hmE_BadValue ?sE_BadValue ?a_Busy ?kF_Busy ?bF_Busy ?tF_Busy ?iF_Busy ?xF_Busy ?a_HouseDown ?kF_HouseDown ?bF_HouseDown ?tF_HouseDown ?iF_HouseDown ?xF_HouseDown ?a_RingError ?kF_RingError ?bF_RingError ?tF_RingError ?iF_RingError ?xF_RingError ?a_Unknown ?kF_Unknown ?bF_Unknown ?tF_Unknown ?iF_Unknown ?xF_Unknown ?sub_BadValue_RingError ?tE_BadValue_ValueError ?mE_BadValue_Busy ?mE_BadValue_HouseDown ?mE_BadValue_Unknown ?na_Ring__copies ?na_Ring__owners ?na_Ring__points ?a_is_integer ?l_is_integer ?c_is_integer ?k_is_integer ?a_is_number ?l_is_number ?c_is_number ?k_is_number ?a__law_cell ?l__law_cell ?c__law_cell ?k__law_cell ?a__law_draw ?l__law_draw ?c__law_draw ?k__law_draw ?a__law_draws ?l__law_draws ?c__law_draws ?k__law_draws ?a__first_met ?l__first_met ?c__first_met ?k__first_met ?a__owners_by_place ?l__owners_by_place ?c__owners_by_place ?k__owners_by_place ?a__is_point ?l__is_point ?c__is_point ?k__is_point ?a__are_points ?l__are_points ?c__are_points ?k__are_points ?a_Ring___init__ ?i_Ring___init__ ?l_Ring___init__ ?c_Ring___init__ ?k_Ring___init__ ?pa_Ring_copies ?pb_Ring_copies ?pc_Ring_copies ?pd_Ring_copies ?l_Ring_copies ?c_Ring_copies ?k_Ring_copies ?a_Ring_value ?i_Ring_value ?l_Ring_value ?c_Ring_value ?k_Ring_value ?a_Ring_houses ?i_Ring_houses ?l_Ring_houses ?c_Ring_houses ?k_Ring_houses ?rd_Ring ?rg_Ring ?sa_Ring_from_value ?sb_Ring_from_value ?l_Ring_from_value ?c_Ring_from_value ?k_Ring_from_value ?a__law_pool ?l__law_pool ?c__law_pool ?k__law_pool ?a__law_houses ?l__law_houses ?c__law_houses ?k__law_houses ?a__law_copies ?l__law_copies ?c__law_copies ?k__law_copies ?a__law_points ?l__law_points ?c__law_points ?k__law_points ?a__law_bad_point ?l__law_bad_point ?c__law_bad_point ?k__law_bad_point ?a__law_bad_points ?l__law_bad_points ?c__law_bad_points ?k__law_bad_points ?a__law_bad_copies ?l__law_bad_copies ?c__law_bad_copies ?k__law_bad_copies ?a__law_refuses_ring ?l__law_refuses_ring ?c__law_refuses_ring ?k__law_refuses_ring ?a__law_refuses_value ?l__law_refuses_value ?c__law_refuses_value ?k__law_refuses_value ?a__law_alike ?l__law_alike ?c__law_alike ?k__law_alike ?a__law_bad_value ?l__law_bad_value ?c__law_bad_value ?k__law_bad_value ?a__law_refused ?l__law_refused ?c__law_refused ?k__law_refused ?a__law_same_list ?l__law_same_list ?c__law_same_list ?k__law_same_list ?a_law ?l_law ?c_law ?k_law ?g_LIMIT ?g_MOST_COPIES ?g_PLACES ?z_ValueError ?z_abs ?z_all ?z_bool ?z_int ?z_isinstance ?z_len ?z_list ?z_min ?z_property ?z_range ?z_sorted ?z_staticmethod ?z_tuple ?z_type
    (case a_Ring => k_is)
    (case pg_Ring => k_is)
    (case hd_Ring => k_is)
    (case po_Ring => k_is)
    (case sa_Ring => k_is)
    (case mk_Ring => k_is)
    (case kc_Ring => k_is)
    (case ha_Ring => k_is)
    (case hn_Ring => k_is)
    (case ht_Ring => k_is)
    (case hm_Ring => k_is)
    (case kint_Ring => k_is)
    (case kbool_Ring => k_is)
    (case kstr_Ring => k_is)
    (case ktuple_Ring => k_is)
    (case klist_Ring => k_is)
    (case n_Ring__copies => k_is)
    (case n_Ring__owners => k_is)
    (case n_Ring__points => k_is)
    (case a_BadValue => k_is)
    (case kF_BadValue => k_is)
    (case bF_BadValue => k_is)
    (case tF_BadValue => k_is)
    (case iF_BadValue => k_is)
    (case xF_BadValue => k_exc)
    (case hgE_BadValue => k_is)
    (case hkE_BadValue => k_is)
    (case hdE_BadValue => k_is)
    (case haE_BadValue => k_is)
    (case hnE_BadValue => k_is)
    (case htE_BadValue => k_is)
    (case hmE_BadValue => k_is)
    (case sE_BadValue => first | rfl | k_is)
    (case a_Busy => k_is)
    (case kF_Busy => k_is)
    (case bF_Busy => k_is)
    (case tF_Busy => k_is)
    (case iF_Busy => k_is)
    (case xF_Busy => k_exc)
    (case a_HouseDown => k_is)
    (case kF_HouseDown => k_is)
    (case bF_HouseDown => k_is)
    (case tF_HouseDown => k_is)
    (case iF_HouseDown => k_is)
    (case xF_HouseDown => k_exc)
    (case a_RingError => k_is)
    (case kF_RingError => k_is)
    (case bF_RingError => k_is)
    (case tF_RingError => k_is)
    (case iF_RingError => k_is)
    (case xF_RingError => k_exc)
    (case a_Unknown => k_is)
    (case kF_Unknown => k_is)
    (case bF_Unknown => k_is)
    (case tF_Unknown => k_is)
    (case iF_Unknown => k_is)
    (case xF_Unknown => k_exc)
    (case sub_BadValue_RingError => first | rfl | k_is)
    (case tE_BadValue_ValueError => k_is)
    (case mE_BadValue_Busy => first | rfl | k_is)
    (case mE_BadValue_HouseDown => first | rfl | k_is)
    (case mE_BadValue_Unknown => first | rfl | k_is)
    (case na_Ring__copies => k_is)
    (case na_Ring__owners => k_is)
    (case na_Ring__points => k_is)
    (case a_is_integer => k_is)
    (case l_is_integer => k_is)
    (case c_is_integer => k_is)
    (case k_is_integer => k_is)
    (case a_is_number => k_is)
    (case l_is_number => k_is)
    (case c_is_number => k_is)
    (case k_is_number => k_is)
    (case a__law_cell => k_is)
    (case l__law_cell => k_is)
    (case c__law_cell => k_is)
    (case k__law_cell => k_is)
    (case a__law_draw => k_is)
    (case l__law_draw => k_is)
    (case c__law_draw => k_is)
    (case k__law_draw => k_is)
    (case a__law_draws => k_is)
    (case l__law_draws => k_is)
    (case c__law_draws => k_is)
    (case k__law_draws => k_is)
    (case a__first_met => k_is)
    (case l__first_met => k_is)
    (case c__first_met => k_is)
    (case k__first_met => k_is)
    (case a__owners_by_place => k_is)
    (case l__owners_by_place => k_is)
    (case c__owners_by_place => k_is)
    (case k__owners_by_place => k_is)
    (case a__is_point => k_is)
    (case l__is_point => k_is)
    (case c__is_point => k_is)
    (case k__is_point => k_is)
    (case a__are_points => k_is)
    (case l__are_points => k_is)
    (case c__are_points => k_is)
    (case k__are_points => k_is)
    (case a_Ring___init__ => k_is)
    (case i_Ring___init__ => k_is)
    (case l_Ring___init__ => k_is)
    (case c_Ring___init__ => k_is)
    (case k_Ring___init__ => k_is)
    (case pa_Ring_copies => k_is)
    (case pb_Ring_copies => k_is)
    (case pc_Ring_copies => k_is)
    (case pd_Ring_copies => k_is)
    (case l_Ring_copies => k_is)
    (case c_Ring_copies => k_is)
    (case k_Ring_copies => k_is)
    (case a_Ring_value => k_is)
    (case i_Ring_value => k_is)
    (case l_Ring_value => k_is)
    (case c_Ring_value => k_is)
    (case k_Ring_value => k_is)
    (case a_Ring_houses => k_is)
    (case i_Ring_houses => k_is)
    (case l_Ring_houses => k_is)
    (case c_Ring_houses => k_is)
    (case k_Ring_houses => k_is)
    (case rd_Ring => k_is)
    (case rg_Ring => k_is)
    (case sa_Ring_from_value => k_is)
    (case sb_Ring_from_value => k_is)
    (case l_Ring_from_value => k_is)
    (case c_Ring_from_value => k_is)
    (case k_Ring_from_value => k_is)
    (case a__law_pool => k_is)
    (case l__law_pool => k_is)
    (case c__law_pool => k_is)
    (case k__law_pool => k_is)
    (case a__law_houses => k_is)
    (case l__law_houses => k_is)
    (case c__law_houses => k_is)
    (case k__law_houses => k_is)
    (case a__law_copies => k_is)
    (case l__law_copies => k_is)
    (case c__law_copies => k_is)
    (case k__law_copies => k_is)
    (case a__law_points => k_is)
    (case l__law_points => k_is)
    (case c__law_points => k_is)
    (case k__law_points => k_is)
    (case a__law_bad_point => k_is)
    (case l__law_bad_point => k_is)
    (case c__law_bad_point => k_is)
    (case k__law_bad_point => k_is)
    (case a__law_bad_points => k_is)
    (case l__law_bad_points => k_is)
    (case c__law_bad_points => k_is)
    (case k__law_bad_points => k_is)
    (case a__law_bad_copies => k_is)
    (case l__law_bad_copies => k_is)
    (case c__law_bad_copies => k_is)
    (case k__law_bad_copies => k_is)
    (case a__law_refuses_ring => k_is)
    (case l__law_refuses_ring => k_is)
    (case c__law_refuses_ring => k_is)
    (case k__law_refuses_ring => k_is)
    (case a__law_refuses_value => k_is)
    (case l__law_refuses_value => k_is)
    (case c__law_refuses_value => k_is)
    (case k__law_refuses_value => k_is)
    (case a__law_alike => k_is)
    (case l__law_alike => k_is)
    (case c__law_alike => k_is)
    (case k__law_alike => k_is)
    (case a__law_bad_value => k_is)
    (case l__law_bad_value => k_is)
    (case c__law_bad_value => k_is)
    (case k__law_bad_value => k_is)
    (case a__law_refused => k_is)
    (case l__law_refused => k_is)
    (case c__law_refused => k_is)
    (case k__law_refused => k_is)
    (case a__law_same_list => k_is)
    (case l__law_same_list => k_is)
    (case c__law_same_list => k_is)
    (case k__law_same_list => k_is)
    (case a_law => k_is)
    (case l_law => k_is)
    (case c_law => k_is)
    (case k_law => k_is)
    (case g_LIMIT => k_is)
    (case g_MOST_COPIES => k_is)
    (case g_PLACES => k_is)
    (case z_ValueError => k_is)
    (case z_abs => k_is)
    (case z_all => k_is)
    (case z_bool => k_is)
    (case z_int => k_is)
    (case z_isinstance => k_is)
    (case z_len => k_is)
    (case z_list => k_is)
    (case z_min => k_is)
    (case z_property => k_is)
    (case z_range => k_is)
    (case z_sorted => k_is)
    (case z_staticmethod => k_is)
    (case z_tuple => k_is)
    (case z_type => k_is)
