import PyProof.Rows.All
import Wide.All
import OpenK.AllK
import Wide.FinOn
import HandS.ForMost
import HandS.More
import HandS.Wide
import HandS.IsInst
import HandS.Codes
import HandS.Text
import HandS.Walk
import HandS.Ends
import HandS.Deep
import PyProof.ReprRoads
import PyProof.Rows.NestShow
import HandS.Set
import HandS.SetFor
import HandS.Strs
import HandS.SortInts
import PyProof.Rows.SetFrom
import HandS.TupAny
import HandS.DictComp
import HandS.SortRule
import HandS.DictTup
import HandS.SlotsOwn
import HandS.IterVal
import Wide.More
import KE.GoesSet
import HandS.SetBool
import PyProof.ListMulRight
import PyProof.AutoIntG3
import HandS.ForExc
import HandS.ExcIs
import HandS.Property
import HandS.Style
import HandS.TupLe
import HandS.Steps
import HandS.ClsMeth
import PyProof.StrOps2
import PyProof.NeKinds
import HandS.TupLen
import HandS.Conv
import HandS.ExcValue
import HandS.HotCalls
import HandS.OwnIter
import PySem.Challenge.RW_ringheld_k08_kept_forms_of_pairs
set_option Elab.async false
set_option linter.all false
set_option maxRecDepth 100000
set_option maxHeartbeats 4000000
namespace RH
open PySem L2
/-! ### heaps -/
/-- the heap without the row at r -/
def wo (H : Hp) (r : Addr) : Hp := fun b => if b = r then none else H b
theorem wo_ne {H : Hp} {r b : Addr} (h : b ≠ r) : wo H r b = H b := by unfold wo; rw [if_neg h]
theorem wo_at {H : Hp} {r : Addr} : wo H r r = none := by unfold wo; rw [if_pos rfl]
theorem wo_some {H : Hp} {r b : Addr} {o : HO} (h : wo H r b = some o) : H b = some o ∧ b ≠ r := by
  by_cases e : b = r
  · rw [e, wo_at] at h; cases h
  · rw [wo_ne e] at h; exact ⟨h, e⟩
theorem same_wo (H : Hp) (r : Addr) : Same (wo H r) H := fun _ _ h => (wo_some h).1
theorem same_new {H : Hp} {p : Addr} {o : HO} (h : H p = none) : Same H (upd H p o) := fun b x e => by
  rw [upd_ne (ne_of_none e h)]
  exact e
/-- a step that leaves all but the row -/
def Fr (r : Addr) (H H' : Hp) : Prop := ∀ b o, b ≠ r → H b = some o → H' b = some o
theorem Fr.refl (r : Addr) (H : Hp) : Fr r H H := fun _ _ _ h => h
theorem Fr.trans {r : Addr} {H H1 H2 : Hp} (a : Fr r H H1) (b : Fr r H1 H2) : Fr r H H2 := fun c o n h => b c o n (a c o n h)
theorem Fr.wo {r : Addr} {H H' : Hp} (a : Fr r H H') : Same (wo H r) (wo H' r) := fun b o h => by
  obtain ⟨e, n⟩ := wo_some h
  rw [wo_ne n]
  exact a b o n e
theorem Fr.of {r : Addr} {H H' : Hp} (a : Same H H') : Fr r H H' := fun b o _ h => a b o h
theorem Fr.row {r : Addr} {H : Hp} {o : HO} : Fr r H (upd H r o) := fun b x n h => by rw [upd_ne n]; exact h
theorem Fr.new {r p : Addr} {H : Hp} {o : HO} (h : H p = none) : Fr r H (upd H p o) := Fr.of (same_new h)
/-- an object that the first heap does not know may change -/
theorem Fr.mut {r p : Addr} {H H' : Hp} {o : HO} (a : Fr r H H') (h : H p = none) : Fr r H (upd H' p o) := fun b x n e => by
  rw [upd_ne (ne_of_none e h)]
  exact a b x n e
/-- the row of a draw: a list of three ints -/
def Row (H : Hp) (r : Addr) : Prop := ∃ a b c : Int, H r = some (.lst [.int a, .int b, .int c])
theorem Row.keep {H H' : Hp} {r : Addr} (h : Row H r) (s : Same H H') : Row H' r := by
  obtain ⟨a, b, c, e⟩ := h
  exact ⟨a, b, c, s _ _ e⟩
theorem same_t {K : PySem.W.Frag} {H H' : Hp} {a : Addr} {xs : List V} (e : Same H H') (h : SqT K H a xs) : SqT K H' a xs := by
  rcases h with (h | ⟨o, h⟩) | h
  · exact .inl (.inl (e _ _ h))
  · exact .inl (.inr ⟨o, e _ _ h⟩)
  · exact .inr h
/-! ### rules of this program's own -/
section
variable {X : Cx}
def rIsTyG : R2 := fun x y H Q => ∃ b, y = .ty b ∧ ((∃ a, x = .ty a ∧ Q (.bl (decide (a = b))) H) ∨ ∃ C, x = .ref C ∧ Q (.bl false) H)
theorem op_isTyG : OpR X (compareOp .Is) rIsTyG := by
  intro pins s σ H x y v u Q I rx ry h
  obtain ⟨b, rfl, h⟩ := h
  rcases h with ⟨a, rfl, q⟩ | ⟨C, rfl, q⟩
  · exact op_isTyB pins s σ H _ _ v u Q I rx ry ⟨a, b, rfl, rfl, q⟩
  · cases (show v = Value.ref C from rx)
    cases (show u = Value.type b from ry)
    exact PySem.wpAny_is_plain rfl (fin_bl I q rfl)
def rTypG (K : PySem.W.Frag) : List V → Hp → VK → Prop := fun xs H Q => rTyp K xs H Q ∨ ∃ a C dx fs, xs = [V.ref a] ∧ H a = some (.ins C dx fs) ∧ Q (.ref C) H
theorem call_typeG : CallR X (.type "type") (rTypG X.K) := CallR.or call_type1 cr_type
/-! the library's rules under names of their own -/
def rLenG (K : PySem.W.Frag) : List V → Hp → VK → Prop := fun xs H Q => ∃ x n, xs = [x] ∧ LenV K x H n ∧ Q (.int n) H
theorem call_lenG : CallR X (.builtin "len") (rLenG X.K) := call_len
def rInt1 : List V → Hp → VK → Prop := fun xs H Q => (∃ i, xs = [.int i] ∧ Q (.int i) H) ∨ ∃ k, xs = [.bl k] ∧ Q (.int (if k then 1 else 0)) H
theorem call_int1G : CallR X (.type "int") rInt1 := call_int1
def rOrd : List V → Hp → VK → Prop := fun xs H Q => ∃ x, xs = [.str x] ∧ x.length = 1 ∧ Q (.int (x.cps.getD 0 0 : Nat)) H
theorem call_ordG : CallR X (.builtin "ord") rOrd := call_ord
def rAbs : List V → Hp → VK → Prop := fun xs H Q => ∃ i, xs = [.int i] ∧ Q (.int (if i < 0 then -i else i)) H
theorem call_absG : CallR X (.builtin "abs") rAbs := call_abs
def rMin2 : List V → Hp → VK → Prop := fun xs H Q => ∃ i j, xs = [.int i, .int j] ∧ Q (.int (if j < i then j else i)) H
theorem call_min2G (hc : X.calm = true) : CallR X (.builtin "min") rMin2 := call_min2 hc
def rMax2 : List V → Hp → VK → Prop := fun xs H Q => ∃ i j, xs = [.int i, .int j] ∧ Q (.int (if j > i then j else i)) H
theorem call_max2G (hc : X.calm = true) : CallR X (.builtin "max") rMax2 := call_max2 hc
def rListOf (K : PySem.W.Frag) : List V → Hp → VK → Prop := fun xs H Q => ∃ p ys, xs = [.ref p] ∧ (SqL K H p ys ∨ SqT K H p ys) ∧ ∀ l, H l = none → Q (.ref l) (upd H l (.lst ys))
theorem call_listG : CallR X (.type "list") (rListOf X.K) := call_list_of
def rTupOf (K : PySem.W.Frag) : List V → Hp → VK → Prop := fun xs H Q => ∃ p ys, xs = [.ref p] ∧ ((SqL K H p ys ∧ ∀ l, H l = none → Q (.ref l) (upd H l (.tup ys))) ∨ (SqT K H p ys ∧ Q (.ref p) H))
theorem call_tupleG : CallR X (.type "tuple") (rTupOf X.K) := call_tuple_of
def rAddStr : R2 := fun x y H Q => ∃ i j, x = .str i ∧ y = .str j ∧ i.length + j.length ≤ sizeLine ∧ Q (.str (i ++ j)) H
theorem op_addStrG : OpR X (binaryOp .Add) rAddStr := op_add_str
def rLeStr : R2 := fun x y H Q => ∃ i j, x = .str i ∧ y = .str j ∧ Q (.bl (!decide (j.cps.toList < i.cps.toList))) H
theorem op_leStrG : OpR X (compareOp .LtE) rLeStr := op_le_str
def rInSign : R2 := fun x y H Q => ∃ (c : Nat) (z : Str), x = .str ⟨#[c]⟩ ∧ y = .str z ∧ Q (.bl (decide (c ∈ z.cps.toList))) H
theorem op_inSignG : OpR X (compareOp .In) rInSign := op_in_sign
def rNotInSign : R2 := fun x y H Q => ∃ (c : Nat) (z : Str), x = .str ⟨#[c]⟩ ∧ y = .str z ∧ Q (.bl (!decide (c ∈ z.cps.toList))) H
theorem op_notInSignG : OpR X (compareOp .NotIn) rNotInSign := op_notIn_sign
end
end RH
namespace RH
open PySem L2
/-! ### readings, one step each -/
section
variable {K : PySem.W.Frag} {σ : St} {H : Hp} {Q : VK} {ta tb tc te : TE} {t u : TS} {tt tu : TT} {r : R2} {D : Ends} {g : TG} {x y v : V} {i j : Int} {n : Nat} {p a : Addr} {xs ys : List V} {b : Bool}
theorem r_seq {nx bk ct : St → Hp → Prop} {rt : VK} (h : t ⟨u ⟨nx, rt, bk, ct⟩, rt, bk, ct⟩ σ H) : tSeq t u ⟨nx, rt, bk, ct⟩ σ H := h
theorem r_next {nx bk ct : St → Hp → Prop} {rt : VK} (h : nx σ H) : tNext ⟨nx, rt, bk, ct⟩ σ H := h
theorem r_asg {nx bk ct : St → Hp → Prop} {rt : VK} (h : te σ H fun x H1 => g x σ H1 nx) : tAsg te g ⟨nx, rt, bk, ct⟩ σ H := h
theorem r_drop {nx bk ct : St → Hp → Prop} {rt : VK} (h : te σ H fun _ H1 => nx σ H1) : tDrop te ⟨nx, rt, bk, ct⟩ σ H := h
theorem r_ret {nx bk ct : St → Hp → Prop} {rt : VK} (h : te σ H rt) : tRet te ⟨nx, rt, bk, ct⟩ σ H := h
theorem r_ifS {nx bk ct : St → Hp → Prop} {rt : VK} (h : tt σ H fun b H1 => if b = true then t ⟨nx, rt, bk, ct⟩ σ H1 else u ⟨nx, rt, bk, ct⟩ σ H1) : tIfS tt t u ⟨nx, rt, bk, ct⟩ σ H := h
theorem r_name {Q : St → Hp → Prop} (h : Q (σ.set n (some v)) H) : gName n v σ H Q := h
theorem r_op (h : ta σ H fun x H1 => tb σ H1 fun y H2 => r x y H2 Q) : tOp r ta tb σ H Q := h
theorem r_un {r : V → Hp → VK → Prop} (h : ta σ H fun x H1 => r x H1 Q) : tUn r ta σ H Q := h
theorem r_var (h : σ[n]? = some (some v)) (q : Q v H) : tVar n σ H Q := ⟨v, h, q⟩
theorem r_c (q : Q v H) : tC v σ H Q := q
theorem r_I0 {g : Int → Int → V} (q : Q (g i j) H) : rI0 g (.int i) (.int j) H Q := ⟨i, j, rfl, rfl, q⟩
theorem r_I {C : Int → Int → Prop} {g : Int → Int → V} (c : C i j) (q : Q (g i j) H) : rI C g (.int i) (.int j) H Q := ⟨i, j, rfl, rfl, c, q⟩
theorem r_U {g : Int → V} (q : Q (g i) H) : rU g (.int i) H Q := ⟨i, rfl, q⟩
theorem r_eq (h : scal x y = true) (q : Q (.bl (decide (x = y))) H) : rEq x y H Q := ⟨h, q⟩
theorem r_ne (h : scal x y = true) (q : Q (.bl (!decide (x = y))) H) : rNe x y H Q := ⟨h, q⟩
theorem r_test {Q : Bool → Hp → Prop} (h : te σ H fun x H' => ∃ k, x = .bl k ∧ Q k H') : tTest te σ H Q := h
theorem r_B {Q : Bool → Hp → Prop} (h : te σ H fun x H' => ∃ k, x = .bl k ∧ Q k H') : tB te σ H Q := h
theorem r_k {Q : Bool → Prop} (h : Q b) : ∃ k, V.bl b = .bl k ∧ Q k := ⟨b, rfl, h⟩
theorem r_and {Q : Bool → Hp → Prop} (h : tt σ H fun c H1 => if c = true then tu σ H1 Q else Q false H1) : tAnd tt tu σ H Q := h
theorem r_or {Q : Bool → Hp → Prop} (h : tt σ H fun c H1 => if c = true then Q true H1 else tu σ H1 Q) : tOr tt tu σ H Q := h
theorem r_not {Q : Bool → Hp → Prop} (h : tt σ H fun c H1 => Q (!c) H1) : tNot tt σ H Q := h
theorem r_andV (h : ta σ H fun x H1 => ∃ c, x = .bl c ∧ if c = true then tb σ H1 Q else Q (.bl false) H1) : tAndV ta tb σ H Q := h
theorem r_orV (h : ta σ H fun x H1 => ∃ c, x = .bl c ∧ if c = true then Q (.bl true) H1 else tb σ H1 Q) : tOrV ta tb σ H Q := h
theorem r_notV (h : ta σ H fun x H1 => ∃ c, x = .bl c ∧ Q (.bl (!c)) H1) : tNotV ta σ H Q := h
theorem r_if (h : tt σ H fun c H1 => if c = true then ta σ H1 Q else tb σ H1 Q) : tIf tt ta tb σ H Q := h
theorem r_cb {r : List V → Hp → VK → Prop} {t : TA} (h : t σ H fun vs H1 => r vs H1 Q) : tCB r t σ H Q := h
theorem r_nil {Q : List V → Hp → Prop} (h : Q [] H) : tNil σ H Q := h
theorem r_cons {Q : List V → Hp → Prop} {t : TA} (h : ta σ H fun x H1 => t σ H1 fun xs H2 => Q (x :: xs) H2) : tCons ta t σ H Q := h
theorem r_tup {t : TA} (h : t σ H fun xs H1 => xs.length ≤ sizeLine ∧ ∀ p, H1 p = none → Q (.ref p) (upd H1 p (.tup xs))) : tTup t σ H Q := h
theorem r_lst {t : TA} (h : t σ H fun xs H1 => xs.length ≤ sizeLine ∧ ∀ p, H1 p = none → Q (.ref p) (upd H1 p (.lst xs))) : tLst t σ H Q := h
theorem r_call {sp : Sp} {dvs : List V} {E : XK} {t : TA} (h : t σ H fun vs H1 => sp (vs ++ dvs) H1 Q E) : tCall sp dvs E t σ H Q := h
theorem r_ixL (h : H p = some (.lst xs)) (e : atI xs i = some v) (q : Q v H) : rIxL K (.ref p) (.int i) H Q := ⟨p, xs, i, v, rfl, rfl, SqL.of h, e, q⟩
theorem r_ixT (h : H p = some (.tup xs)) (e : atI xs i = some v) (q : Q v H) : rIxT K (.ref p) (.int i) H Q := ⟨p, xs, i, v, rfl, rfl, SqT.of h, e, q⟩
theorem r_ixgL (h : H p = some (.lst xs)) (e : atI xs i = some v) (q : Q v H) : rIx K (.ref p) (.int i) H Q := .inl ⟨p, xs, i, v, rfl, rfl, SqL.of h, e, q⟩
theorem r_ixgT (h : H p = some (.tup xs)) (e : atI xs i = some v) (q : Q v H) : rIx K (.ref p) (.int i) H Q := .inr (.inl ⟨p, xs, i, v, rfl, rfl, SqT.of h, e, q⟩)
theorem r_sub {to ti : TE} {t : TSet} {Q : St → Hp → Prop} (h : to σ H fun o H1 => ti σ H1 fun i H2 => t o i v H2 fun H3 => Q σ H3) : gSub to ti t v σ H Q := h
theorem r_setL {Q : Hp → Prop} {m : Nat} (h : H p = some (.lst xs)) (e : ixN xs.length i = some m) (q : Q (upd H p (.lst (xs.set m v)))) : rSetL (.ref p) (.int i) v H Q := ⟨p, xs, i, m, rfl, rfl, h, e, q⟩
theorem r_int1 (q : Q (.int i) H) : rInt1 [.int i] H Q := .inl ⟨i, rfl, q⟩
theorem r_ord {c : Nat} (q : Q (.int (c : Int)) H) : rOrd [.str ⟨#[c]⟩] H Q := ⟨_, rfl, rfl, q⟩
theorem r_abs (q : Q (.int (if i < 0 then -i else i)) H) : rAbs [.int i] H Q := ⟨i, rfl, q⟩
theorem r_min2 (q : Q (.int (if j < i then j else i)) H) : rMin2 [.int i, .int j] H Q := ⟨i, j, rfl, q⟩
theorem r_max2 (q : Q (.int (if j > i then j else i)) H) : rMax2 [.int i, .int j] H Q := ⟨i, j, rfl, q⟩
theorem r_addStr {x y : Str} (h : x.length + y.length ≤ sizeLine) (q : Q (.str (x ++ y)) H) : rAddStr (.str x) (.str y) H Q := ⟨x, y, rfl, rfl, h, q⟩
theorem r_leStr {x y : Str} (q : Q (.bl (!decide (y.cps.toList < x.cps.toList))) H) : rLeStr (.str x) (.str y) H Q := ⟨x, y, rfl, rfl, q⟩
theorem r_inSign {c : Nat} {z : Str} (q : Q (.bl (decide (c ∈ z.cps.toList))) H) : rInSign (.str ⟨#[c]⟩) (.str z) H Q := ⟨c, z, rfl, rfl, q⟩
theorem r_notInSign {c : Nat} {z : Str} (q : Q (.bl (!decide (c ∈ z.cps.toList))) H) : rNotInSign (.str ⟨#[c]⟩) (.str z) H Q := ⟨c, z, rfl, rfl, q⟩
theorem r_lenL (h : H p = some (.lst xs)) (q : Q (.int xs.length) H) : rLenG K [.ref p] H Q := ⟨_, _, rfl, .inl ⟨xs, SqL.of h, rfl⟩, q⟩
theorem r_lenT (h : H p = some (.tup xs)) (q : Q (.int xs.length) H) : rLenG K [.ref p] H Q := ⟨_, _, rfl, .inr ⟨xs, SqT.of h, rfl⟩, q⟩
theorem r_lenS {z : Str} (h : z.length ≤ sizeLine) (q : Q (.int z.length) H) : rLenG K [.str z] H Q := ⟨_, _, rfl, ⟨h, rfl⟩, q⟩
theorem r_listL (h : H p = some (.lst xs)) (q : ∀ l, H l = none → Q (.ref l) (upd H l (.lst xs))) : rListOf K [.ref p] H Q := ⟨p, xs, rfl, .inl (SqL.of h), q⟩
theorem r_listT (h : H p = some (.tup xs)) (q : ∀ l, H l = none → Q (.ref l) (upd H l (.lst xs))) : rListOf K [.ref p] H Q := ⟨p, xs, rfl, .inr (SqT.of h), q⟩
theorem r_tupL (h : H p = some (.lst xs)) (q : ∀ l, H l = none → Q (.ref l) (upd H l (.tup xs))) : rTupOf K [.ref p] H Q := ⟨p, xs, rfl, .inl ⟨SqL.of h, q⟩⟩
theorem r_chain {r' : R2} (h : ta σ H fun x H1 => tb σ H1 fun y H2 => r x y H2 fun z H3 => ∃ k, z = .bl k ∧ (if k = true then tc σ H3 fun w' H4 => r' y w' H4 Q else Q (.bl false) H3)) : tChain r r' ta tb tc σ H Q := h
theorem cdiv (h : 0 < j) (h2 : j < 1073741824) : CDiv i j := ⟨h, h2⟩
theorem cmul_r (h : -(2 ^ 64) < j) (h2 : j < 2 ^ 64) : CMul i j := .inr ⟨h, h2⟩
theorem cmul_l (h : -(2 ^ 64) < i) (h2 : i < 2 ^ 64) : CMul i j := .inl ⟨h, h2⟩
theorem cpow (h : 0 ≤ j) (h1 : j ≤ 1000000) (h2 : i.natAbs < 2 ^ 64) : CPow i j := ⟨h, h1, h2⟩
end
end RH
namespace RH
open PySem L2
/-! ### data as the laws draw it -/
inductive D where
  | non | bl (b : Bool) | int (i : Int) | str (s : Str) | tup (xs : List D) | lst (xs : List D)
  /-- an instance of an own class; an empty dict or such -/
  | oth | dct
def tyD : D → Option String
  | .non => some "NoneType" | .bl _ => some "bool" | .int _ => some "int" | .str _ => some "str" | .tup _ => some "tuple" | .lst _ => some "list" | .oth => none | .dct => some "dict"
/-- a sign that a law writes -/
def okc (c : Nat) : Bool := (decide (32 ≤ c) && decide (c ≤ 126) && decide (c ≠ 37)) || decide (c = 10) || decide (c = 9)
structure OkS (s : Str) : Prop where
  len : s.length ≤ 1000
  ok : ∀ c ∈ s.cps.toList, okc c = true
theorem kit_ref {K : PySem.W.Frag} {C : Addr} {T : String} {b : Bool} (h : PySem.W.mroIn K C (.type T) = some b) (hm : PySem.W.kitMeta T = true) : PySem.W.kitOne K (.ref C) (.type T) = some b := by
  unfold PySem.W.kitOne
  rw [if_neg (by intro z; cases (eq_of_beq z))]
  show (if PySem.W.kitMeta T = true then PySem.W.subIn K (.ref C) (.type T) else none) = some b
  rw [if_pos hm]
  exact h
/-- what isinstance asks of an own class -/
structure ClsI (K : PySem.W.Frag) (C : Addr) : Prop where
  cl : Cls K C
  ha : PySem.W.findIn K (.ref C) "__class__" = some (some (.builtin "object.__class__"))
  hn : PySem.W.specialIn K (.builtin "object.__class__") "__get__" = some (some (.builtin "getset_descriptor.__get__"))
  htk : PySem.W.takesIn K (.builtin "object.__class__") = some true
  hm : PySem.W.mroIn K C (.type "object") = some true
  kInt : PySem.W.kitOne K (.ref C) (.type "int") = some false
  kBool : PySem.W.kitOne K (.ref C) (.type "bool") = some false
  kStr : PySem.W.kitOne K (.ref C) (.type "str") = some false
  kTup : PySem.W.kitOne K (.ref C) (.type "tuple") = some false
  kLst : PySem.W.kitOne K (.ref C) (.type "list") = some false
/-- x stands for d -/
inductive Rep (K : PySem.W.Frag) (CC : Addr → Prop) (H : Hp) : V → D → Prop where
  | non : Rep K CC H .non .non
  | bl (b : Bool) : Rep K CC H (.bl b) (.bl b)
  | int (i : Int) : Rep K CC H (.int i) (.int i)
  | str (s : Str) (ok : OkS s) : Rep K CC H (.str s) (.str s)
  | tup {a : Addr} {xs : List V} {ds : List D} (h : H a = some (.tup xs)) (hl : xs.length = ds.length) (hs : xs.length ≤ 1000) (hi : ∀ (i : Nat) (x : V) (d : D), xs[i]? = some x → ds[i]? = some d → Rep K CC H x d) : Rep K CC H (.ref a) (.tup ds)
  | lst {a : Addr} {xs : List V} {ds : List D} (h : H a = some (.lst xs)) (hl : xs.length = ds.length) (hs : xs.length ≤ 1000) (hi : ∀ (i : Nat) (x : V) (d : D), xs[i]? = some x → ds[i]? = some d → Rep K CC H x d) : Rep K CC H (.ref a) (.lst ds)
  | oth {a C dx : Addr} {fs : List (Str × V)} (h : H a = some (.ins C dx fs)) (hc : CC C) : Rep K CC H (.ref a) .oth
  | dct {a : Addr} {kvs : List (Key × V)} (h : H a = some (.dK kvs)) : Rep K CC H (.ref a) .dct
section
variable {K : PySem.W.Frag} {CC : Addr → Prop} {H H' : Hp} {x : V} {d : D}
theorem Rep.mono (h : Rep K CC H x d) (s : Same H H') : Rep K CC H' x d := by
  induction h with
  | non => exact .non
  | bl b => exact .bl b
  | int i => exact .int i
  | str z ok => exact .str z ok
  | tup h hl hs hi ih => exact .tup (s _ _ h) hl hs ih
  | lst h hl hs hi ih => exact .lst (s _ _ h) hl hs ih
  | oth h hc => exact .oth (s _ _ h) hc
  | dct h => exact .dct (s _ _ h)
/-- the type of x as type(x) gives it -/
def TyV (d : D) (y : V) : Prop := match tyD d with
  | some T => y = .ty T
  | none => ∃ C, y = .ref C
theorem Rep.typ {Q : VK} (h : Rep K CC H x d) (q : ∀ y, TyV d y → Q y H) : rTypG K [x] H Q := by
  cases h with
  | non => exact .inl ⟨_, _, rfl, .non, q _ rfl⟩
  | bl b => exact .inl ⟨_, _, rfl, .bl b, q _ rfl⟩
  | int i => exact .inl ⟨_, _, rfl, .int i, q _ rfl⟩
  | str z ok => exact .inl ⟨_, _, rfl, .str z, q _ rfl⟩
  | tup h => exact .inl ⟨_, _, rfl, .tup (SqT.of h), q _ rfl⟩
  | lst h => exact .inl ⟨_, _, rfl, .lst (SqL.of h), q _ rfl⟩
  | oth h hc => exact .inr ⟨_, _, _, _, rfl, h, q _ ⟨_, rfl⟩⟩
  | dct h => exact .inl ⟨_, _, rfl, .dK h, q _ rfl⟩
def tyB (d : D) (T : String) : Bool := decide (tyD d = some T)
theorem r_isTy {Q : VK} {y : V} {T : String} (h : TyV d y) (q : Q (.bl (tyB d T)) H) : rIsTyG y (.ty T) H Q := by
  refine ⟨T, rfl, ?_⟩
  unfold TyV at h
  unfold tyB at q
  cases e : tyD d with
  | none =>
    rw [e] at h q
    obtain ⟨C, rfl⟩ := h
    exact .inr ⟨C, rfl, q⟩
  | some S =>
    rw [e] at h q
    subst h
    refine .inl ⟨S, rfl, ?_⟩
    by_cases z : S = T
    · subst z
      rw [decide_eq_true rfl] at q ⊢
      exact q
    · have z2 : ¬ (some S = some T) := fun w => z (Option.some.inj w)
      rw [decide_eq_false z2] at q
      rw [decide_eq_false z]
      exact q
/-- isinstance(x, T) -/
def isD (d : D) (T : String) : Bool := tyB d T || (decide (T = "int") && tyB d "bool")
theorem kit5 {T : String} (hT : T = "int" ∨ T = "bool" ∨ T = "str" ∨ T = "tuple" ∨ T = "list") {S : String} (hS : S = "int" ∨ S = "bool" ∨ S = "str" ∨ S = "tuple" ∨ S = "list" ∨ S = "NoneType" ∨ S = "dict") :
    kitB S T = some (decide (some S = some T) || (decide (T = "int") && decide (some S = some "bool"))) := by
  rcases hT with rfl | rfl | rfl | rfl | rfl <;> rcases hS with rfl | rfl | rfl | rfl | rfl | rfl | rfl <;> decide +kernel
theorem r_isi {Q : VK} {T : String} (hc : ∀ C, CC C → ClsI K C) (h : Rep K CC H x d) (hT : T = "int" ∨ T = "bool" ∨ T = "str" ∨ T = "tuple" ∨ T = "list") (q : Q (.bl (isD d T)) H) : rIsi K [x, .ty T] H Q := by
  have go : ∀ (S : String) (hS : S = "int" ∨ S = "bool" ∨ S = "str" ∨ S = "tuple" ∨ S = "list" ∨ S = "NoneType" ∨ S = "dict"), tyD d = some S → TyOf K H x (.type S) → rIsi K [x, .ty T] H Q := fun S hS e t => by
    refine ⟨x, .ty T, _, _, _, rfl, .ty T, .base t, kit_ty (kit5 hT hS), ?_⟩
    have e2 : isD d T = (decide (some S = some T) || (decide (T = "int") && decide (some S = some "bool"))) := by
      unfold isD tyB
      rw [e]
    rw [e2] at q
    exact q
  cases h with
  | non => exact go "NoneType" (by decide) rfl .non
  | bl b => exact go "bool" (by decide) rfl (.bl b)
  | int i => exact go "int" (by decide) rfl (.int i)
  | str z ok => exact go "str" (by decide) rfl (.str z)
  | tup h => exact go "tuple" (by decide) rfl (.tup h)
  | lst h => exact go "list" (by decide) rfl (.lst h)
  | dct h => exact go "dict" (by decide) rfl (.dK h)
  | oth h c =>
    have I := hc _ c
    refine ⟨_, .ty T, _, _, false, rfl, .ty T, .base (.ins h I.cl I.ha I.hn I.htk I.hm), ?_, ?_⟩
    · rcases hT with rfl | rfl | rfl | rfl | rfl
      · exact I.kInt
      · exact I.kBool
      · exact I.kStr
      · exact I.kTup
      · exact I.kLst
    · have e2 : isD .oth T = false := by
        rcases hT with rfl | rfl | rfl | rfl | rfl <;> decide
      rw [e2] at q
      exact q
end
/-- len(x) of a text, a tuple, a list -/
def lenD : D → Option Nat
  | .str s => some s.length | .tup xs => some xs.length | .lst xs => some xs.length | _ => none
section
variable {K : PySem.W.Frag} {CC : Addr → Prop} {H H' : Hp} {x : V} {d : D}
theorem sz1000 {n : Nat} (h : n ≤ 1000) : n ≤ sizeLine := Nat.le_of_lt (small1000 h)
theorem r_len {Q : VK} {n : Nat} (h : Rep K CC H x d) (e : lenD d = some n) (q : Q (.int n) H) : rLenG K [x] H Q := by
  cases h with
  | non => cases e
  | bl b => cases e
  | int i => cases e
  | oth h c => cases e
  | dct h => cases e
  | str z ok =>
    cases e
    exact ⟨_, _, rfl, ⟨sz1000 ok.len, rfl⟩, q⟩
  | tup h hl =>
    cases e
    exact ⟨_, _, rfl, .inr ⟨_, SqT.of h, hl.symm⟩, q⟩
  | lst h hl =>
    cases e
    exact ⟨_, _, rfl, .inl ⟨_, SqL.of h, hl.symm⟩, q⟩
end
end RH
namespace RH
open PySem L2
/-! ### what is new between two heaps -/
def fresh (H H' : Hp) : Hp := fun b => if H b = none then H' b else none
theorem fresh_some {H H' : Hp} {b : Addr} {o : HO} (h : fresh H H' b = some o) : H b = none ∧ H' b = some o := by
  unfold fresh at h
  by_cases e : H b = none
  · rw [if_pos e] at h; exact ⟨e, h⟩
  · rw [if_neg e] at h; cases h
theorem fresh_of {H H' : Hp} {b : Addr} {o : HO} (e : H b = none) (h : H' b = some o) : fresh H H' b = some o := by
  unfold fresh
  rw [if_pos e]
  exact h
theorem fresh_same (H H' : Hp) : Same (fresh H H') H' := fun _ _ h => (fresh_some h).2
/-- what is tracked stays tracked -/
def Dom (H H' : Hp) : Prop := ∀ b, H' b = none → H b = none
theorem Dom.refl (H : Hp) : Dom H H := fun _ h => h
theorem Dom.trans {H H1 H2 : Hp} (a : Dom H H1) (b : Dom H1 H2) : Dom H H2 := fun c h => a c (b c h)
theorem Dom.same {H H' : Hp} (s : Same H H') : Dom H H' := fun _ h => s.free h
theorem Dom.upd {H H' : Hp} {p : Addr} {o : HO} (a : Dom H H') : Dom H (upd H' p o) := fun b h => by
  by_cases e : b = p
  · rw [e, upd_same] at h; cases h
  · rw [upd_ne e] at h; exact a b h
theorem Fr.dom {r : Addr} {H H' : Hp} (a : Fr r H H') (h : Row H' r) : Dom H H' := fun b e => by
  cases q : H b with
  | none => rfl
  | some o =>
    by_cases n : b = r
    · obtain ⟨x, y, z, w⟩ := h
      rw [n, w] at e; cases e
    · rw [a b o n q] at e; cases e
theorem fresh_step {H0 H1 H2 H3 : Hp} (d : Dom H0 H1) (s : ∀ b o, H0 b = none → H2 b = some o → H3 b = some o) : Same (fresh H1 H2) (fresh H0 H3) := fun b o h => by
  obtain ⟨e, q⟩ := fresh_some h
  have e0 := d b e
  exact fresh_of e0 (s b o e0 q)
theorem fresh_fr {r : Addr} {H0 H1 H2 H3 : Hp} (d : Dom H0 H1) (h : H0 r ≠ none) (s : Fr r H2 H3) : Same (fresh H1 H2) (fresh H0 H3) :=
  fresh_step d fun b o e q => s b o (fun z => h (z ▸ e)) q
theorem Row.ne {H : Hp} {r : Addr} (h : Row H r) : H r ≠ none := by
  obtain ⟨a, b, c, e⟩ := h
  rw [e]
  exact fun z => nomatch z
theorem Row.upd {H : Hp} {r p : Addr} {o : HO} (h : Row H r) (n : H p = none) : Row (upd H p o) r := h.keep (same_new n)
/-- what a comprehension asks, from its walk on -/
def LcGo (J : It) (g : TG) (tt : TT) (te : TE) (vs : List Nat) (σ : St) (D : Addr) (Qd : Hp → Prop) (H1 : Hp) : Prop :=
  ∃ W : Nat → Nat → Hp → Prop, (∃ m, W 0 m (upd H1 D (.lst []))) ∧ ∀ i m H, W i m H →
    (J.stop i H ∧ Qd H) ∨ (J.go i H ∧ ∃ Nx : Hp → Prop, (∀ H', Nx H' → ∃ m', m' < m ∧ W (i + 1) m' H') ∧ ∀ x H', J.yld i H x H' → g x (wipe σ vs) H' fun σ2 H2 => wipe σ2 vs = wipe σ vs ∧ tt σ2 H2 fun b H3 =>
      if b = true then te σ2 H3 fun y H4 => ∃ acc, H4 D = some (.lst acc) ∧ acc.length < sizeLine ∧ Nx (upd H4 D (.lst (acc ++ [y]))) else Nx H3)
theorem r_lc {wi : TI} {g : TG} {tt : TT} {te : TE} {vs : List Nat} {σ : St} {H : Hp} {Q : VK} (h : wi σ H fun J H1 => ∀ D, H1 D = none → LcGo J g tt te vs σ D (Q (.ref D)) H1) : tLc wi g tt te vs σ H Q := h
/-! ### comprehensions over one name, no test -/
section
variable {J : It} {n : Nat} {G : Hp → Prop} {Y : Nat → Hp → V → Hp → Prop} {Y' : Nat → V → Prop} {te : TE} {vs : List Nat} {σ : St} {k : Nat} {H1 : Hp} {D : Addr} {Qd : Hp → Prop}
/-- the items are reckoned, nothing that stood is changed -/
theorem lc_pure (w : Walk J n G Y) (hY : ∀ i H x H', Y i H x H' → H' = H ∧ Y' i x) (ys : List V) (hn : ys.length = n) (hs : n ≤ 1000) (hD : H1 D = none) (hG : ∀ H, Same H1 H → G H)
    (hw : ∀ x, wipe ((wipe σ vs).set k (some x)) vs = wipe σ vs)
    (step : ∀ i x y H, Y' i x → ys[i]? = some y → Same H1 H → ∀ Q : VK, (∀ H', Same H H' → Q y H') → te ((wipe σ vs).set k (some x)) H Q)
    (hd : ∀ H, Same H1 H → H D = some (.lst ys) → Qd H) :
    LcGo J (gName k) tYes te vs σ D Qd H1 := by
  refine lc_it w (g := gName k) (tt := tYes) (te := te) (fun i H => Same H1 H ∧ H D = some (.lst (ys.take i))) ⟨same_new hD, ?_⟩ (fun i H _ p => hG H p.1) ?_ ?_
  · rw [upd_same]; simp
  · intro i x H H' hi p y
    obtain ⟨rfl, y'⟩ := hY i H x H' y
    refine ⟨hw x, ?_⟩
    unfold tYes
    dsimp only
    rw [if_pos rfl]
    have hi' : i < ys.length := by omega
    have hy : ys[i]? = some ys[i] := List.getElem?_eq_getElem hi'
    refine step i x ys[i] H' y' hy p.1 _ fun H4 s => ?_
    refine ⟨_, s _ _ p.2, ?_, ?_, ?_⟩
    · rw [List.length_take]
      exact Nat.lt_of_le_of_lt (Nat.min_le_left _ _) (small1000 (by omega))
    · intro b o e
      rw [upd_ne (ne_of_none e hD)]
      exact s _ _ (p.1 _ _ e)
    · rw [upd_same, List.take_add_one, hy]
      rfl
  · intro H p
    refine hd H p.1 ?_
    rw [p.2, ← hn, List.take_length]
/-- the items are drawn off the row at r -/
theorem lc_row {r : Addr} (w : Walk J n G Y) (hY : ∀ i H x H', Y i H x H' → H' = H ∧ Y' i x) (P : Hp → V → Prop) (hP : ∀ H H' y, Same H H' → P H y → P H' y) (hs : n ≤ 1000) (hD : H1 D = none) (hr : Row H1 r) (hG : ∀ H, Fr r H1 H → G H)
    (hw : ∀ x, wipe ((wipe σ vs).set k (some x)) vs = wipe σ vs)
    (step : ∀ i x H, Y' i x → Fr r H1 H → Row H r → ∀ Q : VK, (∀ y H', Fr r H H' → Row H' r → P (fresh H H') y → Q y H') → te ((wipe σ vs).set k (some x)) H Q)
    (hd : ∀ H ys, ys.length = n → Fr r H1 H → Row H r → H D = some (.lst ys) → (∀ y, y ∈ ys → P (fresh (upd H1 D (.lst [])) H) y) → Qd H) :
    LcGo J (gName k) tYes te vs σ D Qd H1 := by
  have rD : D ≠ r := fun z => hr.ne (z ▸ hD)
  have h0r : (upd H1 D (.lst [])) r ≠ none := by
    rw [upd_ne rD.symm]
    exact hr.ne
  refine lc_it w (g := gName k) (tt := tYes) (te := te) (fun i H => Fr r H1 H ∧ Row H r ∧ Dom (upd H1 D (.lst [])) H ∧ ∃ ys : List V, ys.length = i ∧ H D = some (.lst ys) ∧ ∀ y, y ∈ ys → P (fresh (upd H1 D (.lst [])) H) y) ⟨Fr.new hD, hr.upd hD, Dom.refl _, [], rfl, upd_same, fun y hy => nomatch hy⟩ (fun i H _ p => hG H p.1) ?_ ?_
  · rintro i x H H' hi ⟨f, hrow, dm, ys, hl, hL, hP2⟩ y
    obtain ⟨rfl, y'⟩ := hY i H x H' y
    refine ⟨hw x, ?_⟩
    unfold tYes
    dsimp only
    rw [if_pos rfl]
    refine step i x H' y' f hrow _ fun y H4 f4 row4 py => ?_
    · have hL4 : H4 D = some (.lst ys) := f4 _ _ rD hL
      have d4 : Dom H' H4 := f4.dom row4
      refine ⟨_, hL4, Nat.lt_of_le_of_lt (by omega) (small1000 hs), (f.trans f4).mut hD, ?_, (dm.trans d4).upd, ys ++ [y], by simp [hl], upd_same, ?_⟩
      · obtain ⟨a, b, c, e⟩ := row4
        exact ⟨a, b, c, by rw [upd_ne rD.symm]; exact e⟩
      · have st : ∀ b o, (upd H1 D (.lst [])) b = none → H4 b = some o → (upd H4 D (.lst (ys ++ [y]))) b = some o := fun b o e q => by
          have nb : b ≠ D := fun z => by rw [z, upd_same] at e; cases e
          rw [upd_ne nb]
          exact q
        intro z hz
        rcases List.mem_append.mp hz with hz | hz
        · refine hP _ _ z ?_ (hP2 z hz)
          exact fresh_step (Dom.refl _) fun b o e q => st b o e (f4 b o (fun w => h0r (w ▸ e)) q)
        · have e : z = y := by simpa using hz
          subst e
          exact hP _ _ z (fresh_step dm st) py
  · rintro H ⟨f, hrow, dm, ys, hl, hL, hP2⟩
    exact hd H ys hl f hrow hL hP2
end
end RH
namespace RH
open PySem L2
/-- a loop that leaves by a return at the first item that is not ok -/
theorem for_all {J : It} {n : Nat} {G : Hp → Prop} {Y : Nat → Hp → V → Hp → Prop} {Y' : Nat → V → Prop} {tb : TS} {nx : St → Hp → Prop} {rt : VK} {σ : St} {k : Nat} {H : Hp} (w : Walk J n G Y) (hY : ∀ i H x H', Y i H x H' → H' = H ∧ Y' i x) (ok : Nat → Prop) (hG : ∀ H1, Same H H1 → G H1)
    (step : ∀ i x H1, i < n → Y' i x → Same H H1 → ∀ N : St → Hp → Prop, (ok i → ∀ H2, Same H1 H2 → N (σ.set k (some x)) H2) → tb ⟨N, rt, nx, N⟩ (σ.set k (some x)) H1)
    (hd : (∀ i, i < n → ok i) → ∀ σ' H1, Same H H1 → nx σ' H1) :
    ∃ W : Nat → Nat → St → Hp → Prop, (∃ m, W 0 m σ H) ∧ ∀ i m σ H, W i m σ H →
      (J.stop i H ∧ nx σ H) ∨ (J.go i H ∧ ∃ N : St → Hp → Prop, (∀ σ' H', N σ' H' → ∃ m', m' < m ∧ W (i + 1) m' σ' H') ∧ ∀ x H', J.yld i H x H' → gName k x σ H' fun σ2 H2 => tb ⟨N, rt, nx, N⟩ σ2 H2) := by
  refine for_it (D := ⟨nx, rt, fun _ _ => False, fun _ _ => False⟩) w (g := gName k) (fun i σ' H' => (∀ x, σ'.set k (some x) = σ.set k (some x)) ∧ Same H H' ∧ ∀ m, m < i → ok m) ⟨fun _ => rfl, Same.refl H, fun m hm => absurd hm (Nat.not_lt_zero m)⟩ (fun i σ' H' _ p => hG H' p.2.1) ?_ ?_
  · rintro i x σ' H1 H2 hi ⟨e, s, a⟩ y
    obtain ⟨rfl, y'⟩ := hY i H1 x H2 y
    show tb _ (σ'.set k (some x)) H2
    rw [e x]
    refine step i x H2 hi y' s _ fun o H3 s3 => ⟨fun z => by rw [List.set_set], s.trans s3, fun m hm => ?_⟩
    rcases Nat.lt_succ_iff_lt_or_eq.mp hm with h | h
    · exact a m h
    · rw [h]; exact o
  · rintro σ' H' ⟨_, s, a⟩
    exact hd a σ' H' s
end RH
namespace RH
open PySem L2
/-- with a test: of the items those whose test is true, nothing that stood is changed -/
theorem lc_filter {J : It} {n : Nat} {G : Hp → Prop} {Y : Nat → Hp → V → Hp → Prop} {Y' : Nat → V → Prop} {tt : TT} {te : TE} {vs : List Nat} {σ : St} {k : Nat} {H1 : Hp} {D : Addr} {Qd : Hp → Prop}
    (w : Walk J n G Y) (hY : ∀ i H x H', Y i H x H' → H' = H ∧ Y' i x) (ys : List (Bool × V)) (hn : ys.length = n) (hs : n ≤ 1000) (hD : H1 D = none) (hG : ∀ H, Same H1 H → G H)
    (hw : ∀ x, wipe ((wipe σ vs).set k (some x)) vs = wipe σ vs)
    (test : ∀ i x b y H, Y' i x → ys[i]? = some (b, y) → Same H1 H → ∀ Q : Bool → Hp → Prop, (∀ H', Same H H' → Q b H') → tt ((wipe σ vs).set k (some x)) H Q)
    (step : ∀ i x y H, Y' i x → ys[i]? = some (true, y) → Same H1 H → ∀ Q : VK, (∀ H', Same H H' → Q y H') → te ((wipe σ vs).set k (some x)) H Q)
    (hd : ∀ H, Same H1 H → H D = some (.lst ((ys.filter (·.1)).map (·.2))) → Qd H) : LcGo J (gName k) tt te vs σ D Qd H1 := by
  refine lc_it w (g := gName k) (tt := tt) (te := te) (fun i H => Same H1 H ∧ H D = some (.lst (((ys.take i).filter (·.1)).map (·.2)))) ⟨same_new hD, ?_⟩ (fun i H _ p => hG H p.1) ?_ ?_
  · rw [upd_same]; simp
  · intro i x H H' hi p y
    obtain ⟨rfl, y'⟩ := hY i H x H' y
    refine ⟨hw x, ?_⟩
    have hi' : i < ys.length := by omega
    obtain ⟨b, z, hbz⟩ : ∃ b z, ys[i] = (b, z) := ⟨_, _, rfl⟩
    have hy : ys[i]? = some (b, z) := by rw [List.getElem?_eq_getElem hi', hbz]
    refine test i x b z H' y' hy p.1 _ fun H4 s => ?_
    cases b with
    | true =>
      rw [if_pos rfl]
      refine step i x z H4 y' hy (p.1.trans s) _ fun H5 s5 => ?_
      refine ⟨_, s5 _ _ (s _ _ p.2), ?_, ?_, ?_⟩
      · rw [List.length_map]
        exact Nat.lt_of_le_of_lt (Nat.le_trans (List.length_filter_le ..) (by rw [List.length_take]; exact Nat.min_le_left _ _)) (small1000 (by omega))
      · intro c o e
        rw [upd_ne (ne_of_none e hD)]
        exact s5 _ _ (s _ _ (p.1 _ _ e))
      · rw [upd_same, List.take_add_one, hy]
        simp
    | false =>
      rw [if_neg Bool.false_ne_true]
      refine ⟨p.1.trans s, ?_⟩
      rw [s _ _ p.2, List.take_add_one, hy]
      simp
  · intro H p
    refine hd H p.1 ?_
    rw [p.2, ← hn, List.take_length]
end RH
namespace RH
open PySem L2
/-! ### the tests of values, over data -/
def limI (i : Int) : Bool := decide (-1000000000000 ≤ i) && decide (i ≤ 1000000000000)
def isInt : D → Bool | .int i => limI i | _ => false
def isNum : D → Bool | .int i => limI i && decide (0 ≤ i) | _ => false
def sgn (c : Nat) : Bool := decide (32 ≤ c) && decide (c ≤ 126) && decide (c ≠ 37)
def low (c : Nat) : Bool := decide (97 ≤ c) && decide (c ≤ 122)
def isText : D → Bool | .str s => decide (s.length ≤ 60) && s.cps.toList.all sgn | _ => false
def isKey : D → Bool | .str s => isText (.str s) && (decide (1 ≤ s.length) && decide (s.length ≤ 20)) | _ => false
def isName : D → Bool | .str s => (decide (1 ≤ s.length) && decide (s.length ≤ 12)) && s.cps.toList.all low | _ => false
def isPath : D → Bool | .tup xs => decide (xs.length ≤ 4) && xs.all isName | _ => false
def nz : D → Bool | .int i => !decide (i = 0) | _ => false
def isDot : D → Bool | .tup [a, b] => isNum a && (isNum b && nz b) | _ => false
def isItem (d : D) : Bool := isInt d || isText d
/-- the promise of a test -/
def spB (K : PySem.W.Frag) (CC : Addr → Prop) (f : D → Bool) : Sp := fun vs H Q _ => ∃ x d, vs = [x] ∧ Rep K CC H x d ∧ ∀ H', Same H H' → Q (.bl (f d)) H'
theorem tyB_of {d : D} {T : String} (h : tyB d T = true) : tyD d = some T := of_decide_eq_true h
theorem tyB_int {d : D} (h : tyB d "int" = true) : ∃ i, d = .int i := by
  have e := tyB_of h
  cases d <;> simp [tyD] at e ⊢
theorem tyB_str {d : D} (h : tyB d "str" = true) : ∃ i, d = .str i := by
  have e := tyB_of h
  cases d <;> simp [tyD] at e ⊢
theorem tyB_tup {d : D} (h : tyB d "tuple" = true) : ∃ i, d = .tup i := by
  have e := tyB_of h
  cases d <;> simp [tyD] at e ⊢
theorem nint {d : D} (h : ¬ tyB d "int" = true) : isInt d = false := by
  cases d <;> first | rfl | exact absurd (decide_eq_true rfl) h
theorem nstrT {d : D} (h : ¬ tyB d "str" = true) : isText d = false := by
  cases d <;> first | rfl | exact absurd (decide_eq_true rfl) h
theorem nstrN {d : D} (h : ¬ tyB d "str" = true) : isName d = false := by
  cases d <;> first | rfl | exact absurd (decide_eq_true rfl) h
theorem ntupP {d : D} (h : ¬ tyB d "tuple" = true) : isPath d = false := by
  cases d <;> first | rfl | exact absurd (decide_eq_true rfl) h
theorem ntupD {d : D} (h : ¬ tyB d "tuple" = true) : isDot d = false := by
  cases d <;> first | rfl | exact absurd (decide_eq_true rfl) h
end RH
namespace RH
open PySem L2
theorem qbl {Q : VK} {H : Hp} {a b : Bool} (q : Q (.bl a) H) (e : a = b) : Q (.bl b) H := e ▸ q
/-! ### all([.. for x in ..]) -/
section
variable {K : PySem.W.Frag} {CC : Addr → Prop} {σ : St} {H : Hp} {Q : VK} {te : TE} {vs : List Nat} {j k : Nat}
theorem all_map (bs : List Bool) : (bs.map V.bl).length = bs.length := List.length_map ..
theorem r_allS {z : Str} {f : Nat → Bool} (hj : σ[j]? = some (some (.str z))) (hl : z.length ≤ 1000) (hw : ∀ x, wipe ((wipe σ vs).set k (some x)) vs = wipe σ vs)
    (step : ∀ c H1, Same H H1 → ∀ Q : VK, (∀ H', Same H1 H' → Q (.bl (f c)) H') → te ((wipe σ vs).set k (some (.str ⟨#[c]⟩))) H1 Q)
    (q : ∀ H', Same H H' → Q (.bl (z.cps.toList.all f)) H') : tCB (rAll K) (tCons (tLc (iStr (tVar j)) (gName k) tYes te vs) tNil) σ H Q := by
  refine ⟨_, hj, z, rfl, fun D hD => ?_⟩
  have hsz : z.cps.size = z.length := rfl
  refine lc_pure (n := z.cps.size) walk_str (Y' := fun i x => ∃ c, z.cps[i]? = some c ∧ x = .str ⟨#[c]⟩) (fun i H x H' y => y) ((z.cps.toList.map f).map V.bl) (by simp) (by omega) hD (fun _ _ => trivial) hw ?_ ?_
  · rintro i x y H1 ⟨c, hc, rfl⟩ hy s1 Q1 q1
    have e : y = V.bl (f c) := by
      rw [List.getElem?_map, List.getElem?_map] at hy
      have hc2 : z.cps.toList[i]? = some c := by rw [Array.getElem?_toList]; exact hc
      rw [hc2] at hy
      exact (Option.some.inj hy).symm
    subst e
    exact step c H1 s1 Q1 q1
  · intro H1 s1 hL
    refine ⟨D, z.cps.toList.map f, rfl, SqL.of hL, ?_⟩
    exact qbl (q H1 s1) (by simp [List.all_map, Function.comp_def])
theorem r_allT {a : Addr} {xs : List V} {ds : List D} {f : D → Bool} (hj : σ[j]? = some (some (.ref a))) (ha : H a = some (.tup xs)) (hl : xs.length = ds.length) (hs : xs.length ≤ 1000)
    (hi : ∀ (i : Nat) (x : V) (d : D), xs[i]? = some x → ds[i]? = some d → Rep K CC H x d) (hw : ∀ x, wipe ((wipe σ vs).set k (some x)) vs = wipe σ vs)
    (step : ∀ x d H1, d ∈ ds → Same H H1 → Rep K CC H1 x d → ∀ Q : VK, (∀ H', Same H1 H' → Q (.bl (f d)) H') → te ((wipe σ vs).set k (some x)) H1 Q)
    (q : ∀ H', Same H H' → Q (.bl (ds.all f)) H') : tCB (rAll K) (tCons (tLc (iTup K (tVar j)) (gName k) tYes te vs) tNil) σ H Q := by
  refine ⟨_, hj, a, rfl, ⟨xs, SqT.of ha⟩, fun D hD => ?_⟩
  refine lc_pure (n := xs.length) walk_tup (Y' := fun i x => xs[i]? = some x) (fun i H x H' y => y) ((ds.map f).map V.bl) (by simp [hl]) hs hD (fun H1 s1 => SqT.of (s1 _ _ ha)) hw ?_ ?_
  · intro i x y H1 hx hy s1 Q1 q1
    have hlt : i < ds.length := by
      rw [← hl]
      exact (List.getElem?_eq_some_iff.mp hx).1
    have hd : ds[i]? = some ds[i] := List.getElem?_eq_getElem hlt
    have e : y = V.bl (f ds[i]) := by
      rw [List.getElem?_map, List.getElem?_map, hd] at hy
      exact (Option.some.inj hy).symm
    subst e
    exact step x ds[i] H1 (List.getElem_mem hlt) s1 ((hi i x _ hx hd).mono s1) Q1 q1
  · intro H1 s1 hL
    refine ⟨D, ds.map f, rfl, SqL.of hL, ?_⟩
    exact qbl (q H1 s1) (by simp [List.all_map, Function.comp_def])
end
end RH
namespace RH
open PySem L2
def spSign : Sp := fun vs H Q _ => ∃ c : Nat, vs = [.str ⟨#[c]⟩] ∧ Q (.bl (sgn c)) H
theorem lt1 (a b : Nat) : ((⟨#[a]⟩ : Str).cps.toList < (⟨#[b]⟩ : Str).cps.toList) ↔ a < b := by
  show [a] < [b] ↔ a < b
  constructor
  · intro h
    cases h with
    | rel h => exact h
    | cons h => exact nomatch h
  · intro h
    exact .rel h
theorem cps_a : ("a" : Str).cps.toList = (⟨#[97]⟩ : Str).cps.toList := by decide +kernel
theorem cps_z : ("z" : Str).cps.toList = (⟨#[122]⟩ : Str).cps.toList := by decide +kernel
theorem low_fst {c : Nat} (h : ¬ (!decide ((⟨#[c]⟩ : Str).cps.toList < ("a" : Str).cps.toList)) = true) : low c = false := by
  rw [cps_a] at h
  have h1 : c < 97 := by
    by_cases z : c < 97
    · exact z
    · exfalso
      apply h
      rw [decide_eq_false (fun w => z ((lt1 c 97).mp w))]
      rfl
  unfold low
  rw [decide_eq_false (by omega : ¬ 97 ≤ c), Bool.false_and]
theorem low_both {c : Nat} (h : (!decide ((⟨#[c]⟩ : Str).cps.toList < ("a" : Str).cps.toList)) = true) : low c = !decide (("z" : Str).cps.toList < (⟨#[c]⟩ : Str).cps.toList) := by
  rw [cps_a] at h
  rw [cps_z]
  have h1 : ¬ c < 97 := fun z => by
    rw [decide_eq_true ((lt1 c 97).mpr z)] at h
    cases h
  unfold low
  rw [decide_eq_true (by omega : 97 ≤ c), Bool.true_and]
  by_cases h2 : c ≤ 122
  · have : ¬ ((⟨#[122]⟩ : Str).cps.toList < (⟨#[c]⟩ : Str).cps.toList) := fun z => by
      have := (lt1 122 c).mp z
      omega
    rw [decide_eq_true h2, decide_eq_false this]; rfl
  · have : ((⟨#[122]⟩ : Str).cps.toList < (⟨#[c]⟩ : Str).cps.toList) := (lt1 122 c).mpr (by omega)
    rw [decide_eq_false h2, decide_eq_true this]; rfl
end RH
namespace RH
open PySem L2
theorem isD_intF {d : D} (h : (!isD d "int") = true) : isInt d = false := by
  cases d <;> first | rfl | (exfalso; revert h; show ¬ _; intro h; cases h)
theorem isD_boolF {d : D} (h : isD d "bool" = true) : isInt d = false := by
  cases d <;> first | rfl | (exfalso; cases h)
theorem isD_intT {d : D} (h : ¬ (!isD d "int") = true) (h2 : ¬ isD d "bool" = true) : ∃ i, d = .int i := by
  cases d with
  | int i => exact ⟨i, rfl⟩
  | bl b => exact absurd rfl h2
  | _ => exact absurd rfl h
theorem isD_str {d : D} (h : isD d "str" = true) : ∃ z, d = .str z := by
  cases d with
  | str i => exact ⟨i, rfl⟩
  | _ => cases h
theorem isD_strT {d : D} (h : ¬ (!isD d "str") = true) : ∃ z, d = .str z := by
  cases d with
  | str i => exact ⟨i, rfl⟩
  | _ => exact absurd rfl h
theorem isD_strN {d : D} (h : (!isD d "str") = true) : isName d = false ∧ isText d = false := by
  cases d <;> first | exact ⟨rfl, rfl⟩ | (exfalso; cases h)
theorem isD_strN2 {d : D} (h : ¬ isD d "str" = true) : isName d = false ∧ isText d = false := by
  cases d <;> first | exact ⟨rfl, rfl⟩ | exact absurd rfl h
theorem isD_tupT {d : D} (h : ¬ (!isD d "tuple") = true) : ∃ z, d = .tup z := by
  cases d with
  | tup i => exact ⟨i, rfl⟩
  | _ => exact absurd rfl h
theorem isD_tupN {d : D} (h : (!isD d "tuple") = true) : isPath d = false ∧ isDot d = false := by
  cases d <;> first | exact ⟨rfl, rfl⟩ | (exfalso; cases h)
theorem dmem (a c : Nat) (l : List Nat) : decide (a ∈ c :: l) = (decide (c = a) || decide (a ∈ l)) := by
  by_cases h1 : c = a
  · subst h1
    rw [decide_eq_true (List.mem_cons_self ..), decide_eq_true rfl]; rfl
  · rw [decide_eq_false h1, Bool.false_or]
    exact decide_eq_decide.mpr ⟨fun z => (List.mem_cons.mp z).resolve_left fun w => h1 w.symm, List.mem_cons_of_mem _⟩
/-- a text without a newline and without a tab, of signs that a law writes, has signs of texts -/
theorem okc_sgn {c : Nat} (h : okc c = true) : sgn c = (decide (c ≠ 10) && decide (c ≠ 9)) := by
  unfold okc at h
  unfold sgn
  by_cases h1 : c = 10
  · subst h1; rfl
  · by_cases h2 : c = 9
    · subst h2; rfl
    · rw [decide_eq_false h1, decide_eq_false h2, Bool.or_false, Bool.or_false] at h
      rw [h, decide_eq_true h1, decide_eq_true h2]; rfl
theorem text_all {z : Str} (ok : OkS z) : z.cps.toList.all sgn = ((!decide (10 ∈ z.cps.toList)) && !decide (9 ∈ z.cps.toList)) := by
  have h := ok.ok
  revert h
  generalize z.cps.toList = l
  intro h
  induction l with
  | nil => rfl
  | cons c l ih =>
    have ih := ih fun x hx => h x (List.mem_cons_of_mem _ hx)
    rw [List.all_cons, okc_sgn (h c (List.mem_cons_self ..)), ih]
    rw [dmem, dmem, decide_not, decide_not]
    generalize decide (c = 10) = b1
    generalize decide (c = 9) = b2
    generalize decide (10 ∈ l) = b3
    generalize decide (9 ∈ l) = b4
    cases b1 <;> cases b2 <;> cases b3 <;> cases b4 <;> rfl
end RH
namespace RH
open PySem L2
/-! ### promises of what draws -/
def sp_draw : Sp := fun vs H Q _ => ∃ (r : Addr) (n : Int), vs = [.ref r, .int n] ∧ 0 < n ∧ n < 2 ^ 200 ∧ Row H r ∧ ∀ d H', 0 ≤ d → d < n → Fr r H H' → Row H' r → Q (.int d) H'
def sp_open (K : PySem.W.Frag) : Sp := fun vs H Q _ => ∃ (a : Addr) (ns : List Int) (i : Int), vs = [.ref a, .int i] ∧ SqL K H a (ns.map V.int) ∧ ns.length ≤ 63 ∧ ∀ r H', H r = none → Same H H' → Row H' r → Q (.ref r) H'
def sp_char : Sp := fun vs H Q _ => ∃ i : Int, vs = [.int i] ∧ ∀ c : Nat, okc c = true → Q (.str ⟨#[c]⟩) H
/-- an int is drawn -/
def sp_int : Sp := fun vs H Q _ => ∃ r : Addr, vs = [.ref r] ∧ Row H r ∧ ∀ i H', Fr r H H' → Row H' r → Q (.int i) H'
/-- a thing is drawn that is made anew -/
def sp_thing (K : PySem.W.Frag) (CC : Addr → Prop) (Ok : D → Prop) : Sp := fun vs H Q _ => ∃ r : Addr, vs = [.ref r] ∧ Row H r ∧ ∀ v d H', Ok d → Fr r H H' → Row H' r → Rep K CC (fresh H H') v d → Q v H'
section
variable {K : PySem.W.Frag} {H : Hp} {Q : VK} {p : Addr} {xs : List V} {i : Int} {v : V}
theorem r_draw {r : Addr} {n : Int} {E : XK} (row : Row H r) (h : 0 < n) (hb : n < 2 ^ 200) (q : ∀ d H', 0 ≤ d → d < n → Fr r H H' → Row H' r → Q (.int d) H') : sp_draw ([.ref r, .int n] ++ []) H Q E := ⟨r, n, rfl, h, hb, row, q⟩
theorem r_cut {t u : TS} {nx bk ct : St → Hp → Prop} {rt : VK} {σ : St} (M : St → Hp → Prop) (h : t ⟨M, rt, bk, ct⟩ σ H) (k : ∀ σ' H', M σ' H' → u ⟨nx, rt, bk, ct⟩ σ' H') : C8.tCut t u ⟨nx, rt, bk, ct⟩ σ H := ⟨M, h, k⟩
theorem r_lenQ (h : SqL K H p xs) (q : Q (.int xs.length) H) : rLenG K [.ref p] H Q := ⟨_, _, rfl, .inl ⟨xs, h, rfl⟩, q⟩
theorem r_ixQ (h : SqL K H p xs) (e : atI xs i = some v) (q : Q v H) : rIxL K (.ref p) (.int i) H Q := ⟨p, xs, i, v, rfl, rfl, h, e, q⟩
end
end RH
namespace RH
open PySem L2
def chA : Str := " !\"#$&'()*+,-./0123456789:;<=>?@ABCDEFGHIJKLMNOPQRSTUVWXYZ[\\]^_`"
def chB : Str := "abcdefghijklmnopqrstuvwxyz{|}~\n\t"
theorem ch_all : ((chA ++ chB).cps.toList.all okc) = true := by decide +kernel
theorem sz3 {x y z : V} : [x, y, z].length ≤ sizeLine := by show 3 ≤ sizeLine; decide
theorem ch_len : (chA ++ chB).cps.toList.length = 96 := by decide +kernel
theorem r_char {H : Hp} {Q : VK} (i : Int) (q : ∀ c : Nat, okc c = true → Q (.str ⟨#[c]⟩) H) : rIxS (.str (chA ++ chB)) (.int (i % 96)) H Q := by
  have h1 := Int.emod_nonneg i (show (96 : Int) ≠ 0 by decide)
  have h2 := Int.emod_lt_of_pos i (show (0 : Int) < 96 by decide)
  obtain ⟨m, hm⟩ : ∃ m : Nat, i % 96 = (m : Int) := ⟨(i % 96).toNat, by omega⟩
  rw [hm]
  have hlt : m < (chA ++ chB).cps.toList.length := by rw [ch_len]; omega
  have hl : (chA ++ chB).length = 96 := ch_len
  exact ⟨_, _, (chA ++ chB).cps.toList[m], rfl, rfl, by rw [hl]; decide, atI_nat (List.getElem?_eq_getElem hlt), q _ (List.all_eq_true.mp ch_all _ (List.getElem_mem hlt))⟩
end RH
namespace RH
open PySem PySem.Spec PyProof.Rows L2
/-! ### a law's def, run just where the head runs it: there nothing is under way -/
def AtTop (P : Program) (w : World) (K : PySem.W.Frag) (mg : Str → Option Value) (base : Heap) (f : Addr) (fd : FuncData) (ps : List Str) (sp : Sp) : Prop :=
  ∀ (s : Shared) (H : Hp) (args : Args) (us : List Value) (vs : List V) (Q : VK), Env0 P w K mg base callerA [] s H → BindsTo s fd args (ps.zip us) → Vals vs us → sp vs H Q E0 →
    codeAny (model P w) callerA (.call (.ref f) args) (CR CX0 [] P w H s Q E0) s
theorem roomTop {k : Nat} (hr : Room (k + 1) callerA) (env : Env) : Room k (callerA.deeper env) := hr.deeper env
theorem topGuards (env : Env) : (callerA.deeper env).guards = some [] := rfl
section
variable {P : Program} {w : World} {K : PySem.W.Frag} {mg : Str → Option Value} {base : Heap}
theorem top_of {x qual : Str} {st : Stmt} {f : Addr} {fd : FuncData} {N ps : List Str} {k : Nat} {sp : Sp} (F : Fun K x qual st f fd) (S : FnScope N ps (defScope st)) (room : Room (k + 1) callerA) (len : ∀ vs H Q E, sp vs H Q E → vs.length = ps.length)
    (body : ∀ (cdv : Value) (s : Shared) (H : Hp) (vs : List V) (Q : VK), Room k (callerA.deeper (envOfC qual (defScope st) s.heap.objs.size f cdv)) → sp vs H Q E0 →
      ∃ t, PSs (cxOf CX0 P w K mg base N qual (defScope st) f cdv callerA [] s H E0).nox (defBody st) t ∧ t { nx := fun _ H' => Q .non H', rt := Q } (start N vs) H) : AtTop P w K mg base f fd ps sp := by
  obtain ⟨oc, od, kV, doc, pm, an, cdv, ct, osl, rfl, lk, hcd⟩ := F.ex
  intro s H args us vs Q e0 bind r hsp
  have inK : K.In s.heap := e0.mod.kin.keeps fun b o e => (e0.bs b o e).1
  have lim : s.heap.NoLimit := e0.mod.nolimit.keeps fun b o e => (e0.bs b o e).1
  refine codeAny_call_function room.depth (inK _ _ lk) rfl S.co S.gen rfl (PySem.W.codeRec_of inK hcd) (bind _ _ _ _ ?_)
  refine wpAny_newFunctionEnv_cells S.kind (fun y hy => ?_) fun env he s1 inside => ?_
  · have q := S.par y.1 (List.of_mem_zip hy).1
    exact q.imp id fun c => ⟨c, PySem.W.cellsFrom_some _ _ _ (.inl c)⟩
  · subst he
    obtain ⟨t, ht, q⟩ := body cdv s H vs Q (roomTop room _) hsp
    have I := inv_start (CX := CX0) (E := E0) S room.hd e0 (len _ _ _ _ hsp) r inside
    refine ⟨lim.keeps inside.toInCall.keep, codeAny_func (wpAny_mono (ht.nox.run [] s1 (start N vs) H _ I q) (fun fl s' z => ?_) fun e s' z => z)⟩
    cases fl with
    | ret u =>
      obtain ⟨v, σ', H', J, rv, z⟩ := z
      exact ⟨v, H', J.os, J.bare, J.base, J.hok, rv, z⟩
    | next =>
      obtain ⟨σ', H', J, z⟩ := z
      exact ⟨V.non, H', J.os, J.bare, J.base, J.hok, rfl, z⟩
    | brk =>
      obtain ⟨_, _, _, z⟩ := z
      exact z.elim
    | cont =>
      obtain ⟨_, _, _, z⟩ := z
      exact z.elim
/-- the script alone is tracked, as an object that nobody changes -/
def frzAt (a : Addr) (o : Obj) (ns : List Int) : Hp := fun b => if b = a then some (.frz o (.lst (ns.map V.int))) else none
theorem frzAt_at (a : Addr) (o : Obj) (ns : List Int) : frzAt a o ns a = some (.frz o (.lst (ns.map V.int))) := if_pos rfl
theorem frzAt_ne {a b : Addr} (n : b ≠ a) (o : Obj) (ns : List Int) : frzAt a o ns b = none := if_neg n
/-- the object of a script -/
def scriptO (vs : List Value) : Obj := ⟨.type "list", none, .seq vs.toArray 0, #[]⟩
theorem top_core {mb : Str → Option Value} {fa a : Addr} {fd : FuncData} {sp : Sp} {s1 : Shared} {vs : List Value} {H : Hp} (inK : K.In s1.heap) (nsM : s1.heap.Ns mainGlobals mg) (nsB : s1.heap.Ns builtinsNs mb)
    (blt : ∀ x : Str, x ≠ "__name__" → mb x = bootBuiltins x) (lim : s1.heap.NoLimit) (noGen : s1.gens = #[]) (at1 : s1.heap.get? a = some (scriptO vs)) (hok : HOk P w H s1.heap)
    (only : ∀ b, H b ≠ none → b = a ∧ K.lookup a = none ∧ ∃ o xs, H a = some (.frz o (.lst xs)))
    (F : ∀ base : Heap, K.In base → base.Ns mainGlobals mg → AtTop P w K mg base fa fd ["script"] sp) (bind : ∀ (s : Shared) (u : Value), BindsTo s fd ⟨[u], []⟩ [("script", u)]) (hsp : sp [.ref a] H (fun v _ => v = .bl true) E0) :
    codeAny (model P w) callerA (.call (.ref fa) ⟨[.ref a], []⟩) (fun r s' => r = .ok (.ret (.bool true)) ∧ OldK s1.heap s'.heap ∧ s'.os = s1.os ∧ AllBare s'.gens) s1 := by
  have stays : ∀ {b : Addr} {o : Obj}, s1.heap.get? b = some o → (b = a → K.lookup a ≠ none) → (hidT s1.heap H).get? b = some o := fun {b o} e n => by
    refine hidT_get e ?_
    cases q : H b with
    | none => rfl
    | some u =>
      obtain ⟨z, lk, _⟩ := only b (by rw [q]; exact fun z => nomatch z)
      exact absurd lk (n z)
  have stayD : ∀ {b : Addr} {o : Obj} {es : Array DictEntry} {ep : Nat}, s1.heap.get? b = some o → o.data = .dict es ep → (hidT s1.heap H).get? b = some o := fun {b o es ep} e d => by
    refine hidT_get e ?_
    cases q : H b with
    | none => rfl
    | some u =>
      obtain ⟨rfl, _⟩ := only b (by rw [q]; exact fun z => nomatch z)
      rw [at1] at e
      cases e
      have d' : Data.seq vs.toArray 0 = Data.dict es ep := d
      cases d'
  have ns2 : ∀ {b : Addr} {m : Str → Option Value}, s1.heap.Ns b m → (hidT s1.heap H).Ns b m := fun {b m} n => by
    obtain ⟨o, es, ep, e, d, r⟩ := n
    exact ⟨o, es, ep, stayD e d, d, r⟩
  have inB : K.In (hidT s1.heap H) := fun b o e => stays (inK b o e) fun z lk => by
    rw [← z, e] at lk
    cases lk
  obtain ⟨mc, c1, c2⟩ := lim
  have e0 : Env0 P w K mg (hidT s1.heap H) callerA [] s1 H :=
    { frames := rfl
      mod := ⟨inB, ns2 nsM, ⟨mb, ns2 nsB, blt⟩, mc, ns2 c1, c2⟩
      bs := fun b o e => of_hidT e
      bsz := Nat.le_of_eq (hidT_size s1.heap H)
      funs := trivial
      frf := fun b m => nomatch m
      hok := hok
      bare := .of_eq noGen }
  refine codeAny_mono (F _ inB (ns2 nsM) s1 H ⟨[.ref a], []⟩ [.ref a] [.ref a] _ e0 (bind s1 (.ref a)) (.cons rfl .nil) hsp) fun r s' z => ?_
  cases r with
  | error e => exact False.elim z
  | ok fl =>
    cases fl with
    | next => exact False.elim z
    | brk => exact False.elim z
    | cont => exact False.elim z
    | ret u =>
      obtain ⟨v, H', os, bare, un, hok', rv, rfl⟩ := z
      obtain rfl : u = Value.bool true := rv
      refine ⟨rfl, OldK.of_keep fun b o e => ?_, os, bare⟩
      cases q : H b with
      | none => exact un.keep b o e q (fun m => nomatch m) (fun m => nomatch m)
      | some t =>
        obtain ⟨rfl, _, ob, xs, z⟩ := only b (by rw [q]; exact fun z => nomatch z)
        obtain ⟨e1, _⟩ := hok b _ z
        obtain ⟨e2, _⟩ := hok' b _ (un.frzs b ob _ z)
        rw [e] at e1
        cases e1
        exact e2
theorem top_call {mb : Str → Option Value} {fa a : Addr} {fd : FuncData} {sp : Sp} {s1 : Shared} {vs : List Value} {ns : List Int} (inK : K.In s1.heap) (nsM : s1.heap.Ns mainGlobals mg) (nsB : s1.heap.Ns builtinsNs mb)
    (blt : ∀ x : Str, x ≠ "__name__" → mb x = bootBuiltins x) (lim : s1.heap.NoLimit) (noGen : s1.gens = #[]) (at1 : s1.heap.get? a = some (scriptO vs)) (hi : IntsAre vs ns) (small : ns.length ≤ sizeLine)
    (F : ∀ base : Heap, K.In base → base.Ns mainGlobals mg → AtTop P w K mg base fa fd ["script"] sp) (bind : ∀ (s : Shared) (u : Value), BindsTo s fd ⟨[u], []⟩ [("script", u)])
    (hsp : ∀ H : Hp, SqL K H a (ns.map V.int) → sp [.ref a] H (fun v _ => v = .bl true) E0) :
    codeAny (model P w) callerA (.call (.ref fa) ⟨[.ref a], []⟩) (fun r s' => r = .ok (.ret (.bool true)) ∧ OldK s1.heap s'.heap ∧ s'.os = s1.os ∧ AllBare s'.gens) s1 := by
  have rv : Vals (ns.map V.int) vs := vals_ints hi
  have len : vs.length = ns.length := hi.length
  cases lk : K.lookup a with
  | some o =>
    have e := inK a o lk
    rw [at1] at e
    cases e
    refine top_core (H := fun _ => none) inK nsM nsB blt lim noGen at1 (fun b u z => nomatch z) (fun b z => absurd rfl z) F bind (hsp _ (.inr ⟨_, vs.toArray, _, lk, rfl, rfl, rfl, ?_, rv⟩))
    rw [List.size_toArray, len]
    exact small
  | none =>
    refine top_core (H := frzAt a (scriptO vs) ns) inK nsM nsB blt lim noGen at1 (fun b u z => ?_) (fun b z => ?_) F bind (hsp _ (.inl (.inr ⟨_, frzAt_at ..⟩)))
    · by_cases hb : b = a
      · subst hb
        rw [frzAt_at] at z
        cases z
        exact ⟨at1, by rw [List.length_map]; exact small, vs, 0, rv, at1⟩
      · rw [frzAt_ne hb] at z
        cases z
    · by_cases hb : b = a
      · exact ⟨hb, lk, _, _, frzAt_at ..⟩
      · exact absurd (frzAt_ne hb _ _) z
end
/-- the law's end -/
theorem top_walk {l : PySem.W.OpenLaw} {q : Program} {loose : List Str} {XP : (Str → Option Value) → Heap → Prop} {YP : World → Heap → Prop} {d : DefRec} {K : Params → PySem.W.Frag} {sp : PySem.W.Frag → Sp} {n : Nat} (hn : l.most = some n) (hn2 : n ≤ sizeLine) (hdf : d.params.defaults = [])
    (hY : ∀ (w : World) (h : Heap), YP w h → (K w.params).In h)
    (F : ∀ (w : World) (mg : Str → Option Value) (fa : Addr) (h : Heap), (K w.params).In h → h.Ns mainGlobals mg → mg d.name = some (.ref fa) →
      ∃ fd : FuncData, (∀ (s : Shared) (u : Value), BindsTo s fd ⟨[u], []⟩ [("script", u)]) ∧ ∀ base : Heap, (K w.params).In base → base.Ns mainGlobals mg → AtTop l.prog w (K w.params) mg base fa fd ["script"] (sp (K w.params)))
    (hsp : ∀ (K : PySem.W.Frag) (H : Hp) (a : Addr) (ns : List Int), ns.length ≤ n → SqL K H a (ns.map V.int) → sp K [.ref a] H (fun v _ => v = .bl true) E0) :
    PySem.W.WalkO q loose XP YP l.row.toRowW d [] (fun f vs => PySem.call f vs) := by
  refine Att.attach_call hn hdf fun w s0 s1 mg mb fa o pm cd doc a vs ns G Y ho hd hcd hmg hobj hints hlen hg => ?_
  obtain ⟨fd, bind, F'⟩ := F w mg fa _ (hY w _ Y) G.T.g hmg
  exact top_call (hY w _ Y) G.T.g G.T.b G.T.builtins G.T.nolimit hg hobj hints (Nat.le_trans hlen hn2) F' bind fun H hS => hsp _ H a ns hlen hS
/-! ### repr of lists within lists -/
def rRepr (K : PySem.W.Frag) : List V → Hp → VK → Prop := fun xs H Q => ∃ a d, xs = [V.ref a] ∧ Dp K H (.ref a) d ∧ d.showable = true ∧ d.hasDict = false ∧ d.depth ≤ 64 ∧ d.shown.length ≤ sizeLine ∧ Q (.str d.shown) H
theorem call_repr {X : Cx} (room : X.A.units + 65 < cLine) (hg : X.A.guards = some []) : CallR X (.builtin "repr") (rRepr X.K) := by
  intro pins s σ H xs us Q I r h
  obtain ⟨a, d, rfl, hd, hs, nd, dep, lim, q⟩ := h
  rw [Vals.ref1 r]
  obtain ⟨as, rd⟩ := Dp.reads I d (.ref a) (.ref a) hd rfl
  exact repr_of_reads' rd hs (PyData.noDict_hsm nd) hg (by omega) (fun _ _ e => e) (fun h' u tk k => ⟨.str d.shown, H, I.kept (t' := tk) k, ⟨u, rfl⟩, q⟩) lim
end RH
namespace RH
open PySem L2
/-! ### texts of signs -/
def sg (c : Nat) : V := .str ⟨#[c]⟩
theorem joinL_signs : ∀ cs : List Nat, TL.joinL [] (cs.map fun c => [c]) = cs
  | [] => rfl
  | [c] => rfl
  | c :: d :: r => by
    show [c] ++ ([] ++ TL.joinL [] ((d :: r).map fun c => [c])) = c :: d :: r
    rw [joinL_signs (d :: r)]
    rfl
theorem join_signs (cs : List Nat) : Txt.join (SX.S []) ((cs.map fun c => [c]).map SX.S) = SX.S cs := by
  rw [SX.join_S, joinL_signs]
theorem S_cps (cs : List Nat) : (SX.S cs).cps.toList = cs := rfl
theorem S_len (cs : List Nat) : (SX.S cs).length = cs.length := SX.S_len cs
theorem okS_S {cs : List Nat} (h : ∀ c ∈ cs, okc c = true) (hl : cs.length ≤ 1000) : OkS (SX.S cs) := ⟨by rw [S_len]; exact hl, h⟩
def rJoin (K : PySem.W.Frag) : V → List V → Hp → VK → Prop := fun x xs H Q => ∃ a p, ∃ ys : List Str, x = .str a ∧ xs = [.ref p] ∧ (SqL K H p (ys.map V.str) ∨ SqT K H p (ys.map V.str)) ∧ (ys.map (·.length)).sum + ys.length * a.length ≤ 16777216 ∧ Q (.str (Txt.join a ys)) H
section
variable {X : Cx} {o e : Expr} {to te : TE}
theorem pe_joinG {apos pos : Pos} (ho : PE X o to) (he : PE X e te) (hs : starEach [e] X.env = [(false, eval e X.env)] := by rfl) (hbase : attributeBase o "join" X.env (eval o X.env) = eval o X.env := by rfl) (hline : (apos.endLine == pos.line) = true := by rfl) :
    PE X (.Call (.Attribute o "join" apos) [e] [] pos) (tM1 (rJoin X.K) to te) := pe_join ho he hs hbase hline
end
theorem sum_ones : ∀ cs : List Nat, ((cs.map fun c => (⟨#[c]⟩ : Str)).map (·.length)).sum = cs.length
  | [] => rfl
  | c :: r => by
    rw [List.map_cons, List.map_cons, List.sum_cons, sum_ones r, List.length_cons]
    show 1 + r.length = r.length + 1
    omega
theorem r_join {K : PySem.W.Frag} {σ : St} {H : Hp} {Q : VK} {j : Nat} {p : Addr} {cs : List Nat} (hj : σ[j]? = some (some (.ref p))) (h : H p = some (.lst (cs.map sg))) (hl : cs.length ≤ 1000) (q : Q (.str (SX.S cs)) H) :
    tM1 (rJoin K) (tC (.str ("" : Str))) (tVar j) σ H Q := by
  refine ⟨⟨_, rfl⟩, _, hj, "", p, cs.map fun c => (⟨#[c]⟩ : Str), rfl, rfl, .inl (SqL.of ?_), ?_, ?_⟩
  · rw [h]
    congr 2
    rw [List.map_map]
    rfl
  · rw [sum_ones, List.length_map]
    show cs.length + cs.length * 0 ≤ 16777216
    omega
  · have e : (cs.map fun c => (⟨#[c]⟩ : Str)) = (cs.map fun c => [c]).map SX.S := by
      rw [List.map_map]
      rfl
    rw [e]
    have e2 : ("" : Str) = SX.S [] := by decide +kernel
    rw [e2, join_signs]
    exact q
theorem signs_of : ∀ {ys : List V}, (∀ y, y ∈ ys → ∃ c : Nat, okc c = true ∧ y = sg c) → ∃ cs : List Nat, ys = cs.map sg ∧ ∀ c, c ∈ cs → okc c = true
  | [], _ => ⟨[], rfl, fun _ h => nomatch h⟩
  | y :: r, h => by
    obtain ⟨c, hc, e⟩ := h y (List.mem_cons_self ..)
    obtain ⟨cs, e2, h2⟩ := signs_of fun z hz => h z (List.mem_cons_of_mem _ hz)
    refine ⟨c :: cs, by rw [e, e2]; rfl, fun x hx => ?_⟩
    rcases List.mem_cons.mp hx with rfl | hx
    · exact hc
    · exact h2 x hx
theorem atI_in {xs : List V} {d : Int} (h0 : 0 ≤ d) (h1 : d < xs.length) : ∃ v, v ∈ xs ∧ atI xs d = some v := by
  obtain ⟨m, rfl⟩ : ∃ m : Nat, d = (m : Int) := ⟨d.toNat, by omega⟩
  have hlt : m < xs.length := by omega
  exact ⟨xs[m], List.getElem_mem hlt, atI_nat (List.getElem?_eq_getElem hlt)⟩
theorem ixN_in {n : Nat} {d : Int} (h0 : 0 ≤ d) (h1 : d < n) : ixN n d = some d.toNat := by
  unfold ixN
  rw [if_pos h0, if_pos h1]
theorem szL {n : Nat} (h : Nat.ble n 1000 = true) : n ≤ sizeLine := sz1000 (Nat.le_of_ble_eq_true h)
/-- items drawn off the row over range(n) -/
theorem r_rng {r : Addr} {n : Int} {k : Nat} {vs : List Nat} {σ : St} {te : TE} {H : Hp} {Q : Addr → Hp → Prop} (h1 : n ≤ 1000) (row : Row H r) (P : Hp → V → Prop) (hP : ∀ H H' y, Same H H' → P H y → P H' y) (hw : ∀ x, wipe ((wipe σ vs).set k (some x)) vs = wipe σ vs)
    (step : ∀ (i : Int) H1, Fr r H H1 → Row H1 r → ∀ Q1 : VK, (∀ y H', Fr r H1 H' → Row H' r → P (fresh H1 H') y → Q1 y H') → te ((wipe σ vs).set k (some (.int i))) H1 Q1)
    (q : ∀ D H' ys, ys.length = n.toNat → H D = none → Fr r H H' → Row H' r → H' D = some (.lst ys) → (∀ y, y ∈ ys → P (fresh (upd H D (.lst [])) H') y) → Q D H') :
    ∀ D, H D = none → LcGo (Itr 0 n.toNat) (gName k) tYes te vs σ D (Q D) H := fun D hD =>
  lc_row (r := r) (walk_range (lo := 0) (n := n.toNat)) (Y' := fun i x => x = .int (0 + i)) (fun i H x H' y => y) P hP (by omega) hD row (fun _ _ => trivial) hw
    (fun i x H1 e f rw1 Q1 q1 => by
      subst e
      exact step _ H1 f rw1 Q1 q1)
    fun H' ys hl f rw1 hL hp => q D H' ys hl hD f rw1 hL hp
def sp_str : Sp := fun vs H Q _ => ∃ r : Addr, vs = [.ref r] ∧ Row H r ∧ ∀ s H', OkS s → Fr r H H' → Row H' r → Q (.str s) H'
end RH
namespace RH
open PySem L2
theorem joinL_flat : ∀ ys : List (List Nat), TL.joinL [] ys = ys.flatten
  | [] => rfl
  | [p] => by simp [TL.joinL]
  | p :: q :: r => by
    show p ++ ([] ++ TL.joinL [] (q :: r)) = (p :: q :: r).flatten
    rw [joinL_flat (q :: r), List.nil_append, ← List.flatten_cons]
theorem len_le_sum : ∀ {ss : List Str} {m : Nat}, (∀ s, s ∈ ss → s.length ≤ m) → (ss.map (·.length)).sum ≤ ss.length * m
  | [], _, _ => by simp
  | s :: r, m, h => by
    have h1 := h s (List.mem_cons_self ..)
    have h2 := len_le_sum fun z hz => h z (List.mem_cons_of_mem _ hz)
    rw [List.map_cons, List.sum_cons, List.length_cons, Nat.add_mul]
    omega
theorem flat_len : ∀ ss : List Str, ((ss.map fun s => s.cps.toList).flatten).length = (ss.map (·.length)).sum
  | [] => rfl
  | s :: r => by
    rw [List.map_cons, List.flatten_cons, List.length_append, flat_len r, List.map_cons, List.sum_cons]
    rfl
theorem r_m1c {r : V → List V → Hp → VK → Prop} {te : TE} {σ : St} {H : Hp} {Q : VK} {z : Str} (h : te σ H fun y H2 => r (.str z) [y] H2 Q) : tM1 r (tC (.str z)) te σ H Q := ⟨⟨z, rfl⟩, h⟩
theorem rJoin_S {K : PySem.W.Frag} {H : Hp} {Q : VK} {p : Addr} {ss : List Str} {m : Nat} (h : H p = some (.lst (ss.map V.str))) (hs : ∀ s, s ∈ ss → OkS s ∧ s.length ≤ m) (hl : ss.length * m ≤ 1000) (q : ∀ s, OkS s → Q (.str s) H) : rJoin K (.str ("" : Str)) [.ref p] H Q := by
  have hsum := len_le_sum (m := m) fun s hz => (hs s hz).2
  refine ⟨"", p, ss, rfl, rfl, .inl (SqL.of h), ?_, ?_⟩
  · show _ + ss.length * 0 ≤ 16777216
    omega
  · have e2 : ("" : Str) = SX.S [] := by decide +kernel
    have e : ss = (ss.map fun s => s.cps.toList).map SX.S := by
      rw [List.map_map]
      exact (List.map_id' ss).symm.trans (List.map_congr_left fun s _ => (SX.S_tl s).symm)
    rw [e2, e, SX.join_S, joinL_flat]
    refine q _ (okS_S (fun c hc => ?_) (by rw [flat_len]; omega))
    obtain ⟨l, hl2, hcl⟩ := List.mem_flatten.mp hc
    obtain ⟨s, hs2, rfl⟩ := List.mem_map.mp hl2
    exact (hs s hs2).1.ok c hcl
end RH
namespace RH
open PySem L2
/-- names as the laws draw them: texts of at most 14 signs, or other things -/
def OkN (d : D) : Prop := ∀ s, d = .str s → s.length ≤ 14
theorem rep_list {K : PySem.W.Frag} {CC : Addr → Prop} {Ok : D → Prop} {H : Hp} : ∀ {ys : List V}, (∀ y, y ∈ ys → ∃ d, Ok d ∧ Rep K CC H y d) → ∃ ds : List D, ys.length = ds.length ∧ (∀ (i : Nat) (x : V) (d : D), ys[i]? = some x → ds[i]? = some d → Rep K CC H x d) ∧ ∀ d, d ∈ ds → Ok d
  | [], _ => ⟨[], rfl, fun i x d h => by simp at h, fun _ h => nomatch h⟩
  | y :: r, h => by
    obtain ⟨d, o, rp⟩ := h y (List.mem_cons_self ..)
    obtain ⟨ds, hl, hi, ho⟩ := rep_list fun z hz => h z (List.mem_cons_of_mem _ hz)
    refine ⟨d :: ds, by rw [List.length_cons, List.length_cons, hl], fun i x e hx he => ?_, fun z hz => ?_⟩
    · cases i with
      | zero =>
        cases Option.some.inj hx
        cases Option.some.inj he
        exact rp
      | succ i => exact hi i x e hx he
    · rcases List.mem_cons.mp hz with rfl | hz
      · exact o
      · exact ho z hz
/-- the texts among things -/
def strsOf : List D → List Str
  | [] => []
  | .str s :: r => s :: strsOf r
  | _ :: r => strsOf r
theorem strs_filter {K : PySem.W.Frag} {CC : Addr → Prop} {H : Hp} : ∀ {xs : List V} {ds : List D}, xs.length = ds.length → (∀ (i : Nat) (x : V) (d : D), xs[i]? = some x → ds[i]? = some d → Rep K CC H x d) →
    (((ds.map fun d => isD d "str").zip xs).filter (·.1)).map (·.2) = (strsOf ds).map V.str
  | [], [], _, _ => rfl
  | x :: xs, d :: ds, hl, hi => by
    have R := hi 0 x d rfl rfl
    have ih := strs_filter (xs := xs) (ds := ds) (by simpa using hl) fun i y e hy he => hi (i + 1) y e hy he
    cases R <;> rw [List.map_cons, List.zip_cons_cons, List.filter_cons] <;> first
      | (rw [if_pos (by rfl), List.map_cons, ih]; rfl)
      | (rw [if_neg (by intro z; cases z), ih]; rfl)
  | [], _ :: _, hl, _ => by simp at hl
  | _ :: _, [], hl, _ => by simp at hl
theorem strs_ok {K : PySem.W.Frag} {CC : Addr → Prop} {H : Hp} : ∀ {xs : List V} {ds : List D}, xs.length = ds.length → (∀ (i : Nat) (x : V) (d : D), xs[i]? = some x → ds[i]? = some d → Rep K CC H x d) → (∀ d, d ∈ ds → OkN d) →
    (∀ s, s ∈ strsOf ds → OkS s ∧ s.length ≤ 14) ∧ (strsOf ds).length ≤ ds.length
  | [], [], _, _, _ => ⟨(fun _ h => nomatch h), Nat.le_refl _⟩
  | x :: xs, d :: ds, hl, hi, ho => by
    have R := hi 0 x d rfl rfl
    have ih := strs_ok (xs := xs) (ds := ds) (by simpa using hl) (fun i y e hy he => hi (i + 1) y e hy he) fun e he => ho e (List.mem_cons_of_mem _ he)
    have hd := ho d (List.mem_cons_self ..)
    cases R with
    | str s ok =>
      refine ⟨fun z hz => ?_, Nat.succ_le_succ ih.2⟩
      rcases List.mem_cons.mp hz with rfl | hz
      · exact ⟨ok, hd _ rfl⟩
      · exact ih.1 z hz
    | _ => exact ⟨ih.1, Nat.le_succ_of_le ih.2⟩
  | [], _ :: _, hl, _, _ => by simp at hl
  | _ :: _, [], hl, _, _ => by simp at hl
end RH
namespace RH
open PySem L2
def loS : Str := "abcdefghijklmnopqrstuvwxyz"
theorem lo_all : (loS.cps.toList.all okc) = true := by decide +kernel
theorem lo_len : loS.cps.toList.length = 26 := by decide +kernel
theorem r_low {H : Hp} {Q : VK} {d : Int} (h0 : 0 ≤ d) (h1 : d < 26) (q : ∀ c : Nat, okc c = true → Q (.str ⟨#[c]⟩) H) : rIxS (.str loS) (.int d) H Q := by
  obtain ⟨m, rfl⟩ : ∃ m : Nat, d = (m : Int) := ⟨d.toNat, by omega⟩
  have hlt : m < loS.cps.toList.length := by rw [lo_len]; omega
  have hl : loS.length = 26 := lo_len
  exact ⟨_, _, loS.cps.toList[m], rfl, rfl, by rw [hl]; decide, atI_nat (List.getElem?_eq_getElem hlt), q _ (List.all_eq_true.mp lo_all _ (List.getElem_mem hlt))⟩
end RH
namespace RH
open PySem L2
theorem Row.setne {H : Hp} {r p : Addr} {o : HO} (h : Row H r) (n : p ≠ r) : Row (L2.upd H p o) r := by
  obtain ⟨a, b, c, e⟩ := h
  exact ⟨a, b, c, by rw [upd_ne n.symm]; exact e⟩
theorem Row.ne_of {H : Hp} {r p : Addr} (h : Row H r) (n : H p = none) : p ≠ r := fun z => h.ne (z ▸ n)
/-- a list made by drawing: what holds of its items, said of what is new since H -/
theorem fresh_list {K : PySem.W.Frag} {CC : Addr → Prop} {H H1 H2 : Hp} {y : V} {d : D} (s : Same H1 H2) (h : Rep K CC H1 y d) : Rep K CC H2 y d := h.mono s
theorem fresh_back {r D : Addr} {H0 H H' H2 : Hp} {o : HO} (f : Dom H0 H) (row : H0 r ≠ none) (g : Fr r H' H2) : Same (fresh (upd H D o) H') (fresh H0 H2) := fun b z h => by
  obtain ⟨e, q⟩ := fresh_some h
  have nb : b ≠ D := fun w => by rw [w, upd_same] at e; cases e
  rw [upd_ne nb] at e
  have e0 := f b e
  exact fresh_of e0 (g b z (fun w => row (w ▸ e0)) q)
def rNewT (K : PySem.W.Frag) : List V → Hp → VK → Prop := rTupOf K
end RH
namespace RH
open PySem L2
/-- the parts of a pair while it is spoilt: a list that is new since H -/
def PairAt (K : PySem.W.Frag) (CC : Addr → Prop) (H : Hp) (r : Addr) (kd : Int) (m : Nat) (σ' : St) (H' : Hp) : Prop :=
  ∃ (E : Addr) (xs : List V) (ds : List D), σ' = [some (.ref r), some (.ref E), some (.int kd)] ∧ H E = none ∧ H' E = some (.lst xs) ∧ xs.length = ds.length ∧ xs.length ≤ m ∧ (kd ≠ 0 → 2 ≤ xs.length) ∧
    (∀ (i : Nat) (x : V) (d : D), xs[i]? = some x → ds[i]? = some d → Rep K CC (fresh (upd H E (.lst [])) H') x d) ∧ Fr r H H' ∧ Row H' r
section
variable {K : PySem.W.Frag} {σ : St} {H : Hp} {Q : VK} {p : Addr} {xs : List V} {v : V} {n : Nat}
theorem r_bmL {r : V → List V → Hp → VK → Prop} {t : TA} (hj : σ[n]? = some (some (.ref p))) (h : H p = some (.lst xs)) (q : t σ H fun vs H2 => r (.ref p) vs H2 Q) : tBM K "list" r (tVar n) t σ H Q := ⟨_, hj, .inl ⟨rfl, _, SqL.of h⟩, q⟩
theorem r_append (h : H p = some (.lst xs)) (hl : xs.length < sizeLine) (q : Q .non (upd H p (.lst (xs ++ [v])))) : rAppend (.ref p) [v] H Q := ⟨p, xs, v, rfl, rfl, h, hl, q⟩
end
end RH
namespace RH
open PySem L2
/-- behind a row that was opened at r, nothing that stood ahead of it is changed -/
theorem Fr.same {r : Addr} {H H1 H2 : Hp} (hr : H r = none) (s : Same H H1) (f : Fr r H1 H2) : Same H H2 := fun b o e => f b o (ne_of_none e hr) (s b o e)
/-- the law's own promise: a list of at most 63 ints is handed in, True comes out -/
def spLaw (K : PySem.W.Frag) : Sp := fun vs H Q _ => ∃ (a : Addr) (ns : List Int), vs = [.ref a] ∧ SqL K H a (ns.map V.int) ∧ ns.length ≤ 63 ∧ ∀ H', Q (.bl true) H'
theorem isDot_two {d1 d2 : D} (h : isNum d2 = true) : ∃ i : Int, d2 = .int i ∧ 0 ≤ i ∧ (nz d2 = decide (0 < i)) := by
  cases d2 with
  | int i =>
    have h1 : (limI i && decide (0 ≤ i)) = true := h
    rw [Bool.and_eq_true] at h1
    have h2 : 0 ≤ i := of_decide_eq_true h1.2
    refine ⟨i, rfl, h2, ?_⟩
    show (!decide (i = 0)) = _
    rw [← decide_not]
    exact decide_eq_decide.mpr (by omega)
  | _ => cases h
def spSaid : Sp := fun vs H Q _ => ∃ a b : Bool, vs = [.bl a, .bl b] ∧ Q (.bl (decide (a = b))) H
/-- Clock([..]) of some list: an instance comes out, nothing that stood is changed -/
def spClk (C : Addr) : Sp := fun vs H Q _ => ∃ (x dx p : Addr) (ts : List Addr) (dots : List (Int × Int)), vs = [.ref x, .ref p] ∧ H x = some (.ins C dx []) ∧ H p = some (.lst (ts.map V.ref)) ∧ Paired (fun t d => H t = some (.tup [.int d.1, .int d.2])) ts dots ∧ ts.length ≤ 900 ∧
  ∀ fs H', (∀ b o, b ≠ x → H b = some o → H' b = some o) → H' x = some (.ins C dx fs) → Q .non H'
end RH
namespace RH
open PySem L2
/-- what a loop asks, from its walk on -/
def ForGo (J : It) (g : TG) (tb : TS) (nx : St → Hp → Prop) (rt : VK) (σ : St) (H : Hp) : Prop :=
  ∃ W : Nat → Nat → St → Hp → Prop, (∃ m, W 0 m σ H) ∧ ∀ i m σ H, W i m σ H →
    (J.stop i H ∧ nx σ H) ∨ (J.go i H ∧ ∃ N : St → Hp → Prop, (∀ σ' H', N σ' H' → ∃ m', m' < m ∧ W (i + 1) m' σ' H') ∧ ∀ x H', J.yld i H x H' → g x σ H' fun σ2 H2 => tb ⟨N, rt, nx, N⟩ σ2 H2)
theorem r_for {wi : TI} {g : TG} {tb : TS} {nx bk ct : St → Hp → Prop} {rt : VK} {σ : St} {H : Hp} (h : wi σ H fun J H1 => ForGo J g tb nx rt σ H1) : tFor wi g tb ⟨nx, rt, bk, ct⟩ σ H := h
theorem r_rng1 {ta : TA} {σ : St} {H : Hp} {R : It → Hp → Prop} (h : ta σ H fun vs H1 => ∃ j : Int, vs = [.int j] ∧ -(2 ^ 62) ≤ j ∧ j < 2 ^ 62 ∧ R (Itr 0 j.toNat) H1) : iRng1 ta σ H R := h
theorem go_it {J : It} {n : Nat} {G : Hp → Prop} {Y : Nat → Hp → V → Hp → Prop} (w : Walk J n G Y) {g : TG} {tb : TS} {nx : St → Hp → Prop} {rt : VK} {σ : St} {H : Hp} (Pv : Nat → St → Hp → Prop) (h0 : Pv 0 σ H) (hG : ∀ i σ H, i ≤ n → Pv i σ H → G H)
    (hs : ∀ i x σ H H', i < n → Pv i σ H → Y i H x H' → g x σ H' fun σ2 H2 => tb ⟨Pv (i + 1), rt, nx, Pv (i + 1)⟩ σ2 H2) (hd : ∀ σ H, Pv n σ H → nx σ H) : ForGo J g tb nx rt σ H :=
  for_it (D := ⟨nx, rt, fun _ _ => False, fun _ _ => False⟩) w Pv h0 hG hs hd
theorem go_range {lo : Int} {n : Nat} {g : TG} {tb : TS} {nx : St → Hp → Prop} {rt : VK} {σ : St} {H : Hp} (Pv : Nat → St → Hp → Prop) (h0 : Pv 0 σ H)
    (hs : ∀ (i : Nat) (x : V) σ H, i < n → Pv i σ H → x = .int (lo + (i : Int)) → g x σ H fun σ2 H2 => tb ⟨Pv (i + 1), rt, nx, Pv (i + 1)⟩ σ2 H2) (hd : ∀ σ H, Pv n σ H → nx σ H) : ForGo (Itr lo n) g tb nx rt σ H :=
  go_it walk_range Pv h0 (fun _ _ _ _ _ => trivial) (fun i x σ H H' hi p y => by
    obtain ⟨rfl, e⟩ := y
    exact hs i x σ H' hi p e) hd
end RH
namespace RH
open PySem L2
theorem r_said {a b : Bool} {H : Hp} {Q : VK} {E : XK} (e : a = b) (q : Q (.bl true) H) : spSaid ([.bl a, .bl b] ++ []) H Q E := ⟨a, b, rfl, by rw [decide_eq_true e]; exact q⟩
theorem r_make {C : Addr} {sp : Sp} {dvs : List V} {E : XK} {t : TA} {σ : St} {H : Hp} {Q : VK} (h : t σ H fun vs H1 => ∀ x dx, H1 x = none → H1 dx = none → dx ≠ x → sp (.ref x :: (vs ++ dvs)) (upd (upd H1 dx (.own x)) x (.ins C dx [])) (fun v H2 => v = .non ∧ Q (.ref x) H2) E) : tMake C sp dvs E t σ H Q := h
end RH
namespace RH
open PySem L2
section
variable {K : PySem.W.Frag} {CC : Addr → Prop} {H H' : Hp}
mutual
theorem dp_mono (s : Same H H') : ∀ (d : PyData) (v : V), Dp K H v d → Dp K H' v d
  | .none, _, h => by cases h; exact .non
  | .bool b, _, h => by cases h; exact .bl b
  | .int i, _, h => by cases h; exact .int i
  | .str x, _, h => by cases h; exact .str x
  | .list ds, _, h => by
    cases h with
    | lst a b => exact .lst (s.seq a) (dpAll_mono s ds _ b)
  | .tuple ds, _, h => by
    cases h with
    | tup a b => exact .tup (same_t s a) (dpAll_mono s ds _ b)
  | .dict ds, _, h => by cases h
theorem dpAll_mono (s : Same H H') : ∀ (ds : List PyData) (vs : List V), DpAll K H vs ds → DpAll K H' vs ds
  | [], _, h => by cases h; exact .nil
  | d :: ds, _, h => by
    cases h with
    | cons a b => exact .cons (dp_mono s d _ a) (dpAll_mono s ds _ b)
end
/-- data that repr shows: k what is nested -/
structure Shw (d : PyData) (k : Nat) : Prop where
  sh : d.showable = true
  nd : d.hasDict = false
  dep : d.depth ≤ k
  len : d.shown.length ≤ 3 * k + 3
theorem Shw.lst {d : PyData} {k : Nat} (h : Shw d k) : Shw (.list [d]) (k + 1) := by
  refine ⟨?_, ?_, ?_, ?_⟩
  · simp [PyData.showable, PyData.showableAll, h.sh]
  · simp [PyData.hasDict, PyData.hasDictAll, h.nd]
  · have := h.dep
    simp only [PyData.depth, PyData.depthAll]
    omega
  · have := h.len
    simp only [PyData.shown, PyData.shownAll]
    rw [PyProof.Rows.listText_one]
    simp only [Str.length_append]
    have e1 : (Str.ofString "[").length = 1 := by decide +kernel
    have e2 : (Str.ofString "").length = 0 := by decide +kernel
    have e3 : (Str.ofString "]").length = 1 := by decide +kernel
    omega
theorem Shw.tup {d : PyData} {k : Nat} (h : Shw d k) : Shw (.tuple [d]) (k + 1) := by
  refine ⟨?_, ?_, ?_, ?_⟩
  · simp [PyData.showable, PyData.showableAll, h.sh]
  · simp [PyData.hasDict, PyData.hasDictAll, h.nd]
  · have := h.dep
    simp only [PyData.depth, PyData.depthAll]
    omega
  · have := h.len
    simp only [PyData.shown, PyData.shownAll]
    rw [PyProof.Rows.tupleText_one]
    simp only [Str.length_append]
    have e1 : (Str.ofString "(").length = 1 := by decide +kernel
    have e3 : (Str.ofString ",)").length = 2 := by decide +kernel
    omega
theorem shw_a : Shw (.str "a") 1 := ⟨rfl, rfl, by decide, by decide +kernel⟩
theorem shw_0 : Shw (.int 0) 1 := ⟨by decide +kernel, rfl, by decide, by decide +kernel⟩
theorem shw_u : Shw (.tuple []) 1 := ⟨rfl, rfl, by decide, by decide +kernel⟩
theorem shw_n : Shw .none 1 := ⟨rfl, rfl, by decide, by decide +kernel⟩
/-- what repr shows of the thing at v, if it is a list -/
def Shown (K : PySem.W.Frag) (H : Hp) (v : V) (d : D) : Prop := ∀ xs, d = .lst xs → ∃ pd k, Dp K H v pd ∧ Shw pd k ∧ k ≤ 64
theorem Shown.mono {v : V} {d : D} (h : Shown K H v d) (s : Same H H') : Shown K H' v d := fun xs e => by
  obtain ⟨pd, k, a, b, c⟩ := h xs e
  exact ⟨pd, k, dp_mono s pd v a, b, c⟩
theorem Shown.no {v : V} {d : D} (h : ∀ xs, d ≠ .lst xs) : Shown K H v d := fun xs e => absurd e (h xs)
/-- the promise of what draws such a thing -/
def sp_oth (K : PySem.W.Frag) (CC : Addr → Prop) : Sp := fun vs H Q _ => ∃ r : Addr, vs = [.ref r] ∧ Row H r ∧ ∀ v d H', Fr r H H' → Row H' r → Rep K CC (fresh H H') v d → Shown K (fresh H H') v d → Q v H'
theorem hu65 {k : Nat} {A : Around} (r : Room k A) : A.units + 65 < cLine := by
  have := r.un
  omega
theorem r_repr {Q : VK} {a : Addr} {pd : PyData} {k : Nat} (h : Dp K H (.ref a) pd) (s : Shw pd k) (hk : k ≤ 64) (q : Q (.str pd.shown) H) : rRepr K [.ref a] H Q :=
  ⟨a, pd, rfl, h, s.sh, s.nd, Nat.le_trans s.dep hk, Nat.le_of_lt (small1000 (by have := s.len; omega)), q⟩
end
/-- str(i) -/
def rStrI : List V → Hp → VK → Prop := fun xs H Q => ∃ i : Int, xs = [.int i] ∧ i.natAbs.log2 < 1920 ∧ Q (.str (toString i)) H
theorem call_strI {X : Cx} : CallR X (.type "str") rStrI := call_str_int
def okStr (s : Str) : Bool := decide (s.length ≤ 1000) && s.cps.toList.all okc
theorem okS_of {s : Str} (h : okStr s = true) : OkS s := by
  unfold okStr at h
  rw [Bool.and_eq_true, List.all_eq_true] at h
  exact ⟨of_decide_eq_true h.1, h.2⟩
theorem okS_dig : (List.range 1000).all (fun n => okStr (toString (n : Int))) = true := by decide +kernel
theorem okS_int {i : Int} (h0 : 0 ≤ i) (h1 : i < 1000) : OkS (toString i) := by
  have h := List.all_eq_true.mp okS_dig i.toNat (List.mem_range.mpr (by omega))
  rw [show ((i.toNat : Nat) : Int) = i from Int.toNat_of_nonneg h0] at h
  exact okS_of h
theorem r_strI {Q : VK} {H : Hp} {i : Int} (h0 : 0 ≤ i) (h1 : i < 1000) (q : OkS (toString i) → Q (.str (toString i)) H) : rStrI [.int i] H Q := by
  refine ⟨i, rfl, ?_, q (okS_int h0 h1)⟩
  have h : i.natAbs < 2 ^ 1920 := Nat.lt_of_lt_of_le (show i.natAbs < 1000 by omega) (by decide)
  by_cases z : i.natAbs = 0
  · rw [z]
    decide
  · exact (Nat.log2_lt z).mpr h
end RH
namespace RH
open PySem L2
/-- Clock([(0, 1)]) -/
theorem r_clk01 {C r : Addr} {σ : St} {H : Hp} {Q : VK} {E : XK} (row : Row H r) (q : ∀ y dy fs H', Fr r H H' → Row H' r → H y = none → H' y = some (.ins C dy fs) → Q (.ref y) H') :
    tMake C (spClk C) [] E (tCons (tLst (tCons (tTup (tCons (tC (.int 0)) (tCons (tC (.int 1)) tNil))) tNil)) tNil) σ H Q := by
  refine r_make (r_cons (r_lst (r_cons (r_tup (r_cons (r_c (r_cons (r_c (r_nil ⟨szL rfl, fun p1 hp1 => r_nil ⟨szL rfl, fun p2 hp2 => r_nil ?_⟩⟩)))))))))
  intro y dy hy hdy nyd
  have n12 : p1 ≠ p2 := fun z => by rw [← z, upd_same] at hp2; cases hp2
  have n2y : p2 ≠ y := fun z => by rw [← z, upd_same] at hy; cases hy
  have n1y : p1 ≠ y := fun z => by rw [← z, upd_ne n12, upd_same] at hy; cases hy
  have n2d : p2 ≠ dy := fun z => by rw [← z, upd_same] at hdy; cases hdy
  have n1d : p1 ≠ dy := fun z => by rw [← z, upd_ne n12, upd_same] at hdy; cases hdy
  refine ⟨y, dy, p2, [p1], [(0, 1)], rfl, upd_same, by rw [upd_ne n2y, upd_ne n2d, upd_same]; rfl, .cons (by rw [upd_ne n1y, upd_ne n1d, upd_ne n12, upd_same]) .nil, Nat.le_of_ble_eq_true rfl, fun fs H5 k5 hy5 => ⟨rfl, ?_⟩⟩
  have all : ∀ b o, H b = some o → H5 b = some o := fun b o e => by
    have h1 : b ≠ p1 := ne_of_none e hp1
    have e1 : (upd H p1 (.tup [.int 0, .int 1])) b = some o := by rw [upd_ne h1]; exact e
    have h2 : b ≠ p2 := ne_of_none e1 hp2
    have e2 : (upd (upd H p1 (.tup [.int 0, .int 1])) p2 (.lst [.ref p1])) b = some o := by rw [upd_ne h2]; exact e1
    have h3 : b ≠ y := ne_of_none e2 hy
    have h4 : b ≠ dy := ne_of_none e2 hdy
    exact k5 b o h3 (by rw [upd_ne h3, upd_ne h4]; exact e2)
  have hyH : H y = none := by
    rw [upd_ne n2y.symm, upd_ne n1y.symm] at hy
    exact hy
  exact q y dy fs H5 (Fr.of all) (row.keep all) hyH hy5
end RH
namespace RH
open PySem L2
theorem okS_a1 : OkS ("a" : Str) := ⟨by decide +kernel, by decide +kernel⟩
theorem nest1 {K : PySem.W.Frag} {CC : Addr → Prop} {H : Hp} {v : V} {d : D} (R : Rep K CC H v d) {j : Nat} {x : V} {e : D} (hx : [v][j]? = some x) (he : [d][j]? = some e) : Rep K CC H x e := by
  cases j with
  | zero =>
    cases hx
    cases he
    exact R
  | succ j => cases hx
end RH
namespace RH
open PySem PySem.Spec PyProof.Rows L2 SrtO
section
variable {P : Program} {w : World} {A : Around} {E : Value → Shared → Prop} {s : Shared}
/-- a set as set.__new__ leaves it -/
def set0 (w : World) : Obj :=
  { cls := .type "set"
    dict := none
    data := .set #[] 0 (.fresh 0 0 (!w.params.followText "set-order")) }
/-- sorted(a), a set of ints of any size below the bound -/
theorem srt_setR {a : Addr} {S : Int → Bool} {n : Nat} {Q : Value → Shared → Prop} (R : SetR w s.heap a S n) (hh : A.handled = none)
    (hQ : ∀ s' p (out : Array Value) (c : Nat) (ns : List Int), (∀ b o, s.heap.get? b = some o → s'.heap.get? b = some o) → s'.gens = s.gens → s'.os = s.os →
      s.heap.objs.size ≤ p → s'.heap.get? p = some (seqObj "list" out c) → IntsAre out.toList ns → ns.Pairwise (· < ·) → (∀ k, k ∈ ns ↔ S k = true) → ns.length = n →
      Q (.ref p) s') : wpAny (model P w) A (call (.builtin "sorted") [.ref a]) Q E s := by
  obtain ⟨o, es, ep, t, ho, ex, hd, good, nod, mem, small, fit, num, rise, led⟩ := R
  have lim : n ≤ sizeLine := by
    rw [← num, sizeLine_eq]
    unfold scanBound at small
    omega
  refine Calls.call_function_entry kind_sorted plain_sorted entry_sorted (args_sorted1 _) ?_
  unfold Builtin.«sorted»
  refine wpAny_bind (m := checkCount "sorted" 1 1 _) (wpAny_pure ?_)
  refine wpAny_bind (collect_set (A := A.in1) hh ⟨o, ho, ex.1, hd⟩ fit small rise led fun s1 vs keep1 grow1 gen1 os1 perm1 => ?_)
  have lv : vs.length = n := by
    rw [perm1.length_eq, List.length_map, Array.length_toList]
    exact num
  have isI : IntsAre vs (vs.map iv) := ints_iv fun v hv => by
    obtain ⟨e, he, q⟩ := List.mem_map.mp (perm1.mem_iff.mp hv)
    obtain ⟨k, tk, e1, _⟩ := good e he
    rw [← q, e1]
    exact ⟨k, tk, rfl⟩
  have keys : es.toList.map (fun e => iv e.2) = es.toList.map keyOf := List.map_congr_left fun e he => by
    obtain ⟨k, tk, e1, _⟩ := good e he
    unfold keyOf
    rw [e1]
    rfl
  have perm2 : (vs.map iv).Perm (es.toList.map keyOf) := by
    have q := perm1.map iv
    rw [List.map_map] at q
    rw [← keys]
    exact q
  refine wpAny_bind (wpAny_newList ?_ (by rw [lv]; exact lim))
  have new1 : (s1.heap.push (seqObj "list" vs.toArray 0)).get? s1.heap.objs.size = some (seqObj "list" vs.toArray 0) := Heap.get?_push_size _ rfl
  refine wpAny_bind (wpAny_holding (wpAny_call_entry slot_list_sort ⟨_, new1, rfl⟩ entry_list_sort (list_sort_ord swo_int new1 (by rw [lv]; exact lim) (fun two => ints_sortable isI two) fun out so sb => ⟨_, rfl, ?_⟩) (args_list_sort _)))
  obtain ⟨i1, i2, i3⟩ := ints_out isI so sb
  obtain ⟨c, at1⟩ := sortedHeap_at (vs := vs) (out := out.toArray) new1
  have perm3 : (out.map iv).Perm (es.toList.map keyOf) := i2.trans perm2
  refine wpAny_pure ⟨_, rfl, hQ _ s1.heap.objs.size out.toArray c (out.map iv) (fun b u e => ?_) gen1 os1 grow1 at1 i1 (lt_of_le_nodup _ i3 (perm3.nodup_iff.mpr nod)) (fun k => by rw [perm3.mem_iff, mem k]) ?_⟩
  · have q := keep1 b u e
    have below := Heap.lt_size q
    show (sortedHeap (s1.heap.push (seqObj "list" vs.toArray 0)) s1.heap.objs.size vs out.toArray).get? b = some u
    rw [sortedHeap_old (Nat.ne_of_lt below) (by rw [size_push']; exact Nat.lt_succ_of_lt below)]
    exact Heap.get?_push_of_some _ q
  · rw [perm3.length_eq, List.length_map, Array.length_toList]
    exact num
/-- the promise of a call that ends by giving none, the set s0 filled -/
def Filled (w : World) (s : Shared) (ns : List Int) (v : Value) (s2 : Shared) : Prop :=
  v = .none ∧ ∃ h' tk c, s2 = { s with heap := h', toks := tk } ∧ SetR w h' s.heap.objs.size (fun j => decide (j ∈ ns)) c ∧ c ≤ ns.length ∧ ∀ b o, s.heap.get? b = some o → h'.get? b = some o
theorem push_at (h : Heap) (o : Obj) (f : o.isFreed = false) : (h.push o).get? h.objs.size = some o := Heap.get?_push_size _ f
/-- set(l) of a list of ints, with the table's form -/
theorem set_lstI {l : Addr} {items : Array Value} (ns : List Int) {Q : Value → Shared → Prop} (hh : A.handled = none) (hl : s.heap.IsList l items) (hi : IntsAre items.toList ns) (hb : ns.length + 1 < scanBound)
    (h : ∀ (h' : Heap) (tk c : Nat), SetR w h' s.heap.objs.size (fun j => decide (j ∈ ns)) c → c ≤ ns.length → (∀ b o, s.heap.get? b = some o → h'.get? b = some o) →
      Q (.ref s.heap.objs.size) { s with heap := h', toks := tk }) : wpAny (model P w) A (call (.type "set") [.ref l]) Q E s := by
  have size : items.size = ns.length := by
    have q := IntsAre.length hi
    rwa [Array.length_toList] at q
  obtain ⟨c, tl, mro⟩ := F.called_set.mro
  have made := F.called_set.made
  have isub := F.called_set.sub
  refine wpAny_call (codeAny_of_tree ?_)
  show wpAny _ _ (callAny (.type "set") ⟨[.ref l], []⟩) _ _ s
  refine wpAny_pure ⟨Code.quiet_builtin _ (by decide +kernel), codeAny_builtin F.entry_type_call ?_⟩
  rw [Around.under_plain (weight_type_call_type "set" [.ref l] []) rfl]
  have f1 := F.called_set.notType
  have f2 := F.called_set.canCreate
  have f3 := F.typeCall_set_1 (.ref l)
  repeat (any_goals (first | assumption | wp_step))

  refine codeAny_mono (code_set_led1 (.ref l) (E := E) (Q₁ := fun x t => x = .ref s.heap.objs.size ∧ t = { s with heap := s.heap.push (set0 w) }) ⟨rfl, rfl⟩) fun r t ht => ?_
  cases r with
  | error e => exact ht
  | ok fl =>
    cases fl with
    | ret obj =>
      obtain ⟨rfl, rfl⟩ := ht
      have at0 : (s.heap.push (set0 w)).get? s.heap.objs.size = some (set0 w) := push_at _ _ rfl
      have ty0 : Shared.TypeIs { s with heap := s.heap.push (set0 w) } (.ref s.heap.objs.size) "set" := ⟨_, at0, rfl⟩
      have i1 := F.called_set.init.lookup
      have i2 := F.called_set.init.bind (.ref s.heap.objs.size)
      repeat (any_goals (first | assumption | wp_step))

      refine codeAny_mono (codeAny_call_builtin (R := wants (Filled w s ns) E) F.called_set.init.plain F.entry_set_init (check_set_init_1 ty0 ?_)) fun r2 s2 h2 => ?_
      · obtain ⟨⟨oc, od, oda, osl⟩, ho, hc, nl, hd⟩ := hl
        simp only at hc hd
        subst hc; subst hd
        have atl : (s.heap.push (set0 w)).get? l = some ⟨.type "list", od, .seq items nl, osl⟩ := Heap.get?_push_of_some _ ho
        have g1 := F.sub_list_set
        have g2 := F.sub_list_frozenset
        have g3 : (Value.type "list" == Value.type "dict") = false := by decide
        have isl : (s.heap.push (set0 w)).IsList l items := ⟨_, atl, rfl, nl, rfl⟩
        unfold Builtin.«set.__init__» noKeywords Builtin.Frozenset.updateFrom
        generalize ePI : pyIter = PI
        wp_walk
        subst ePI
        refine wpAny_pyIter_list isl ?_
        refine wpAny_bind (wpAny_runValue ?_)
        have below : l < s.heap.objs.size := Heap.lt_size ho
        have calm3 : A.in1.in1.in1.handled = none := by simp [hh]
        have sz1 : (s.heap.push (set0 w)).objs.size = s.heap.objs.size + 1 := Heap.size_push ..
        have neI : l ≠ (s.heap.push (set0 w)).objs.size := Nat.ne_of_lt (by rw [sz1]; exact Nat.lt_succ_of_lt below)
        have notin : s.heap.objs.size ∉ [(s.heap.push (set0 w)).objs.size, l] := by
          rw [sz1]
          intro m
          rcases List.mem_cons.mp m with e | m
          · exact Nat.ne_of_lt (Nat.lt_succ_self _) e
          · exact Nat.ne_of_gt below (List.mem_singleton.mp m)
        have each : ∀ (i : Nat) (v : Value), items[i]? = some v → ∃ k t, ns[i]? = some k ∧ v = .int k t := fun i v hv => by
          obtain ⟨lt1, _⟩ := Array.getElem?_eq_some_iff.mp hv
          have lt2 : i < ns.length := by omega
          obtain ⟨t, e⟩ := PyProof.Rows.IntsAre.int_at hi i v (by rw [Array.getElem?_toList]; exact hv)
          refine ⟨ns[i], t, List.getElem?_eq_getElem lt2, ?_⟩
          rw [e, List.getD_eq_getElem?_getD, List.getElem?_eq_getElem lt2]
          rfl
        refine set_update_ints ((Walks.list calm3 _ l neI items).toS) s.heap.objs.size notin ns size hb each (items.size - 0) 0 _ (by omega) (Nat.zero_le _) ⟨⟨_, push_at _ _ rfl, rfl, rfl⟩, isl.push _⟩
          ⟨0, Nat.le_refl 0, setR_new_at (Heap.get?_push_of_some _ at0)⟩ fun s' c' moved le set => ?_
        obtain ⟨h', g', d', tk', os'⟩ := s'
        obtain rfl : g' = s.gens := moved.gens
        obtain rfl : d' = s.drawn := moved.drawn
        obtain rfl : os' = s.os := moved.os
        show wpAny _ _ _ _ _ _
        refine wpAny_pure ?_
        show wpAny _ _ (ret Value.none) _ _ _
        refine wpAny_pure ⟨rfl, h', tk', c', rfl, set, by omega, fun b o e => ?_⟩
        have b0 : b < s.heap.objs.size := Heap.lt_size e
        refine moved.heap b o ?_ (Heap.get?_push_of_some _ (Heap.get?_push_of_some _ e))
        rw [sz1]
        intro m
        rcases List.mem_cons.mp m with e | m
        · exact Nat.ne_of_lt b0 e
        · exact Nat.ne_of_lt (Nat.lt_succ_of_lt b0) (List.mem_singleton.mp m)
      · cases r2 with
        | error e => exact h2
        | ok f2 =>
          cases f2 with
          | ret r =>
            obtain ⟨rfl, h', tk, c', rfl, set, le, keep⟩ := h2
            repeat (any_goals (first | assumption | wp_step))
            exact h _ _ _ set le keep
          | _ => exact h2.elim
    | _ => exact ht.elim
end
section
variable {X : Cx}
/-- set(xs) of a list or tuple of ints -/
def rSetI (K : PySem.W.Frag) (w : World) : List V → Hp → VK → Prop := fun vs H Q => ∃ (p : Addr) (ns : List Int), vs = [V.ref p] ∧ (SqL K H p (ns.map V.int) ∨ SqT K H p (ns.map V.int)) ∧ ns.length ≤ 1000 ∧
  ∀ q c, c ≤ ns.length → H q = none → Q (.ref q) (upd H q (SetO w q (fun j => decide (j ∈ ns)) c))
theorem call_setI (hc : X.calm = true) : CallR X (.type "set") (rSetI X.K X.w) := by
  intro pins s σ H vs us Q I r h
  obtain ⟨p, ns, rfl, sq, le, q⟩ := h
  rw [Vals.ref1 r]
  have hd := I.ok.hd hc
  have free : H s.heap.objs.size = none := I.hok.fresh (Nat.le_refl _)
  have small : ns.length + 1 < scanBound := by
    unfold scanBound
    omega
  have fin : ∀ (h' : Heap) (tk c : Nat), SetR X.w h' s.heap.objs.size (fun j => decide (j ∈ ns)) c → c ≤ ns.length → (∀ b o, s.heap.get? b = some o → h'.get? b = some o) →
      EP X pins σ Q (.ref s.heap.objs.size) { s with heap := h', toks := tk } := fun h' tk c R lc k =>
    ⟨.ref s.heap.objs.size, upd H s.heap.objs.size (SetO X.w s.heap.objs.size (fun j => decide (j ∈ ns)) c), I.laid (t' := tk) k (Nat.le_refl _) (setO_new R), rfl, q _ c lc free⟩
  rcases sq with sq | sq
  · obtain ⟨its, rv, pl, _⟩ := I.list sq
    exact set_lstI ns hd pl.isList (ints_of_vals rv) small fin
  · obtain ⟨its, rv, pt, _⟩ := I.tuple sq
    exact call_set_tupI ns hd (show s.heap.IsTuple p its.toArray from pt) (ints_of_vals rv) small fin
/-- sorted(a) of a set of ints -/
def rSortSI (w : World) : List V → Hp → VK → Prop := fun vs H Q => ∃ (a : Addr) (S : Int → Bool) (n : Nat), vs = [V.ref a] ∧ H a = some (SetO w a S n) ∧ n ≤ 1000 ∧
  ∀ (ns : List Int) (p : Addr), ns.Pairwise (· < ·) → (∀ k, k ∈ ns ↔ S k = true) → ns.length ≤ 1000 → H p = none → Q (.ref p) (upd H p (.lst (ns.map V.int)))
theorem call_sortSI (hc : X.calm = true) : CallR X (.builtin "sorted") (rSortSI X.w) := by
  intro pins s σ H vs us Q I r h
  obtain ⟨a, S, n, rfl, ha, le, q⟩ := h
  rw [Vals.ref1 r]
  refine srt_setR (setO_get I ha) (I.ok.hd hc) fun s' p out c ns keep gen os hp at1 isI sorted mem len => ?_
  have lim : (ns.map V.int).length ≤ sizeLine := by
    rw [List.length_map]
    exact sz1000 (by omega)
  have free : H p = none := I.hok.fresh hp
  have J : Inv X pins σ (upd H p (.lst (ns.map V.int))) { s with heap := s'.heap, gens := s'.gens, drawn := s'.drawn, toks := s'.toks } :=
    I.call (ch := []) (Un.laid keep hp free) (I.hok.laid keep hp ⟨lim, out.toList, c, vals_of_ints isI, at1⟩) (by rw [gen]; exact I.bare) (fun _ z => nomatch z)
  obtain ⟨h', g', d', t', os'⟩ := s'
  obtain rfl : os' = s.os := os
  exact ⟨.ref p, _, J, rfl, q ns p sorted mem (by omega) free⟩
end
end RH
namespace RH
open PySem L2
/-! ### the numbers of one client: (upto, later) -/
/-- the form that only one pair has for a set of numbers -/
structure NF (u : Int) (l : List Int) : Prop where
  nn : 0 ≤ u
  asc : l.Pairwise (· < ·)
  gap : ∀ k ∈ l, u + 1 < k
def InP (u : Int) (l : List Int) (k : Int) : Prop := k ≤ u ∨ k ∈ l
def pkS (s : Int × List Int) (n : Int) : Int × List Int := if n = s.1 + 1 then (n, s.2) else if s.1 < n then (s.1, s.2 ++ [n]) else s
def pk (u : Int) (ns : List Int) : Int × List Int := ns.foldl pkS (u, [])
theorem pk_go : ∀ (ns : List Int) (s : Int × List Int), NF s.1 s.2 → ns.Pairwise (· < ·) → (∀ a ∈ s.2, ∀ b ∈ ns, a < b) →
    NF (ns.foldl pkS s).1 (ns.foldl pkS s).2 ∧ ∀ k, InP (ns.foldl pkS s).1 (ns.foldl pkS s).2 k ↔ InP s.1 s.2 k ∨ k ∈ ns
  | [], s, h, _, _ => ⟨h, fun k => by simp⟩
  | n :: ns, s, h, hp, hb => by
    obtain ⟨hn, hp2⟩ := List.pairwise_cons.mp hp
    have step : NF (pkS s n).1 (pkS s n).2 ∧ (∀ a ∈ (pkS s n).2, ∀ b ∈ ns, a < b) ∧ ∀ k, InP (pkS s n).1 (pkS s n).2 k ↔ InP s.1 s.2 k ∨ k = n := by
      obtain ⟨u, l⟩ := s
      have hl : ∀ a ∈ l, a < n := fun a ha => hb a ha n List.mem_cons_self
      have hlb : ∀ a ∈ l, ∀ b ∈ ns, a < b := fun a ha b hb2 => hb a ha b (List.mem_cons_of_mem _ hb2)
      have nn := h.nn
      unfold pkS InP
      dsimp only
      by_cases e : n = u + 1
      · rw [if_pos e]
        have hno : ∀ a, a ∉ l := fun a ha => by
          have h1 := h.gap a ha
          have h2 := hl a ha
          dsimp only at h1
          omega
        refine ⟨⟨by dsimp only at nn ⊢; omega, h.asc, fun k hk => absurd hk (hno k)⟩, hlb, fun k => ?_⟩
        dsimp only
        constructor
        · rintro (z | z)
          · by_cases q : k = n
            · exact .inr q
            · exact .inl (.inl (by omega))
          · exact .inl (.inr z)
        · rintro ((z | z) | z)
          · exact .inl (by omega)
          · exact .inr z
          · exact .inl (by omega)
      · rw [if_neg e]
        by_cases g : u < n
        · rw [if_pos g]
          refine ⟨⟨nn, List.pairwise_append.mpr ⟨h.asc, List.pairwise_singleton .., fun a ha b hb2 => by rw [List.mem_singleton.mp hb2]; exact hl a ha⟩, fun k hk => ?_⟩, fun a ha b hb2 => ?_, fun k => ?_⟩
          · rcases List.mem_append.mp hk with z | z
            · exact h.gap k z
            · rw [List.mem_singleton.mp z]
              dsimp only
              omega
          · rcases List.mem_append.mp ha with z | z
            · exact hlb a z b hb2
            · rw [List.mem_singleton.mp z]
              exact hn b hb2
          · dsimp only
            rw [List.mem_append, List.mem_singleton]
            exact or_assoc.symm
        · rw [if_neg g]
          refine ⟨h, hlb, fun k => ⟨.inl, ?_⟩⟩
          rintro (z | z)
          · exact z
          · exact .inl (by dsimp only; omega)
    obtain ⟨a, b, c⟩ := step
    obtain ⟨x, y⟩ := pk_go ns (pkS s n) a hp2 b
    refine ⟨x, fun k => ?_⟩
    rw [List.foldl_cons, y k, c k, List.mem_cons, or_assoc]
theorem pk_nf {u : Int} {ns : List Int} (h : 0 ≤ u) (hp : ns.Pairwise (· < ·)) : NF (pk u ns).1 (pk u ns).2 :=
  (pk_go ns (u, []) ⟨h, .nil, fun _ m => nomatch m⟩ hp (fun _ m => nomatch m)).1
theorem pk_in {u : Int} {ns : List Int} (h : 0 ≤ u) (hp : ns.Pairwise (· < ·)) (k : Int) : InP (pk u ns).1 (pk u ns).2 k ↔ k ≤ u ∨ k ∈ ns := by
  rw [show pk u ns = ns.foldl pkS (u, []) from rfl, (pk_go ns (u, []) ⟨h, .nil, fun _ m => nomatch m⟩ hp (fun _ m => nomatch m)).2 k]
  simp [InP]
/-- lists that ascend and have the same members are one -/
theorem asc_one : ∀ {a b : List Int}, a.Pairwise (· < ·) → b.Pairwise (· < ·) → (∀ k, k ∈ a ↔ k ∈ b) → a = b
  | [], [], _, _, _ => rfl
  | [], y :: b, _, _, h => absurd ((h y).mpr List.mem_cons_self) (fun z => nomatch z)
  | x :: a, [], _, _, h => absurd ((h x).mp List.mem_cons_self) (fun z => nomatch z)
  | x :: a, y :: b, ha, hb, h => by
    obtain ⟨h1, h2⟩ := List.pairwise_cons.mp ha
    obtain ⟨k1, k2⟩ := List.pairwise_cons.mp hb
    have e : x = y := by
      rcases List.mem_cons.mp ((h x).mp List.mem_cons_self) with z | z
      · exact z
      · rcases List.mem_cons.mp ((h y).mpr List.mem_cons_self) with w | w
        · exact w.symm
        · have := k1 x z
          have := h1 y w
          omega
    subst e
    rw [asc_one h2 k2 fun k => ?_]
    have q := h k
    rw [List.mem_cons, List.mem_cons] at q
    constructor
    · intro m
      rcases q.mp (.inr m) with z | z
      · have := h1 k m
        omega
      · exact z
    · intro m
      rcases q.mpr (.inr m) with z | z
      · have := k1 k m
        omega
      · exact z
/-- the same numbers from 1 on: the same pair -/
theorem nf_one {u v : Int} {l m : List Int} (a : NF u l) (b : NF v m) (h : ∀ k, 1 ≤ k → (InP u l k ↔ InP v m k)) : u = v ∧ l = m := by
  have up : ∀ {u v : Int} {l m : List Int}, NF u l → NF v m → (∀ k, 1 ≤ k → (InP u l k ↔ InP v m k)) → v ≤ u := fun {u v l m} a b h => by
    refine Int.not_lt.mp fun g => ?_
    rcases (h (u + 1) (by have := a.nn; omega)).mpr (.inl (by omega)) with z | z
    · omega
    · have := a.gap _ z
      omega
  have e : u = v := Int.le_antisymm (up b a fun k hk => (h k hk).symm) (up a b h)
  subst e
  refine ⟨rfl, asc_one a.asc b.asc fun k => ?_⟩
  constructor
  · intro z
    have g := a.gap k z
    rcases (h k (by have := a.nn; omega)).mp (.inr z) with w | w
    · omega
    · exact w
  · intro z
    have g := b.gap k z
    rcases (h k (by have := a.nn; omega)).mpr (.inr z) with w | w
    · omega
    · exact w
theorem pk_len : ∀ (ns : List Int) (s : Int × List Int), (ns.foldl pkS s).2.length ≤ s.2.length + ns.length
  | [], s => Nat.le_refl _
  | n :: ns, s => by
    have h := pk_len ns (pkS s n)
    have h2 : (pkS s n).2.length ≤ s.2.length + 1 := by
      unfold pkS
      split
      · exact Nat.le_succ _
      · split
        · simp
        · exact Nat.le_succ _
    rw [List.foldl_cons, List.length_cons]
    omega
end RH
namespace RH
open PySem L2
section
variable {K : PySem.W.Frag} {H H' : Hp} {σ : St} {Q : St → Hp → Prop}
theorem r_gtup {n : Nat} {t : TGs} {a : Addr} {xs : List V} (h : SqT K H a xs) (hl : xs.length = n) (q : t xs σ H Q) : gTup K n t (.ref a) σ H Q := ⟨a, xs, rfl, h, hl, q⟩
theorem r_gcons {t : TG} {u : TGs} {v : V} {vr : List V} (q : t v σ H fun σ1 H1 => u vr σ1 H1 Q) : gCons t u (v :: vr) σ H Q := ⟨v, vr, rfl, q⟩
theorem r_gnil (q : Q σ H) : gNil [] σ H Q := ⟨rfl, q⟩
/-- a client's pair (upto, later) -/
def RowAt (K : PySem.W.Frag) (H : Hp) (v : V) (u : Int) (l : List Int) : Prop := ∃ a b, v = .ref a ∧ SqT K H a [.int u, .ref b] ∧ SqT K H b (l.map V.int)
theorem RowAt.mono {v : V} {u : Int} {l : List Int} (h : RowAt K H v u l) (s : Same H H') : RowAt K H' v u l := by
  obtain ⟨a, b, rfl, h1, h2⟩ := h
  exact ⟨a, b, rfl, same_t s h1, same_t s h2⟩
end
/-- numbers of two pairs together -/
def InB (u v : Int) (l m : List Int) (k : Int) : Prop := InP u l k ∨ InP v m k
/-- the pair of a union: the only one of its numbers -/
theorem join_in {u v : Int} {l m so : List Int} (hu : 0 ≤ u) (hp : so.Pairwise (· < ·)) (hs : ∀ k, k ∈ so ↔ k ∈ l ++ m) (k : Int) : InP (pk (max u v) so).1 (pk (max u v) so).2 k ↔ InB u v l m k := by
  rw [pk_in (by omega) hp, hs k, List.mem_append]
  unfold InB InP
  constructor
  · rintro (z | z | z)
    · rcases Int.le_total u v with g | g
      · exact .inr (.inl (by omega))
      · exact .inl (.inl (by omega))
    · exact .inl (.inr z)
    · exact .inr (.inr z)
  · rintro ((z | z) | (z | z))
    · exact .inl (by omega)
    · exact .inr (.inl z)
    · exact .inl (by omega)
    · exact .inr (.inr z)
/-- _joined(row, other) -/
def spJoined (K : PySem.W.Frag) : Sp := fun vs H Q _ => ∃ (x y : V) (u v : Int) (l m : List Int), vs = [x, y] ∧ RowAt K H x u l ∧ RowAt K H y v m ∧ l.length + m.length ≤ 1000 ∧
  ∀ (so : List Int) q w H', so.Pairwise (· < ·) → (∀ k, k ∈ so ↔ k ∈ l ++ m) → Same H H' → H q = none → H' q = some (.tup [.int (pk (max u v) so).1, .ref w]) → H w = none → H' w = some (.tup ((pk (max u v) so).2.map V.int)) → Q (.ref q) H'
end RH
namespace RH
open PySem L2
/-! ### dict comprehensions over any walk -/
def DcGo (J : It) (g : TG) (tt : TT) (tk tv : TE) (vs : List Nat) (σ : St) (D : Addr) (Qd : Hp → Prop) (H1 : Hp) : Prop :=
  ∃ W : Nat → Nat → Hp → Prop, (∃ m, W 0 m (upd H1 D (.dK []))) ∧ ∀ i m H, W i m H →
    (J.stop i H ∧ Qd H) ∨ (J.go i H ∧ ∃ Nx : Hp → Prop, (∀ H', Nx H' → ∃ m', m' < m ∧ W (i + 1) m' H') ∧ ∀ x H', J.yld i H x H' → g x (wipe σ vs) H' fun σ2 H2 => wipe σ2 vs = wipe σ vs ∧ tt σ2 H2 fun b H3 =>
      if b = true then tk σ2 H3 fun y H4 => tv σ2 H4 fun z H5 => ∃ kvs k, y = kV k ∧ H5 D = some (.dK kvs) ∧ kvs.length < sizeLine ∧ Nx (upd H5 D (.dK (putK kvs k z))) else Nx H3)
theorem r_dc {wi : TI} {g : TG} {tt : TT} {tk tv : TE} {vs : List Nat} {σ : St} {H : Hp} {Q : VK} (h : wi σ H fun J H1 => ∀ D, H1 D = none → DcGo J g tt tk tv vs σ D (Q (.ref D)) H1) : tDc wi g tt tk tv vs σ H Q := h
theorem dc_it {J : It} {n : Nat} {G : Hp → Prop} {Y : Nat → Hp → V → Hp → Prop} (w : Walk J n G Y) {g : TG} {tt : TT} {tk tv : TE} {vs : List Nat} {σ : St} {H1 : Hp} {D : Addr} {Qd : Hp → Prop} (Pv : Nat → Hp → Prop) (h0 : Pv 0 (upd H1 D (.dK []))) (hG : ∀ i H, i ≤ n → Pv i H → G H)
    (hs : ∀ i x H H', i < n → Pv i H → Y i H x H' → g x (wipe σ vs) H' fun σ2 H2 => wipe σ2 vs = wipe σ vs ∧ tt σ2 H2 fun b H3 =>
      if b = true then tk σ2 H3 fun y H4 => tv σ2 H4 fun z H5 => ∃ kvs k, y = kV k ∧ H5 D = some (.dK kvs) ∧ kvs.length < sizeLine ∧ Pv (i + 1) (upd H5 D (.dK (putK kvs k z))) else Pv (i + 1) H3) (hd : ∀ H, Pv n H → Qd H) :
    DcGo J g tt tk tv vs σ D Qd H1 := by
  refine ⟨fun i m H => m = n - i ∧ i ≤ n ∧ Pv i H, ⟨n, by simp, Nat.zero_le _, h0⟩, ?_⟩
  rintro i m H ⟨rfl, hi, p⟩
  have q := hG i H hi p
  by_cases hlt : i < n
  · refine .inr ⟨w.goes i H hlt q, Pv (i + 1), fun H' p' => ⟨n - (i + 1), by omega, rfl, hlt, p'⟩, fun x H' y => hs i x H H' hlt p (w.yields i H x H' hlt q y)⟩
  · have e : i = n := by omega
    subst e
    exact .inl ⟨w.stops H q, hd H p⟩
/-- a block that captures nothing -/
theorem blkOk_nf {N : List Str} {sc scope : Scope} {own : List (Str × Nat)} (h : blkC N { kind := .function, names := [], isGenerator := false, isCoroutine := false } scope own = true) : BlkOk N sc scope own := by
  have b : BlkOk N { kind := .function, names := [], isGenerator := false, isCoroutine := false } scope own := blkOk_by h
  exact ⟨b.kind, b.uniq, b.ix, fun y hy e => (by rcases b.free y hy e with z | z <;> exact (nomatch z)), b.own⟩
section
variable {X : Cx} {K : PySem.W.Frag}
theorem pg_tupB {es : List Expr} {k : Nat} {pos : Pos} {t : TGs} {n : Nat} (hK : X.K = K) (hc : X.calm = true) (h : PGs X es t)
    (hn : (assignEach es X.env).length = n := by rfl) (hst : (assignEach es X.env).findIdx? (·.1) = none := by rfl) : PG X (.Tuple es k pos) (gTup K n t) := by
  subst hK
  exact pg_tup hc h hn hst
theorem pi_listB {tg l : Expr} {tl : TE} (hK : X.K = K) (hl : PE X l tl) : PI X tg l (iList K tl) := by
  subst hK
  exact pi_list hl
end
section
variable {K : PySem.W.Frag} {σ : St} {H : Hp} {Q : VK} {p q : Addr} {xs ys : List V}
theorem r_slice {r : V → Option Int → Option Int → Hp → VK → Prop} {te : TE} {tl th : TO} (h : te σ H fun x H1 => tl σ H1 fun l H2 => th σ H2 fun u H3 => r x l u H3 Q) : tSl r te tl th σ H Q := h
theorem r_part {te : TE} {Q : Option Int → Hp → Prop} (h : te σ H fun x H1 => ∃ i, x = V.int i ∧ Q (some i) H1) : tPart te σ H Q := h
theorem r_nopart {Q : Option Int → Hp → Prop} (h : Q none H) : tNoPart σ H Q := h
theorem r_yes {Q : Bool → Hp → Prop} (h : Q true H) : tYes σ H Q := h
theorem r_slL {lo hi : Option Int} (h : H p = some (.lst xs)) (k : ∀ l, H l = none → Q (.ref l) (upd H l (.lst (cutV xs lo hi)))) : rSlL K (.ref p) lo hi H Q := ⟨p, xs, rfl, SqL.of h, k⟩
theorem r_zip {ta : TA} {R : It → Hp → Prop} (h : ta σ H fun vs H1 => ∃ a b xs ys, vs = [V.ref a, .ref b] ∧ SqL K H1 a xs ∧ SqL K H1 b ys ∧ R (Itz K a b) H1) : iZip K ta σ H R := h
theorem r_list {tl : TE} {R : It → Hp → Prop} (h : tl σ H fun x H1 => ∃ a, x = V.ref a ∧ (∃ xs, SqL K H1 a xs) ∧ R (Itl K a) H1) : iList K tl σ H R := h
theorem r_cat (h1 : H p = some (.lst xs)) (h2 : H q = some (.lst ys)) (hl : xs.length + ys.length ≤ sizeLine) (k : ∀ l, H l = none → Q (.ref l) (upd H l (.lst (xs ++ ys)))) : rCat (.ref p) (.ref q) H Q := ⟨p, q, xs, ys, rfl, rfl, h1, h2, hl, k⟩
theorem cut_mem {lo hi : Option Int} {v : V} (h : v ∈ cutV xs lo hi) : v ∈ xs := by
  unfold cutV at h
  exact List.mem_of_mem_drop (List.mem_of_mem_take h)
end
/-- the two ints of the tuple at v -/
def kAt (H : Hp) : V → Int × Int
  | .ref t => match H t with
    | some (.tup [.int i, .int j]) => (i, j)
    | _ => (0, 0)
  | _ => (0, 0)
theorem kAt_at {H : Hp} {t : Addr} {d : Int × Int} (h : H t = some (.tup [.int d.1, .int d.2])) : kAt H (.ref t) = d := by
  unfold kAt
  dsimp only
  rw [h]
theorem paired_mem {α β : Type} {R : α → β → Prop} {as : List α} {bs : List β} (h : Paired R as bs) : ∀ a ∈ as, ∃ b ∈ bs, R a b := by
  induction h with
  | nil => exact fun _ m => nomatch m
  | cons r _ ih =>
    intro a ha
    rcases List.mem_cons.mp ha with rfl | ha
    · exact ⟨_, List.mem_cons_self, r⟩
    · obtain ⟨b, hb, q⟩ := ih a ha
      exact ⟨b, List.mem_cons_of_mem _ hb, q⟩
/-- a tuple of two ints at v, the same as long as all stays -/
def Tw (H : Hp) (v : V) : Prop := ∃ t i j, v = V.ref t ∧ H t = some (.tup [.int i, .int j])
/-- _rows_of(dots): a new dict, nothing that stood is changed -/
def spRows : Sp := fun vs H Q _ => ∃ (p : Addr) (xs : List V), vs = [.ref p] ∧ H p = some (.lst xs) ∧ (∀ x ∈ xs, Tw H x) ∧ xs.length ≤ 900 ∧
  ∀ D kvs H', Same H H' → H D = none → H' D = some (.dK kvs) → Q (.ref D) H'
/-- the starts: the places i that pass the test -/
theorem starts_of {n : Nat} {b : Nat → Bool} {v : V} (h : v ∈ ((((List.range n).map fun i => (b i, V.int (i : Int))).filter (·.1)).map (·.2))) : ∃ i : Nat, i < n ∧ v = .int i := by
  obtain ⟨z, hz, rfl⟩ := List.mem_map.mp h
  obtain ⟨y, hy, rfl⟩ := List.mem_map.mp (List.mem_filter.mp hz).1
  exact ⟨y, List.mem_range.mp hy, rfl⟩
end RH
namespace RH
open PySem PySem.Spec PyProof.Rows L2
theorem lift_perm {α β : Type} {f : α → β} : ∀ {l : List α} {out : List β}, out.Perm (l.map f) → ∃ zs : List α, zs.Perm l ∧ zs.map f = out
  | [], out, h => ⟨[], .nil, (List.Perm.eq_nil h).symm⟩
  | a :: l, out, h => by
    obtain ⟨s, t, rfl⟩ := List.append_of_mem (h.mem_iff.mpr (List.mem_cons_self : f a ∈ f a :: l.map f))
    have h2 : (s ++ t).Perm (l.map f) := (List.perm_middle.symm.trans h).cons_inv
    obtain ⟨zs, p, e⟩ := lift_perm h2
    refine ⟨zs.take s.length ++ a :: zs.drop s.length, ?_, ?_⟩
    · refine List.perm_middle.trans (List.Perm.cons a ?_)
      rw [List.take_append_drop]
      exact p
    · rw [List.map_append, List.map_cons, List.map_take, List.map_drop, e, List.take_left, List.drop_left]
/-- the int that a tuple begins with -/
def fstI (h : Heap) : Value → Int
  | .ref b => match h.get? b with
    | some o => match o.data with
      | .seq its _ => match its[0]? with
        | some (Value.int c _) => c
        | _ => 0
      | _ => 0
    | none => 0
  | _ => 0
/-- pairs whose firsts are different ints -/
structure IntPairs (h : Heap) (vs : List Value) : Prop where
  pair : ∀ v ∈ vs, ∃ (b : Addr) (o : Obj) (c : Int) (t : Tok) (u : Addr) (n : Nat), v = .ref b ∧ h.get? b = some o ∧ o.cls = .type "tuple" ∧ o.data = .seq #[.int c t, .ref u] n
  one : ∀ v ∈ vs, ∀ u ∈ vs, fstI h v = fstI h u → v = u
theorem fstI_at {h : Heap} {b : Addr} {o : Obj} {c : Int} {t : Tok} {u : Value} {n : Nat} (e : h.get? b = some o) (d : o.data = .seq #[Value.int c t, u] n) : fstI h (.ref b) = c := by
  simp [fstI, e, d]
theorem IntPairs.keeps {h h' : Heap} {vs : List Value} (p : IntPairs h vs) (k : ∀ b o, h.get? b = some o → o.cls = .type "tuple" → h'.get? b = some o) : IntPairs h' vs ∧ ∀ v ∈ vs, fstI h' v = fstI h v := by
  have e : ∀ v ∈ vs, fstI h' v = fstI h v := fun v hv => by
    obtain ⟨b, o, c, t, u, n, rfl, ho, hc, hd⟩ := p.pair v hv
    rw [fstI_at ho hd, fstI_at (k _ _ ho hc) hd]
  refine ⟨⟨fun v hv => ?_, fun v hv u hu z => p.one v hv u hu (by rw [← e v hv, ← e u hu]; exact z)⟩, e⟩
  obtain ⟨b, o, c, t, u, n, rfl, ho, hc, hd⟩ := p.pair v hv
  exact ⟨b, o, c, t, u, n, rfl, k _ _ ho hc, hc, hd⟩
theorem inj_on {α β : Type} {f : α → β} : ∀ {l : List α}, (l.map f).Nodup → ∀ {x y : α}, x ∈ l → y ∈ l → f x = f y → x = y
  | a :: l, h, x, y, hx, hy, e => by
    rw [List.map_cons, List.nodup_cons] at h
    rcases List.mem_cons.mp hx with g1 | g1
    · rcases List.mem_cons.mp hy with g2 | g2
      · rw [g1, g2]
      · exact absurd (List.mem_map.mpr ⟨y, g2, by rw [← e, g1]⟩) h.1
    · rcases List.mem_cons.mp hy with g2 | g2
      · exact absurd (List.mem_map.mpr ⟨x, g1, by rw [e, g2]⟩) h.1
      · exact inj_on h.2 g1 g2 e
def ltF (k : Value → Int) (v u : Value) : Bool := decide (k v < k u)
theorem swoF (k : Value → Int) : SrtO.Swo (ltF k) := by
  refine ⟨fun x y h => ?_, fun x y z h1 h2 => ?_⟩
  · have a := of_decide_eq_true (p := k x < k y) h
    exact decide_eq_false (p := k y < k x) (by omega)
  · have a := of_decide_eq_false (p := k y < k x) h1
    have b := of_decide_eq_false (p := k z < k y) h2
    exact decide_eq_false (p := k z < k x) (by omega)
section
variable {prog : Program} {w : World} {A : Around} {s : Shared}
theorem cmpF {vs : List Value} {k : Value → Int} (hp : IntPairs s.heap vs) (hk : ∀ v ∈ vs, fstI s.heap v = k v) : SrtO.Cmp prog w A s (tuples' true) (fun p => p.1 ∈ vs) (SrtO.lt2 (ltF k)) := by
  intro p q hm hm'
  obtain ⟨b, o, c, t, u, n, e, ho, hc, hd⟩ := hp.pair _ hm
  obtain ⟨b', o', c', t', u', n', e', ho', hc', hd'⟩ := hp.pair _ hm'
  have k1 : k p.1 = c := by rw [← hk _ hm, e, fstI_at ho hd]
  have k2 : k q.1 = c' := by rw [← hk _ hm', e', fstI_at ho' hd']
  show wpAny (model prog w) A (keyLt' (tuples' true) p.1 q.1) (fun r s' => s' = s ∧ r = ltF k p.1 q.1) (fun _ _ => False) s
  have er : ltF k p.1 q.1 = decide (c < c') := by
    unfold ltF
    rw [k1, k2]
  rw [er]
  by_cases z : c = c'
  · have same : p.1 = q.1 := hp.one _ hm _ hm' (by rw [hk _ hm, hk _ hm', k1, k2, z])
    have bb : b = b' := Value.ref.inj (e.symm.trans (same.trans e'))
    have uu : u = u' := by
      have oo : o = o' := Option.some.inj (ho.symm.trans ((congrArg s.heap.get? bb).trans ho'))
      have dd : Data.seq #[Value.int c t, .ref u] n = Data.seq #[Value.int c' t', .ref u'] n' := hd.symm.trans ((congrArg Obj.data oo).trans hd')
      injection dd with d1 d2
      have g : (#[Value.int c t, .ref u])[1]? = (#[Value.int c' t', .ref u'])[1]? := by rw [d1]
      simpa using g
    rw [e, e']
    refine PySem.W.kat_lt ho hd ho' hd' ?_
    show PySem.W.KatLex prog w A true (decide (2 < 2)) _ [(.int c t, .int c' t'), (.ref u, .ref u')] 0 s
    refine PySem.W.kat_cons (SeqAt.EqAt.int_int c t c' t' prog w _ _ ?_)
    refine PySem.W.kat_go (fun _ => ?_) (fun e1 => absurd z (by simpa using e1))
    rw [← uu]
    refine PySem.W.kat_yes (PySem.W.kat_cons (SeqAt.EqAt.same (.ref u) prog w _ _ ?_))
    refine PySem.W.kat_yes (PySem.W.kat_nil ⟨rfl, ?_⟩)
    rw [z]
    exact (decide_eq_false (Int.lt_irrefl _)).symm
  · rw [e, e']
    refine PySem.W.kat_lt ho hd ho' hd' ?_
    show PySem.W.KatLex prog w A true (decide (2 < 2)) _ [(.int c t, .int c' t'), (.ref u, .ref u')] 0 s
    refine PySem.W.kat_cons (SeqAt.EqAt.int_int c t c' t' prog w _ _ ?_)
    refine PySem.W.kat_go (fun e1 => absurd (by simpa using e1) z) (fun _ => ?_)
    exact PySem.W.kat_no (oneLt_int ⟨rfl, rfl⟩)
theorem sortableF {a : Addr} {vs : List Value} {k : Value → Int} (h0 : 0 < vs.length) (hp : IntPairs s.heap vs) (hk : ∀ v ∈ vs, fstI s.heap v = k v) (ha : ∀ o, s.heap.get? a = some o → o.cls ≠ .type "tuple") : SrtO.SortableO prog w A s a vs (ltF k) := by
  intro h' keep
  obtain ⟨hp', hk'⟩ := hp.keeps (h' := h') fun b o e c => keep b o (fun z => ha o (z ▸ e) c) e
  obtain ⟨fs, t1, t2, t3⟩ : ∃ fs : List Value, PySem.W.KatTups h' vs fs ∧ fs.length = vs.length ∧ ∀ f ∈ fs, ∃ (c : Int) (t : Tok), f = .int c t := by
    have go : ∀ us : List Value, (∀ v ∈ us, v ∈ vs) → ∃ fs : List Value, PySem.W.KatTups h' us fs ∧ fs.length = us.length ∧ ∀ f ∈ fs, ∃ (c : Int) (t : Tok), f = .int c t := by
      intro us
      induction us with
      | nil => exact fun _ => ⟨[], trivial, rfl, fun _ m => nomatch m⟩
      | cons v us ih =>
        intro hin
        obtain ⟨fs, t1, t2, t3⟩ := ih fun u hu => hin u (List.mem_cons_of_mem _ hu)
        obtain ⟨b, o, c, t, u, n, rfl, ho, hc, hd⟩ := hp'.pair v (hin v List.mem_cons_self)
        refine ⟨.int c t :: fs, ⟨⟨b, o, _, n, rfl, ho, hc, hd, rfl⟩, t1⟩, by rw [List.length_cons, List.length_cons, t2], fun f hf => ?_⟩
        rcases List.mem_cons.mp hf with rfl | hf
        · exact ⟨c, t, rfl⟩
        · exact t3 f hf
    exact go vs fun v hv => hv
  refine ⟨tuples' true, fun Q E hq => ?_, cmpF hp' fun v hv => (hk' v hv).trans (hk v hv)⟩
  refine PySem.W.kat_kind (T := .type "int") t1 (by omega) (fun f hm => ?_) (by rfl) ?_
  · obtain ⟨c, t, rfl⟩ := t3 f hm
    exact PySem.W.Looks.now
  · rw [show (Value.type "int" != Value.type "tuple") = true by decide +kernel]
    exact hq
end
section
variable {X : Cx}
open L2.DX
/-- d.items(), keys ints or texts -/
def rItemsK : V → List V → Hp → VK → Prop := fun x xs H Q => ∃ (a : Addr) (kvs : List (Key × V)), x = .ref a ∧ xs = [] ∧ H a = some (.dK kvs) ∧ ∀ p, H p = none → Q (.ref p) (upd H p (itemsO p a))
theorem mt_itemsK : MtR X "dict.items" rItemsK := by
  intro pins s σ H x xs v us Q I rx rxs h
  obtain ⟨a, kvs, rfl, rfl, ha, q⟩ := h
  cases rx
  cases rxs
  obtain ⟨_, hd, vs, _, o, es, ep, ho, hx, hdat, _⟩ := dk_of I.hok ha
  refine DT.callItems (es := es) (ep := ep) hd ⟨o, ho, hx, hdat⟩ ?_
  exact ⟨.ref s.heap.objs.size, upd H s.heap.objs.size (itemsO s.heap.objs.size a), I.laid (t' := s.toks) (fun b u e => Heap.get?_push_of_some _ e) (Nat.le_refl _) (itemsO_ok (Heap.get?_push_size _ rfl)), rfl, q _ (I.hok.fresh (Nat.le_refl _))⟩
/-- sorted(d.items()): the keys are ints, the values stand in the heap -/
def rSortItK : List V → Hp → VK → Prop := fun vs H Q => ∃ (p a : Addr) (rows : List (Int × Addr)), vs = [.ref p] ∧ H p = some (itemsO p a) ∧ H a = some (.dK (rows.map fun e => (Sum.inl e.1, V.ref e.2))) ∧ (rows.map (·.1)).Nodup ∧ rows.length ≤ 1000 ∧
  ∀ (H' : Hp) (l : Addr) (ps : List (Addr × Int × Addr)), (∀ b o, H b = some o → H' b = some o) → (ps.map (·.2)).Perm rows → (ps.map (·.2.1)).Pairwise (· < ·) → H' l = some (.lst (ps.map fun z => V.ref z.1)) →
    (∀ z ∈ ps, H' z.1 = some (.tup [.int z.2.1, .ref z.2.2])) → Q (.ref l) H'
theorem pairs_at {P : Program} {w : World} : ∀ {es : List DictEntry} {vs : List (Key × Value)} {rows : List (Int × Addr)}, Pairs (mixKind P w) es vs → KV (rows.map fun e => (Sum.inl e.1, V.ref e.2)) vs → ∀ (j : Nat) (e : DictEntry), es[j]? = some e →
    ∃ (row : Int × Addr) (t : Tok), rows[j]? = some row ∧ e.key = .int row.1 t ∧ e.val = .ref row.2
  | _, _, [], .nil, _, j, e, h => nomatch h
  | _, _, row :: rows, .cons (e := e0) (kv := kv) k v r, q, j, e, h => by
    unfold KV at q
    cases q with
    | cons q1 q2 =>
      match j with
      | 0 =>
        cases h
        obtain ⟨g1, g2⟩ := q1
        rw [← g1] at k
        have k2 : keyIs (Sum.inl row.1) e0.key = true := k
        rcases keyIs_shape k2 with ⟨i, t, hi, hk⟩ | ⟨x, t, hi, hk⟩
        · have e1 : row.1 = i := Sum.inl.inj hi
          refine ⟨row, t, rfl, e1 ▸ hk, ?_⟩
          rw [v]
          exact g2
        · exact nomatch hi
      | j + 1 =>
        exact pairs_at r q2 j e h
  | _, _, _ :: _, .nil, q, j, e, h => nomatch h
  | _, _, [], .cons k v r, q, j, e, h => by
    unfold KV at q
    cases q
theorem cr_sortItK (hc : X.calm = true) : CallR X (.builtin "sorted") rSortItK := by
  intro pins s σ H xs us Q I r h
  obtain ⟨p, a, rows, rfl, hp, ha, nd, small, q⟩ := h
  rw [Vals.ref1 r]
  have view : s.heap.IsItemsView p a := (show ObjOk X.prog X.w H s.heap p (itemsO p a) from I.hok p _ hp).1
  obtain ⟨_, hd, vs, rel, o, es, ep, ho, hx, hdat, _, prs, _⟩ := dk_of I.hok ha
  have len1 : es.size = rows.length := by
    have e1 : es.toList.length = vs.length := Pairs.length prs
    have e2 : (rows.map fun e => ((Sum.inl e.1 : Key), V.ref e.2)).length = vs.length := Paired.length rel
    rw [List.length_map] at e2
    rw [← Array.length_toList]
    omega
  have calm : X.A.handled = none := I.ok.hd hc
  refine DT.sortedI (es := es) (ep := ep) calm view ⟨o, ho, hx, hdat⟩ (by rw [len1]; exact sz1000 small) fun h' tk as keep grow lenA made => ?_
  have ndA : as.Nodup := made.rise.imp fun g => Nat.ne_of_lt g
  have lenR : as.length = rows.length := by omega
  -- each pair that was made
  have pr : ∀ (i : Nat) (b : Addr), as[i]? = some b → ∃ (row : Int × Addr) (t : Tok), rows[i]? = some row ∧ h'.get? b = some ⟨.type "tuple", none, .seq #[.int row.1 t, .ref row.2] 0, #[]⟩ := fun i b hi => by
    obtain ⟨e, he, hg⟩ := made.pairs i b hi
    obtain ⟨row, t, h1, h2, h3⟩ := pairs_at prs rel i e (by rw [Array.getElem?_toList]; exact he)
    refine ⟨row, t, h1, ?_⟩
    rw [hg, h2, h3]
  have nE : ∀ b o, h'.get? b = some o → b ≠ h'.objs.size := fun b o e => Nat.ne_of_lt (Heap.lt_size e)
  have newL : (h'.push ⟨.type "list", none, .seq (as.map Value.ref).toArray 0, #[]⟩).get? h'.objs.size = some (seqObj "list" (as.map Value.ref).toArray 0) := Heap.get?_push_size _ rfl
  have up : ∀ b o, h'.get? b = some o → (h'.push ⟨.type "list", none, .seq (as.map Value.ref).toArray 0, #[]⟩).get? b = some o := fun b o e => Heap.get?_push_of_some _ e
  show wpAny _ _ _ _ _ { s with heap := h'.push ⟨.type "list", none, .seq (as.map Value.ref).toArray 0, #[]⟩, toks := tk }
  generalize h'.push ⟨.type "list", none, .seq (as.map Value.ref).toArray 0, #[]⟩ = h2 at newL up ⊢
  -- the pairs by their places
  have prL : ∀ z ∈ as.zip rows, ∃ t : Tok, h2.get? z.1 = some ⟨.type "tuple", none, .seq #[.int z.2.1 t, .ref z.2.2] 0, #[]⟩ := fun z hz => by
    obtain ⟨i, hi⟩ := List.mem_iff_getElem?.mp hz
    obtain ⟨i1, i2⟩ := List.getElem?_zip_eq_some.mp hi
    obtain ⟨row, t, h1, h3⟩ := pr i z.1 i1
    have e : row = z.2 := Option.some.inj (h1.symm.trans i2)
    subst e
    exact ⟨t, up _ _ h3⟩
  have fst2 : ∀ z ∈ as.zip rows, fstI h2 (.ref z.1) = z.2.1 := fun z hz => by
    obtain ⟨t, e⟩ := prL z hz
    exact fstI_at e rfl
  have vsE : as.map Value.ref = (as.zip rows).map fun z => Value.ref z.1 := by
    rw [show (fun z : Addr × Int × Addr => Value.ref z.1) = Value.ref ∘ Prod.fst from rfl, ← List.map_map, List.map_fst_zip (by omega)]
  have ndZ : ((as.zip rows).map fun z => z.2.1).Nodup := by
    rw [show (fun z : Addr × Int × Addr => z.2.1) = Prod.fst ∘ Prod.snd from rfl, ← List.map_map, List.map_snd_zip (by omega)]
    exact nd
  have ip : IntPairs h2 (as.map Value.ref) := by
    rw [vsE]
    refine ⟨fun v hv => ?_, fun v hv u hu e => ?_⟩
    · obtain ⟨z, hz, rfl⟩ := List.mem_map.mp hv
      obtain ⟨t, g⟩ := prL z hz
      exact ⟨z.1, _, z.2.1, t, z.2.2, 0, rfl, g, rfl, rfl⟩
    · obtain ⟨z, hz, rfl⟩ := List.mem_map.mp hv
      obtain ⟨y, hy, rfl⟩ := List.mem_map.mp hu
      rw [fst2 z hz, fst2 y hy] at e
      rw [inj_on ndZ hz hy e]
  refine wpAny_call_entry PyProof.Rows.slot_list_sort ⟨_, newL, rfl⟩ PyProof.Rows.entry_list_sort
    (SrtO.list_sort_ord (ltv := ltF (fstI h2)) (s := { s with heap := h2, toks := tk }) (swoF _) newL (by rw [List.length_map, lenR]; exact sz1000 small) (fun two => sortableF (by omega) ip (fun _ _ => rfl) fun o e => ?_) fun out so sb => ⟨.none, rfl, ?_⟩) (PyProof.Rows.args_list_sort _)
  · have e2 : some o = some (seqObj "list" (as.map Value.ref).toArray 0) := e.symm.trans newL
    cases e2
    exact fun z => absurd (Value.type.inj z) (by decide)
  · obtain ⟨zs, pz, ez⟩ := lift_perm (f := fun z : Addr × Int × Addr => Value.ref z.1) (l := as.zip rows) (out := out) (by rw [← vsE]; exact sb.perm)
    have old : ∀ b o, b ≠ h'.objs.size → h2.get? b = some o → (sortedHeap h2 h'.objs.size (as.map Value.ref) out.toArray).get? b = some o := fun b o n e => (PyProof.Rows.sortedHeap_old n (Heap.lt_size e)).trans e
    have keep2 : ∀ b o, s.heap.get? b = some o → (sortedHeap h2 h'.objs.size (as.map Value.ref) out.toArray).get? b = some o := fun b o e => old b o (nE _ _ (keep b o e)) (up _ _ (keep b o e))
    obtain ⟨ep2, atF⟩ := PyProof.Rows.sortedHeap_at (vs := as.map Value.ref) (out := out.toArray) newL
    have free : H h'.objs.size = none := I.hok.fresh (Nat.le_of_lt grow)
    have lenZ : zs.length = rows.length := by
      rw [pz.length_eq, List.length_zip]
      omega
    show EP X pins σ Q (.ref h'.objs.size) { s with heap := sortedHeap h2 h'.objs.size (as.map Value.ref) out.toArray, toks := tk }
    have I1 : Inv X pins σ H { s with heap := sortedHeap h2 h'.objs.size (as.map Value.ref) out.toArray, toks := tk } := I.kept (t' := tk) keep2
    have I2 : Inv X pins σ (upd H h'.objs.size (.lst (zs.map fun z => V.ref z.1))) { s with heap := sortedHeap h2 h'.objs.size (as.map Value.ref) out.toArray, toks := tk } :=
      I1.take (h' := sortedHeap h2 h'.objs.size (as.map Value.ref) out.toArray) (t' := tk) (fun b ob _ e => e) (I.fpOk (Nat.le_of_lt grow) free)
        ⟨by rw [List.length_map, lenZ]; exact sz1000 small, out, ep2, by rw [← ez]; exact vals_maps (fun z : Addr × Int × Addr => V.ref z.1) (fun z => Value.ref z.1) zs fun _ _ => rfl, atF⟩
    obtain ⟨H2, I3, g, qt⟩ := takeT (P := fun b vs => ∃ (i : Nat) (row : Int × Addr), as[i]? = some b ∧ rows[i]? = some row ∧ vs = [V.int row.1, .ref row.2]) I as _ I2 ndA fun b hb => by
      obtain ⟨i, hi⟩ := List.mem_iff_getElem?.mp hb
      obtain ⟨row, t, h1, h3⟩ := pr i b hi
      have low : s.heap.objs.size ≤ b := Nat.le_of_lt (made.above b hb)
      refine ⟨low, ?_, _, ⟨i, row, hi, h1, rfl⟩, fun H3 => ⟨Nat.le_of_lt (small1000 (Nat.le_of_ble_eq_true rfl)), [Value.int row.1 t, .ref row.2], .cons ⟨t, rfl⟩ (.cons rfl .nil), ⟨_, old _ _ (nE _ _ h3) (up _ _ h3), rfl, 0, rfl⟩⟩⟩
      rw [upd_ne (nE _ _ h3)]
      exact I.hok.fresh low
    refine ⟨.ref h'.objs.size, H2, I3, rfl, q H2 h'.objs.size zs (fun b o e => g b o (by rw [upd_ne (ne_of_none e free)]; exact e)) ?_ ?_ (g _ _ upd_same) fun z hz => ?_⟩
    · have e := pz.map (·.2)
      rw [List.map_snd_zip (by omega)] at e
      exact e
    · have nz : (zs.map fun z => z.2.1).Nodup := (pz.map _).nodup_iff.mpr ndZ
      have le : (zs.map fun z => z.2.1).Pairwise (· ≤ ·) := by
        rw [List.pairwise_map]
        have so2 : List.Pairwise (fun x y => ltF (fstI h2) y x = false) out := so
        rw [← ez, List.pairwise_map] at so2
        refine so2.imp_of_mem fun {x y} hx hy e => ?_
        have e2 : decide (fstI h2 (.ref y.1) < fstI h2 (.ref x.1)) = false := e
        rw [fst2 x (pz.mem_iff.mp hx), fst2 y (pz.mem_iff.mp hy)] at e2
        exact Int.not_lt.mp (of_decide_eq_false e2)
      exact lt_of_le_nodup _ le nz
    · obtain ⟨i, hi⟩ := List.mem_iff_getElem?.mp (pz.mem_iff.mp hz)
      obtain ⟨i1, i2⟩ := List.getElem?_zip_eq_some.mp hi
      obtain ⟨ws, ⟨k, row, k1, k2, rfl⟩, hH⟩ := qt z.1 (List.mem_of_getElem? i1)
      have ik : i = k := (List.getElem?_inj (List.getElem?_eq_some_iff.mp i1).1 ndA).mp (i1.trans k1.symm)
      subst ik
      have er : row = z.2 := Option.some.inj (k2.symm.trans i2)
      subst er
      exact hH
end
end RH
namespace RH
open PySem PySem.Spec PyProof.Rows L2
/-! ### operators of own classes: x in y, x | y -/
section
variable {X : Cx} {C : Addr} {sp : Sp} {k : Nat}
/-- v in y, y an instance of C -/
def rInM (C : Addr) (sp : Sp) (neg : Bool) : R2 := fun x y H Q => ∃ a dx fs, y = .ref a ∧ H a = some (.ins C dx fs) ∧ sp [y, x] H (fun z H' => ∃ b, z = .bl b ∧ Q (.bl (if neg then !b else b)) H') E0
theorem op_inM (M : C8.Met X.prog X.w X.K X.mg X.base k C "__contains__" sp []) (hr : Room k X.A) : OpR X (compareOp .In) (rInM C sp false) := by
  intro pins s σ H x y v u Q I rx ry h
  obtain ⟨a, dx, fs, rfl, ha, q⟩ := h
  cases (show u = Value.ref a from ry)
  obtain ⟨f, fd, ps, ds, _, me, F, bs, vs⟩ := M.ex
  obtain ⟨mA, om, _⟩ := ins_get I.hok ha
  obtain ⟨od, J, _⟩ := om.look
  obtain ⟨m, fr⟩ := I.fr
  refine PySem.W.in_K fr I.ok.mod.kin J me.at_ me.fn (wpAny_mono (run_fn (us := [.ref a, v]) (vs := [.ref a, x]) F hr bs vs (fun _ _ _ _ _ _ _ z => z.elim) I (.cons rfl (.cons rx .nil)) q) (fun w s' z => ?_) fun _ _ e => e)
  obtain ⟨z, H', I', rz, b, rfl, qz⟩ := z
  cases (show w = Value.bool b from rz)
  exact wpAny_truthy_bool ⟨.bl b, H', I', rfl, qz⟩
theorem op_notInM (M : C8.Met X.prog X.w X.K X.mg X.base k C "__contains__" sp []) (hr : Room k X.A) : OpR X (compareOp .NotIn) (rInM C sp true) := by
  intro pins s σ H x y v u Q I rx ry h
  obtain ⟨a, dx, fs, rfl, ha, q⟩ := h
  cases (show u = Value.ref a from ry)
  obtain ⟨f, fd, ps, ds, _, me, F, bs, vs⟩ := M.ex
  obtain ⟨mA, om, _⟩ := ins_get I.hok ha
  obtain ⟨od, J, _⟩ := om.look
  obtain ⟨m, fr⟩ := I.fr
  refine PySem.W.notIn_K fr I.ok.mod.kin J me.at_ me.fn (wpAny_mono (run_fn (us := [.ref a, v]) (vs := [.ref a, x]) F hr bs vs (fun _ _ _ _ _ _ _ z => z.elim) I (.cons rfl (.cons rx .nil)) q) (fun w s' z => ?_) fun _ _ e => e)
  obtain ⟨z, H', I', rz, b, rfl, qz⟩ := z
  cases (show w = Value.bool b from rz)
  exact wpAny_truthy_bool ⟨.bl !b, H', I', rfl, qz⟩
/-- x | y, both instances of C -/
def rOrM (C : Addr) (sp : Sp) : R2 := fun x y H Q => ∃ a dx fs b dy gs, x = .ref a ∧ y = .ref b ∧ H a = some (.ins C dx fs) ∧ H b = some (.ins C dy gs) ∧ sp [x, y] H Q E0
theorem op_orM (M : C8.Met X.prog X.w X.K X.mg X.base k C "__or__" sp []) (hr : Room k X.A) (hf : PySem.W.selfFirst X.K C = true) : OpR X (binaryOp .BitOr) (rOrM C sp) := by
  intro pins s σ H x y v u Q I rx ry h
  obtain ⟨a, dx, fs, b, dy, gs, rfl, rfl, ha, hb, q⟩ := h
  cases (show v = Value.ref a from rx)
  cases (show u = Value.ref b from ry)
  obtain ⟨f, fd, ps, ds, _, me, F, bs, vs⟩ := M.ex
  obtain ⟨mA, om, _⟩ := ins_get I.hok ha
  obtain ⟨od, J, _⟩ := om.look
  obtain ⟨mB, ob, _⟩ := ins_get I.hok hb
  obtain ⟨oe, J', _⟩ := ob.look
  obtain ⟨m, fr⟩ := I.fr
  refine PySem.W.binop_K (op := .BitOr) fr I.ok.mod.kin J J'.type hf me.at_ me.fn (wpAny_mono (run_fn (us := [.ref a, .ref b]) (vs := [.ref a, .ref b]) F hr bs vs (fun _ _ _ _ _ _ _ z => z.elim) I (.cons rfl (.cons rfl .nil)) q) (fun w s' z => ?_) fun _ _ e => e)
  obtain ⟨z, H', I', rz, qz⟩ := z
  exact SlX.cmpback rz ⟨z, H', I', rz, qz⟩
end
end RH
namespace RH
open PySem PySem.Spec PyProof.Rows L2 ItX
/-! ### walks over own instances whose __iter__ gives the iterator of a list, of a tuple -/
abbrev tupItObj (l : Addr) (i : Nat) : Obj := { cls := .type "tuple_iterator", data := .fields #[.ref l, .int i 0] }
/-- a tuple's iterator at its begin -/
def ItTO (l it : Addr) : HO := .ext fun h => h.get? it = some (tupItObj l 0)
section
variable {prog : Program} {w : World} {A : Around} {E : Value → Shared → Prop} {s : Shared} {l it : Addr} {items : Array Value}
theorem call_iterTup {Q : Value → Shared → Prop} (hl : s.heap.IsTuple l items) (h : Q (.ref s.heap.objs.size) { s with heap := s.heap.push (tupItObj l 0) }) : wpAny (model prog w) A (call (.builtin "iter") [.ref l]) Q E s := by
  refine Calls.call_function_entry (by decide +kernel) (by decide +kernel) PySem.W.kdk_entry_iter (PySem.W.kdk_args_iter _) ?_
  unfold Builtin.«iter»
  refine wpAny_bind (m := someArgs "iter" 1 2 _) (wpAny_of_eq (a := [Value.ref l]) (by first | rfl | kernel_rfl!) ?_)
  show wpAny _ _ (pyIter (.ref l) >>= _) _ _ _
  refine wpAny_bind (wpAny_pyIter_tuple hl ?_)
  exact wpAny_pure ⟨_, rfl, h⟩
theorem itT_ok {P : Program} {w : World} {H : Hp} {h : Heap} (e : h.get? it = some (tupItObj l 0)) : ObjOk P w H h it (ItTO l it) := ⟨e, ⟨_, e⟩, fun h1 h2 q k => k _ q⟩
end
section
/-- what __iter__ has given -/
def OwnIt (K : PySem.W.Frag) (H : Hp) (it : Addr) (J : It) : Prop := (∃ l, H it = some (ItO l it 0) ∧ J = Itl K l) ∨ ∃ l, H it = some (ItTO l it) ∧ J = Itt K l
theorem OwnIt.some {K : PySem.W.Frag} {H : Hp} {it : Addr} {J : It} (o : OwnIt K H it J) : ∃ u, H it = some u := o.elim (fun ⟨_, e, _⟩ => ⟨_, e⟩) fun ⟨_, e, _⟩ => ⟨_, e⟩
end
/-- a promise that may say how many objects there are at the entry -/
structure FnN (P : Program) (w : World) (K : PySem.W.Frag) (mg : Str → Option Value) (base : Heap) (k : Nat) (f : Addr) (fd : FuncData) (ps : List Str) (sp : Nat → Sp) : Prop where
  leN : ∀ n vs H Q E, sp n vs H Q E → vs.length = ps.length
  go : ∀ (B : Around) (up : List Env) (z : Shared) (H : Hp) (ar : Args) (us : List Value) (vs : List V) (Q : VK) (E : XK), Room k B → Env0 P w K mg base B up z H →
    BindsTo z fd ar (ps.zip us) → Vals vs us → sp z.heap.objs.size vs H Q E → codeAny (model P w) B (.call (.ref f) ar) (CR CX0 up P w H z Q E) z
theorem fun_okN {P : Program} {w : World} {K : PySem.W.Frag} {mg : Str → Option Value} {base : Heap} {x qual : Str} {st : Stmt} {f : Addr} {fd : FuncData} {N ps : List Str} {k : Nat} {sp : Nat → Sp}
    (F : L2.Fun K x qual st f fd) (S : FnScope N ps (defScope st)) (lnN : ∀ n vs H Q E, sp n vs H Q E → vs.length = ps.length)
    (hb : ∀ (cdv : Value) (B : Around) (up : List Env) (z : Shared) (H : Hp) (vs : List V) (Q : VK) (E : XK),
      Room k (B.deeper (envOfC qual (defScope st) z.heap.objs.size f cdv)) → sp z.heap.objs.size vs H Q E →
      ∃ t, PSs (cxOf CX0 P w K mg base N qual (defScope st) f cdv B up z H E).nox (defBody st) t ∧
        t { nx := fun _ H' => Q .non H', rt := Q } (start N vs) H) :
    FnN P w K mg base (k + 1) f fd ps sp := by
  obtain ⟨c1, c2, c3, c4, c5, c6, cdv, c8, c9, rfl, lk, hcd⟩ := F.ex
  constructor
  · exact lnN
  intro B up z H ar us vs Q E room env bnd rel hsp
  have ln := lnN _ _ _ _ _ hsp
  have kin : K.In z.heap := env.mod.kin.keeps fun b o e => (env.bs b o e).1
  have noL : z.heap.NoLimit := env.mod.nolimit.keeps fun b o e => (env.bs b o e).1
  have kinds : ∀ y ∈ ps.zip us, (defScope st).names.lookup y.1 = some .local ∨
      ((defScope st).names.lookup y.1 = some .cell ∧ ((cellsFrom (z.heap.objs.size + 1) (defScope st).names []).lookup y.1).isSome = true) := by
    rintro ⟨nm, v⟩ hy
    have mem := (List.of_mem_zip hy).1
    exact (S.par nm mem).imp id fun q => ⟨q, PySem.W.cellsFrom_some _ _ _ (Or.inl q)⟩
  apply codeAny_call_function room.depth (kin _ _ lk) rfl S.co S.gen rfl (PySem.W.codeRec_of kin hcd)
  apply bnd
  refine wpAny_newFunctionEnv_cells S.kind kinds ?_
  rintro env2 rfl z1 hx
  refine And.intro (noL.keeps hx.toInCall.keep) (codeAny_func ?_)
  obtain ⟨t, ht, q⟩ := hb cdv B up z H vs Q E (room.deeper _) hsp
  have ht := ht.nox
  refine wpAny_mono (ht.run [] z1 (start N vs) H _ (inv_start S room.hd env ln rel hx) q) ?_ fun e s' h => h
  intro fl s' h
  cases fl with
  | brk => exact h.elim fun _ h => h.elim fun _ h => h.2.elim
  | cont => exact h.elim fun _ h => h.elim fun _ h => h.2.elim
  | next =>
    obtain ⟨σ', H', J, q⟩ := h
    exact ⟨V.non, H', J.os, J.bare, J.base, J.hok, rfl, q⟩
  | ret u =>
    obtain ⟨v, σ', H', J, rv, q⟩ := h
    exact ⟨v, H', J.os, J.bare, J.base, J.hok, rv, q⟩
/-- a method with such a promise -/
structure MetN (P : Program) (w : World) (K : PySem.W.Frag) (mg : Str → Option Value) (base : Heap) (k : Nat) (C : Addr) (m : Str) (sp : Nat → Sp) : Prop where
  ex : ∃ (f : Addr) (fd : FuncData) (ps : List Str), Cls K C ∧ Meth K C m f ∧ FnN P w K mg base k f fd ps sp ∧ Binds K fd ps []
section
variable {X : Cx}
def rIterTN (K : PySem.W.Frag) (n : Nat) : List V → Hp → VK → Prop := fun xs H Q => ∃ (l : Addr) (zs : List V), xs = [.ref l] ∧ SqT K H l zs ∧ ∀ it, H it = none → n ≤ it → Q (.ref it) (upd H it (ItTO l it))
theorem call_iterTN : CallR X (.builtin "iter") (rIterTN X.K X.s_0.heap.objs.size) := by
  intro pins s σ H xs us Q I r h
  obtain ⟨l, zs, rfl, hq, q⟩ := h
  obtain ⟨u, rfl, ru⟩ := vals1 r
  cases ru
  obtain ⟨its, rv, pl, hz⟩ := I.tuple hq
  refine call_iterTup (show s.heap.IsTuple l its.toArray from pl) ?_
  exact ⟨.ref s.heap.objs.size, _, I.laid (t' := s.toks) (fun b u e => Heap.get?_push_of_some _ e) (Nat.le_refl _) (itT_ok (Heap.get?_push_size _ rfl)), rfl, q _ (I.hok.fresh (Nat.le_refl _)) I.sz⟩
def iOwn (K : PySem.W.Frag) (n0 : Nat) (C : Addr) (sp : Nat → Sp) (te : TE) : TI := fun σ H R => te σ H fun x H1 => ∃ a dx fs, x = .ref a ∧ H1 a = some (.ins C dx fs) ∧
  ∀ n, n0 ≤ n → sp n [x] H1 (fun v H2 => ∃ it J, v = .ref it ∧ n ≤ it ∧ OwnIt K H2 it J ∧ R J (dropH H2 it)) E0
variable {tg e : Expr} {te : TE} {C : Addr} {sp : Nat → Sp} {k : Nat}
theorem pi_own (M : MetN X.prog X.w X.K X.mg X.base k C "__iter__" sp) (hr : Room k X.A) (he : PE X e te) : PI X tg e (iOwn X.K X.s_0.heap.objs.size C sp te) := by
  refine ⟨fun pins s σ H R I h => ?_⟩
  refine thn (he.run pins s σ H _ I h) fun v s1 ⟨x, H1, I1, r1, q1⟩ => ?_
  obtain ⟨a, dx, fs, e0, ha, q⟩ := q1
  subst e0
  cases r1
  obtain ⟨f, fd, ps, _, me, F, bs⟩ := M.ex
  obtain ⟨mA, om, _⟩ := ins_get I1.hok ha
  obtain ⟨od, J, _⟩ := om.look
  obtain ⟨m, fr⟩ := I1.fr
  have q := q s1.heap.objs.size I1.sz
  have hl : ([V.ref a] : List V).length = ps.length := F.leN _ _ _ _ _ q
  have r2 : Vals [V.ref a] [Value.ref a] := .cons rfl .nil
  refine PySem.W.owit_iter fr I1.ok.mod.kin J me.at_ me.fn ?_
  have hb := bs s1 [.ref a] I1.kIn (by simpa using hl)
  rw [List.append_nil] at hb
  refine wpAny_call (codeAny_mono (F.go X.A X.stack s1 H1 ⟨[.ref a], []⟩ [.ref a] [.ref a] _ _ hr I1.env0 hb r2 q) fun r s' hq => ?_)
  cases r with
  | error e => exact hq.elim
  | ok fl =>
    cases fl with
    | next => exact False.elim hq
    | brk => exact False.elim hq
    | cont => exact False.elim hq
    | ret u =>
      obtain ⟨v, H2, os, bare, un, hok, rv, it, J2, ev, big, hJ, q2⟩ := hq
      subst ev
      cases rv
      have I2 : Inv X pins σ H2 s' := by
        obtain ⟨hh, g, d, t, os'⟩ := s'
        obtain rfl : os' = s1.os := os
        exact I1.call (h' := hh) (g' := g) (d' := d) (t' := t) (ch := []) un hok bare (fun b z => absurd z (by simp))
      unfold PySem.W.OwitIt
      rcases hJ with ⟨l, hi, rfl⟩ | ⟨l, hi, rfl⟩
      · have eo := itO_get I2 hi
        have hT : s'.TypeIs (.ref it) "list_iterator" := ⟨_, eo, rfl⟩
        refine wpAny_specialOf (name := Str.ofString "__next__") hT slot_listiter_next.lookup ?_
        have hi' := hi
        unfold ItO at hi'
        refine ⟨it, [it], _, _, dropH H2 it, rfl, inv_drop I2 hi', turn_list l it, ⟨_, eo, rfl, rfl⟩, fun b hb => ?_, q2⟩
        have e : b = it := by simpa using hb
        rw [e]
        exact inv_fp I2 hi (Nat.le_trans I1.sz big)
      · have eo : s'.heap.get? it = some (tupItObj l 0) := (I2.hok it _ hi).1
        have hT : s'.TypeIs (.ref it) "tuple_iterator" := ⟨_, eo, rfl⟩
        refine wpAny_specialOf (name := Str.ofString "__next__") hT slot_tupleiter_next.lookup ?_
        have hi' := hi
        unfold ItTO at hi'
        refine ⟨it, [it], _, _, dropH H2 it, rfl, inv_drop I2 hi', turn_tuple l it, ⟨_, eo, rfl, rfl⟩, fun b hb => ?_, q2⟩
        have e : b = it := by simpa using hb
        rw [e]
        exact inv_fp I2 hi (Nat.le_trans I1.sz big)
/-- what __iter__ promises that gives the iterator of a list, a tuple in a field -/
def spIterL (K : PySem.W.Frag) (C : Addr) (fld : Str) : Nat → Sp := fun n vs H Q _ => ∃ a dx fs l xs, vs = [.ref a] ∧ H a = some (.ins C dx fs) ∧ fs.lookup fld = some (.ref l) ∧ SqL K H l xs ∧ ∀ it, H it = none → n ≤ it → Q (.ref it) (upd H it (ItO l it 0))
def spIterT (K : PySem.W.Frag) (C : Addr) (fld : Str) : Nat → Sp := fun n vs H Q _ => ∃ a dx fs l xs, vs = [.ref a] ∧ H a = some (.ins C dx fs) ∧ fs.lookup fld = some (.ref l) ∧ SqT K H l xs ∧ ∀ it, H it = none → n ≤ it → Q (.ref it) (upd H it (ItTO l it))
/-- len(y), y an instance of C -/
def rLenM (C : Addr) (sp : Sp) : List V → Hp → VK → Prop := fun xs H Q => ∃ a dx fs, xs = [.ref a] ∧ H a = some (.ins C dx fs) ∧ sp [.ref a] H (fun z H' => ∃ n : Int, z = .int n ∧ 0 ≤ n ∧ n < 2 ^ 63 ∧ Q (.int n) H') E0
variable {sq : Sp}
theorem call_lenM (M : C8.Met X.prog X.w X.K X.mg X.base k C "__len__" sq []) (hr : Room (k + 1) X.A) : CallR X (.builtin "len") (rLenM C sq) := by
  intro pins s σ H xs us Q I r h
  obtain ⟨a, dx, fs, rfl, ha, q⟩ := h
  obtain ⟨u, rfl, ru⟩ := vals1 r
  cases ru
  obtain ⟨f, fd, ps, ds, _, me, F, bs, vs⟩ := M.ex
  cases vs
  obtain ⟨mA, om, _⟩ := ins_get I.hok ha
  obtain ⟨od, J, _⟩ := om.look
  obtain ⟨m, fr⟩ := I.fr
  have hl : ([V.ref a] : List V).length = ps.length := F.len _ _ _ _ q
  have r2 : Vals [V.ref a] [Value.ref a] := .cons rfl .nil
  refine PySem.W.len_K fr I.ok.mod.kin J me.at_ me.fn ?_
  have hb := bs s [.ref a] I.kIn (by simpa using hl)
  rw [List.append_nil] at hb
  have e0 : Env0 X.prog X.w X.K X.mg X.base X.A.in1 X.stack s H := I.env0.in1
  refine wpAny_call (codeAny_mono (F.run X.A.in1 X.stack s H ⟨[.ref a], []⟩ [.ref a] [.ref a] _ _ hr.in1 e0 hb r2 q) fun r s' hq => ?_)
  cases r with
  | error e => exact hq.elim
  | ok fl =>
    cases fl with
    | next => exact False.elim hq
    | brk => exact False.elim hq
    | cont => exact False.elim hq
    | ret u =>
      obtain ⟨v, H2, os, bare, un, hok, rv, n, ev, h0, h1, q2⟩ := hq
      subst ev
      obtain ⟨t, rfl⟩ := rv
      have I2 : Inv X pins σ H2 s' := by
        obtain ⟨hh, g, d, t, os'⟩ := s'
        obtain rfl : os' = s.os := os
        exact I.call (h' := hh) (g' := g) (d' := d) (t' := t) (ch := []) un hok bare (fun b z => absurd z (by simp))
      exact ⟨⟨h0, h1⟩, .int n, H2, I2.tok _, ⟨_, rfl⟩, q2⟩
end
end RH
namespace RH
open PySem PySem.Spec PyProof.Rows L2
section
variable {P : Program} {w : World} {A : Around} {E : Value → Shared → Prop} {s : Shared} {a b : Addr} {o : Obj} {es : Array (Int × Value)} {ep : Nat} {t : SetTable}
theorem setWalk_at {Q : Array (Int × Value) → Shared → Prop} (ho : s.heap.get? a = some o) (hd : o.data = .set es ep t) (hf : t.fits es.size = true) (hl : w.params.followText "set-order" = true ∨ t.led = true)
    (h : ∀ (ys : Array (Int × Value)) d, ys.toList.Perm es.toList → Q ys { s with drawn := d }) : wpAny (model P w) A (setWalk a) Q E s := by
  unfold setWalk
  refine wpAny_bind (wpAny_setState_of ho hd hf ?_)
  dsimp only
  refine wpAny_bind (wpAny_byText ?_)
  cases hbt : w.params.followText "set-order" with
  | true =>
    refine wp_if_pos rfl ?_
    exact wpAny_bind (wpAny_askSetting (wpAny_pure (h _ s.drawn (pick_perm _ es))))
  | false =>
    refine wp_if_neg (by decide) ?_
    by_cases dr : (!t.plain && decide (es.size > 1)) = true
    · refine wp_if_pos dr ?_
      refine wpAny_bind (drawOrder_at es.size es.toList s _ (by rw [Array.length_toList]; exact Nat.le_refl _) fun ys d p => ?_)
      exact wpAny_pure (h ys.toArray d p)
    · refine wp_if_neg dr ?_
      have led : t.led = true := hl.resolve_left (by rw [hbt]; decide)
      refine wpAny_bind ?_
      show wpAny _ _ (if (!t.led && decide (es.size > 1)) = true then unsupported "set:maker-not-led" else pure ()) _ _ _
      refine wp_if_neg (by rw [led]; simp) (wpAny_pure (wpAny_pure ?_))
      exact h es s.drawn (List.Perm.refl _)
/-- a set of ints at a, told by its parts -/
structure SAt (w : World) (h : Heap) (a : Addr) (o : Obj) (es : Array (Int × Value)) (ep : Nat) (t : SetTable) : Prop where
  ho : h.get? a = some o
  hd : o.data = .set es ep t
  good : ∀ e ∈ es.toList, GoodE e
  fit : t.fits es.size = true
  led : w.params.followText "set-order" = true ∨ t.led = true
theorem quiet_at (l : List Addr) {Q : Bool → Shared → Prop} (h : ∀ a ∈ l, ∃ o es ep t, SAt w s.heap a o es ep t) (q : Q true s) : wpAny (model P w) A (setsQuiet l) Q E s := by
  unfold setsQuiet
  refine wpAny_bind (wpAny_forIn_list _ (fun rest b s' => s' = s ∧ b = (none, ()) ∧ ∀ a ∈ rest, ∃ o es ep t, SAt w s.heap a o es ep t) _ ?_ ?_ _ _ ⟨rfl, rfl, h⟩)
  · rintro a rest b s' ⟨rfl, rfl, h⟩
    obtain ⟨o, es, ep, t, x⟩ := h a List.mem_cons_self
    unfold setEntries
    refine wpAny_bind (wpAny_bind (wpAny_setState_of x.ho x.hd x.fit (wpAny_pure ?_)))
    refine wpAny_bind (wpAny_forIn_array' _ (fun left b s2 => s2 = s' ∧ b = (none, ()) ∧ ∀ e ∈ left, GoodE e) _ ?_ ?_ _ _ ⟨rfl, rfl, x.good⟩)
    · rintro ⟨hh, y⟩ left b s2 ⟨rfl, rfl, g⟩
      obtain ⟨k, tk, e, _⟩ := g (hh, y) List.mem_cons_self
      dsimp only at e
      subst e
      exact wpAny_pure ⟨rfl, rfl, fun e he => g e (List.mem_cons_of_mem _ he)⟩
    · rintro b s2 ⟨rfl, rfl, _⟩
      exact wpAny_pure ⟨rfl, rfl, fun c hc => h c (List.mem_cons_of_mem _ hc)⟩
  · rintro b s' ⟨rfl, rfl, _⟩
    exact wpAny_pure q
theorem unseen_at {r : Addr} {others : List Addr} {n : Nat} {S : Int → Bool} {Q : Array (Int × Value) → Shared → Prop} (x : SAt w s.heap a o es ep t) (hx : ∀ b ∈ others, ∃ o es ep t, SAt w s.heap b o es ep t) (R : SetR w s.heap r S n)
    (h : ∀ (ys : Array (Int × Value)) h' d, ys.toList.Perm es.toList → Heap.SameBut r s.heap h' → SetR w h' r S n → Q ys { s with heap := h', drawn := d }) : wpAny (model P w) A (setWalkUnseen a others (some r)) Q E s := by
  unfold setWalkUnseen
  refine wpAny_bind (wpAny_setState_of x.ho x.hd x.fit ?_)
  dsimp only
  refine wpAny_bind (wpAny_byText ?_)
  have wk : wpAny (model P w) A (setWalk a) Q E s := setWalk_at x.ho x.hd x.fit x.led fun ys d p => h ys s.heap d p (Heap.SameBut.refl r s.heap) R
  by_cases c : (w.params.followText "set-order" || (t.led && t.plain) || decide (es.size ≤ 1)) = true
  · refine wp_if_pos c ?_
    exact wk
  · refine wp_if_neg c ?_
    refine wpAny_bind (quiet_at _ (fun b hb => ?_) ?_)
    · rcases List.mem_cons.mp hb with rfl | hb
      · exact ⟨_, _, _, _, x⟩
      · exact hx b hb
    · refine wp_if_neg (by decide) ?_
      refine wpAny_bind (wpAny_rule ?_)
      obtain ⟨o2, es2, ep2, t2, ho2, ex2, hd2, g2, nd2, m2, sm2, f2, num2, ris2, led2⟩ := R
      refine wpAny_bind (wpAny_setState_of ho2 hd2 f2 ?_)
      dsimp only
      by_cases c2 : ((t2.led && !t.led) || (t2.plain && !t.plain)) = true
      · refine wp_if_pos c2 ?_
        have led1 : t.led = true := x.led.resolve_left (fun z => c (by rw [z]; rfl))
        refine wpAny_bind (wpAny_storeSet_of ho2 hd2 ?_ (fits_of_scanBound sm2))
        refine wpAny_pure (h es _ s.drawn (List.Perm.refl _) (Heap.SameBut.update s.heap r _) ?_)
        exact ⟨_, es2, _, _, store_at ho2 hd2, ex2, rfl, g2, nd2, m2, sm2, f2, num2, ris2, led2.imp id fun z => by show (t2.led && t.led) = true; rw [z, led1]; rfl⟩
      · refine wp_if_neg c2 ?_
        exact wpAny_pure (h es s.heap s.drawn (List.Perm.refl _) (Heap.SameBut.refl r s.heap) ⟨o2, es2, ep2, t2, ho2, ex2, hd2, g2, nd2, m2, sm2, f2, num2, ris2, led2⟩)
theorem sat_of {h : Heap} {S : Int → Bool} {n : Nat} (R : SetR w h a S n) : ∃ o es ep t, SAt w h a o es ep t ∧ o.ExactSet ∧ (∀ k, S k = true ↔ k ∈ es.toList.map keyOf) ∧ (es.toList.map keyOf).Nodup ∧ es.size < scanBound ∧ es.size = n := by
  obtain ⟨o, es, ep, t, ho, ex, hd, good, nod, mem, small, fit, num, rise, led⟩ := R
  exact ⟨o, es, ep, t, ⟨ho, hd, good, fit, led⟩, ex, mem, nod, small, num⟩
theorem SAt.keep {h h' : Heap} (x : SAt w h a o es ep t) (k : ∀ o, h.get? a = some o → h'.get? a = some o) : SAt w h' a o es ep t := ⟨k _ x.ho, x.hd, x.good, x.fit, x.led⟩
/-- the walk of an intersection: of the walked set's elements those that the asked one has -/
theorem meet_loop {id : String} {r c : Addr} {T : Int → Bool} {m : Nat} {Q : Unit → Shared → Prop} (hra : r ≠ a) (hrc : r ≠ c)
    (x : SAt w s.heap a o es ep t) (small : es.size + 1 < scanBound) (C : SetR w s.heap c T m) (R : SetR w s.heap r (fun _ => false) 0)
    (h : ∀ h' d k, Heap.SameBut r s.heap h' → SetR w h' r (fun j => decide (j ∈ es.toList.map keyOf) && T j) k → Q () { s with heap := h', drawn := d }) :
    wpAny (model P w) A (do
      for (h, x) in ← setWalkUnseen a [c, r] (some r) do
        holding [x] do
          if (← setFind c x h).isSome then
            let _ ← setAddHashed r x h
        Builtin.Frozenset.unchanged id a ep
      pure ()) Q E s := by
  obtain ⟨o3, es3, ep3, t3, x3, _⟩ := sat_of C
  obtain ⟨o4, es4, ep4, t4, x4, _⟩ := sat_of R
  refine wpAny_bind (unseen_at x (fun b hb => ?_) R fun ys h1 d p sb R1 => ?_)
  · rcases List.mem_cons.mp hb with rfl | hb
    · exact ⟨_, _, _, _, x3⟩
    · rw [List.mem_singleton.mp hb]
      exact ⟨_, _, _, _, x4⟩
  · refine wpAny_bind (wpAny_forIn_array' _ (fun rest _ s' => ∃ h' S k, s' = { s with heap := h', drawn := d } ∧ Heap.SameBut r s.heap h' ∧ SetR w h' r S k ∧ k + rest.length ≤ es.size ∧ (∀ e ∈ rest, GoodE e) ∧
        ∀ j, (S j = true ∨ (j ∈ rest.map keyOf ∧ T j = true)) ↔ (j ∈ es.toList.map keyOf ∧ T j = true)) _ ?_ ?_ _ _ ⟨h1, _, 0, rfl, sb, R1, by rw [p.length_eq, Array.length_toList]; omega, fun e he => x.good e (p.mem_iff.mp he), fun j => by
          rw [(p.map keyOf).mem_iff]
          simp⟩)
    · rintro ⟨hh, y⟩ rest u s' ⟨h2, S, k, rfl, sb2, R2, room, g, mem⟩
      obtain ⟨i, tk, ey, eh⟩ := g (hh, y) List.mem_cons_self
      dsimp only at ey eh
      subst ey eh
      have keyE : keyOf (hashInt i, Value.int i tk) = i := rfl
      rw [List.length_cons] at room
      have g2 : ∀ e ∈ rest, GoodE e := fun e he => g e (List.mem_cons_of_mem _ he)
      obtain ⟨o5, es5, ep5, t5, ho5, ex5, hd5, good5, nod5, mem5, small5, fit5, num5, rise5, led5⟩ := C.at (h' := h2) fun ob e => (sb2.2 c hrc.symm).trans e
      have back : ∀ (h3 : Heap) (S3 : Int → Bool) (k3 : Nat), Heap.SameBut r h2 h3 → SetR w h3 r S3 k3 → k3 ≤ k + 1 → (∀ j, S3 j = (S j || (T j && decide (j = i)))) →
          wpAny (model P w) A (Builtin.Frozenset.unchanged id a ep) (fun _ s₁ => wpAny (model P w) A (pure (ForInStep.yield PUnit.unit)) (fun r_1 s' => match r_1 with
            | .yield b' => ∃ h' S k, s' = { s with heap := h', drawn := d } ∧ Heap.SameBut r s.heap h' ∧ SetR w h' r S k ∧ k + rest.length ≤ es.size ∧ (∀ e ∈ rest, GoodE e) ∧ ∀ j, (S j = true ∨ (j ∈ rest.map keyOf ∧ T j = true)) ↔ (j ∈ es.toList.map keyOf ∧ T j = true)
            | .done b' => wpAny (model P w) A (pure ()) Q E s') E s₁) E { s with heap := h3, drawn := d } := fun h3 S3 k3 sb3 R3 le eq => by
        have x3 := x.keep (h' := h3) fun ob e => (sb3.2 a hra.symm).trans ((sb2.2 a hra.symm).trans e)
        unfold Builtin.Frozenset.unchanged
        refine wpAny_bind (wpAny_setEpoch_of x3.ho x3.hd x3.fit ?_)
        refine wp_if_neg (by simp) (wpAny_pure (wpAny_pure ⟨h3, S3, k3, rfl, sb2.trans sb3, R3, by omega, g2, fun j => ?_⟩))
        rw [← mem j, eq j, List.map_cons, keyE, List.mem_cons, Bool.or_eq_true, Bool.and_eq_true, decide_eq_true_iff]
        constructor
        · rintro ((z | ⟨z1, z2⟩) | ⟨z1, z2⟩)
          · exact .inl z
          · exact .inr ⟨.inl z2, z1⟩
          · exact .inr ⟨.inr z1, z2⟩
        · rintro (z | ⟨z1 | z1, z2⟩)
          · exact .inl (.inl z)
          · exact .inl (.inr ⟨z2, z1⟩)
          · exact .inr ⟨z1, z2⟩
      refine wpAny_bind (wpAny_holding (wpAny_bind (PySem.W.setFind_any (knd := intKind P w) (k := i) (S := T) (intKind_is P w i tk) rfl ho5 hd5 (good_elems good5) (fun k => (mem5 k).trans (good_mem good5 k)) small5 fit5 fun fr hfr => ?_)))
      rw [hfr]
      cases hT : T i with
      | true =>
        refine wp_if_pos rfl ?_
        refine wpAny_bind (setR_add_hashed (k := i) (tk := tk) R2 (by omega) fun h3 sb3 R3 => wpAny_pure ?_)
        refine wpAny_bind (back h3 _ _ sb3 R3 (by split <;> omega) fun j => ?_)
        by_cases z : j = i
        · subst z
          rw [hT, Bool.true_and]
        · rw [decide_eq_false z, Bool.and_false]
      | false =>
        refine wp_if_neg (by decide) (wpAny_pure ?_)
        refine wpAny_bind (back h2 S k (Heap.SameBut.refl r h2) R2 (by omega) fun j => ?_)
        by_cases z : j = i
        · subst z
          rw [hT, Bool.false_and, Bool.or_false]
        · rw [decide_eq_false z, Bool.and_false, Bool.or_false]
    · rintro u s' ⟨h2, S, k, rfl, sb2, R2, _, _, mem⟩
      refine wpAny_pure (h h2 d k sb2 (R2.congr fun j => ?_))
      have q := mem j
      simp only [List.map_nil, List.not_mem_nil, false_and, or_false] at q
      rw [Bool.eq_iff_iff, Bool.and_eq_true, decide_eq_true_iff]
      exact q.symm
theorem entry_set_and : entryFor table "set.__and__" = some Builtin.«frozenset.__and__» := entryFor_alias (id' := "frozenset.__and__") (by kernel_rfl) rfl (by decide +kernel) (by kernel_rfl)
theorem sub_set_set : isSubtype (.type "set") (.type "set") = pure true := by rw [isSubtype_type]; kernel_rfl
theorem setR_ty {S : Int → Bool} {n : Nat} (R : SetR w s.heap a S n) : s.TypeIs (.ref a) "set" := by
  obtain ⟨o, es, ep, t, ho, ex, _⟩ := R
  exact ⟨o, ho, ex.1⟩
theorem anySet_at {S : Int → Bool} {n : Nat} {Q : Bool → Shared → Prop} (R : SetR w s.heap a S n) (q : Q true s) : wpAny (model P w) A (Builtin.Frozenset.isAnySet (.ref a)) Q E s := by
  unfold Builtin.Frozenset.isAnySet
  refine wpAny_bind (wpAny_isInstance (setR_ty R) sub_set_set ?_)
  exact wpAny_pure q
theorem size_at {S : Int → Bool} {n : Nat} {Q : Nat → Shared → Prop} (R : SetR w s.heap a S n) (q : Q n s) : wpAny (model P w) A (Builtin.Frozenset.sizeOf a) Q E s := by
  obtain ⟨o, es, ep, t, ho, ex, hd, good, nod, mem, small, fit, num, rise, led⟩ := R
  unfold Builtin.Frozenset.sizeOf setEntries
  refine wpAny_bind (wpAny_bind (wpAny_setState_of ho hd fit (wpAny_pure (wpAny_pure ?_))))
  rw [num]
  exact q
theorem set_and_body {id : String} {S T : Int → Bool} {n m : Nat} {Q : Value → Shared → Prop} (hne : a ≠ b) (RA : SetR w s.heap a S n) (RB : SetR w s.heap b T m) (sn : n ≤ 1000) (sm : m ≤ 1000)
    (h : ∀ h' d p k, (∀ c ob, s.heap.get? c = some ob → h'.get? c = some ob) → s.heap.objs.size ≤ p → SetR w h' p (fun j => S j && T j) k → Q (.ref p) { s with heap := h', drawn := d }) :
    wpAny (model P w) A (Builtin.Frozenset.intersection id a (.ref b)) Q E s := by
  unfold Builtin.Frozenset.intersection
  have e0 : (Value.ref b == Value.ref a) = false := beq_eq_false_iff_ne.mpr fun z => hne (Value.ref.inj z).symm
  simp only [e0, Bool.false_eq_true, if_false]
  unfold Builtin.Frozenset.baseOf
  refine wpAny_bind (wpAny_bind (wpAny_isInstance (setR_ty RA) sub_set_set (wpAny_pure ?_)))
  rw [if_pos rfl]
  refine wpAny_bind (PySem.wpAny_newSet_raw fun led hl => ?_)
  subst hl
  have R0 := setR_fresh (h := s.heap) w
  have ka : ∀ ob, s.heap.get? a = some ob → (s.heap.push { cls := .type "set", dict := none, data := .set #[] 0 (.fresh 0 0 (!w.params.followText "set-order")) }).get? a = some ob := fun ob e => Heap.get?_push_of_some _ e
  have kb : ∀ ob, s.heap.get? b = some ob → (s.heap.push { cls := .type "set", dict := none, data := .set #[] 0 (.fresh 0 0 (!w.params.followText "set-order")) }).get? b = some ob := fun ob e => Heap.get?_push_of_some _ e
  have kall : ∀ c ob, s.heap.get? c = some ob → (s.heap.push { cls := .type "set", dict := none, data := .set #[] 0 (.fresh 0 0 (!w.params.followText "set-order")) }).get? c = some ob := fun c ob e => Heap.get?_push_of_some _ e
  have RA1 := RA.at ka
  have RB1 := RB.at kb
  have na : s.heap.objs.size ≠ a := Nat.ne_of_gt (SetR.lt RA)
  have nb : s.heap.objs.size ≠ b := Nat.ne_of_gt (SetR.lt RB)
  have old : ∀ h', Heap.SameBut s.heap.objs.size (s.heap.push { cls := .type "set", dict := none, data := .set #[] 0 (.fresh 0 0 (!w.params.followText "set-order")) }) h' → ∀ c ob, s.heap.get? c = some ob → h'.get? c = some ob := fun h' sb c ob e =>
    (sb.2 c (Nat.ne_of_lt (Heap.lt_size e))).trans (kall c ob e)
  generalize s.heap.push { cls := .type "set", dict := none, data := .set #[] 0 (.fresh 0 0 (!w.params.followText "set-order")) } = H1 at R0 ka kb kall RA1 RB1 old
  refine wpAny_bind (wpAny_pure ?_)
  refine wpAny_bind (wpAny_holding (wpAny_bind (anySet_at (s := { s with heap := H1 }) RB1 ?_)))
  rw [if_pos rfl]
  refine wpAny_bind (wpAny_pure ?_)
  refine wpAny_bind (size_at (s := { s with heap := H1 }) RB1 ?_)
  refine wpAny_bind (size_at (s := { s with heap := H1 }) RA1 ?_)
  by_cases c : m > n
  · simp only [if_pos c]
    obtain ⟨o, es, ep, t, x, ex, mem, nod, small, num⟩ := sat_of RA1
    refine wpAny_bind (wpAny_setEpoch_of x.ho x.hd x.fit ?_)
    refine meet_loop (s := { s with heap := H1 }) na nb x (by unfold scanBound; omega) RB1 R0 fun h' d k sb R => wpAny_pure (h h' d _ k (old h' sb) (Nat.le_refl _) (R.congr fun j => ?_))
    rw [Bool.eq_iff_iff, Bool.and_eq_true, Bool.and_eq_true, decide_eq_true_iff, mem j]
  · simp only [if_neg c]
    obtain ⟨o, es, ep, t, x, ex, mem, nod, small, num⟩ := sat_of RB1
    refine wpAny_bind (wpAny_setEpoch_of x.ho x.hd x.fit ?_)
    refine meet_loop (s := { s with heap := H1 }) nb na x (by unfold scanBound; omega) RA1 R0 fun h' d k sb R => wpAny_pure (h h' d _ k (old h' sb) (Nat.le_refl _) (R.congr fun j => ?_))
    rw [Bool.eq_iff_iff, Bool.and_eq_true, Bool.and_eq_true, decide_eq_true_iff, mem j, and_comm]
theorem set_and {S T : Int → Bool} {n m : Nat} {Q : Value → Shared → Prop} (hne : a ≠ b) (RA : SetR w s.heap a S n) (RB : SetR w s.heap b T m) (sn : n ≤ 1000) (sm : m ≤ 1000)
    (h : ∀ h' d p k, (∀ c ob, s.heap.get? c = some ob → h'.get? c = some ob) → s.heap.objs.size ≤ p → SetR w h' p (fun j => S j && T j) k → Q (.ref p) { s with heap := h', drawn := d }) :
    wpAny (model P w) A (binaryOp .BitAnd (.ref a) (.ref b)) Q E s := by
  refine wpAny_binaryOp_same (T := "set") (setR_ty RA) (setR_ty RB) F.fills_set_and F.slot_set_and (wpAny_call_entry F.slot_set_and (setR_ty RA) entry_set_and ?_ (F.args_set_and_2 _ _))
  show wpAny _ _ (Builtin.Frozenset.slot1 "__and__" ⟨[.ref a, .ref b], []⟩ >>= fun z => (do
      let y ← (Builtin.Frozenset.isAnySet z.1 <&&> Builtin.Frozenset.isAnySet z.2)
      if (!y) = true then (do
        rule s!"frozenset.{"__and__"}.declined"
        let v ← ret Value.notImplemented
        pure v)
      else (do
        let u ← Builtin.Frozenset.addrOf z.1
        let v ← Builtin.Frozenset.intersection s!"frozenset.{"__and__"}" u z.2
        ret v) : Sem Fin)) _ _ _
  unfold Builtin.Frozenset.slot1 slotArgs
  refine wpAny_bind (wpAny_bind (wpAny_pure (wpAny_pure ?_)))
  refine wpAny_bind (wpAny_bind (anySet_at RA ?_))
  show wpAny _ _ (Builtin.Frozenset.isAnySet (.ref b)) _ _ _
  refine anySet_at RB ?_
  refine wp_if_neg (by decide) ?_
  refine wpAny_bind (wpAny_pure ?_)
  refine wpAny_bind (set_and_body hne RA RB sn sm fun h' d p k keep grow R => ?_)
  exact wpAny_pure ⟨_, rfl, nofun, h h' d p k keep grow R⟩
end
end RH
namespace RH
open PySem PySem.Spec PyProof.Rows L2
section
variable {X : Cx}
/-- a & b of two sets of ints: k is how many both have -/
def rAndS (w : World) : R2 := fun x y H Q => ∃ (a b : Addr) (S T : Int → Bool) (n m : Nat), x = .ref a ∧ y = .ref b ∧ a ≠ b ∧ H a = some (SetO w a S n) ∧ H b = some (SetO w b T m) ∧ n ≤ 1000 ∧ m ≤ 1000 ∧
  ∀ p k, H p = none → (∀ l : List Int, l.Nodup → (∀ j, j ∈ l ↔ (S j && T j) = true) → k = l.length) → Q (.ref p) (upd H p (SetO w p (fun j => S j && T j) k))
theorem card_of {w : World} {h : Heap} {a : Addr} {S : Int → Bool} {k : Nat} (R : SetR w h a S k) (l : List Int) (nd : l.Nodup) (hm : ∀ j, j ∈ l ↔ S j = true) : k = l.length := by
  obtain ⟨o, es, ep, t, ho, ex, hd, good, nod, mem, small, fit, num, rise, led⟩ := R
  have p : l.Perm (es.toList.map keyOf) := (List.perm_ext_iff_of_nodup nd nod).mpr fun j => by rw [hm j, mem j]
  rw [← num, p.length_eq, List.length_map, Array.length_toList]
theorem op_andS : OpR X (binaryOp .BitAnd) (rAndS X.w) := by
  intro pins s σ H x y v u Q I rx ry h
  obtain ⟨a, b, S, T, n, m, rfl, rfl, hne, ha, hb, sn, sm, q⟩ := h
  cases (show v = Value.ref a from rx)
  cases (show u = Value.ref b from ry)
  refine set_and hne (setO_get I ha) (setO_get I hb) sn sm fun h' d p k keep hp R => ?_
  have free : H p = none := I.hok.fresh hp
  have J : Inv X pins σ (upd H p (SetO X.w p (fun j => S j && T j) k)) { s with heap := h', gens := s.gens, drawn := d, toks := s.toks } :=
    I.call (ch := []) (Un.laid keep hp free) (I.hok.laid keep hp (setO_new R)) I.bare (fun _ z => nomatch z)
  exact ⟨.ref p, _, J, rfl, q p k free (card_of R)⟩
/-- len of a set of ints -/
def rLenSt (w : World) : List V → Hp → VK → Prop := fun xs H Q => ∃ (a : Addr) (S : Int → Bool) (n : Nat), xs = [.ref a] ∧ H a = some (SetO w a S n) ∧ Q (.int n) H
theorem call_lenSt : CallR X (.builtin "len") (rLenSt X.w) := by
  intro pins s σ H xs us Q I r h
  obtain ⟨a, S, n, rfl, ha, q⟩ := h
  rw [Vals.ref1 r]
  obtain ⟨o, es, ep, t, ho, ex, hd, good, nod, mem, small, fit, num, rise, led⟩ := setO_get I ha
  refine call_len_set ho ex hd fit (by have : es.size < 4096 := small; omega) ?_
  rw [num]
  exact ⟨.int n, H, I.tok _, ⟨_, rfl⟩, q⟩
end
/-- enough(members, owners, count) -/
def spEnough (K : PySem.W.Frag) : Sp := fun vs H Q _ => ∃ (a b : Addr) (ms os : List Int) (c : Int), vs = [.ref a, .ref b, .int c] ∧ SqL K H a (ms.map V.int) ∧ SqL K H b (os.map V.int) ∧ ms.length ≤ 1000 ∧ os.length ≤ 1000 ∧ os.Nodup ∧
  ∀ H', Same H H' → Q (.bl (decide (c ≤ ((os.filter fun o => decide (o ∈ ms)).length : Int)))) H'
end RH
namespace RH
open PySem PySem.Spec PyProof.Rows L2
/-! ### {x for .. in ..}, ints -/
def ScGo (w : World) (J : It) (g : TG) (tt : TT) (te : TE) (vs : List Nat) (σ : L2.St) (D : Addr) (Qd : Hp → Prop) (H1 : Hp) : Prop :=
  ∃ W : Nat → Nat → Hp → Prop, (∃ m, W 0 m (upd H1 D (SetO w D (fun _ => false) 0))) ∧ ∀ i m H, W i m H →
    (J.stop i H ∧ Qd H) ∨ (J.go i H ∧ ∃ Nx : Hp → Prop, (∀ H', Nx H' → ∃ m', m' < m ∧ W (i + 1) m' H') ∧ ∀ x H', J.yld i H x H' → g x (wipe σ vs) H' fun σ2 H2 => wipe σ2 vs = wipe σ vs ∧ tt σ2 H2 fun b H3 =>
      if b = true then te σ2 H3 fun y H4 => ∃ (k : Int) (S : Int → Bool) (n : Nat), y = .int k ∧ H4 D = some (SetO w D S n) ∧ n + 1 < scanBound ∧ Nx (upd H4 D (SetO w D (fun j => S j || decide (j = k)) (if S k = true then n else n + 1))) else Nx H3)
def tScI (w : World) (wi : TI) (g : TG) (tt : TT) (te : TE) (vs : List Nat) : TE := fun σ H Q => wi σ H fun J H1 => ∀ D, H1 D = none → ScGo w J g tt te vs σ D (Q (.ref D)) H1
theorem r_sc {w : World} {wi : TI} {g : TG} {tt : TT} {te : TE} {vs : List Nat} {σ : L2.St} {H : Hp} {Q : VK} (h : wi σ H fun J H1 => ∀ D, H1 D = none → ScGo w J g tt te vs σ D (Q (.ref D)) H1) : tScI w wi g tt te vs σ H Q := h
section
variable {X : Cx} {pins : List (Addr × Obj)} {σ : L2.St} {H : Hp} {s : Shared} {D : Addr}
/-- one int more in the set at D -/
theorem one_more {E : Value → Shared → Prop} {S : Int → Bool} {n : Nat} {k : Int} {u : Value} {R : Value → Shared → Prop} (I : Inv X pins σ H s) (at_ : H D = some (SetO X.w D S n)) (room : n + 1 < scanBound) (ru : RelV (.int k) u)
    (q : ∀ s2, Inv X pins σ (upd H D (SetO X.w D (fun j => S j || decide (j = k)) (if S k = true then n else n + 1))) s2 → R .none s2) : wpAny (model X.prog X.w) X.A (call (.builtin "set.add") [.ref D, u]) R E s := by
  obtain ⟨tk, rfl⟩ := ru
  refine setR_add (setO_get I at_) room fun hp same made => q _ ?_
  obtain ⟨o, es, ep, t, stands, rest⟩ := made
  refine I.write (e := D) (t' := s.toks + 1) (by rw [at_]; trivial) (.inl rfl) (fun b v nb hv => ?_) ⟨o, stands⟩ (setO_new ⟨o, es, ep, t, stands, rest⟩)
  rw [same.2 b nb]
  exact hv
/-- a new set is laid -/
theorem laid_set {fp : List Addr} (I : Inv X pins σ H s) : Inv X pins σ (upd H s.heap.objs.size (SetO X.w s.heap.objs.size (fun _ => false) 0)) { s with heap := s.heap.push (set0 X.w) } :=
  I.laid (t' := s.toks) (fun _ _ e => Heap.get?_push_of_some _ e) (Nat.le_refl _) (setO_new (setR_fresh X.w))

/-- the turns of the block, from any state of its own on -/
theorem sc_turns {elt tg iter : Expr} {ifs : List Expr} {scope : Scope} {pos : Pos} {ce : Env} {s0 : Shared} {H0 : Hp} {fp : List Addr} {it : Addr} {tn : Nat → Heap → Prop} {J : It} {g : TG} {tt : TT} {te : TE} {vs : List Nat} {Qd : Hp → Prop} {R : Result → Shared → Prop}
    {W : Nat → Nat → Hp → Prop} {m0 : Nat} (calm : X.calm = true) (T : Turn X.prog X.w X.K tg J fp it tn) (pg : PG (X.blk s0 H0 scope ce fp) tg g) (pt : PTs (X.blk s0 H0 scope ce fp) ifs tt) (pe : PE (X.blk s0 H0 scope ce fp) elt te)
    (I : Inv (X.blk s0 H0 scope ce fp) [] (wipe σ vs) H s) (st : tn 0 s.heap) (un : ∀ b ∈ fp, H b = none) (w0 : W 0 m0 H)
    (turn : ∀ i m H, W i m H → (J.stop i H ∧ Qd H) ∨ (J.go i H ∧ ∃ Nx : Hp → Prop, (∀ H', Nx H' → ∃ m', m' < m ∧ W (i + 1) m' H') ∧ ∀ x H', J.yld i H x H' → g x (wipe σ vs) H' fun σ2 H2 => wipe σ2 vs = wipe σ vs ∧ tt σ2 H2 fun b H3 =>
      if b = true then te σ2 H3 fun y H4 => ∃ (k : Int) (S : Int → Bool) (n : Nat), y = .int k ∧ H4 D = some (SetO X.w D S n) ∧ n + 1 < scanBound ∧ Nx (upd H4 D (SetO X.w D (fun j => S j || decide (j = k)) (if S k = true then n else n + 1))) else Nx H3))
    (last : ∀ H5 s6, Inv (X.blk s0 H0 scope ce fp) [] (wipe σ vs) H5 s6 → Qd H5 → R (.ok .next) s6) :
    codeAny (model X.prog X.w) X.A (.compLoop (.SetComp elt [⟨tg, iter, ifs, 0⟩] scope pos) 0 (.ref it) (.ref D) ce) R s := by
  have fit : ∀ {σ' : L2.St} {Hc : Hp} {sc : Shared}, Inv (X.blk s0 H0 scope ce fp) [] σ' Hc sc → (∀ b ∈ fp, Hc b = none) → ∀ b ∈ fp, FpOk (X.blk s0 H0 scope ce fp) [] Hc b := by
    intro σ' Hc sc Ic uc b hb
    refine ⟨uc b hb, (Ic.ok.exf b hb).1, Ic.ok.exfs b hb, .inl hb, (Ic.ok.exf b hb).2, fun p hp => ?_⟩
    exact nomatch (show p ∈ ([] : List (Addr × Obj)) from hp)
  refine PpSet.compLoopS_any (fun left sc => ∃ i Hc, W i left Hc ∧ tn i sc.heap ∧ (∀ b ∈ fp, Hc b = none) ∧ Inv (X.blk s0 H0 scope ce fp) [] (wipe σ vs) Hc sc) ?_ m0 ⟨0, H, w0, st, un, I⟩
  rintro left sc ⟨i, Hc, wc, tc, uc, Ic⟩
  rcases turn i left Hc wc with ⟨stops, fin⟩ | ⟨goes, Nx, onward, does⟩
  · refine thnF (T.done (X.blk s0 H0 scope ce fp) rfl rfl rfl calm i [] sc _ Hc (fun _ _ => False) Ic (fit Ic uc) tc stops) ?_
    rintro _ se ⟨rfl, Ie⟩
    exact last Hc se Ie fin
  · refine thnF (T.item (X.blk s0 H0 scope ce fp) rfl rfl rfl calm i [] sc _ Hc (fun _ _ => False) Ic (fit Ic uc) tc goes) ?_
    rintro _ sd ⟨u, rfl, got⟩
    refine thnF got ?_
    rintro _ se ⟨x, He, Ie, rx, hy, te', ue⟩
    refine thnF (pg.run _ se _ He x u _ (Ie.pinned (fit Ie ue) (T.obj _ _ te')) rx (does x He hy)) ?_
    rintro _ sf ⟨σf, Hf, If, same, test⟩
    refine thnF (pt.run _ sf σf Hf _ If test) ?_
    rintro b sg ⟨Hg, Ig, item⟩
    have close : ∀ (sh : Shared) (Hh : Hp), Inv (X.blk s0 H0 scope ce fp) ([] ++ pinsAt fp se.heap) σf Hh sh → Nx Hh → ∃ m, m < left ∧ ∃ i Hc, W i m Hc ∧ tn i sh.heap ∧ (∀ b ∈ fp, Hc b = none) ∧ Inv (X.blk s0 H0 scope ce fp) [] (wipe σ vs) Hc sh := by
      intro sh Hh Ih nx
      obtain ⟨m, less, wm⟩ := onward Hh nx
      have held : ∀ c ∈ fp, ∀ o, se.heap.get? c = some o → sh.heap.get? c = some o ∧ Hh c = none := fun c hc o e => by
        have z := Ih.pin (c, o) (List.mem_append_right _ (List.mem_append_right _ (mem_pinsAt hc e)))
        exact ⟨z.1, z.2.1⟩
      refine ⟨m, less, i + 1, Hh, wm, T.keep _ _ _ te' (fun c hc o e => (held c hc o e).1), fun c hc => ?_, ?_⟩
      · obtain ⟨o, e, _⟩ := T.obj _ _ te' c hc
        exact (held c hc o e).2
      · refine (Ih.unpinned (pins := [])).weak (by rw [← same, wipe_length]) fun j v e => ?_
        rw [← same] at e
        exact (wipe_some e).1
    rcases Bool.eq_false_or_eq_true b with rfl | rfl
    · simp only [if_true] at item ⊢
      refine thnF (pe.run _ sg σf Hg _ Ig item) ?_
      rintro z sh ⟨y, Hh, Ih, ry, k, S, n, rfl, at_, room, nx⟩
      exact one_more (X := X.blk s0 H0 scope ce fp) Ih at_ room ry fun s2 I2 => close s2 _ I2 nx
    · simp only [Bool.false_eq_true, if_false] at item ⊢
      exact close sg Hg Ig item
/-- {x for .. in ..}: a new set of ints -/
theorem pe_scI {elt tg iter : Expr} {ifs : List Expr} {scope : Scope} {own : List (PySem.Str × Nat)} {pos : Pos} {wi : TI} {g : TG} {tt : TT} {te : TE} (calm : X.calm = true) (nd : X.N.Nodup) (walks : PI X tg iter wi) (blk : BlkOk X.N X.env.scope scope own)
    (tgt : ∀ (s : Shared) (H : Hp) (C : Addr) (cl : List (PySem.Str × Addr)) (fp : List Addr), PG (X.blk s H scope (compEnvC scope cl C X.env) fp) tg g)
    (tests : ∀ (s : Shared) (H : Hp) (C : Addr) (cl : List (PySem.Str × Addr)) (fp : List Addr), PTs (X.blk s H scope (compEnvC scope cl C X.env) fp) ifs tt)
    (item : ∀ (s : Shared) (H : Hp) (C : Addr) (cl : List (PySem.Str × Addr)) (fp : List Addr), PE (X.blk s H scope (compEnvC scope cl C X.env) fp) elt te) (fold : ∀ x, foldedSetIterable iter X.env x = pure x := by intro _; rfl) :
    PE X (.SetComp elt [⟨tg, iter, ifs, 0⟩] scope pos) (tScI X.w wi g tt te (own.map (·.2))) := by
  refine ⟨fun pins s σ H Q I h => ?_⟩
  rw [PpSet.eval_SetComp]
  have cells : ∀ y ∈ scope.names, y.2 = .free → ∃ c, X.env.cells.lookup y.1 = some c := fun y hy e => (blk.free y hy e).elim (fun z => I.ok.has _ (.inl z)) fun z => I.ok.has _ (.inr z)
  refine wpAny_comprehension_free (use := none) rfl fold (closure_ok cells) blk.kind (fun y hy e => by rw [blk.uniq y hy, e]) (thn (walks.run pins s σ H _ I h) fun _ sa ha => thn ha fun _ sb hb => ?_)
  obtain ⟨it, fp, tn, J, Hb, rfl, Ib, T, tb, fb, q⟩ := hb
  refine PpSet.newSet_ok (newEnv_comp ?_)
  have none0 : Hb sb.heap.objs.size = none := Ib.hok.fresh (Nat.le_refl _)
  obtain ⟨W, ⟨m0, w0⟩, turn⟩ := q sb.heap.objs.size none0
  have I0 := laid_set (fp := fp) Ib
  have low : ∀ b ∈ fp, b < sb.heap.objs.size := fun b hb => (T.obj _ _ tb b hb).elim fun o e => Heap.lt_size e.1
  have t0 : tn 0 (sb.heap.push (set0 X.w)) := T.keep _ _ _ tb fun b _ o e => Heap.get?_push_of_some _ e
  have f0 : ∀ b ∈ fp, FpOk X pins (upd Hb sb.heap.objs.size (SetO X.w sb.heap.objs.size (fun _ => false) 0)) b ∧ b < (sb.heap.push (set0 X.w)).objs.size := fun b hb => by
    have lt := low b hb
    refine ⟨⟨?_, (fb b hb).2⟩, by rw [Heap.size_push]; exact Nat.lt_succ_of_lt lt⟩
    rw [upd_ne (Nat.ne_of_lt lt)]
    exact (fb b hb).1
  generalize upd Hb sb.heap.objs.size (SetO X.w sb.heap.objs.size (fun _ => false) 0) = Hs at I0 f0 w0
  generalize sb.heap.objs.size = D at *
  show codeAny _ _ (.compStart _ 0 (.ref it) (.ref D) (compEnvC scope (cellsFrom ((sb.heap.push (set0 X.w)).objs.size + 1) scope.names (cloFrom X.env.cells scope.names [])) (sb.heap.push (set0 X.w)).objs.size X.env)) (compPost (model X.prog X.w) X.A X.xe none (EP X pins σ Q) (.ref D) (sb.heap.push (set0 X.w)).objs.size) { sb with heap := pushCells ((sb.heap.push (set0 X.w)).push { cls := .type "dict", data := .dict #[] }) scope.names }
  generalize sb.heap.push (set0 X.w) = hs at I0 t0 f0
  have Iz := block_start I0 blk nd f0
  have loop := sc_turns (elt := elt) (iter := iter) (pos := pos) (R := compPost (model X.prog X.w) X.A X.xe none (EP X pins σ Q) (.ref D) hs.objs.size) calm T
    (tgt { sb with heap := hs } Hs hs.objs.size _ fp) (tests { sb with heap := hs } Hs hs.objs.size _ fp) (item { sb with heap := hs } Hs hs.objs.size _ fp) Iz
    (T.keep _ _ _ t0 fun b _ o e => pushCells_keeps _ _ _ _ (Heap.get?_push_of_some _ e)) (fun b hb => (f0 b hb).1.1) w0 turn fun Hl sl Il ql => ?_
  · exact PpSet.codeAny_compStart_set loop (T.self X.A 0 _ _ _ (T.keep _ _ _ t0 fun b _ o e => pushCells_keeps _ _ _ _ (Heap.get?_push_of_some _ e)) loop)
  · have Ir : Inv X pins σ Hl sl := I0.call' (ch := fp) Il.os Il.base Il.hok Il.bare fun b hb => by
      obtain ⟨_, a1, _, a3, a4, a5⟩ := (f0 b hb).1
      exact ⟨a3, a1, a4, a5⟩
    obtain ⟨m, ns, _⟩ := Il.loc
    obtain ⟨b0, b1, b2, b3, b4, b5⟩ := I0.fpOk (Nat.le_refl hs.objs.size) (show Hl hs.objs.size = none from Il.free)
    exact ⟨m, ns, fun hz sz => ⟨.ref D, Hl, Ir.turned (t' := sl.toks) (fun b o nb e => (sz.2 b nb).trans e) b0 b1 b3 b4 b5, rfl, ql⟩⟩
end
end RH
namespace RH
open PySem PySem.Spec PyProof.Rows L2
theorem pe_c0 {X : Cx} {k j : Nat} {x : Str} {sp : Sp} {dvs : List V} {p pos : Pos} (c : C8.Cal X.prog X.w X.K X.mg X.base k x sp dvs) (hr : Room j X.A) (hk : k ≤ j) (hg : Gl X x)
    (hdb : (x == ("__debug__" : Str)) = false := by decide) : PE X (.Call (.Name x p) [] [] pos) (tCall sp dvs C8.E0 tNil) := by
  obtain ⟨f, fd, ps, ds, F, hm, kp, b, d⟩ := c.ex
  exact pe_call0 F (hr.mono hk) hg hm kp b d pass0 hdb
/-! ### n * text -/
section
variable {prog : Program} {w : World} {A : Around} {E : Value → Shared → Prop} {s : Shared} {x : Str} {t u : Tok} {Q : Value → Shared → Prop}
theorem mul_is {n : Int} (hok : MulOk x n) (h : ∀ t' k, Q (.str (Txt.mul x n) t') { s with toks := k }) : wpAny (model prog w) A (binaryOp .Mult (.int n u) (.str x t)) Q E s := by
  refine lm_binaryOp_repeat_right (T := "str") (U := "int") (id := "str.__mul__") (idl := "int.__mul__") (by decide) (fun s' => typeIs_int s' n u) (typeIs_str s x t) F.fills_int_mul noFill_str_mul F.slot_int_mul lm_noRepeat_int repeat_str F.slot_int_index.lookup
    (call_gives F.slot_int_mul (typeIs_int s n u) F.entry_int_mul (F.args_int_mul_2 _ _) (AutoIntG3.int___mul___int_str_0 n u x t)
      ⟨rfl, typeIs_str s x t, call_gives F.slot_str_mul (typeIs_str s x t) F.entry_str_mul (F.args_str_mul_2 _ _) (gives_str_mul x n t u hok.1 hok.2.1 hok.2.2) ?_⟩)
  unfold Txt.mul at h
  by_cases h1 : n < 1
  · rw [if_pos h1]; have h' := h s.toks (s.toks + 1); rw [if_pos h1] at h'; exact ⟨by decide, h'⟩
  · rw [if_neg h1]; refine post_val_or_made (fun hc => fits_reps (hok.2.2 h1 (by simpa using hc))) fun t' k => ?_
    have h' := h t' k; rw [if_neg h1] at h'; exact h'
end
def rMulIS : R2 := fun x y H Q => ∃ (n : Int) (z : Str), x = .int n ∧ y = .str z ∧ MulOk z n ∧ Q (.str (Txt.mul z n)) H
theorem op_mulIS {X : Cx} : OpR X (binaryOp .Mult) rMulIS := by
  intro pins s σ H x y v u Q I rx ry h
  obtain ⟨n, z, rfl, rfl, ok, q⟩ := h
  obtain ⟨t, rfl⟩ := rx
  obtain ⟨t', rfl⟩ := ry
  exact mul_is ok fun t' tk => ⟨.str _, H, I.tok _, ⟨_, rfl⟩, q⟩
/-! ### pieces of texts -/
theorem cutS_tl (z : Str) (lo hi : Option Int) : (cutS z lo hi).cps.toList = ((z.cps.toList.drop (HT.sIx z.length 0 lo)).take (HT.sIx z.length z.length hi - HT.sIx z.length 0 lo)) := rfl
theorem cutS_len (z : Str) (lo hi : Option Int) : (cutS z lo hi).length ≤ z.length := by
  show (cutS z lo hi).cps.size ≤ z.cps.size
  rw [← Array.length_toList, cutS_tl, List.length_take, List.length_drop, Array.length_toList]
  omega
theorem cutS_ok {z : Str} {lo hi : Option Int} (h : OkS z) : OkS (cutS z lo hi) :=
  ⟨Nat.le_trans (cutS_len ..) h.len, fun c hc => by
    rw [cutS_tl] at hc
    exact h.ok c (List.mem_of_mem_drop (List.mem_of_mem_take hc))⟩
theorem cutS_to {z : Str} (n : Nat) : (cutS z none (some (n : Int))).length = min n z.length := by
  show (cutS z none (some (n : Int))).cps.size = _
  rw [← Array.length_toList, cutS_tl, List.length_take, List.length_drop, Array.length_toList, HT.sIx_none, HT.sIx_nat]
  show min (min n z.length - 0) (z.length - 0) = _
  omega
theorem app_len (x y : Str) : (x ++ y).length = x.length + y.length := Array.size_append
theorem app_ok {x y : Str} (hx : OkS x) (hy : OkS y) (h : x.length + y.length ≤ 1000) : OkS (x ++ y) := by
  refine ⟨by rw [app_len]; exact h, fun c hc => ?_⟩
  have e : (x ++ y).cps.toList = x.cps.toList ++ y.cps.toList := Array.toList_append
  rw [e] at hc
  rcases List.mem_append.mp hc with z | z
  · exact hx.ok c z
  · exact hy.ok c z
theorem sg_ok {c : Nat} (h : okc c = true) : OkS ⟨#[c]⟩ := ⟨by show 1 ≤ 1000; decide, fun d hd => by
  have e : d = c := by simpa using hd
  rw [e]
  exact h⟩
theorem r_sliceS {te : TE} {tl th : TO} {σ : L2.St} {H : Hp} {Q : VK} (h : te σ H fun x H1 => tl σ H1 fun l H2 => th σ H2 fun u H3 => rSlS x l u H3 Q) : tSl rSlS te tl th σ H Q := h
theorem r_slS {z : Str} {lo hi : Option Int} {H : Hp} {Q : VK} (hz : OkS z) (q : Q (.str (cutS z lo hi)) H) : rSlS (.str z) lo hi H Q := ⟨z, rfl, sz1000 hz.len, q⟩
theorem r_ixS {z : Str} {i : Int} {H : Hp} {Q : VK} (hz : OkS z) (h0 : 0 ≤ i) (h1 : i < z.length) (q : ∀ c : Nat, okc c = true → Q (.str ⟨#[c]⟩) H) : rIxS (.str z) (.int i) H Q := by
  obtain ⟨m, rfl⟩ : ∃ m : Nat, i = (m : Int) := ⟨i.toNat, by omega⟩
  have hlt : m < z.cps.toList.length := by rw [Array.length_toList]; show m < z.length; omega
  exact ⟨z, _, z.cps.toList[m], rfl, rfl, sz1000 hz.len, atI_nat (List.getElem?_eq_getElem hlt), q _ (hz.ok _ (List.getElem_mem hlt))⟩
/-! ### what these laws draw by -/
def spCell (K : PySem.W.Frag) : Sp := fun vs H Q _ => ∃ (a : Addr) (ns : List Int) (k : Int), vs = [.ref a, .int k] ∧ SqL K H a (ns.map V.int) ∧ 0 ≤ k ∧ ∀ i : Int, Q (.int i) H
theorem okS_nil : OkS "" := ⟨by decide +kernel, fun c hc => List.all_eq_true.mp (by decide +kernel : (("" : Str).cps.toList.all okc) = true) c hc⟩
def chC : Str := " !\"#$&'()*+,-./0123456789:;<=>?@ABCDEFGHIJKLMNOPQRSTUVWXYZ[\\]^_`" ++ "abcdefghijklmnopqrstuvwxyz{|}~"
theorem chC_ok : OkS chC := ⟨by decide +kernel, fun c hc => List.all_eq_true.mp (by decide +kernel : (chC.cps.toList.all okc) = true) c hc⟩
theorem chC_len : chC.length = 94 := by decide +kernel
def spChars : Sp := fun vs H Q _ => vs = [] ∧ Q (.str chC) H
/-- a word of a number, by letters: not empty if the number is not 0 -/
def spWord : Sp := fun vs H Q _ => ∃ (c : Int) (l : Str) (n : Int), vs = [.int c, .str l, .int n] ∧ OkS l ∧ 0 < l.length ∧ 0 ≤ n ∧ n ≤ 100 ∧ ∀ w : Str, OkS w → w.length ≤ n.toNat → (c ≠ 0 → 0 < n → 0 < w.length) → Q (.str w) H
/-! ### the place of a key -/
def plc (z : Str) : Int := z.cps.toList.foldl (fun (p : Int) (c : Nat) => (p * 31 + c) % 256) 7
def plcW (z : Str) : Int := z.cps.toList.foldl (fun (p : Int) (c : Nat) => p * 31 + c) 7
theorem plc_go : ∀ (l : List Nat) (a b : Int), a = b % 256 → l.foldl (fun (p : Int) (c : Nat) => (p * 31 + c) % 256) a = (l.foldl (fun (p : Int) (c : Nat) => p * 31 + c) b) % 256
  | [], a, b, h => h
  | c :: l, a, b, h => by
    rw [List.foldl_cons, List.foldl_cons]
    exact plc_go l _ _ (by omega)
theorem plc_eq (z : Str) : plc z = plcW z % 256 := plc_go _ _ _ (by decide)
def spPlace : Sp := fun vs H Q _ => ∃ z, vs = [.str z] ∧ OkS z ∧ Q (.int (plc z)) H
def spRight : Sp := fun vs H Q _ => ∃ z, vs = [.str z] ∧ OkS z ∧ Q (.bl true) H
end RH
namespace RH
open PySem PySem.Spec PyProof.Rows L2
/-! ### objects whose __init__ may raise -/
section
variable {X : Cx} {CX : CXT} {k : Nat} {f C : Addr} {fd : FuncData} {ps : List Str} {sp : Sp} {dvs : List V} {ds : List Value} {x : Str} {p pos : Pos} {e : Expr} {es : List Expr} {t : TA} {E : L2.St → XK}
theorem run_makeS {pins : List (Addr × Obj)} {σ : L2.St} {H : Hp} {s : Shared} {Q : VK} {us : List Value} {vs : List V} (M : Mk X.K C f) (F : FnOk X.prog X.w X.K X.mg X.base CX k f fd ps sp) (hr : Room (k + 1) X.A) (hb : Binds X.K fd ps ds) (hd : Vals dvs ds)
    (hx : ∀ x dx, ∀ (pins : List (Addr × Obj)) (s : Shared) (e : Value) (s' : Shared), Inv X pins σ (upd (upd H dx (.own x)) x (.ins C dx [])) s → CX X.stack (upd (upd H dx (.own x)) x (.ins C dx [])) s (E σ) e s' → X.xe e s') (I : Inv X pins σ H s) (r : Vals vs us)
    (h : ∀ x dx, H x = none → H dx = none → dx ≠ x → sp (.ref x :: (vs ++ dvs)) (upd (upd H dx (.own x)) x (.ins C dx [])) (fun v H2 => v = .non ∧ Q (.ref x) H2) (E σ)) :
    wpAny (model X.prog X.w) X.A (call (.ref C) us) (EP X pins σ Q) X.xe s := by
  have hq := h (s.heap.objs.size + 1) s.heap.objs.size (I.hok.fresh (Nat.le_succ _)) (I.hok.fresh (Nat.le_refl _)) (Nat.ne_of_lt (Nat.lt_succ_self _))
  have I2 := Inv.made (C := C) I
  have r2 : Vals (V.ref (s.heap.objs.size + 1) :: (vs ++ dvs)) (Value.ref (s.heap.objs.size + 1) :: (us ++ ds)) := .cons rfl (r.append hd)
  have hl : (Value.ref (s.heap.objs.size + 1) :: us ++ ds).length = ps.length := by
    have e := r2.length
    rw [F.len _ _ _ _ hq] at e
    exact e.symm
  refine wpAny_call (make_map (f := f) I.kIn M.makes M.init (beq_iff_eq.mp M.fn) (codeAny_mono (F.run _ X.stack _ _ ⟨Value.ref (s.heap.objs.size + 1) :: us, []⟩ (Value.ref (s.heap.objs.size + 1) :: (us ++ ds)) _ _ (E σ) (hr.make C us [])
    (I2.env0.make C us []) (hb _ (Value.ref (s.heap.objs.size + 1) :: us) I2.kIn hl) r2 hq) fun r s' hq' => ?_))
  cases r with
  | error e => exact hx _ _ pins _ e s' I2 hq'
  | ok fl =>
    cases fl with
    | ret u =>
      obtain ⟨v, H', I3, rv, ev, q3⟩ := I2.after hq'
      subst ev
      exact ⟨rv, ⟨V.ref (s.heap.objs.size + 1), H', I3, rfl, q3⟩⟩
    | next => exact False.elim hq'
    | brk => exact False.elim hq'
    | cont => exact False.elim hq'
def tMakeS (C : Addr) (sp : Sp) (dvs : List V) (E : L2.St → XK) (t : TA) : TE := fun σ H Q => t σ H fun vs H1 => ∀ x dx, H1 x = none → H1 dx = none → dx ≠ x → sp (.ref x :: (vs ++ dvs)) (upd (upd H1 dx (.own x)) x (.ins C dx [])) (fun v H2 => v = .non ∧ Q (.ref x) H2) (E σ)
theorem pe_makeS (M : Mk X.K C f) (F : FnOk X.prog X.w X.K X.mg X.base (L2.CX X.prog X.w) k f fd ps sp) (hr : Room (k + 1) X.A) (hg : Gl X x) (hm : X.mg x = some (.ref C)) (hb : Binds X.K fd ps ds) (hd : Vals dvs ds) {W : WX} (tk : Takes X W)
    (ha : PA X (e :: es) t) (hdb : (x == ("__debug__" : Str)) = false := by decide) (he : starEach (e :: es) X.env = (false, eval e X.env) :: starEach es X.env := by rfl) (hpl : (backTo pos (starEach es X.env)).any (·.1) = false := by rfl) :
    PE X (.Call (.Name x p) (e :: es) [] pos) (tMakeS C sp dvs (WE W) t) := by
  refine ⟨fun pins s σ H Q I h => ?_⟩
  refine wpAny_Call_Name_kw (ld_glob I hg hm ?_ hdb)
  refine PySem.W.callWith_K (h₀ := X.base) I.ok.mod.kin M.kp (thn (ha.run pos pins s σ H _ I h) fun us s1 ⟨vs, H1, I1, r, q⟩ => ⟨I1.kIn, ?_⟩) he hpl
  exact run_makeS (CX := L2.CX X.prog X.w) (E := WE W) M F hr hb hd (fun x dx pins s e s' I c => passAt tk σ pins _ s e s' I c) I1 r q
end
/-- a class that may be made by its name, its __init__ may raise -/
structure MakX (P : Program) (w : World) (K : PySem.W.Frag) (mg : Str → Option Value) (base : Heap) (k : Nat) (x : Str) (C : Addr) (sp : Sp) : Prop where
  ex : ∃ (f : Addr) (fd : FuncData) (ps : List Str), Mk K C f ∧ FnOk P w K mg base (L2.CX P w) k f fd ps sp ∧ mg x = some (.ref C) ∧ Binds K fd ps []
/-- a def that may raise -/
structure CalX (P : Program) (w : World) (K : PySem.W.Frag) (mg : Str → Option Value) (base : Heap) (k : Nat) (x : Str) (sp : Sp) : Prop where
  ex : ∃ (f : Addr) (fd : FuncData) (ps : List Str), FnOk P w K mg base (L2.CX P w) k f fd ps sp ∧ mg x = some (.ref f) ∧ PySem.W.keepIn K (.ref f) = true ∧ Binds K fd ps []
/-- a property -/
structure Pro (P : Program) (w : World) (K : PySem.W.Frag) (mg : Str → Option Value) (base : Heap) (k : Nat) (C : Addr) (f : Str) (sp : Sp) : Prop where
  ex : ∃ (p g : Addr) (fd : FuncData) (ps : List Str), Cls K C ∧ PropOf K C f p g ∧ FnOk P w K mg base CX0 k g fd ps sp ∧ Binds K fd ps []
section
variable {X : Cx} {k j : Nat} {C : Addr} {x : Str} {sp : Sp} {p pos : Pos} {e : Expr} {es : List Expr} {t : TA} {ta : TE}
/-- made where no error of it is met -/
theorem pe_mk0 (c : MakX X.prog X.w X.K X.mg X.base k x C sp) (hr : Room j X.A) (hk : k + 1 ≤ j) (hg : Gl X x) (ha : PA X (e :: es) t)
    (hdb : (x == ("__debug__" : Str)) = false := by decide) (he : starEach (e :: es) X.env = (false, eval e X.env) :: starEach es X.env := by rfl) (hpl : (backTo pos (starEach es X.env)).any (·.1) = false := by rfl) :
    PE X (.Call (.Name x p) (e :: es) [] pos) (tMake C sp [] C8.E0 t) := by
  obtain ⟨f, fd, ps, M, F, hm, b⟩ := c.ex
  exact pe_make M F (hr.mono hk) hg hm b .nil passL ha hdb he hpl
/-- made in a try -/
theorem pe_mkT {W : WX} (c : MakX X.prog X.w X.K X.mg X.base k x C sp) (hr : Room j X.A) (hk : k + 1 ≤ j) (hg : Gl X x) (tk : Takes X W) (ha : PA X (e :: es) t)
    (hdb : (x == ("__debug__" : Str)) = false := by decide) (he : starEach (e :: es) X.env = (false, eval e X.env) :: starEach es X.env := by rfl) (hpl : (backTo pos (starEach es X.env)).any (·.1) = false := by rfl) :
    PE X (.Call (.Name x p) (e :: es) [] pos) (tMakeS C sp [] (WE W) t) := by
  obtain ⟨f, fd, ps, M, F, hm, b⟩ := c.ex
  exact pe_makeS M F (hr.mono hk) hg hm b .nil tk ha hdb he hpl
theorem pe_pr {f : Str} (c : Pro X.prog X.w X.K X.mg X.base k C f sp) (hr : Room j X.A) (hk : k + 1 ≤ j) (he : PE X e ta) (hab : attributeBase e f X.env (eval e X.env) = eval e X.env) : PE X (.Attribute e f pos) (tProp C sp [] C8.E0 ta) := by
  obtain ⟨pp, g, fd, ps, cl, hp, F, b⟩ := c.ex
  exact pe_prop he cl hp F (hr.mono hk) b .nil pass0 hab
end
/-! ### own errors -/
/-- an own error over ValueError, without own __init__ -/
structure Err (K : PySem.W.Frag) (mg : Str → Option Value) (x : Str) (C : Addr) : Prop where
  xF : PySem.W.excIn K C [.type "ValueError", .type "Exception", .type "BaseException", .type "object"] "ValueError.__new__" = true
  gF : mg x = some (.ref C)
  kF : PySem.W.keepIn K (.ref C) = true
  bF : PySem.W.subIn K (.ref C) (.type "BaseException") = some true
  tF : PySem.W.typeIn K (.ref C) = some (.type "type")
theorem ps_rai {X : Cx} {x : Str} {C : Addr} {W : WX} (e : Err X.K X.mg x C) {m : Str} {j : Nat} {p p2 pos pos' : Pos} (hc : X.calm = true) (tk : Takes X W) (hg : Gl X x) (hdb : (x == ("__debug__" : Str)) = false := by decide) : PS X (.Raise (some (.Call (.Name x p) [.Constant (.str m) j p2] [] pos)) none pos') (fun _ σ H => W (.ref C) none σ H) :=
  ps_raise hc tk (pmk_own PySem.F.excBase_ValueError e.xF e.gF e.kF (raises_own e.bF e.tF) hg hdb)
theorem pe_err {X : Cx} {x : Str} {C : Addr} {pos : Pos} (e : Err X.K X.mg x C) (hg : Gl X x) (hdb : (x == ("__debug__" : Str)) = false := by decide) : PE X (.Name x pos) (tC (.ref C)) := pe_glob (v := .ref C) hg e.gF rfl hdb
/-- isinstance of the error in hand -/
def rIsEx (K : PySem.W.Frag) (cls : Value) (d : Option Addr) (a : Addr) : List V → Hp → VK → Prop := fun xs H Q => ∃ D, cls = .ref D ∧ d = none ∧ ExcC K D ∧ rIsE K D a xs H Q
theorem call_isEx {X : Cx} {a : Addr} {cls : Value} {d : Option Addr} {oe : Obj} {pn : List (Addr × Obj)} (hz : Zc cls d oe) (hf : ∃ vs, oe.data = .fields vs) : CallR (X.suite a ((a, oe) :: pn)) (.builtin "isinstance") (rIsEx X.K cls d a) := by
  intro pins s σ H xs us Q I r h
  obtain ⟨D, rfl, rfl, C, q⟩ := h
  exact call_isE C hz hf pins s σ H xs us Q I r q
theorem kit_own {K : PySem.W.Frag} {D C : Addr} {b : Bool} (h : PySem.W.mroIn K D (.ref C) = some b) (hs : PySem.W.mroIn K D (.ref D) = some true) (hc : PySem.W.isClsIn K C = true) (ht : PySem.W.typeIn K (.ref C) = some (.type "type")) : PySem.W.kitOne K (.ref D) (.ref C) = some b := by
  unfold PySem.W.kitOne
  by_cases e : D = C
  · subst e
    rw [if_pos (by exact beq_self_eq_true _), ← hs, h]
  · rw [if_neg (fun z => e (Value.ref.inj (eq_of_beq z)))]
    have e2 : ((PySem.W.clsIn K C).isSome && PySem.W.typeIn K (.ref C) == some (.type "type")) = true := by
      rw [show (PySem.W.clsIn K C).isSome = true from hc, ht] <;> rfl
    show (if ((PySem.W.clsIn K C).isSome && PySem.W.typeIn K (.ref C) == some (.type "type")) = true then PySem.W.subIn K (.ref D) (.ref C) else none) = some b
    rw [if_pos e2]
    exact h
theorem exm_own {K : PySem.W.Frag} {C : Addr} {cls : Value} {b : Bool} (h1 : PySem.W.subIn K (.ref C) (.type "BaseException") = some true) (hc : PySem.W.isClsIn K C = true) (ht : PySem.W.typeIn K (.ref C) = some (.type "type")) (h4 : PySem.W.subIn K cls (.ref C) = some b) : PySem.W.exmOne K cls (.ref C) = some b := by
  have e1 : (PySem.W.subIn K (.ref C) (.type "BaseException") == some true) = true := by rw [h1] <;> rfl
  have e2 : ((PySem.W.clsIn K C).isSome && PySem.W.typeIn K (.ref C) == some (.type "type")) = true := by
    rw [show (PySem.W.clsIn K C).isSome = true from hc, ht] <;> rfl
  show (if (PySem.W.subIn K (.ref C) (.type "BaseException") == some true) = true then (if ((PySem.W.clsIn K C).isSome && PySem.W.typeIn K (.ref C) == some (.type "type")) = true then PySem.W.subIn K cls (.ref C) else none) else none) = some b
  rw [if_pos e1, if_pos e2]
  exact h4
theorem r_isE {K : PySem.W.Frag} {D a : Addr} {c : V} {cv : Value} {b : Bool} {H : Hp} {Q : VK} (C : ExcC K D) (hcv : ∀ u, RelV c u → u = cv) (h : PySem.W.kitOne K (.ref D) cv = some b) (q : Q (.bl b) H) : rIsEx K (.ref D) none a [.ref a, c] H Q :=
  ⟨D, rfl, rfl, C, c, cv, b, rfl, hcv, h, q⟩
end RH
namespace RH
open PySem L2
/-! ### terms -/
def okI (c w r : Int) : Bool := limI c && (limI w && (limI r && (decide (1 ≤ w) && (decide (w ≤ c) && (decide (1 ≤ r) && (decide (r ≤ c) && decide (c < w + r)))))))
def okT : D → D → D → Bool
  | .int c, .int w, .int r => okI c w r
  | _, _, _ => false
theorem okT_num {a b c : D} (h : okT a b c = true) : isNum a = true ∧ isNum b = true ∧ isNum c = true := by
  match a, b, c, h with
  | .int c, .int w, .int r, h =>
    have h2 : okI c w r = true := h
    unfold okI at h2
    simp only [Bool.and_eq_true, decide_eq_true_iff] at h2
    obtain ⟨h1, h2, h3, h4, h5, h6, h7, h8⟩ := h2
    exact ⟨by show (limI c && decide (0 ≤ c)) = true; rw [h1, decide_eq_true (by omega : 0 ≤ c)]; rfl, by show (limI w && decide (0 ≤ w)) = true; rw [h2, decide_eq_true (by omega : 0 ≤ w)]; rfl, by show (limI r && decide (0 ≤ r)) = true; rw [h3, decide_eq_true (by omega : 0 ≤ r)]; rfl⟩
theorem okT_not {a b c : D} (h : ¬ (isNum a = true ∧ isNum b = true ∧ isNum c = true)) : okT a b c = false := by
  cases e : okT a b c with
  | false => rfl
  | true => exact absurd (okT_num e) h
theorem num_int {d : D} (h : isNum d = true) : ∃ i, d = .int i ∧ limI i = true := by
  cases d with
  | int i =>
    have h1 : (limI i && decide (0 ≤ i)) = true := h
    rw [Bool.and_eq_true] at h1
    exact ⟨i, rfl, h1.1⟩
  | _ => cases h
/-- Terms(..): three fields, or BadValue -/
def spTermsI (K : PySem.W.Frag) (CC : Addr → Prop) (C CB : Addr) : Sp := fun vs H Q E => ∃ (x dx : Addr) (a b c : V) (da db dc : D), vs = [.ref x, a, b, c] ∧ H x = some (.ins C dx []) ∧ Rep K CC H a da ∧ Rep K CC H b db ∧ Rep K CC H c dc ∧
  (okT da db dc = true → ∀ H', (∀ y o, y ≠ x → H y = some o → H' y = some o) → H' x = some (.ins C dx [("_copies", a), ("_write", b), ("_read", c)]) → Q .non H') ∧
  (okT da db dc = false → ∀ H', Same H H' → E (.ref CB) none H')
def TermsAt (H : Hp) (t C : Addr) (c w r : Int) : Prop := ∃ dx, H t = some (.ins C dx [("_copies", .int c), ("_write", .int w), ("_read", .int r)])
theorem TermsAt.mono {H H' : Hp} {t C : Addr} {c w r : Int} (h : TermsAt H t C c w r) (s : Same H H') : TermsAt H' t C c w r := by
  obtain ⟨dx, e⟩ := h
  exact ⟨dx, s _ _ e⟩
def spGetT (C : Addr) (f : Int → Int → Int → Int) : Sp := fun vs H Q _ => ∃ t c w r, vs = [.ref t] ∧ TermsAt H t C c w r ∧ Q (.int (f c w r)) H
def hand (c w r : Int) : Int := c - (if r < w then r else w) + 1
/-- numbers that make terms -/
structure OkDue (c w r : Int) : Prop where
  w1 : 1 ≤ w
  wc : w ≤ c
  r1 : 1 ≤ r
  rc : r ≤ c
  s : c < w + r
  c11 : c ≤ 100000000000
theorem OkDue.ok {c w r : Int} (h : OkDue c w r) : okT (.int c) (.int w) (.int r) = true := by
  have := h.w1
  have := h.wc
  have := h.r1
  have := h.rc
  have := h.s
  have := h.c11
  show okI c w r = true
  unfold okI limI
  simp only [Bool.and_eq_true, decide_eq_true_iff]
  omega
theorem TermsAt.look {H : Hp} {t C : Addr} {c w r : Int} (h : TermsAt H t C c w r) : ∃ dx, H t = some (.ins C dx [("_copies", .int c), ("_write", .int w), ("_read", .int r)]) := h
theorem r_fld {K : PySem.W.Frag} {ta tv : TE} {f : Str} {nx bk ct : L2.St → Hp → Prop} {rt : VK} {σ : L2.St} {H : Hp} (h : tv σ H fun y H1 => ta σ H1 fun x H2 => ∃ a C dx fs, x = V.ref a ∧ H2 a = some (.ins C dx fs) ∧ Cls K C ∧ NoAttr K C f ∧ fs.length < 1000 ∧ nx σ (upd H2 a (.ins C dx (putF f y fs)))) : sFld K ta tv f ⟨nx, rt, bk, ct⟩ σ H := h
theorem r_mk {C : Addr} {sp : Sp} {dvs : List V} {E : L2.St → XK} {t : TA} {σ : L2.St} {H : Hp} {Q : VK} (h : t σ H fun vs H1 => ∀ x dx, H1 x = none → H1 dx = none → dx ≠ x → sp (.ref x :: (vs ++ dvs)) (upd (upd H1 dx (.own x)) x (.ins C dx [])) (fun v H2 => v = .non ∧ Q (.ref x) H2) (E σ)) : tMakeS C sp dvs E t σ H Q := h
theorem r_prop {C : Addr} {sp : Sp} {dvs : List V} {E : XK} {ta : TE} {σ : L2.St} {H : Hp} {Q : VK} (h : ta σ H fun x H1 => ∃ a dx fs, x = .ref a ∧ H1 a = some (.ins C dx fs) ∧ sp (.ref a :: dvs) H1 Q E) : tProp C sp dvs E ta σ H Q := h
/-- three values that make no terms are refused -/
def spRefused (K : PySem.W.Frag) (CC : Addr → Prop) : Sp := fun vs H Q _ => ∃ (a b c : V) (da db dc : D), vs = [a, b, c] ∧ Rep K CC H a da ∧ Rep K CC H b db ∧ Rep K CC H c dc ∧ okT da db dc = false ∧ ∀ H', Same H H' → Q (.bl true) H'
end RH
namespace RH
open PySem L2
def spTermsL : Sp := fun vs H Q _ => ∃ a b : Int, vs = [.int a, .int b] ∧ 0 ≤ a ∧ 0 ≤ b ∧ ∀ H' p c w r, Same H H' → H p = none → H' p = some (.tup [.int c, .int w, .int r]) → OkDue c w r → Q (.ref p) H'
def spRightT (C : Addr) : Sp := fun vs H Q _ => ∃ t p c w r, vs = [.ref t, .ref p] ∧ TermsAt H t C c w r ∧ H p = some (.tup [.int c, .int w, .int r]) ∧ ∀ H', Same H H' → Q (.bl true) H'
/-- a value that makes no terms wherever it stands -/
def BadF (d : D) : Prop := ∀ x y, okT d x y = false ∧ okT x d y = false ∧ okT x y d = false
/-- a value that spoils terms of so many copies -/
def Spoils (K : PySem.W.Frag) (CC : Addr → Prop) (H : Hp) (c : Int) (v : V) : Prop := ∃ d pd, Rep K CC H v d ∧ Dp K H v pd ∧ SeqAt.shaped pd = true ∧ (BadF d ∨ (d = .int (c + 1) ∧ PyData.eqv pd (.int (c + 1)) = true))
theorem int_shaped (i : Int) : SeqAt.shaped (.int i) = true := by
  show ((PyData.int i).canLay0 && decide ((PyData.int i).depth ≤ 64)) = true
  simp [PyData.canLay0, PyData.depth]
def spBadL (K : PySem.W.Frag) (CC : Addr → Prop) : Sp := fun vs H Q _ => ∃ (p : Addr) (c w r k : Int), vs = [.ref p, .int k] ∧ H p = some (.tup [.int c, .int w, .int r]) ∧ OkDue c w r ∧ 0 ≤ k ∧
  ∀ H' l a b d da db dd, Same H H' → H l = none → H' l = some (.lst [a, b, d]) → Rep K CC H' a da → Rep K CC H' b db → Rep K CC H' d dd → okT da db dd = false → Q (.ref l) H'
def spFewL : Sp := fun vs H Q _ => ∃ (p : Addr) (c w r k : Int), vs = [.ref p, .int k] ∧ H p = some (.tup [.int c, .int w, .int r]) ∧ OkDue c w r ∧ 0 ≤ k ∧
  ∀ H' q x y, Same H H' → H q = none → H' q = some (.tup [.int c, .int x, .int y]) → x + y ≤ c → Q (.ref q) H'
theorem okT_few {c x y : Int} (h : x + y ≤ c) : okT (.int c) (.int x) (.int y) = false := by
  show okI c x y = false
  refine Bool.eq_false_iff.mpr fun z => ?_
  unfold okI at z
  simp only [Bool.and_eq_true, decide_eq_true_iff] at z
  omega
theorem badV_num {d : D} (h : isNum d = false) : BadF d := fun x y => ⟨okT_not fun z => absurd z.1 (by rw [h]; decide), okT_not fun z => absurd z.2.1 (by rw [h]; decide), okT_not fun z => absurd z.2.2 (by rw [h]; decide)⟩
theorem badV_zero : BadF (.int 0) := fun x y => by
  have k : ∀ {a b e : D}, (okT a b e = true → ∃ i j l, a = .int i ∧ b = .int j ∧ e = .int l ∧ 1 ≤ i ∧ 1 ≤ j ∧ 1 ≤ l) := fun {a b e} h => by
    match a, b, e, h with
    | .int i, .int j, .int l, h =>
      have h2 : okI i j l = true := h
      unfold okI at h2
      simp only [Bool.and_eq_true, decide_eq_true_iff] at h2
      exact ⟨i, j, l, rfl, rfl, rfl, by omega, by omega, by omega⟩
  refine ⟨?_, ?_, ?_⟩ <;> refine Bool.eq_false_iff.mpr fun z => ?_ <;> obtain ⟨i, j, l, h1, h2, h3, g1, g2, g3⟩ := k z
  · cases h1; omega
  · cases h2; omega
  · cases h3; omega
theorem num_big {i : Int} (h : 1000000000000 < i ∨ i < 0) : isNum (.int i) = false := by
  show (limI i && decide (0 ≤ i)) = false
  refine Bool.eq_false_iff.mpr fun z => ?_
  unfold limI at z
  simp only [Bool.and_eq_true, decide_eq_true_iff] at z
  omega
theorem okT_more {c x y : Int} (h : c < x ∨ c < y) : okT (.int c) (.int x) (.int y) = false := by
  show okI c x y = false
  refine Bool.eq_false_iff.mpr fun z => ?_
  unfold okI at z
  simp only [Bool.and_eq_true, decide_eq_true_iff] at z
  omega
theorem ints_dpAll {K : PySem.W.Frag} {H : Hp} : ∀ ns : List Int, DpAll K H (ns.map V.int) (ns.map PyData.int)
  | [] => .nil
  | i :: r => .cons (.int i) (ints_dpAll r)
theorem ints_shaped (ns : List Int) : SeqAt.shaped (.list (ns.map PyData.int)) = true := by
  have h1 : ∀ ns : List Int, PyData.canLayAll0 (ns.map PyData.int) = true := fun ns => by
    induction ns with
    | nil => simp [PyData.canLayAll0]
    | cons i r ih => simp [PyData.canLayAll0, PyData.canLay0, ih]
  have h2 : ∀ ns : List Int, PyData.depthAll (ns.map PyData.int) = 0 := fun ns => by
    induction ns with
    | nil => simp [PyData.depthAll]
    | cons i r ih => simp [PyData.depthAll, PyData.depth, ih]
  show ((PyData.list (ns.map PyData.int)).canLay0 && decide ((PyData.list (ns.map PyData.int)).depth ≤ 64)) = true
  rw [Bool.and_eq_true]
  exact ⟨by simp [PyData.canLay0, h1], decide_eq_true (by simp [PyData.depth, h2])⟩
theorem ints_eqv (ns : List Int) : PyData.eqv (.list (ns.map PyData.int)) (.list (ns.map PyData.int)) = true := by
  have h : ∀ ns : List Int, PyData.eqvAll (ns.map PyData.int) (ns.map PyData.int) = true := fun ns => by
    induction ns with
    | nil => simp [PyData.eqvAll]
    | cons i r ih => simp [PyData.eqvAll, PyData.eqv, ih]
  simp [PyData.eqv, h]
end RH
namespace RH
open PySem L2
/-! ### draws off a list that was made of the script -/
theorem r_brk {nx bk ct : St → Hp → Prop} {rt : VK} {σ : St} {H : Hp} (h : bk σ H) : tBreak ⟨nx, rt, bk, ct⟩ σ H := h
/-- the draws at l: numbers from 0 below m, not too many -/
def Draws (m : Int) (H : Hp) (l : Addr) : Prop := ∃ ds : List Int, H l = some (.lst (ds.map V.int)) ∧ ds.length ≤ 400 ∧ ∀ d ∈ ds, 0 ≤ d ∧ d < m
theorem Draws.mono {m : Int} {H H' : Hp} {l : Addr} (h : Draws m H l) (s : Same H H') : Draws m H' l := by
  obtain ⟨ds, e, a, b⟩ := h
  exact ⟨ds, s _ _ e, a, b⟩
/-- _law_draws(script, many) -/
def spStream (K : PySem.W.Frag) (m : Int) : Sp := fun vs H Q _ => ∃ (a : Addr) (ns : List Int) (n : Int), vs = [.ref a, .int n] ∧ SqL K H a (ns.map V.int) ∧ n ≤ 100 ∧ ∀ H' l, Same H H' → H l = none → Draws m H' l → Q (.ref l) H'
/-- _law_draw(draws, k) -/
def spDrawAt (m : Int) : Sp := fun vs H Q _ => ∃ (l : Addr) (k : Int), vs = [.ref l, .int k] ∧ Draws m H l ∧ 0 ≤ k ∧ 0 < m ∧ ∀ d, 0 ≤ d → d < m → Q (.int d) H
theorem in_ints (k : Int) : ∀ ns : List Int, inV (.int k) (ns.map V.int) = decide (k ∈ ns)
  | [] => by simp [inV]
  | n :: ns => by
    have ih := in_ints k ns
    unfold inV at ih ⊢
    rw [List.map_cons, List.any_cons, ih]
    by_cases e : n = k
    · subst e
      simp [eqV]
    · have e2 : ¬ k = n := fun z => e z.symm
      simp [eqV, e, e2]
theorem flat_ints (ns : List Int) : (ns.map V.int).all flatV = true := by
  rw [List.all_map, List.all_eq_true]
  exact fun _ _ => rfl
theorem r_inI {K : PySem.W.Frag} {H : Hp} {Q : VK} {k : Int} {p : Addr} {ns : List Int} (h : SqL K H p (ns.map V.int)) (q : Q (.bl (decide (k ∈ ns))) H) : rIn K false (.int k) (.ref p) H Q :=
  ⟨p, _, rfl, .inl h, rfl, flat_ints ns, by rw [in_ints]; exact q⟩
theorem r_notInI {K : PySem.W.Frag} {H : Hp} {Q : VK} {k : Int} {p : Addr} {ns : List Int} (h : SqL K H p (ns.map V.int)) (q : Q (.bl (!decide (k ∈ ns))) H) : rIn K true (.int k) (.ref p) H Q :=
  ⟨p, _, rfl, .inl h, rfl, flat_ints ns, by rw [in_ints]; exact q⟩
/-- _law_numbers(script, draws, count): unlike numbers -/
def spNumbers (K : PySem.W.Frag) : Sp := fun vs H Q _ => ∃ (a l : Addr) (ns : List Int) (c : Int), vs = [.ref a, .ref l, .int c] ∧ SqL K H a (ns.map V.int) ∧ Draws 27720 H l ∧ 0 ≤ c ∧ c ≤ 100 ∧
  ∀ H' p ms, Same H H' → H p = none → H' p = some (.lst ((ms : List Int).map V.int)) → ms.Nodup → ms.length ≤ c.toNat → Q (.ref p) H'
/-- _law_members(owners, others, draws): some numbers -/
def spMembers : Sp := fun vs H Q _ => ∃ (a b l : Addr) (os us : List Int), vs = [.ref a, .ref b, .ref l] ∧ H a = some (.lst (os.map V.int)) ∧ H b = some (.lst (us.map V.int)) ∧ Draws 27720 H l ∧ os.length ≤ 20 ∧
  ∀ H' p ms, Same H H' → H p = none → H' p = some (.lst ((ms : List Int).map V.int)) → ms.length ≤ 200 → Q (.ref p) H'
end RH
namespace RH
open PySem L2
def cnt (ms os : List Int) : Nat := (os.filter fun o => decide (o ∈ ms)).length
def spRight29 : Sp := fun vs H Q _ => ∃ (a b : Addr) (ms os : List Int) (c : Int) (d : Bool), vs = [.ref a, .ref b, .int c, .bl d] ∧ H a = some (.lst (ms.map V.int)) ∧ H b = some (.lst (os.map V.int)) ∧ ms.length ≤ 1000 ∧ os.length ≤ 1000 ∧ os.Nodup ∧ d = decide (c ≤ (cnt ms os : Int)) ∧
  ∀ H', Same H H' → Q (.bl true) H'
def spTerms29 (C : Addr) : Sp := fun vs H Q _ => ∃ c d : Int, vs = [.int c, .int d] ∧ 1 ≤ c ∧ c ≤ 7 ∧ 0 ≤ d ∧ ∀ H' t w r, Same H H' → TermsAt H' t C c w r → OkDue c w r → Q (.ref t) H'
theorem cut_sub (ns : List Int) (lo hi : Option Int) : ∃ ms : List Int, cutV (ns.map V.int) lo hi = ms.map V.int ∧ ms.Sublist ns := by
  refine ⟨(ns.drop (HT.sIx (ns.map V.int).length 0 lo)).take (HT.sIx (ns.map V.int).length (ns.map V.int).length hi - HT.sIx (ns.map V.int).length 0 lo), ?_, (List.take_sublist _ _).trans (List.drop_sublist _ _)⟩
  unfold cutV
  rw [List.map_take, List.map_drop]
theorem cut_to (ns : List Int) (n : Nat) : cutV (ns.map V.int) none (some (n : Int)) = (ns.take n).map V.int := by
  unfold cutV
  rw [HT.sIx_none, HT.sIx_nat, List.drop_zero, Nat.sub_zero, List.map_take, List.length_map]
  rw [List.take_eq_take_iff]
  rw [List.length_map]
  omega
theorem filt_ints (p : Int → Bool) : ∀ os : List Int, (((os.map fun o => (p o, V.int o)).filter (·.1)).map (·.2)) = (os.filter p).map V.int
  | [] => rfl
  | o :: os => by
    have ih := filt_ints p os
    cases e : p o with
    | true => simp [e, ih]
    | false => simp [e, ih]
/-- those of the owners that are left are the others -/
theorem cnt_rest (ms os : List Int) : cnt (os.filter fun o => !decide (o ∈ ms)) os = os.length - cnt ms os := by
  have h1 : (os.filter fun o => decide (o ∈ os.filter fun o => !decide (o ∈ ms))) = os.filter fun o => !decide (o ∈ ms) := by
    refine List.filter_congr fun o ho => ?_
    rw [Bool.eq_iff_iff, decide_eq_true_iff, List.mem_filter]
    exact ⟨fun z => z.2, fun z => ⟨ho, z⟩⟩
  have h2 : os.length = (os.filter fun o => decide (o ∈ ms)).length + (os.filter fun o => !(fun o => decide (o ∈ ms)) o).length := by
    generalize (fun o : Int => decide (o ∈ ms)) = p
    clear h1
    induction os with
    | nil => rfl
    | cons o os ih =>
      cases e : p o with
      | true => simp only [List.filter_cons, e, if_true, Bool.not_true, Bool.false_eq_true, if_false, List.length_cons]; omega
      | false => simp only [List.filter_cons, e, if_true, Bool.not_false, Bool.false_eq_true, if_false, List.length_cons]; omega
  show (os.filter fun o => decide (o ∈ os.filter fun o => !decide (o ∈ ms))).length = _
  rw [h1]
  show _ = os.length - (os.filter fun o => decide (o ∈ ms)).length
  have h3 : os.length = (os.filter fun o => decide (o ∈ ms)).length + (os.filter fun o => !decide (o ∈ ms)).length := h2
  omega
theorem cnt_le (ms os : List Int) : cnt ms os ≤ os.length := List.length_filter_le ..
theorem ints_eqv2 (ns : List Int) : PyData.eqv (.list (ns.map PyData.int)) (.list (ns.map PyData.int)) = true := ints_eqv ns
/-- x != y, lists of the same ints -/
theorem r_neL {K : PySem.W.Frag} {H : Hp} {Q : VK} {a b : Addr} {ns : List Int} (ha : SqL K H a (ns.map V.int)) (hb : SqL K H b (ns.map V.int)) (q : Q (.bl false) H) : rNeD K (.ref a) (.ref b) H Q :=
  ⟨_, _, .lst ha (ints_dpAll ns), .lst hb (ints_dpAll ns), ints_shaped ns, ints_shaped ns, by rw [ints_eqv]; exact q⟩
/-- [o for o in owners if ..] -/
theorem lc_own {K : PySem.W.Frag} {a D : Addr} {k : Nat} {σ : St} {vs : List Nat} {H1 : Hp} {Qd : Hp → Prop} {tt : TT} {os : List Int} (p : Int → Bool) (ha : H1 a = some (.lst (os.map V.int))) (hl : os.length ≤ 1000) (hD : H1 D = none)
    (hw : ∀ x, wipe ((wipe σ vs).set k (some x)) vs = wipe σ vs) (hk : ∀ x, ((wipe σ vs).set k (some x))[k]? = some (some x))
    (test : ∀ o H', Same H1 H' → ∀ Q : Bool → Hp → Prop, Q (p o) H' → tt ((wipe σ vs).set k (some (.int o))) H' Q) (hd : ∀ H, Same H1 H → H D = some (.lst ((os.filter p).map V.int)) → Qd H) : LcGo (Itl K a) (gName k) tt (tVar k) vs σ D Qd H1 := by
  refine lc_filter (walk_list (xs := os.map V.int)) (Y' := fun i x => (os.map V.int)[i]? = some x) (fun i H x H' y => y) (os.map fun o => (p o, V.int o)) (by simp) (by rw [List.length_map]; exact hl) hD (fun H' s => SqL.of (s _ _ ha)) hw ?_ ?_ ?_
  · intro i x b y H7 hx hy s7 Q7 q7
    rw [List.getElem?_map] at hx hy
    cases z : os[i]? with
    | none => rw [z] at hx; cases hx
    | some o =>
      rw [z] at hx hy
      obtain rfl := Option.some.inj hx
      obtain ⟨rfl, _⟩ := Prod.mk.inj (Option.some.inj hy)
      exact test o H7 s7 _ (q7 H7 (Same.refl H7))
  · intro i x y H7 hx hy s7 Q7 q7
    rw [List.getElem?_map] at hx hy
    cases z : os[i]? with
    | none => rw [z] at hx; cases hx
    | some o =>
      rw [z] at hx hy
      obtain rfl := Option.some.inj hx
      obtain ⟨_, rfl⟩ := Prod.mk.inj (Option.some.inj hy)
      exact ⟨_, hk _, q7 H7 (Same.refl H7)⟩
  · intro H7 s7 hL
    rw [filt_ints] at hL
    exact hd H7 s7 hL
end RH
namespace RH
open PySem L2
/-! ### unlike numbers in the order in which they come -/
def ddS (os : List Int) (h : Int) : List Int := if h ∈ os then os else os ++ [h]
def dd (l : List Int) : List Int := l.foldl ddS []
theorem dd_snoc (l : List Int) (h : Int) : dd (l ++ [h]) = ddS (dd l) h := by
  unfold dd
  rw [List.foldl_append]
  rfl
theorem dd_go : ∀ (l os : List Int), os.Nodup → (l.foldl ddS os).Nodup ∧ (∀ j, j ∈ l.foldl ddS os ↔ j ∈ os ∨ j ∈ l) ∧ (l.foldl ddS os).length ≤ os.length + l.length
  | [], os, h => ⟨h, fun j => by simp, Nat.le_refl _⟩
  | x :: l, os, h => by
    have step : (ddS os x).Nodup ∧ (∀ j, j ∈ ddS os x ↔ j ∈ os ∨ j = x) ∧ (ddS os x).length ≤ os.length + 1 := by
      unfold ddS
      by_cases e : x ∈ os
      · rw [if_pos e]
        exact ⟨h, fun j => ⟨.inl, fun z => z.elim id fun w => w ▸ e⟩, Nat.le_succ _⟩
      · rw [if_neg e]
        refine ⟨List.nodup_append.mpr ⟨h, by simp, fun a ha b hb z => e ?_⟩, fun j => by simp, by simp⟩
        rw [List.mem_singleton] at hb
        rw [← hb, ← z]
        exact ha
    obtain ⟨a, b, c⟩ := dd_go l (ddS os x) step.1
    refine ⟨a, fun j => ?_, ?_⟩
    · rw [List.foldl_cons, b j, step.2.1 j, List.mem_cons, or_assoc]
    · have := step.2.2
      rw [List.foldl_cons, List.length_cons]
      omega
theorem dd_nodup (l : List Int) : (dd l).Nodup := (dd_go l [] List.nodup_nil).1
theorem dd_mem {l : List Int} {j : Int} : j ∈ dd l ↔ j ∈ l := by
  have := (dd_go l [] List.nodup_nil).2.1 j
  simpa [dd] using this
theorem dd_len (l : List Int) : (dd l).length ≤ l.length := by
  have := (dd_go l [] List.nodup_nil).2.2
  simpa [dd] using this
theorem dd_same {l m : List Int} (h : ∀ j, j ∈ l ↔ j ∈ m) : (dd l).length = (dd m).length :=
  ((List.perm_ext_iff_of_nodup (dd_nodup l) (dd_nodup m)).mpr fun j => by rw [dd_mem, dd_mem, h j]).length_eq
theorem dd_all {l : List Int} (h : l.Nodup) : (dd l).length = l.length :=
  ((List.perm_ext_iff_of_nodup (dd_nodup l) h).mpr fun j => dd_mem).length_eq
theorem dd_S {os : List Int} {l : List Int} {h : Int} (e : os = dd l) : dd (l ++ [h]) = if h ∈ os then os else os ++ [h] := by
  rw [dd_snoc, ← e]
  rfl
theorem take_snoc {l : List Int} {i : Nat} {h : Int} (e : l[i]? = some h) : l.take (i + 1) = l.take i ++ [h] := by
  rw [List.take_add_one, e]
  rfl
theorem dd_more : ∀ (m os : List Int), ∃ t, m.foldl ddS os = os ++ t
  | [], os => ⟨[], by simp⟩
  | x :: m, os => by
    obtain ⟨t, e⟩ := dd_more m (ddS os x)
    rw [List.foldl_cons, e]
    unfold ddS
    by_cases h : x ∈ os
    · rw [if_pos h]
      exact ⟨t, rfl⟩
    · rw [if_neg h]
      exact ⟨x :: t, by simp⟩
theorem dd_pre (l : List Int) (i : Nat) : ∃ t, dd l = dd (l.take i) ++ t := by
  obtain ⟨t, e⟩ := dd_more (l.drop i) (dd (l.take i))
  refine ⟨t, ?_⟩
  rw [← e]
  unfold dd
  rw [← List.foldl_append, List.take_append_drop]
/-- the first c unlike ones are those of any beginning that has c -/
theorem dd_first {l : List Int} {i c : Nat} (h : (dd (l.take i)).length = c) : (dd l).take c = dd (l.take i) := by
  obtain ⟨t, e⟩ := dd_pre l i
  rw [e, ← h, List.take_left]
/-! ### pairs (place, house) -/
def PtAt (H : Hp) (v : V) (p : Int × Int) : Prop := ∃ t, v = .ref t ∧ H t = some (.tup [.int p.1, .int p.2])
def PtsAt (H : Hp) (xs : List V) (ps : List (Int × Int)) : Prop := xs.length = ps.length ∧ ∀ (i : Nat) x p, xs[i]? = some x → ps[i]? = some p → PtAt H x p
theorem PtAt.mono {H H' : Hp} {v : V} {p : Int × Int} (h : PtAt H v p) (s : Same H H') : PtAt H' v p := by
  obtain ⟨t, rfl, e⟩ := h
  exact ⟨t, rfl, s _ _ e⟩
theorem PtsAt.mono {H H' : Hp} {xs : List V} {ps : List (Int × Int)} (h : PtsAt H xs ps) (s : Same H H') : PtsAt H' xs ps := ⟨h.1, fun i x p a b => (h.2 i x p a b).mono s⟩
theorem PtsAt.nil {H : Hp} : PtsAt H [] [] := ⟨rfl, fun i x p h => by simp at h⟩
theorem PtsAt.snoc {H : Hp} {xs : List V} {ps : List (Int × Int)} {v : V} {p : Int × Int} (h : PtsAt H xs ps) (hp : PtAt H v p) : PtsAt H (xs ++ [v]) (ps ++ [p]) := by
  refine ⟨by rw [List.length_append, List.length_append, h.1]; rfl, fun i x q a b => ?_⟩
  by_cases lt : i < xs.length
  · rw [List.getElem?_append_left lt] at a
    rw [List.getElem?_append_left (by rw [← h.1]; exact lt)] at b
    exact h.2 i x q a b
  · rw [List.getElem?_append_right (by omega)] at a
    rw [List.getElem?_append_right (by rw [← h.1]; omega), ← h.1] at b
    cases z : i - xs.length with
    | zero =>
      rw [z] at a b
      cases a
      cases b
      exact hp
    | succ n =>
      rw [z] at a
      simp at a
theorem PtsAt.at_ {H : Hp} {xs : List V} {ps : List (Int × Int)} (h : PtsAt H xs ps) {i : Nat} (hi : i < ps.length) : ∃ t, xs[i]? = some (.ref t) ∧ H t = some (.tup [.int ps[i].1, .int ps[i].2]) := by
  have hx : i < xs.length := by rw [h.1]; exact hi
  obtain ⟨t, e, z⟩ := h.2 i xs[i] ps[i] (List.getElem?_eq_getElem hx) (List.getElem?_eq_getElem hi)
  exact ⟨t, by rw [List.getElem?_eq_getElem hx, e], z⟩
/-- points that make a ring with so many copies -/
structure OkPts (ps : List (Int × Int)) (c : Int) : Prop where
  pl : ∀ p ∈ ps, 0 ≤ p.1 ∧ p.1 < 256
  hs : ∀ p ∈ ps, 0 ≤ p.2 ∧ p.2 ≤ 1000000000000
  nd : (ps.map (·.1)).Nodup
  few : ps.length ≤ 300
  c1 : 1 ≤ c
  c7 : c ≤ 7
  many : c ≤ ((dd (ps.map (·.2))).length : Int)
/-- owners of a place: so many unlike houses -/
structure OwnOk (hs : List Int) (c : Int) (os : List Int) : Prop where
  nd : os.Nodup
  len : (os.length : Int) = c
  sub : ∀ o ∈ os, o ∈ hs
/-- the owners of a place, by ascending points -/
def turn (ps : List (Int × Int)) (q : Int) : List (Int × Int) := (ps.filter fun p => decide (q ≤ p.1)) ++ ps.filter fun p => decide (p.1 < q)
def own (ps : List (Int × Int)) (c q : Int) : List Int := (dd ((turn ps q).map (·.2))).take c.toNat
theorem turn_at {ps : List (Int × Int)} {i : Nat} {q : Int} (h1 : ∀ p ∈ ps.take i, p.1 < q) (h2 : ∀ p ∈ ps.drop i, q ≤ p.1) : turn ps q = ps.drop i ++ ps.take i := by
  have e1 : (ps.take i).filter (fun p => decide (q ≤ p.1)) = [] := List.filter_eq_nil_iff.mpr fun p hp => by
    have := h1 p hp
    rw [decide_eq_true_iff]
    omega
  have e2 : (ps.drop i).filter (fun p => decide (q ≤ p.1)) = ps.drop i := List.filter_eq_self.mpr fun p hp => decide_eq_true (h2 p hp)
  have e3 : (ps.take i).filter (fun p => decide (p.1 < q)) = ps.take i := List.filter_eq_self.mpr fun p hp => decide_eq_true (h1 p hp)
  have e4 : (ps.drop i).filter (fun p => decide (p.1 < q)) = [] := List.filter_eq_nil_iff.mpr fun p hp => by
    have := h2 p hp
    rw [decide_eq_true_iff]
    omega
  unfold turn
  have f1 : ps.filter (fun p => decide (q ≤ p.1)) = ps.drop i := by
    rw [← List.take_append_drop i ps, List.filter_append, e1, e2, List.nil_append, List.take_append_drop]
  have f2 : ps.filter (fun p => decide (p.1 < q)) = ps.take i := by
    rw [← List.take_append_drop i ps, List.filter_append, e3, e4, List.append_nil, List.take_append_drop]
  rw [f1, f2]
def Asc (ps : List (Int × Int)) : Prop := ps.Pairwise fun a b => a.1 < b.1
theorem Asc.take_lt {ps : List (Int × Int)} (h : Asc ps) {i j : Nat} (hi : i < j) (hj : j < ps.length) : ps[i].1 < ps[j].1 := List.pairwise_iff_getElem.mp h i j (by omega) hj hi
/-- _first_met(houses, copies) -/
def spMet : Sp := fun vs H Q _ => ∃ (a : Addr) (hs : List Int) (c : Int), vs = [.ref a, .int c] ∧ H a = some (.lst (hs.map V.int)) ∧ hs.length ≤ 600 ∧ c ≤ ((dd hs).length : Int) ∧ 1 ≤ c ∧
  ∀ H' p os, Same H H' → H p = none → H' p = some (.lst (os.map V.int)) → OwnOk hs c os → os = (dd hs).take c.toNat → Q (.ref p) H'
/-- entry q of the table at fs -/
def OwnAt (H : Hp) (ps : List (Int × Int)) (c : Int) (fs : List V) (q : Nat) : Prop := ∃ b, fs[q]? = some (.ref b) ∧ H b = some (.lst ((own ps c q).map V.int)) ∧ OwnOk (ps.map (·.2)) c (own ps c q)
theorem OwnAt.mono {H H' : Hp} {ps : List (Int × Int)} {c : Int} {fs : List V} {q : Nat} (h : OwnAt H ps c fs q) (s : Same H H') : OwnAt H' ps c fs q := by
  obtain ⟨b, e, z, k⟩ := h
  exact ⟨b, e, s _ _ z, k⟩
/-- _owners_by_place(points, copies), of ascending points -/
def spByPlace (K : PySem.W.Frag) : Sp := fun vs H Q _ => ∃ (a : Addr) (xs : List V) (ps : List (Int × Int)) (c : Int), vs = [.ref a, .int c] ∧ H a = some (.tup xs) ∧ PtsAt H xs ps ∧ OkPts ps c ∧ Asc ps ∧
  ∀ H' p fs, Same H H' → H p = none → H' p = some (.lst fs) → fs.length = 256 → (∀ q, q < 256 → OwnAt H' ps c fs q) → Q (.ref p) H'
def spPointT (K : PySem.W.Frag) : Sp := fun vs H Q _ => ∃ (x : V) (p : Int × Int), vs = [x] ∧ PtAt H x p ∧ 0 ≤ p.1 ∧ p.1 < 256 ∧ 0 ≤ p.2 ∧ p.2 ≤ 1000000000000 ∧ ∀ H', Same H H' → Q (.bl true) H'
def spPointsT (K : PySem.W.Frag) : Sp := fun vs H Q _ => ∃ (a : Addr) (xs : List V) (ps : List (Int × Int)) (c : Int), vs = [.ref a] ∧ H a = some (.lst xs) ∧ PtsAt H xs ps ∧ OkPts ps c ∧ ∀ H', Same H H' → Q (.bl true) H'
/-- a ring in hand: its copies, its points ascending -/
def RingAt (H : Hp) (x C : Addr) (c : Int) (ps : List (Int × Int)) : Prop := ∃ dx tp ow xs fs, H x = some (.ins C dx [("_copies", .int c), ("_points", .ref tp), ("_owners", .ref ow)]) ∧ H tp = some (.tup xs) ∧ PtsAt H xs ps ∧ OkPts ps c ∧ Asc ps ∧ H ow = some (.lst fs) ∧ fs.length = 256 ∧ ∀ q, q < 256 → OwnAt H ps c fs q
theorem RingAt.mono {H H' : Hp} {x C : Addr} {c : Int} {ps : List (Int × Int)} (h : RingAt H x C c ps) (s : Same H H') : RingAt H' x C c ps := by
  obtain ⟨dx, tp, ow, xs, fs, a, b, p, k, z, d, e, g⟩ := h
  exact ⟨dx, tp, ow, xs, fs, s _ _ a, s _ _ b, p.mono s, k, z, s _ _ d, e, fun q hq => (g q hq).mono s⟩
/-- Ring(points, copies), of points that make one -/
def spRingT (C : Addr) : Sp := fun vs H Q E => ∃ (x dx a : Addr) (xs : List V) (ps : List (Int × Int)) (c : Int), vs = [.ref x, .ref a, .int c] ∧ H x = some (.ins C dx []) ∧ H a = some (.lst xs) ∧ PtsAt H xs ps ∧ OkPts ps c ∧
  ∀ H' qs, (∀ y o, y ≠ x → H y = some o → H' y = some o) → qs.Perm ps → RingAt H' x C c qs → Q .non H'
def spRingCopies (C : Addr) : Sp := fun vs H Q _ => ∃ x c ps, vs = [.ref x] ∧ RingAt H x C c ps ∧ Q (.int c) H
def spOwners (C : Addr) : Sp := fun vs H Q _ => ∃ x i c ps, vs = [.ref x, .int i] ∧ RingAt H x C c ps ∧ 0 ≤ i ∧ i < 256 ∧ ∀ H' p, Same H H' → H p = none → H' p = some (.lst ((own ps c i).map V.int)) → OwnOk (ps.map (·.2)) c (own ps c i) → Q (.ref p) H'
def spOwnersOf (C : Addr) : Sp := fun vs H Q _ => ∃ x z c ps, vs = [.ref x, .str z] ∧ RingAt H x C c ps ∧ OkS z ∧ ∀ H' p, Same H H' → H p = none → H' p = some (.lst ((own ps c (plc z)).map V.int)) → OwnOk (ps.map (·.2)) c (own ps c (plc z)) → Q (.ref p) H'
theorem plc_in (z : Str) : 0 ≤ plc z ∧ plc z < 256 := by
  rw [plc_eq]
  exact ⟨Int.emod_nonneg _ (by decide), Int.emod_lt_of_pos _ (by decide)⟩
/-! ### comprehensions over a walk, by an invariant -/
theorem sc_it {w : World} {J : It} {n : Nat} {G : Hp → Prop} {Y : Nat → Hp → V → Hp → Prop} (wk : Walk J n G Y) {g : TG} {tt : TT} {te : TE} {vs : List Nat} {σ : L2.St} {H1 : Hp} {D : Addr} {Qd : Hp → Prop} (Pv : Nat → Hp → Prop) (h0 : Pv 0 (upd H1 D (SetO w D (fun _ => false) 0))) (hG : ∀ i H, i ≤ n → Pv i H → G H)
    (hs : ∀ i x H H', i < n → Pv i H → Y i H x H' → g x (wipe σ vs) H' fun σ2 H2 => wipe σ2 vs = wipe σ vs ∧ tt σ2 H2 fun b H3 =>
      if b = true then te σ2 H3 fun y H4 => ∃ (k : Int) (S : Int → Bool) (n : Nat), y = .int k ∧ H4 D = some (SetO w D S n) ∧ n + 1 < scanBound ∧ Pv (i + 1) (upd H4 D (SetO w D (fun j => S j || decide (j = k)) (if S k = true then n else n + 1))) else Pv (i + 1) H3) (hd : ∀ H, Pv n H → Qd H) :
    ScGo w J g tt te vs σ D Qd H1 := by
  refine ⟨fun i m H => m = n - i ∧ i ≤ n ∧ Pv i H, ⟨n, by simp, Nat.zero_le _, h0⟩, ?_⟩
  rintro i m H ⟨rfl, hi, p⟩
  have q := hG i H hi p
  by_cases hlt : i < n
  · exact .inr ⟨wk.goes i H hlt q, Pv (i + 1), fun H' p' => ⟨n - (i + 1), by omega, rfl, hlt, p'⟩, fun x H' y => hs i x H H' hlt p (wk.yields i H x H' hlt q y)⟩
  · have e : i = n := by omega
    subst e
    exact .inl ⟨wk.stops H q, hd H p⟩
/-- {k for ..} of reckoned ints, nothing that stood is changed: as many as there are unlike ones -/
theorem sc_pure {w : World} {J : It} {n : Nat} {G : Hp → Prop} {Y : Nat → Hp → V → Hp → Prop} {Y' : Nat → V → Prop} (wk : Walk J n G Y) (hY : ∀ i H x H', Y i H x H' → H' = H ∧ Y' i x) {g : TG} {te : TE} {vs : List Nat} {σ : L2.St} {H1 : Hp} {D : Addr} {Qd : Hp → Prop} (ks : List Int) (hn : ks.length = n) (hs : n ≤ 1000) (hD : H1 D = none)
    (hG : ∀ H, Same H1 H → G H)
    (step : ∀ i x k H, Y' i x → ks[i]? = some k → Same H1 H → ∀ Q : VK, (∀ H', Same H H' → Q (.int k) H') → g x (wipe σ vs) H fun σ2 H2 => wipe σ2 vs = wipe σ vs ∧ te σ2 H2 Q)
    (hd : ∀ H, Same H1 H → H D = some (SetO w D (fun j => decide (j ∈ ks)) (dd ks).length) → Qd H) : ScGo w J g tYes te vs σ D Qd H1 := by
  refine sc_it wk (fun i H => Same H1 H ∧ H D = some (SetO w D (fun j => decide (j ∈ ks.take i)) (dd (ks.take i)).length)) ⟨same_new hD, ?_⟩ (fun i H _ p => hG H p.1) ?_ ?_
  · rw [upd_same]
    simp [dd]
  · rintro i x H H' hi ⟨s, at_⟩ y
    obtain ⟨rfl, y'⟩ := hY i H x H' y
    obtain ⟨kk, hk⟩ : ∃ kk, ks[i]? = some kk := ⟨_, List.getElem?_eq_getElem (by omega)⟩
    refine step i x kk H' y' hk s _ fun H4 s4 => ⟨kk, _, _, rfl, s4 _ _ at_, ?_, fun b o e => ?_, ?_⟩
    · have h1 := dd_len (ks.take i)
      rw [List.length_take] at h1
      have : scanBound = 4096 := rfl
      omega
    · rw [upd_ne (ne_of_none e hD)]
      exact s4 _ _ (s _ _ e)
    · rw [upd_same, take_snoc hk, dd_S rfl]
      have e1 : (fun j => decide (j ∈ ks.take i) || decide (j = kk)) = fun j => decide (j ∈ ks.take i ++ [kk]) := by
        funext j
        rw [Bool.eq_iff_iff, Bool.or_eq_true, decide_eq_true_iff, decide_eq_true_iff, decide_eq_true_iff, List.mem_append, List.mem_singleton]
      have e2 : (if decide (kk ∈ ks.take i) = true then (dd (ks.take i)).length else (dd (ks.take i)).length + 1) = (if kk ∈ dd (ks.take i) then dd (ks.take i) else dd (ks.take i) ++ [kk]).length := by
        by_cases z : kk ∈ ks.take i
        · rw [if_pos (decide_eq_true z), if_pos (dd_mem.mpr z)]
        · rw [if_neg (by rw [decide_eq_false z]; decide), if_neg fun w => z (dd_mem.mp w)]
          simp
      rw [e1, e2]
  · rintro H ⟨s, at_⟩
    rw [← hn, List.take_length] at at_
    exact hd H s at_
/-- [v for ..] to a target of any form, nothing that stood is changed -/
theorem lc_pureG {J : It} {n : Nat} {G : Hp → Prop} {Y : Nat → Hp → V → Hp → Prop} {Y' : Nat → V → Prop} (wk : Walk J n G Y) (hY : ∀ i H x H', Y i H x H' → H' = H ∧ Y' i x) {g : TG} {te : TE} {vs : List Nat} {σ : L2.St} {H1 : Hp} {D : Addr} {Qd : Hp → Prop} (ys : List V) (hn : ys.length = n) (hs : n ≤ 1000) (hD : H1 D = none)
    (hG : ∀ H, Same H1 H → G H)
    (step : ∀ i x y H, Y' i x → ys[i]? = some y → Same H1 H → ∀ Q : VK, (∀ H', Same H H' → Q y H') → g x (wipe σ vs) H fun σ2 H2 => wipe σ2 vs = wipe σ vs ∧ te σ2 H2 Q)
    (hd : ∀ H, Same H1 H → H D = some (.lst ys) → Qd H) : LcGo J g tYes te vs σ D Qd H1 := by
  refine lc_it wk (g := g) (tt := tYes) (te := te) (fun i H => Same H1 H ∧ H D = some (.lst (ys.take i))) ⟨same_new hD, ?_⟩ (fun i H _ p => hG H p.1) ?_ ?_
  · rw [upd_same]
    simp
  · rintro i x H H' hi ⟨s, at_⟩ y
    obtain ⟨rfl, y'⟩ := hY i H x H' y
    obtain ⟨v, hv⟩ : ∃ v, ys[i]? = some v := ⟨_, List.getElem?_eq_getElem (by omega)⟩
    refine step i x v H' y' hv s _ fun H4 s4 => ⟨_, s4 _ _ at_, ?_, fun b o e => ?_, ?_⟩
    · rw [List.length_take]
      exact Nat.lt_of_le_of_lt (Nat.min_le_left _ _) (small1000 (by omega))
    · rw [upd_ne (ne_of_none e hD)]
      exact s4 _ _ (s _ _ e)
    · rw [upd_same, List.take_add_one, hv]
      rfl
  · rintro H ⟨s, at_⟩
    rw [← hn, List.take_length] at at_
    exact hd H s at_
theorem r_meth {C : Addr} {m : Str} {sp : Sp} {dvs : List V} {E : XK} {ta : TE} {t : TA} {σ : L2.St} {H : Hp} {Q : VK} (h : ta σ H fun x H1 => ∃ a dx fs, x = V.ref a ∧ H1 a = some (.ins C dx fs) ∧ fs.lookup m = none ∧ t σ H1 fun vs H2 => sp (x :: (vs ++ dvs)) H2 Q E) : tMeth C m sp dvs E ta t σ H Q := h
theorem RingAt.look {H : Hp} {x C : Addr} {c : Int} {ps : List (Int × Int)} (h : RingAt H x C c ps) : ∃ dx tp ow, H x = some (.ins C dx [("_copies", .int c), ("_points", .ref tp), ("_owners", .ref ow)]) := by
  obtain ⟨dx, tp, ow, xs, fs, e, _⟩ := h
  exact ⟨dx, tp, ow, e⟩
theorem iteP {A B : Prop} {b : Bool} (e : b = true) (h : A) : if b = true then A else B := by
  rw [if_pos e]
  exact h
theorem iteN {A B : Prop} {b : Bool} (e : b = false) (h : B) : if b = true then A else B := by
  rw [if_neg (by rw [e]; decide)]
  exact h
end RH
namespace RH
open PySem L2
def drawF (ds : List Int) (k : Int) : Int := (ds[k.toNat]?).getD 0
def DrawsOk (ds : List Int) : Prop := ds.length ≤ 400 ∧ ∀ d ∈ ds, 0 ≤ d ∧ d < 27720
theorem drawF_in {ds : List Int} (h : DrawsOk ds) (k : Int) : 0 ≤ drawF ds k ∧ drawF ds k < 27720 := by
  unfold drawF
  cases e : ds[k.toNat]? with
  | none => exact ⟨by decide, by decide⟩
  | some d => exact h.2 d (List.mem_of_getElem? e)
/-- _law_draw(draws, k), the same each time -/
def spDrawF : Sp := fun vs H Q _ => ∃ (l : Addr) (ds : List Int) (k : Int), vs = [.ref l, .int k] ∧ H l = some (.lst (ds.map V.int)) ∧ 0 ≤ k ∧ Q (.int (drawF ds k)) H
def spPool (K : PySem.W.Frag) : Sp := fun vs H Q _ => ∃ (a l : Addr) (ns ds : List Int), vs = [.ref a, .ref l] ∧ SqL K H a (ns.map V.int) ∧ H l = some (.lst (ds.map V.int)) ∧ DrawsOk ds ∧
  ∀ H' p ms, Same H H' → H p = none → H' p = some (.lst ((ms : List Int).map V.int)) → ms.length = 9 → (∀ m ∈ ms, 0 ≤ m ∧ m ≤ 1000000000000) → Q (.ref p) H'
def spLawPoints : Sp := fun vs H Q _ => ∃ (l pl : Addr) (ds ms : List Int) (first : Int), vs = [.ref l, .int first, .ref pl] ∧ H l = some (.lst (ds.map V.int)) ∧ DrawsOk ds ∧ 0 ≤ first ∧ H pl = some (.lst (ms.map V.int)) ∧ ms.length = 9 ∧ (∀ m ∈ ms, 0 ≤ m ∧ m ≤ 1000000000000) ∧
  ∀ H' p xs ps, Same H H' → H p = none → H' p = some (.lst xs) → PtsAt H' xs ps → OkPts ps 1 → Q (.ref p) H'
def spHouses : Sp := fun vs H Q _ => ∃ (a : Addr) (xs : List V) (ps : List (Int × Int)), vs = [.ref a] ∧ H a = some (.lst xs) ∧ PtsAt H xs ps ∧ ps.length ≤ 300 ∧
  ∀ H' p, Same H H' → H p = none → H' p = some (.lst ((dd (ps.map (·.2))).map V.int)) → Q (.ref p) H'
def spCopies : Sp := fun vs H Q _ => ∃ (a : Addr) (xs : List V) (ps : List (Int × Int)) (d : Int), vs = [.ref a, .int d] ∧ H a = some (.lst xs) ∧ PtsAt H xs ps ∧ OkPts ps 1 ∧ 0 ≤ d ∧ ∀ H' c, Same H H' → OkPts ps c → Q (.int c) H'
/-- other places by odd steps -/
theorem odd_steps {d s : Int} {i j : Nat} (hs : ∃ m, s = 2 * m + 1) (s0 : 0 ≤ s) (hi : i < j) (hj : j < 256) : ¬ (d + (i : Int) * s) % 256 = (d + (j : Int) * s) % 256 := by
  intro e
  obtain ⟨m, rfl⟩ := hs
  have h1 : (256 : Int) ∣ ((j : Int) - i) * (2 * m + 1) := by
    have h2 : (256 : Int) ∣ (d + (j : Int) * (2 * m + 1)) - (d + (i : Int) * (2 * m + 1)) := by omega
    have h3 : (d + (j : Int) * (2 * m + 1)) - (d + (i : Int) * (2 * m + 1)) = ((j : Int) - i) * (2 * m + 1) := by
      rw [Int.sub_mul]
      omega
    rwa [h3] at h2
  obtain ⟨k, hk⟩ : ∃ k : Nat, 2 * m + 1 = (k : Int) := ⟨(2 * m + 1).toNat, by omega⟩
  obtain ⟨t, ht⟩ : ∃ t : Nat, (j : Int) - i = (t : Int) := ⟨j - i, by omega⟩
  rw [hk, ht] at h1
  have h4 : 256 ∣ t * k := by exact_mod_cast h1
  have c2 : Nat.Coprime 2 k := by
    have : k % 2 = 1 := by omega
    unfold Nat.Coprime
    rw [Nat.gcd_rec, this]
    decide
  have c : Nat.Coprime 256 k := Nat.Coprime.pow_left 8 c2
  have h5 : 256 ∣ t := c.dvd_of_dvd_mul_right h4
  have := Nat.le_of_dvd (by omega) h5
  omega
theorem PtsAt.put {H : Hp} {xs ys zs : List V} {ps : List (Int × Int)} {l : Addr} (h : PtsAt H xs ps) (hl : H l = some (.lst ys)) : PtsAt (upd H l (.lst zs)) xs ps := ⟨h.1, fun i x p a b => by
  obtain ⟨t, rfl, e⟩ := h.2 i x p a b
  exact ⟨t, rfl, by rw [upd_ne (fun z => by rw [z, hl] at e; cases e)]; exact e⟩⟩
/-! ### lots of owners -/
def spStrangers : Sp := fun vs H Q _ => ∃ (a b : Addr) (hs os : List Int), vs = [.ref a, .ref b] ∧ H a = some (.lst (hs.map V.int)) ∧ H b = some (.lst (os.map V.int)) ∧ hs.length ≤ 300 ∧
  ∀ H' p, Same H H' → H p = none → H' p = some (.lst ((hs.filter fun o => !decide (o ∈ os)).map V.int)) → Q (.ref p) H'
def spLots : Sp := fun vs H Q _ => ∃ (b : Addr) (os : List Int) (n : Int), vs = [.ref b, .int n] ∧ H b = some (.lst (os.map V.int)) ∧ os.length ≤ 10 ∧
  ∀ H' t pc pl (ch le : List Int), Same H H' → H' t = some (.tup [.ref pc, .ref pl]) → H' pc = some (.lst (ch.map V.int)) → H' pl = some (.lst (le.map V.int)) → (ch ++ le).Perm os → Q (.ref t) H'
def spHas (C : Addr) : Sp := fun vs H Q _ => ∃ (a b t : Addr) (ms os : List Int) (c w r : Int), vs = [.ref a, .ref b, .ref t] ∧ H a = some (.lst (ms.map V.int)) ∧ H b = some (.lst (os.map V.int)) ∧ TermsAt H t C c w r ∧ ms.length ≤ 1000 ∧ os.length ≤ 1000 ∧ os.Nodup ∧
  ∀ H' p, Same H H' → H p = none → H' p = some (.lst [.bl (decide (w ≤ (cnt ms os : Int))), .bl (decide (r ≤ (cnt ms os : Int))), .bl (decide (hand c w r ≤ (cnt ms os : Int)))]) → Q (.ref p) H'
def spMeets (C : Addr) : Sp := fun vs H Q _ => ∃ (b t p : Addr) (os ss : List Int) (c w r m n : Int), vs = [.ref b, .ref t, .int m, .int n, .ref p] ∧ H b = some (.lst (os.map V.int)) ∧ os.Nodup ∧ (os.length : Int) = c ∧ c ≤ 7 ∧ TermsAt H t C c w r ∧ OkDue c w r ∧ H p = some (.lst (ss.map V.int)) ∧ ss.length ≤ 300 ∧ (∀ x ∈ ss, x ∉ os) ∧
  ∀ H', Same H H' → Q (.bl true) H'
def spAllMeet (C : Addr) : Sp := fun vs H Q _ => ∃ (b t p : Addr) (os ss : List Int) (c w r m : Int), vs = [.ref b, .ref t, .int m, .ref p] ∧ H b = some (.lst (os.map V.int)) ∧ os.Nodup ∧ (os.length : Int) = c ∧ c ≤ 7 ∧ TermsAt H t C c w r ∧ OkDue c w r ∧ H p = some (.lst (ss.map V.int)) ∧ ss.length ≤ 300 ∧ (∀ x ∈ ss, x ∉ os) ∧
  ∀ H', Same H H' → Q (.bl true) H'
/-- as many as the list that has just the owners among the members -/
theorem cnt_is {ms os l : List Int} (no : os.Nodup) (nl : l.Nodup) (h : ∀ o, o ∈ l ↔ o ∈ os ∧ o ∈ ms) : cnt ms os = l.length := by
  unfold cnt
  refine ((List.perm_ext_iff_of_nodup (no.filter _) nl).mpr fun o => ?_).length_eq
  rw [List.mem_filter, decide_eq_true_iff, h o]
/-- one list in another, unlike members: no longer -/
theorem le_of_sub {l m : List Int} (nl : l.Nodup) (nm : m.Nodup) (h : ∀ o ∈ l, o ∈ m) : l.length ≤ m.length := by
  have := cnt_is (ms := l) nm nl fun o => ⟨fun z => ⟨h o z, z⟩, fun z => z.2⟩
  have := cnt_le l m
  omega
end RH
namespace RH
open PySem L2
/-! ### the tuples of a heap, data that is made of them -/
def Tu (H : Hp) : Hp := fun a => match H a with
  | some (.tup xs) => some (.tup xs)
  | _ => none
theorem tu_some {H : Hp} {a : Addr} {o : HO} (h : Tu H a = some o) : ∃ xs, o = .tup xs ∧ H a = some (.tup xs) := by
  unfold Tu at h
  cases e : H a with
  | none => rw [e] at h; cases h
  | some u =>
    rw [e] at h
    cases u <;> first | (cases h; done) | skip
    exact ⟨_, (Option.some.inj h).symm, rfl⟩
theorem tu_at {H : Hp} {a : Addr} {xs : List V} (h : H a = some (.tup xs)) : Tu H a = some (.tup xs) := by
  unfold Tu
  rw [h]
theorem tu_same (H : Hp) : Same (Tu H) H := fun a o h => by
  obtain ⟨xs, rfl, e⟩ := tu_some h
  exact e
/-- tuples stay -/
def TuK (H H' : Hp) : Prop := ∀ a xs, H a = some (.tup xs) → H' a = some (.tup xs)
theorem TuK.tu {H H' : Hp} (k : TuK H H') : Same (Tu H) (Tu H') := fun a o h => by
  obtain ⟨xs, rfl, e⟩ := tu_some h
  exact tu_at (k a xs e)
theorem TuK.refl (H : Hp) : TuK H H := fun _ _ h => h
theorem TuK.trans {H H1 H2 : Hp} (a : TuK H H1) (b : TuK H1 H2) : TuK H H2 := fun p xs h => b p xs (a p xs h)
theorem TuK.of {H H' : Hp} (s : Same H H') : TuK H H' := fun a xs h => s a _ h
theorem TuK.put {H : Hp} {l : Addr} {xs : List V} {o : HO} (h : H l = some (.lst xs)) : TuK H (upd H l o) := fun a ys e => by
  rw [upd_ne (fun z => by rw [z, h] at e; cases e)]
  exact e
theorem TuK.ins {H : Hp} {x C dx : Addr} {fs : List (Str × V)} {o : HO} (h : H x = some (.ins C dx fs)) : TuK H (upd H x o) := fun a ys e => by
  rw [upd_ne (fun z => by rw [z, h] at e; cases e)]
  exact e
/-- data at v, in tuples -/
def Td (K : PySem.W.Frag) (H : Hp) (v : V) (d : PyData) : Prop := Dp K (Tu H) v d
theorem Td.mono {K : PySem.W.Frag} {H H' : Hp} {v : V} {d : PyData} (h : Td K H v d) (k : TuK H H') : Td K H' v d := dp_mono k.tu d v h
theorem Td.dp {K : PySem.W.Frag} {H : Hp} {v : V} {d : PyData} (h : Td K H v d) : Dp K H v d := dp_mono (tu_same H) d v h
theorem Td.tup {K : PySem.W.Frag} {H : Hp} {a : Addr} {xs : List V} {ds : List PyData} (h : H a = some (.tup xs)) (hs : DpAll K (Tu H) xs ds) : Td K H (.ref a) (.tuple ds) := Dp.tup (SqT.of (tu_at h)) hs
/-- something that is fit for == -/
def Ev (K : PySem.W.Frag) (n : Nat) (H : Hp) (v : V) : Prop := ∃ d, Td K H v d ∧ d.canLay0 = true ∧ d.depth ≤ n
theorem Ev.mono {K : PySem.W.Frag} {n : Nat} {H H' : Hp} {v : V} (h : Ev K n H v) (k : TuK H H') : Ev K n H' v := by
  obtain ⟨d, a, b, c⟩ := h
  exact ⟨d, a.mono k, b, c⟩
theorem evs_dp {K : PySem.W.Frag} {n : Nat} {H : Hp} : ∀ {xs : List V}, (∀ x ∈ xs, Ev K n H x) → ∃ ds, DpAll K (Tu H) xs ds ∧ PyData.canLayAll0 ds = true ∧ PyData.depthAll ds ≤ n
  | [], _ => ⟨[], .nil, by simp [PyData.canLayAll0], by simp [PyData.depthAll]⟩
  | x :: xs, h => by
    obtain ⟨d, a, b, c⟩ := h x List.mem_cons_self
    obtain ⟨ds, p, q, r⟩ := evs_dp fun y hy => h y (List.mem_cons_of_mem _ hy)
    refine ⟨d :: ds, .cons a p, by simp [PyData.canLayAll0, b, q], ?_⟩
    simp only [PyData.depthAll]
    omega
theorem ev_tup {K : PySem.W.Frag} {n : Nat} {H : Hp} {a : Addr} {xs : List V} (h : H a = some (.tup xs)) (hs : ∀ x ∈ xs, Ev K n H x) : Ev K (n + 1) H (.ref a) := by
  obtain ⟨ds, p, q, r⟩ := evs_dp hs
  exact ⟨.tuple ds, Td.tup h p, by simp [PyData.canLay0, q], by simp only [PyData.depth]; omega⟩
theorem ev_int {K : PySem.W.Frag} {n : Nat} {H : Hp} (i : Int) : Ev K n H (.int i) := ⟨.int i, .int i, by simp [PyData.canLay0], by simp [PyData.depth]⟩
theorem ev_str {K : PySem.W.Frag} {n : Nat} {H : Hp} (z : Str) (ok : PyData.strOk z = true) : Ev K n H (.str z) := ⟨.str z, .str z, by simp [PyData.canLay0, ok], by simp [PyData.depth]⟩
theorem ev_bl {K : PySem.W.Frag} {n : Nat} {H : Hp} (b : Bool) : Ev K n H (.bl b) := ⟨.bool b, .bl b, by simp [PyData.canLay0], by simp [PyData.depth]⟩
theorem ev_non {K : PySem.W.Frag} {n : Nat} {H : Hp} : Ev K n H .non := ⟨.none, .non, by simp [PyData.canLay0], by simp [PyData.depth]⟩
theorem Ev.up {K : PySem.W.Frag} {n m : Nat} {H : Hp} {v : V} (h : Ev K n H v) (l : n ≤ m) : Ev K m H v := by
  obtain ⟨d, a, b, c⟩ := h
  exact ⟨d, a, b, by omega⟩
theorem shaped_of {d : PyData} (h : d.canLay0 = true) (l : d.depth ≤ 64) : SeqAt.shaped d = true := by
  show (d.canLay0 && decide (d.depth ≤ 64)) = true
  rw [h, decide_eq_true l]
  rfl
/-- two lists of the same things -/
theorem evs_list {K : PySem.W.Frag} {H : Hp} {a b : Addr} {xs : List V} (ha : H a = some (.lst xs)) (hb : H b = some (.lst xs)) (hx : ∀ x ∈ xs, Ev K 60 H x) :
    ∃ d, Dp K H (.ref a) d ∧ Dp K H (.ref b) d ∧ SeqAt.shaped d = true ∧ PyData.eqv d d = true := by
  obtain ⟨ds, p, q, r⟩ := evs_dp hx
  have p2 := dpAll_mono (tu_same H) _ _ p
  have lay : (PyData.list ds).canLay0 = true := by simp [PyData.canLay0, q]
  have dep : (PyData.list ds).depth ≤ 64 := by simp only [PyData.depth]; omega
  exact ⟨.list ds, .lst (SqL.of ha) p2, .lst (SqL.of hb) p2, shaped_of lay dep, SeqAt.eqv_refl _ lay⟩
theorem r_neEv {K : PySem.W.Frag} {H : Hp} {Q : VK} {a b : Addr} {xs : List V} (ha : H a = some (.lst xs)) (hb : H b = some (.lst xs)) (hx : ∀ x ∈ xs, Ev K 60 H x) (q : Q (.bl false) H) : rNeD K (.ref a) (.ref b) H Q := by
  obtain ⟨d, p1, p2, s, e⟩ := evs_list ha hb hx
  refine ⟨d, d, p1, p2, s, s, ?_⟩
  rw [e]
  exact q
theorem r_eqEv {K : PySem.W.Frag} {H : Hp} {Q : VK} {a b : Addr} {xs : List V} (ha : H a = some (.lst xs)) (hb : H b = some (.lst xs)) (hx : ∀ x ∈ xs, Ev K 60 H x) (q : Q (.bl true) H) : rEqD K (.ref a) (.ref b) H Q := by
  obtain ⟨d, p1, p2, s, e⟩ := evs_list ha hb hx
  refine ⟨d, d, p1, p2, s, s, ?_⟩
  rw [e]
  exact q
/-- isinstance(x, list), x a list -/
theorem r_isiL {K : PySem.W.Frag} {H : Hp} {Q : VK} {p : Addr} {xs : List V} (h : H p = some (.lst xs)) (q : Q (.bl true) H) : rIsi K [.ref p, .ty "list"] H Q :=
  ⟨_, _, _, _, _, rfl, .ty "list", .base (.lst h), kit_ty (by decide +kernel), q⟩
theorem r_ownV {K : PySem.W.Frag} {C a dx l : Addr} {fs : List (Str × V)} {fld : Str} {xs : List V} {σ : L2.St} {H : Hp} {n0 k : Nat} {R : It → Hp → Prop}
    (hs : σ[k]? = some (some (.ref a))) (ha : H a = some (.ins C dx fs)) (hf : fs.lookup fld = some (.ref l)) (hl : SqL K H l xs) (h : R (Itl K l) H) : iOwn K n0 C (spIterL K C fld) (tVar k) σ H R := by
  refine ⟨_, hs, a, dx, fs, rfl, ha, fun n hn => ⟨a, dx, fs, l, xs, rfl, ha, hf, hl, fun it hit hge => ?_⟩⟩
  refine ⟨it, _, rfl, hge, .inl ⟨l, upd_same, rfl⟩, ?_⟩
  rw [ItX.dropH_upd hit]
  exact h
def rIsN : R2 := fun x y H Q => y = .non ∧ Q (.bl (decide (x = .non))) H
def rNotN : R2 := fun x y H Q => y = .non ∧ Q (.bl (!decide (x = .non))) H
theorem op_isN1 {X : Cx} : OpR X (compareOp .Is) rIsN := op_isN
theorem op_notN1 {X : Cx} : OpR X (compareOp .IsNot) rNotN := op_notN
theorem r_isN {x : V} {H : Hp} {Q : VK} (q : Q (.bl (decide (x = .non))) H) : rIsN x .non H Q := ⟨rfl, q⟩
theorem r_notN {x : V} {H : Hp} {Q : VK} (q : Q (.bl (!decide (x = .non))) H) : rNotN x .non H Q := ⟨rfl, q⟩
theorem pe_mkN {X : Cx} {k j : Nat} {x : Str} {C : Addr} {sp : Sp} {dvs : List V} {p pos : Pos} (c : C8.Mak X.prog X.w X.K X.mg X.base k x C sp dvs) (hr : Room j X.A) (hk : k + 1 ≤ j) (hg : Gl X x)
    (hdb : (x == ("__debug__" : Str)) = false := by decide) : PE X (.Call (.Name x p) [] [] pos) (tMake C sp dvs C8.E0 tNil) := by
  obtain ⟨f, fd, ps, ds, M, F, hm, b, d⟩ := c.ex
  exact pe_make0 M F (hr.mono hk) hg hm b d pass0 hdb
/-! ### fields, methods of lists -/
section
variable {K : PySem.W.Frag} {σ : L2.St} {H : Hp} {Q : VK} {k : Nat} {a C dx p : Addr} {fs : List (Str × V)} {f : Str} {v : V} {xs : List V}
theorem r_fldV (hs : σ[k]? = some (some (.ref a))) (ha : H a = some (.ins C dx fs)) (cl : Cls K C) (na : NoAttr K C f) (hf : fs.lookup f = some v) (q : Q v H) : tFld K (tVar k) f σ H Q := ⟨_, hs, a, C, dx, fs, v, rfl, ha, cl, na, hf, q⟩
theorem r_bmG {T : String} {r : V → List V → Hp → VK → Prop} {to : TE} {t : TA} (h : to σ H fun x H1 => tyV K T x H1 ∧ t σ H1 fun xs H2 => r x xs H2 Q) : tBM K T r to t σ H Q := h
theorem r_mtG {m : Str} {sp : Sp} {dvs : List V} {E : XK} {ta : TE} {t : TA} (h : ta σ H fun x H1 => ∃ a dx fs, x = .ref a ∧ H1 a = some (.ins C dx fs) ∧ fs.lookup m = none ∧ t σ H1 fun vs H2 => sp (x :: (vs ++ dvs)) H2 Q E) : tMeth C m sp dvs E ta t σ H Q := h
theorem r_mtX {m : Str} {R : Prop} (ha : H a = some (.ins C dx fs)) (l : fs.lookup m = none) (q : R) : ∃ b dx fs, V.ref a = .ref b ∧ H b = some (.ins C dx fs) ∧ fs.lookup m = none ∧ R := ⟨a, dx, fs, rfl, ha, l, q⟩
theorem r_tyL {R : Prop} (h : H p = some (.lst xs)) (q : R) : tyV K "list" (.ref p) H ∧ R := ⟨.inl ⟨rfl, _, SqL.of h⟩, q⟩
end
theorem r_par2 {ta : TA} {i j : Nat} {nx bk ct : L2.St → Hp → Prop} {rt : VK} {σ : L2.St} {H : Hp} (h : ta σ H fun vs H1 => ∃ v w, vs = [v, w] ∧ nx ((σ.set i (some v)).set j (some w)) H1) : tPar i j ta ⟨nx, rt, bk, ct⟩ σ H := h
theorem r_par3 {ta : TA} {i j l : Nat} {nx bk ct : L2.St → Hp → Prop} {rt : VK} {σ : L2.St} {H : Hp} (h : ta σ H fun vs H1 => ∃ u v w, vs = [u, v, w] ∧ nx (((σ.set i (some u)).set j (some v)).set l (some w)) H1) : tPar3 i j l ta ⟨nx, rt, bk, ct⟩ σ H := h
/-- an item at some place -/
theorem r_ixMem {K : PySem.W.Frag} {H : Hp} {Q : VK} {p : Addr} {xs : List V} {i : Int} (h : H p = some (.lst xs)) (h0 : 0 ≤ i) (h1 : i < xs.length) (q : ∀ v ∈ xs, Q v H) : rIxL K (.ref p) (.int i) H Q := by
  obtain ⟨m, rfl⟩ : ∃ m : Nat, i = (m : Int) := ⟨i.toNat, by omega⟩
  have hm : m < xs.length := by omega
  exact r_ixL h (atI_nat (v := xs[m]) (List.getElem?_eq_getElem hm)) (q _ (List.getElem_mem hm))
theorem r_ixMemT {K : PySem.W.Frag} {H : Hp} {Q : VK} {p : Addr} {xs : List V} {i : Int} (h : H p = some (.tup xs)) (h0 : 0 ≤ i) (h1 : i < xs.length) (q : ∀ v ∈ xs, Q v H) : rIxT K (.ref p) (.int i) H Q := by
  obtain ⟨m, rfl⟩ : ∃ m : Nat, i = (m : Int) := ⟨i.toNat, by omega⟩
  have hm : m < xs.length := by omega
  exact r_ixT h (atI_nat (v := xs[m]) (List.getElem?_eq_getElem hm)) (q _ (List.getElem_mem hm))
/-! ### steps that give a heap a new name -/
section
variable {H H1 H2 : Hp} {p l C dx : Addr} {o a b : HO} {xs ys : List V} {fs : List (Str × V)}
theorem same_gen (h : upd H p o = H2) (n : H p = none) : Same H H2 := h ▸ same_new n
theorem at_gen (h : upd H p o = H2) : H2 p = some o := h ▸ upd_same
theorem fr_gen (h : upd H l o = H2) : Fr l H H2 := h ▸ Fr.row
theorem ne_obj (h1 : H p = some a) (h2 : H l = some b) (h : a ≠ b) : p ≠ l := fun z => h (by rw [z, h2] at h1; exact (Option.some.inj h1).symm)
theorem same_step (s : Same H1 H2) (e : H1 p = some o) : H2 p = some o := s _ _ e
theorem fr_step (f : Fr l H1 H2) (n : p ≠ l) (e : H1 p = some o) : H2 p = some o := f _ _ n e
theorem fr_stepK (f : Fr l H1 H2) (hl : H1 l = some b) (e : H1 p = some a) (n : a ≠ b) : H2 p = some a := f _ _ (ne_obj e hl n) e
theorem same_chain (s : Same H1 H2) (s0 : Same H H1) : Same H H2 := s0.trans s
theorem same_frX (f : Fr l H1 H2) (s : Same H H1) (n : H l = none) : Same H H2 := fun b o e => f b o (ne_of_none e n) (s b o e)
theorem none_backX (n : H1 l = none) (s : Same H H1) : H l = none := s.free n
theorem tuk_same (s : Same H1 H2) (k : TuK H H1) : TuK H H2 := k.trans (TuK.of s)
theorem tuk_fr (f : Fr l H1 H2) (h : H1 l = some (.lst xs)) (k : TuK H H1) : TuK H H2 := k.trans fun a ys e => f a _ (ne_obj e h (fun z => by cases z)) e
theorem tuk_frI (f : Fr l H1 H2) (h : H1 l = some (.ins C dx fs)) (k : TuK H H1) : TuK H H2 := k.trans fun a ys e => f a _ (ne_obj e h (fun z => by cases z)) e
theorem ne_noneX (n : H l = none) (e : H p = some a) : p ≠ l := ne_of_none e n
theorem ne_objX (h2 : H l = some b) (h1 : H p = some a) (h : a ≠ b) : p ≠ l := ne_obj h1 h2 h
theorem TuK.frL (f : Fr l H H2) (h : H l = some (.lst xs)) : TuK H H2 := fun a ys e => f a _ (ne_obj e h (fun z => by cases z)) e
theorem TuK.frI (f : Fr l H H2) (h : H l = some (.ins C dx fs)) : TuK H H2 := fun a ys e => f a _ (ne_obj e h (fun z => by cases z)) e
theorem same_frN (f : Fr l H1 H2) (s : Same H H1) (n : H l = none) : Same H H2 := fun b o e => f b o (ne_of_none e n) (s b o e)
theorem none_back (s : Same H H1) (n : H1 l = none) : H l = none := s.free n
theorem ixN_of {n : Nat} {i : Int} (h0 : 0 ≤ i) (h1 : i < n) : ixN n i = some i.toNat := by
  unfold ixN
  rw [if_pos h0, if_pos h1]
theorem allN {P : V → Prop} : ∀ v ∈ ([] : List V), P v := fun _ h => nomatch h
end
/-! ### books -/
def BookAt (C : Addr) (H : Hp) (b l : Addr) (xs : List V) : Prop := (∃ dx, H b = some (.ins C dx [("_noted", .ref l)])) ∧ H l = some (.lst xs)
def spBookI (C : Addr) : Sp := fun vs H Q _ => ∃ (y dy : Addr), vs = [.ref y] ∧ H y = some (.ins C dy []) ∧ ∀ H' l, (∀ b o, b ≠ y → H b = some o → H' b = some o) → H l = none → BookAt C H' y l [] → Q .non H'
def spNoteB (C : Addr) : Sp := fun vs H Q _ => ∃ (b l : Addr) (v : V) (xs : List V), vs = [.ref b, v] ∧ BookAt C H b l xs ∧ xs.length < 1000 ∧ Q .non (upd H l (.lst (xs ++ [v])))
def spEventsB (C : Addr) : Sp := fun vs H Q _ => ∃ (b l : Addr) (xs : List V), vs = [.ref b] ∧ BookAt C H b l xs ∧ ∀ p, H p = none → Q (.ref p) (upd H p (.lst xs))
def spLenB (C : Addr) : Sp := fun vs H Q _ => ∃ (b l : Addr) (xs : List V), vs = [.ref b] ∧ BookAt C H b l xs ∧ Q (.int xs.length) H
def spLawEvent (K : PySem.W.Frag) : Sp := fun vs H Q _ => ∃ d : Int, vs = [.int d] ∧ 0 ≤ d ∧ d ≤ 10000 ∧ ∀ H' v, Same H H' → Ev K 20 H' v → Q v H'
def spHoldsB (K : PySem.W.Frag) (C : Addr) : Sp := fun vs H Q _ => ∃ (b l u : Addr) (k : Int) (xs : List V), vs = [.ref b, .ref u, .int k] ∧ BookAt C H b l xs ∧ H u = some (.lst xs) ∧ xs.length ≤ 900 ∧ 0 ≤ k ∧ (∀ x ∈ xs, Ev K 60 H x) ∧ ∀ H', Same H H' → Q (.bl true) H'
theorem r_book {C : Addr} {σ : L2.St} {H : Hp} {Q : VK} {E : XK} (q : ∀ b n dx H', Same H H' → H b = none → H n = none → H' b = some (.ins C dx [("_noted", .ref n)]) → H' n = some (.lst []) → Q (.ref b) H') : tMake C (spBookI C) [] E tNil σ H Q := by
  refine r_make (r_nil ?_)
  intro y dy hy hdy nyd
  refine ⟨y, dy, rfl, upd_same, fun H' l k hl hb => ⟨rfl, ?_⟩⟩
  obtain ⟨⟨dx, e1⟩, e2⟩ := hb
  have nly : l ≠ y := fun z => by rw [z, upd_same] at hl; cases hl
  rw [upd_ne nly] at hl
  have nld : l ≠ dy := fun z => by rw [z, upd_same] at hl; cases hl
  rw [upd_ne nld] at hl
  refine q y l dx H' (fun b o e => ?_) hy hl e1 e2
  have n1 : b ≠ y := ne_of_none e hy
  have n2 : b ≠ dy := ne_of_none e hdy
  exact k b o n1 (by rw [upd_ne n1, upd_ne n2]; exact e)
/-- the two books of the law -/
structure Bk2 (K : PySem.W.Frag) (C : Addr) (ds : List Int) (l pB pD b0 n0 d0 b1 n1 d1 : Addr) (xs ys : List V) (H : Hp) : Prop where
  hl : H l = some (.lst (ds.map V.int))
  hB : H pB = some (.lst [.ref b0, .ref b1])
  hD : H pD = some (.lst [.ref d0, .ref d1])
  h0 : ∃ dx, H b0 = some (.ins C dx [("_noted", .ref n0)])
  h1 : ∃ dx, H b1 = some (.ins C dx [("_noted", .ref n1)])
  a0 : H n0 = some (.lst xs)
  a1 : H n1 = some (.lst ys)
  c0 : H d0 = some (.lst xs)
  c1 : H d1 = some (.lst ys)
  ex : ∀ x ∈ xs, Ev K 60 H x
  ey : ∀ x ∈ ys, Ev K 60 H x
theorem Bk2.mono {K : PySem.W.Frag} {C : Addr} {ds : List Int} {l pB pD b0 n0 d0 b1 n1 d1 : Addr} {xs ys : List V} {H H' : Hp} (b : Bk2 K C ds l pB pD b0 n0 d0 b1 n1 d1 xs ys H) (s : Same H H') : Bk2 K C ds l pB pD b0 n0 d0 b1 n1 d1 xs ys H' :=
  ⟨s _ _ b.hl, s _ _ b.hB, s _ _ b.hD, b.h0.imp fun _ e => s _ _ e, b.h1.imp fun _ e => s _ _ e, s _ _ b.a0, s _ _ b.a1, s _ _ b.c0, s _ _ b.c1, fun x m => (b.ex x m).mono (TuK.of s), fun x m => (b.ey x m).mono (TuK.of s)⟩
theorem ev_snoc {K : PySem.W.Frag} {H : Hp} {xs : List V} {v : V} (h : ∀ x ∈ xs, Ev K 60 H x) (e : Ev K 60 H v) : ∀ x ∈ xs ++ [v], Ev K 60 H x := fun x m => by
  rcases List.mem_append.mp m with m | m
  · exact h x m
  · rw [List.mem_singleton.mp m]
    exact e
end RH
namespace RH
open PySem L2
/-! ### places that begin a group -/
section
variable {n : Nat} {bt : Nat → Bool}
abbrev stl (n : Nat) (bt : Nat → Bool) : List Nat := (List.range n).filter bt
/-- where the j-th group ends -/
def stE (n : Nat) (bt : Nat → Bool) (j : Nat) : Nat := ((stl n bt)[j + 1]?).getD n
theorem st_asc : (stl n bt).Pairwise (· < ·) := List.pairwise_lt_range.filter _
theorem st_mem {i : Nat} : i ∈ stl n bt ↔ i < n ∧ bt i = true := by
  rw [List.mem_filter, List.mem_range]
theorem st_get {j : Nat} (h : j < (stl n bt).length) : (stl n bt)[j] < n ∧ bt (stl n bt)[j] = true := st_mem.mp (List.getElem_mem h)
theorem st_lt {i j : Nat} (h : i < j) (hj : j < (stl n bt).length) : (stl n bt)[i] < (stl n bt)[j] := List.pairwise_iff_getElem.mp st_asc i j (by omega) hj h
theorem st_end {j : Nat} (h : j < (stl n bt).length) : (stl n bt)[j] < stE n bt j ∧ stE n bt j ≤ n := by
  unfold stE
  by_cases z : j + 1 < (stl n bt).length
  · rw [List.getElem?_eq_getElem z, Option.getD_some]
    exact ⟨st_lt (Nat.lt_succ_self j) z, Nat.le_of_lt (st_get z).1⟩
  · rw [List.getElem?_eq_none (by omega), Option.getD_none]
    exact ⟨(st_get h).1, Nat.le_refl _⟩
theorem st_in {j i : Nat} (h : j < (stl n bt).length) (h1 : (stl n bt)[j] < i) (h2 : i < stE n bt j) : bt i = false := by
  refine Bool.eq_false_iff.mpr fun b => ?_
  have hn : i < n := Nat.lt_of_lt_of_le h2 (st_end h).2
  obtain ⟨m, hm, e⟩ := List.mem_iff_getElem.mp (st_mem.mpr ⟨hn, b⟩)
  have hjm : j < m := by
    rcases Nat.lt_trichotomy j m with z | z | z
    · exact z
    · subst z; omega
    · have := st_lt z h; omega
  unfold stE at h2
  by_cases z : j + 1 < (stl n bt).length
  · rw [List.getElem?_eq_getElem z, Option.getD_some] at h2
    rcases Nat.lt_or_ge (j + 1) m with y | y
    · have := st_lt y hm; omega
    · have : m = j + 1 := by omega
      subst this
      omega
  · omega
theorem st_cov (h0 : ∀ _ : 0 < n, bt 0 = true) : ∀ i : Nat, i < n → ∃ (j : Nat) (h : j < (stl n bt).length), (stl n bt)[j] ≤ i ∧ i < stE n bt j
  | 0, hi => by
    obtain ⟨m, hm, e⟩ := List.mem_iff_getElem.mp (st_mem.mpr ⟨hi, h0 hi⟩)
    exact ⟨m, hm, by omega, by have := (st_end hm).1; omega⟩
  | i + 1, hi => by
    cases b : bt (i + 1) with
    | true =>
      obtain ⟨m, hm, e⟩ := List.mem_iff_getElem.mp (st_mem.mpr ⟨hi, b⟩)
      exact ⟨m, hm, by omega, by have := (st_end hm).1; omega⟩
    | false =>
      obtain ⟨j, hj, h1, h2⟩ := st_cov h0 i (by omega)
      refine ⟨j, hj, by omega, ?_⟩
      rcases Nat.lt_or_ge (i + 1) (stE n bt j) with z | z
      · exact z
      · exfalso
        have e : stE n bt j = i + 1 := by omega
        unfold stE at e
        by_cases y : j + 1 < (stl n bt).length
        · rw [List.getElem?_eq_getElem y, Option.getD_some] at e
          have := (st_get y).2
          rw [e, b] at this
          cases this
        · rw [List.getElem?_eq_none (by omega), Option.getD_none] at e
          omega
end
/-! ### sorted dots by groups -/
/-- lists of dots in ascending order -/
def DSrt (os : List (Int × Int)) : Prop := ∀ i j (hj : j < os.length) (h : i < j), (os[i]'(by omega)).1 < os[j].1 ∨ ((os[i]'(by omega)).1 = os[j].1 ∧ (os[i]'(by omega)).2 ≤ os[j].2)
def btD (os : List (Int × Int)) (i : Nat) : Bool := decide (i = 0) || !decide ((os.getD (i - 1) (0, 0)).1 = (os.getD i (0, 0)).1)
theorem btD_yes {os : List (Int × Int)} {i : Nat} (h0 : 0 < i) (hi : i < os.length) (b : btD os i = true) : (os[i - 1]'(by omega)).1 ≠ os[i].1 := by
  unfold btD at b
  rw [decide_eq_false (by omega), Bool.false_or] at b
  intro z
  rw [List.getD_eq_getElem?_getD, List.getD_eq_getElem?_getD, List.getElem?_eq_getElem (by omega), List.getElem?_eq_getElem hi] at b
  rw [decide_eq_true (show ((some (os[i - 1]'(by omega))).getD (0, 0)).1 = ((some os[i]).getD (0, 0)).1 from z)] at b
  cases b
theorem grp_same {os : List (Int × Int)} {j : Nat} (h : j < (stl os.length (btD os)).length) : ∀ (i : Nat) (hi : i < os.length), (stl os.length (btD os))[j] ≤ i → i < stE os.length (btD os) j → os[i].1 = (os[(stl os.length (btD os))[j]]'(st_get h).1).1 := by
  intro i
  induction i with
  | zero =>
    intro hi h1 _
    have e : (stl os.length (btD os))[j] = 0 := by omega
    congr 2
    exact e.symm
  | succ i ih =>
    intro hi h1 h2
    rcases Nat.lt_or_ge (stl os.length (btD os))[j] (i + 1) with z | z
    · have b := st_in h z h2
      have ih := ih (by omega) (by omega) (by omega)
      rw [← ih]
      unfold btD at b
      rw [Bool.or_eq_false_iff] at b
      have e := b.2
      have e2 : (os.getD (i + 1 - 1) (0, 0)).1 = (os.getD (i + 1) (0, 0)).1 := by
        by_cases y : (os.getD (i + 1 - 1) (0, 0)).1 = (os.getD (i + 1) (0, 0)).1
        · exact y
        · rw [decide_eq_false y] at e
          cases e
      rw [Nat.add_sub_cancel, List.getD_eq_getElem?_getD, List.getD_eq_getElem?_getD, List.getElem?_eq_getElem (by omega), List.getElem?_eq_getElem hi] at e2
      exact e2.symm
    · have e : (stl os.length (btD os))[j] = i + 1 := by omega
      congr 2
      exact e.symm
theorem grp_aux {os : List (Int × Int)} (srt : DSrt os) {si sj : Nat} (l1 : si < sj) (hj : sj < os.length) (b : btD os sj = true) : (os[si]'(by omega)).1 < os[sj].1 := by
  have e2 := btD_yes (by omega) hj b
  have z1 := srt (sj - 1) sj hj (by omega)
  have z2 : (os[si]'(by omega)).1 ≤ (os[sj - 1]'(by omega)).1 := by
    rcases Nat.lt_or_ge si (sj - 1) with y | y
    · rcases srt si (sj - 1) (by omega) y with x | x <;> omega
    · have e : si = sj - 1 := by omega
      subst e
      exact Int.le_refl _
  rcases z1 with x | x
  · omega
  · exact absurd x.1 e2
theorem grp_asc {os : List (Int × Int)} (srt : DSrt os) {i j : Nat} (h : i < j) (hj : j < (stl os.length (btD os)).length) : (os[(stl os.length (btD os))[i]]'(st_get (by omega)).1).1 < (os[(stl os.length (btD os))[j]]'(st_get hj).1).1 :=
  grp_aux srt (st_lt h hj) (st_get hj).1 (st_get hj).2
/-! ### clocks: rows, what dots they have -/
abbrev RowA := Int × Addr × Int × List Int
def HasR (ro : List RowA) (c k : Int) : Prop := ∃ r ∈ ro, r.1 = c ∧ InP r.2.2.1 r.2.2.2 k
/-- how much stands in the rows -/
def wtR (ro : List RowA) : Nat := (ro.map fun r => 1 + r.2.2.2.length).sum
structure RowsOk (ro : List RowA) : Prop where
  nd : (ro.map (·.1)).Nodup
  nf : ∀ r ∈ ro, NF r.2.2.1 r.2.2.2
  some : ∀ r ∈ ro, 0 < r.2.2.1 ∨ r.2.2.2 ≠ []
def kvR (ro : List RowA) : List (Key × V) := ro.map fun r => (Sum.inl r.1, V.ref r.2.1)
/-- a client's pair, laid in the heap -/
def RowH (H : Hp) (a : Addr) (u : Int) (l : List Int) : Prop := ∃ b, H a = some (.tup [.int u, .ref b]) ∧ H b = some (.tup (l.map V.int))
theorem RowH.mono {H H' : Hp} {a : Addr} {u : Int} {l : List Int} (h : RowH H a u l) (s : Same H H') : RowH H' a u l := by
  obtain ⟨b, h1, h2⟩ := h
  exact ⟨b, s _ _ h1, s _ _ h2⟩
theorem RowH.at_ {K : PySem.W.Frag} {H : Hp} {a : Addr} {u : Int} {l : List Int} (h : RowH H a u l) : RowAt K H (.ref a) u l := by
  obtain ⟨b, h1, h2⟩ := h
  exact ⟨a, b, rfl, SqT.of h1, SqT.of h2⟩
def RowsA (H : Hp) (d : Addr) (ro : List RowA) : Prop := H d = some (.dK (kvR ro)) ∧ ∀ r ∈ ro, RowH H r.2.1 r.2.2.1 r.2.2.2
theorem RowsA.mono {H H' : Hp} {d : Addr} {ro : List RowA} (h : RowsA H d ro) (s : Same H H') : RowsA H' d ro := ⟨s _ _ h.1, fun r m => (h.2 r m).mono s⟩
/-- the clock at x has the dots S -/
def ClkS (C : Addr) (N : Nat) (H : Hp) (x : Addr) (S : Int → Int → Prop) : Prop := ∃ dx d ro, H x = some (.ins C dx [("_rows", .ref d)]) ∧ RowsA H d ro ∧ RowsOk ro ∧ wtR ro ≤ N ∧ ∀ c k, 1 ≤ k → (HasR ro c k ↔ S c k)
theorem ClkS.mono {C : Addr} {N : Nat} {H H' : Hp} {x : Addr} {S : Int → Int → Prop} (h : ClkS C N H x S) (s : Same H H') : ClkS C N H' x S := by
  obtain ⟨dx, d, ro, a, b, c, e, g⟩ := h
  exact ⟨dx, d, ro, s _ _ a, b.mono s, c, e, g⟩
/-- _rows_of(dots), dots with numbers from 1 on -/
def spRowsC (K : PySem.W.Frag) : Sp := fun vs H Q _ => ∃ (p : Addr) (xs : List V) (ps : List (Int × Int)), vs = [.ref p] ∧ H p = some (.lst xs) ∧ PtsAt H xs ps ∧ xs.length ≤ 900 ∧ (∀ q ∈ ps, 1 ≤ q.2) ∧
  ∀ d ro H', Same H H' → H d = none → RowsA H' d ro → RowsOk ro → wtR ro ≤ 2 * ps.length → (∀ c k, 1 ≤ k → (HasR ro c k ↔ (c, k) ∈ ps)) → Q (.ref d) H'
end RH
namespace RH
open PySem L2
/-! ### the house at a place -/
def atF (ps : List (Int × Int)) (q : Int) : Option Int := (ps.find? fun p => decide (p.1 = q)).map (·.2)
theorem atF_some {ps : List (Int × Int)} (nd : (ps.map (·.1)).Nodup) {q h : Int} : atF ps q = some h ↔ (q, h) ∈ ps := by
  induction ps with
  | nil => simp [atF]
  | cons p ps ih =>
    rw [List.map_cons, List.nodup_cons] at nd
    unfold atF at ih ⊢
    rw [List.find?_cons, List.mem_cons]
    by_cases e : p.1 = q
    · rw [decide_eq_true e]
      dsimp only
      rw [Option.map_some]
      constructor
      · intro z
        left
        rw [← Option.some.inj z, ← e]
      · rintro (z | z)
        · rw [← z]
        · exact absurd (List.mem_map_of_mem z) (by rw [← e] at *; exact nd.1)
    · rw [decide_eq_false e]
      dsimp only
      rw [ih nd.2]
      constructor
      · exact .inr
      · rintro (z | z)
        · exact absurd (by rw [← z]) e
        · exact z
theorem atF_perm {ps qs : List (Int × Int)} (pm : qs.Perm ps) (nd : (ps.map (·.1)).Nodup) (q : Int) : atF qs q = atF ps q := by
  have nq : (qs.map (·.1)).Nodup := (pm.map _).nodup_iff.mpr nd
  cases e : atF ps q with
  | some h => exact (atF_some nq).mpr (pm.mem_iff.mpr ((atF_some nd).mp e))
  | none =>
    cases e2 : atF qs q with
    | none => rfl
    | some h =>
      rw [(atF_some nd).mpr (pm.mem_iff.mp ((atF_some nq).mp e2))] at e
      cases e
theorem Asc.nodup {ps : List (Int × Int)} (h : Asc ps) : (ps.map (·.1)).Nodup := by
  unfold List.Nodup
  rw [List.pairwise_map]
  exact h.imp fun z => Int.ne_of_lt z
/-- houses at a, a + 1, .. below a + n -/
def seq (ps : List (Int × Int)) (a : Int) (n : Nat) : List Int := (List.range n).filterMap fun s : Nat => atF ps (a + s)
theorem seq_succ (ps : List (Int × Int)) (a : Int) (n : Nat) : seq ps a (n + 1) = seq ps a n ++ (atF ps (a + n)).toList := by
  unfold seq
  rw [List.range_succ, List.filterMap_append]
  cases h : atF ps (a + (n : Int)) <;> simp [h]
theorem one_place {ps : List (Int × Int)} (h : Asc ps) (m : Int) : (ps.filter fun p => decide (p.1 = m)).map (·.2) = (atF ps m).toList := by
  induction ps with
  | nil => rfl
  | cons p ps ih =>
    have h2 := List.pairwise_cons.mp h
    unfold atF at ih ⊢
    by_cases e : p.1 = m
    · have e2 : ps.filter (fun p => decide (p.1 = m)) = [] := List.filter_eq_nil_iff.mpr fun x hx => by
        have := h2.1 x hx
        rw [decide_eq_true_iff]
        omega
      rw [List.filter_cons_of_pos (by exact decide_eq_true e), List.find?_cons, decide_eq_true e, e2]
      rfl
    · rw [List.filter_cons_of_neg (by rw [decide_eq_true_iff]; exact e), List.find?_cons, decide_eq_false e]
      exact ih h2.2
theorem cut_place {ps : List (Int × Int)} (h : Asc ps) (a m : Int) (am : a ≤ m) : ps.filter (fun p => decide (a ≤ p.1 ∧ p.1 < m + 1)) = ps.filter (fun p => decide (a ≤ p.1 ∧ p.1 < m)) ++ ps.filter (fun p => decide (p.1 = m)) := by
  induction ps with
  | nil => rfl
  | cons p ps ih =>
    have h2 := List.pairwise_cons.mp h
    have ih := ih h2.2
    by_cases e : p.1 < m
    · have n : ¬ p.1 = m := by omega
      by_cases e2 : a ≤ p.1
      · rw [List.filter_cons_of_pos (by exact decide_eq_true (show a ≤ p.1 ∧ p.1 < m + 1 by omega)), List.filter_cons_of_pos (by exact decide_eq_true (show a ≤ p.1 ∧ p.1 < m by omega)), List.filter_cons_of_neg (by rw [decide_eq_true_iff]; exact n), ih]
        rfl
      · rw [List.filter_cons_of_neg (by rw [decide_eq_true_iff]; omega), List.filter_cons_of_neg (by rw [decide_eq_true_iff]; omega), List.filter_cons_of_neg (by rw [decide_eq_true_iff]; exact n), ih]
    · have e3 : ps.filter (fun p => decide (a ≤ p.1 ∧ p.1 < m)) = [] := List.filter_eq_nil_iff.mpr fun x hx => by
        have := h2.1 x hx
        rw [decide_eq_true_iff]
        omega
      rw [e3, List.nil_append] at ih
      rw [List.filter_cons_of_neg (p := fun p : Int × Int => decide (a ≤ p.1 ∧ p.1 < m)) (by rw [decide_eq_true_iff]; omega), e3, List.nil_append]
      by_cases e4 : p.1 = m
      · rw [List.filter_cons_of_pos (by exact decide_eq_true (show a ≤ p.1 ∧ p.1 < m + 1 by omega)), List.filter_cons_of_pos (by exact decide_eq_true e4), ih]
      · rw [List.filter_cons_of_neg (by rw [decide_eq_true_iff]; omega), List.filter_cons_of_neg (by rw [decide_eq_true_iff]; exact e4), ih]
theorem seq_is {ps : List (Int × Int)} (h : Asc ps) (a : Int) : ∀ n : Nat, seq ps a n = (ps.filter fun p => decide (a ≤ p.1 ∧ p.1 < a + n)).map (·.2)
  | 0 => by
    have : ps.filter (fun p => decide (a ≤ p.1 ∧ p.1 < a + (0 : Nat))) = [] := List.filter_eq_nil_iff.mpr fun x hx => by
      rw [decide_eq_true_iff]
      omega
    rw [this]
    rfl
  | n + 1 => by
    rw [seq_succ, seq_is h a n, ← one_place h, ← List.map_append, ← cut_place h a (a + n) (by omega)]
    have : (a : Int) + (n + 1 : Nat) = a + n + 1 := by omega
    rw [this]
/-- all houses from q on, once round -/
theorem seq_turn {ps : List (Int × Int)} (h : Asc ps) (hp : ∀ p ∈ ps, 0 ≤ p.1 ∧ p.1 < 256) {q : Nat} (hq : q ≤ 256) : seq ps q (256 - q) ++ seq ps 0 q = (turn ps q).map (·.2) := by
  rw [seq_is h, seq_is h, ← List.map_append]
  unfold turn
  congr 2
  · refine List.filter_congr fun x hx => ?_
    have := hp x hx
    rw [decide_eq_decide]
    omega
  · refine List.filter_congr fun x hx => ?_
    have := hp x hx
    rw [decide_eq_decide]
    omega
/-- at a step of a walk round -/
def ring (ps : List (Int × Int)) (q : Int) (n : Nat) : List Int := (List.range n).filterMap fun s : Nat => atF ps ((q + s) % 256)
theorem ring_succ (ps : List (Int × Int)) (q : Int) (n : Nat) : ring ps q (n + 1) = ring ps q n ++ (atF ps ((q + n) % 256)).toList := by
  unfold ring
  rw [List.range_succ, List.filterMap_append]
  cases h : atF ps ((q + (n : Int)) % 256) <;> simp [h]
theorem ring_low (ps : List (Int × Int)) {q : Nat} (hq : q < 256) : ∀ n : Nat, n ≤ 256 - q → ring ps q n = seq ps q n
  | 0, _ => rfl
  | n + 1, h => by
    rw [ring_succ, seq_succ, ring_low ps hq n (by omega)]
    congr 3
    omega
theorem ring_high (ps : List (Int × Int)) {q : Nat} (hq : q < 256) : ∀ n : Nat, n ≤ q → ring ps q (256 - q + n) = seq ps q (256 - q) ++ seq ps 0 n
  | 0, _ => by
    rw [Nat.add_zero, ring_low ps hq _ (Nat.le_refl _)]
    simp [seq]
  | n + 1, h => by
    rw [← Nat.add_assoc, ring_succ, seq_succ, ring_high ps hq n (by omega), List.append_assoc]
    congr 4
    omega
theorem ring_all {ps : List (Int × Int)} (h : Asc ps) (hp : ∀ p ∈ ps, 0 ≤ p.1 ∧ p.1 < 256) {q : Nat} (hq : q < 256) : ring ps q 256 = (turn ps q).map (·.2) := by
  rw [← seq_turn h hp (by omega), ← ring_high ps hq q (Nat.le_refl _)]
  congr 1
  omega
/-! ### the same list, from behind -/
theorem ddS_cons (h x : Int) (os : List Int) : ddS (h :: os.filter fun o => decide (o ≠ h)) x = h :: (ddS os x).filter fun o => decide (o ≠ h) := by
  have mem : x ∈ h :: os.filter (fun o => decide (o ≠ h)) ↔ x = h ∨ x ∈ os := by
    rw [List.mem_cons, List.mem_filter, decide_eq_true_iff]
    by_cases e : x = h <;> simp [e]
  unfold ddS
  by_cases e : x ∈ os
  · rw [if_pos (mem.mpr (.inr e)), if_pos e]
  · rw [if_neg e]
    by_cases e2 : x = h
    · rw [if_pos (mem.mpr (.inl e2)), List.filter_append, e2]
      simp
    · rw [if_neg fun z => (mem.mp z).elim e2 e, List.filter_append, List.filter_cons_of_pos (by exact decide_eq_true e2)]
      rfl
theorem dd_cons (h : Int) (l : List Int) : dd (h :: l) = h :: (dd l).filter fun o => decide (o ≠ h) := by
  have go : ∀ (l os : List Int), l.foldl ddS (h :: os.filter fun o => decide (o ≠ h)) = h :: (l.foldl ddS os).filter fun o => decide (o ≠ h) := by
    intro l
    induction l with
    | nil => exact fun os => rfl
    | cons x l ih =>
      intro os
      rw [List.foldl_cons, List.foldl_cons, ddS_cons, ih]
  exact go l []
theorem dd_rest {l m : List Int} (h : ∀ o ∈ m, o ∈ l) : dd (l ++ m) = dd l := by
  have go : ∀ (m os : List Int), (∀ o ∈ m, o ∈ os) → m.foldl ddS os = os := by
    intro m
    induction m with
    | nil => exact fun os _ => rfl
    | cons x m ih =>
      intro os ho
      rw [List.foldl_cons]
      unfold ddS
      rw [if_pos (ho x List.mem_cons_self)]
      exact ih os fun o hm => ho o (List.mem_cons_of_mem _ hm)
  unfold dd
  rw [List.foldl_append]
  exact go m _ fun o hm => dd_mem.mpr (h o hm)
/-- what was gone through from behind, the latest first -/
def back (ps : List (Int × Int)) : Nat → List Int
  | 0 => []
  | n + 1 => (atF ps (255 - (n : Int) % 256)).toList ++ back ps n
theorem back_one (ps : List (Int × Int)) : ∀ n : Nat, n ≤ 256 → back ps n = seq ps (256 - (n : Int)) n
  | 0, _ => rfl
  | n + 1, h => by
    show (atF ps (255 - (n : Int) % 256)).toList ++ back ps n = _
    rw [back_one ps n (by omega)]
    unfold seq
    rw [List.range_succ_eq_map, List.filterMap_cons, List.filterMap_map]
    have e1 : (255 - (n : Int) % 256) = 256 - ((n + 1 : Nat) : Int) + (0 : Nat) := by omega
    have e2 : ((fun s : Nat => atF ps (256 - ((n + 1 : Nat) : Int) + s)) ∘ Nat.succ) = fun s : Nat => atF ps (256 - (n : Int) + s) := by
      funext s
      show atF ps _ = atF ps _
      congr 1
      omega
    rw [e1, e2]
    cases atF ps (256 - ((n + 1 : Nat) : Int) + (0 : Nat)) <;> rfl
theorem back_two (ps : List (Int × Int)) : ∀ n : Nat, n ≤ 256 → back ps (256 + n) = seq ps (256 - (n : Int)) n ++ seq ps 0 256
  | 0, _ => by
    rw [Nat.add_zero, back_one ps 256 (Nat.le_refl _)]
    rfl
  | n + 1, h => by
    show (atF ps (255 - ((256 + n : Nat) : Int) % 256)).toList ++ back ps (256 + n) = _
    rw [back_two ps n (by omega), ← List.append_assoc]
    congr 1
    rw [show (255 - ((256 + n : Nat) : Int) % 256) = 255 - (n : Int) % 256 by omega]
    rw [← back_one ps n (by omega), ← back_one ps (n + 1) h]
    rfl
theorem seq_split (ps : List (Int × Int)) (a : Int) (m : Nat) : ∀ n : Nat, seq ps a (m + n) = seq ps a m ++ seq ps (a + m) n
  | 0 => by simp [seq]
  | n + 1 => by
    rw [← Nat.add_assoc, seq_succ, seq_split ps a m n, seq_succ, List.append_assoc, show a + ((m + n : Nat) : Int) = a + m + n by omega]
/-- from behind, twice round: the same owners -/
theorem back_own {ps : List (Int × Int)} (h : Asc ps) (hp : ∀ p ∈ ps, 0 ≤ p.1 ∧ p.1 < 256) {q : Nat} (hq : q < 256) (c : Int) : (dd (back ps (512 - q))).take c.toNat = own ps c q := by
  have e : 512 - q = 256 + (256 - q) := by omega
  rw [e, back_two ps _ (by omega)]
  have e2 : (256 - ((256 - q : Nat) : Int)) = q := by omega
  rw [e2]
  have e3 : seq ps 0 256 = seq ps 0 q ++ seq ps q (256 - q) := by
    have z := seq_split ps 0 q (256 - q)
    rw [show q + (256 - q) = 256 by omega, Int.zero_add] at z
    exact z
  rw [e3, ← List.append_assoc, dd_rest (fun o ho => List.mem_append_left _ ho), seq_turn h hp (by omega)]
  rfl
/-! ### the law's dict of places -/
def dOf (ps : List (Int × Int)) : List (Key × V) := ps.map fun p => (.inl p.1, .int p.2)
theorem dOf_val (ps : List (Int × Int)) (q : Int) : valV (dOf ps) (.inl q) = (atF ps q).map V.int := by
  induction ps with
  | nil => rfl
  | cons p ps ih =>
    unfold valV dOf atF at ih ⊢
    rw [List.map_cons, List.find?_cons, List.find?_cons]
    by_cases e : p.1 = q
    · rw [decide_eq_true e, decide_eq_true (show (Sum.inl p.1 : Key) = .inl q by rw [e])]
      rfl
    · rw [decide_eq_false e, decide_eq_false (show ¬ (Sum.inl p.1 : Key) = .inl q from fun z => e (Sum.inl.inj z))]
      exact ih
theorem atF_none {ps : List (Int × Int)} {q : Int} (h : q ∉ ps.map (·.1)) : atF ps q = none := by
  unfold atF
  rw [List.find?_eq_none.mpr fun p hp z => h (List.mem_map.mpr ⟨p, hp, of_decide_eq_true z⟩)]
  rfl
theorem dOf_snoc {ps : List (Int × Int)} {p : Int × Int} (h : p.1 ∉ ps.map (·.1)) : putK (dOf ps) (.inl p.1) (.int p.2) = dOf (ps ++ [p]) := by
  rw [putK_new _ (by rw [dOf_val, atF_none h]; rfl)]
  unfold dOf
  rw [List.map_append]
  rfl
theorem hu1 {k : Nat} {A : Around} (r : Room k A) : A.units + 1 < cLine := Nat.lt_of_le_of_lt (by omega) (hu65 r)
theorem r_dput {td ty tv : TE} {nx bk ct : L2.St → Hp → Prop} {rt : VK} {σ : L2.St} {H : Hp} (h : tv σ H fun v H1 => td σ H1 fun x H2 => ty σ H2 fun y H3 => ∃ a H4, x = V.ref a ∧ DPut H3 a y v H4 ∧ nx σ H4) : sDPut td ty tv ⟨nx, rt, bk, ct⟩ σ H := h
theorem r_dget1 {td ty : TE} {σ : L2.St} {H : Hp} {Q : VK} (h : td σ H fun x H1 => ∃ a, x = V.ref a ∧ IsD H1 a ∧ ty σ H1 fun y H2 => ∃ o, DGet H2 a y o ∧ Q (o.getD .non) H2) : tDGet1 td ty σ H Q := h
theorem r_dnew {σ : L2.St} {H : Hp} {Q : VK} (h : ∀ p, H p = none → Q (.ref p) (upd H p (.dK []))) : tDNewK σ H Q := h
theorem isD_of {H : Hp} {d : Addr} {kvs : List (Key × V)} (h : H d = some (.dK kvs)) : IsD H d := .inl ⟨kvs, .inl h⟩
/-- one step of the law's walk -/
def wkS (c : Int) (os : List Int) : Option Int → List Int
  | none => os
  | some h => if h ∉ os ∧ (os.length : Int) < c then os ++ [h] else os
theorem wkS_dd {c : Int} (c0 : 0 ≤ c) (l : List Int) (o : Option Int) : wkS c ((dd l).take c.toNat) o = (dd (l ++ o.toList)).take c.toNat := by
  cases o with
  | none => simp [wkS]
  | some h =>
    show (if h ∉ (dd l).take c.toNat ∧ (((dd l).take c.toNat).length : Int) < c then (dd l).take c.toNat ++ [h] else (dd l).take c.toNat) = (dd (l ++ [h])).take c.toNat
    rw [dd_snoc]
    unfold ddS
    by_cases lt : ((dd l).length : Int) < c
    · have e : (dd l).take c.toNat = dd l := List.take_of_length_le (by omega)
      rw [e]
      by_cases m : h ∈ dd l
      · rw [if_neg (fun z => z.1 m), if_pos m, e]
      · rw [if_pos ⟨m, lt⟩, if_neg m, List.take_of_length_le (by rw [List.length_append, List.length_singleton]; omega)]
    · have e : (((dd l).take c.toNat).length : Int) = c := by rw [List.length_take]; omega
      rw [if_neg fun z => by omega]
      by_cases m : h ∈ dd l
      · rw [if_pos m]
      · rw [if_neg m, List.take_append_of_le_length (by omega)]
def spWalkL : Sp := fun vs H Q _ => ∃ (a : Addr) (xs : List V) (ps : List (Int × Int)) (q c : Int), vs = [.ref a, .int q, .int c] ∧ H a = some (.lst xs) ∧ PtsAt H xs ps ∧ (ps.map (·.1)).Nodup ∧ ps.length ≤ 300 ∧ 1 ≤ c ∧ 0 ≤ q ∧
  ∀ H' p, Same H H' → H p = none → H' p = some (.lst (((dd (ring ps q 256)).take c.toNat).map V.int)) → Q (.ref p) H'
def spAllOwners : Sp := fun vs H Q _ => ∃ (a : Addr) (xs : List V) (ps : List (Int × Int)) (c : Int), vs = [.ref a, .int c] ∧ H a = some (.lst xs) ∧ PtsAt H xs ps ∧ (ps.map (·.1)).Nodup ∧ ps.length ≤ 300 ∧ 1 ≤ c ∧
  ∀ H' p vs, Same H H' → H p = none → H' p = some (.lst vs) → vs.length = 256 → (∀ q, q < 256 → ∃ b, vs[q]? = some (V.ref b) ∧ H b = none ∧ H' b = some (.lst (((dd (back ps (512 - q))).take c.toNat).map V.int))) → Q (.ref p) H'
def spSameInts : Sp := fun vs H Q _ => ∃ (a b : Addr) (os : List Int), vs = [.ref a, .ref b] ∧ H a = some (.lst (os.map V.int)) ∧ H b = some (.lst (os.map V.int)) ∧ os.length ≤ 1000 ∧ Q (.bl true) H
theorem atF_mem {ps : List (Int × Int)} {q h : Int} (e : atF ps q = some h) : h ∈ ps.map (·.2) := by
  unfold atF at e
  cases z : ps.find? (fun p => decide (p.1 = q)) with
  | none => rw [z] at e; cases e
  | some p =>
    rw [z] at e
    rw [← Option.some.inj e]
    exact List.mem_map_of_mem (List.mem_of_find?_eq_some z)
theorem back_mem {ps : List (Int × Int)} : ∀ {n : Nat} {o : Int}, o ∈ back ps n → o ∈ ps.map (·.2)
  | 0, o, h => nomatch h
  | n + 1, o, h => by
    have h : o ∈ (atF ps (255 - (n : Int) % 256)).toList ++ back ps n := h
    rcases List.mem_append.mp h with z | z
    · cases e : atF ps (255 - (n : Int) % 256) with
      | none => rw [e] at z; cases z
      | some x =>
        rw [e, Option.toList_some, List.mem_singleton] at z
        rw [z]
        exact atF_mem e
    · exact back_mem z
theorem back_few {ps : List (Int × Int)} (few : ps.length ≤ 300) (n : Nat) : (dd (back ps n)).length ≤ 300 := by
  have h1 := le_of_sub (dd_nodup (back ps n)) (dd_nodup (ps.map (·.2))) fun o ho => dd_mem.mpr (back_mem (dd_mem.mp ho))
  have h2 := dd_len (ps.map (·.2))
  rw [List.length_map] at h2
  omega
theorem filt_pairs {α : Type} (b : α → Bool) (f : α → Int) : ∀ l : List α, ((l.map fun i => (b i, V.int (f i))).filter (·.1)).map (·.2) = ((l.filter b).map f).map V.int
  | [] => rfl
  | i :: l => by
    have ih := filt_pairs b f l
    cases e : b i with
    | true => simp [e, ih]
    | false => simp [e, ih]
/-- the places of a house -/
def plI (ps : List (Int × Int)) (c h : Int) : List Int := ((List.range 256).filter fun i : Nat => decide (h ∈ own ps c i)).map fun i : Nat => (i : Int)
theorem plI_len (ps : List (Int × Int)) (c h : Int) : (plI ps c h).length ≤ 256 := by
  unfold plI
  rw [List.length_map]
  exact Nat.le_trans (List.length_filter_le ..) (by rw [List.length_range]; exact Nat.le_refl _)
def spPlacesOf (C : Addr) : Sp := fun vs H Q _ => ∃ x c ps h, vs = [.ref x, .int h] ∧ RingAt H x C c ps ∧ ∀ H' p, Same H H' → H p = none → H' p = some (.lst ((plI ps c h).map V.int)) → Q (.ref p) H'
/-- houses that the law draws -/
def pool26 (ms : List Int) : List Int := ms ++ (List.range 24).map fun k : Nat => 3 * (k : Int) + 1
def spPoints26 : Sp := fun vs H Q _ => ∃ (l pl : Addr) (ds ms : List Int) (first : Int), vs = [.ref l, .int first, .ref pl] ∧ H l = some (.lst (ds.map V.int)) ∧ DrawsOk ds ∧ 0 ≤ first ∧ H pl = some (.lst (ms.map V.int)) ∧ ms.length = 9 ∧ (∀ m ∈ ms, 0 ≤ m ∧ m ≤ 1000000000000) ∧
  ∀ H' p xs ps, Same H H' → H p = none → H' p = some (.lst xs) → PtsAt H' xs ps → OkPts ps 1 → (∀ x ∈ ps, x.2 ∈ pool26 ms) → Q (.ref p) H'
/-- a field, within a block -/
theorem pe_fldK {X : Cx} {K : PySem.W.Frag} {e : Expr} {ta : TE} {f : Str} {pos : Pos} (hK : X.K = K) (he : PE X e ta) (hb : attributeBase e f X.env (eval e X.env) = eval e X.env) : PE X (.Attribute e f pos) (tFld K ta f) := by
  subst hK
  exact pe_fld he hb
theorem ring_perm {ps qs : List (Int × Int)} (pm : qs.Perm ps) (nd : (ps.map (·.1)).Nodup) (q : Int) (n : Nat) : ring ps q n = ring qs q n := by
  unfold ring
  congr 1
  funext s
  exact (atF_perm pm nd _).symm
theorem back_perm {ps qs : List (Int × Int)} (pm : qs.Perm ps) (nd : (ps.map (·.1)).Nodup) : ∀ n : Nat, back ps n = back qs n
  | 0 => rfl
  | n + 1 => by
    show (atF ps _).toList ++ back ps n = (atF qs _).toList ++ back qs n
    rw [back_perm pm nd n, atF_perm pm nd]
/-- in 80 numbers there is one that is not among fewer -/
theorem one_free {os : List Int} (h : os.length < 80) : 0 < (((List.range 80).filter fun i : Nat => !decide ((i : Int) ∈ os)).map fun i : Nat => (i : Int)).length := by
  rcases Nat.eq_zero_or_pos ((((List.range 80).filter fun i : Nat => !decide ((i : Int) ∈ os)).map fun i : Nat => (i : Int)).length) with z | z
  · exfalso
    rw [List.length_map] at z
    have e := List.eq_nil_of_length_eq_zero z
    have all : ∀ i : Nat, i < 80 → (i : Int) ∈ os := fun i hi => by
      have := List.filter_eq_nil_iff.mp e i (List.mem_range.mpr hi)
      simpa using this
    have nd : ((List.range 80).map fun i : Nat => (i : Int)).Nodup := by
      unfold List.Nodup
      rw [List.pairwise_map]
      exact List.Pairwise.imp (fun lt => by omega) List.pairwise_lt_range
    have := le_of_sub nd (dd_nodup os) fun o ho => by
      obtain ⟨i, hi, rfl⟩ := List.mem_map.mp ho
      exact dd_mem.mpr (all i (List.mem_range.mp hi))
    have h2 := dd_len os
    rw [List.length_map, List.length_range] at this
    omega
  · exact z
end RH
namespace RH
open PySem PySem.Spec PyProof.Rows L2
/-! ### pairs of ints as tuples: dots -/
def dotD (p : Int × Int) : PyData := .tuple [.int p.1, .int p.2]
def DotAt (K : PySem.W.Frag) (H : Hp) (v : V) (p : Int × Int) : Prop := ∃ a, v = .ref a ∧ SqT K H a [.int p.1, .int p.2]
def DotsAt (K : PySem.W.Frag) (H : Hp) (vs : List V) (ps : List (Int × Int)) : Prop := Paired (DotAt K H) vs ps
section
variable {K : PySem.W.Frag} {H H' : Hp}
theorem DotAt.mono {v : V} {p : Int × Int} (h : DotAt K H v p) (s : Same H H') : DotAt K H' v p := by
  obtain ⟨a, rfl, t⟩ := h
  exact ⟨a, rfl, same_t s t⟩
theorem DotsAt.mono {vs : List V} {ps : List (Int × Int)} (h : DotsAt K H vs ps) (s : Same H H') : DotsAt K H' vs ps := by
  unfold DotsAt at h ⊢
  induction h with
  | nil => exact .nil
  | cons a _ ih => exact .cons (a.mono s) ih
theorem DotAt.dp {v : V} {p : Int × Int} (h : DotAt K H v p) : Dp K H v (dotD p) := by
  obtain ⟨a, rfl, t⟩ := h
  exact .tup t (.cons (.int _) (.cons (.int _) .nil))
theorem DotsAt.dp {vs : List V} {ps : List (Int × Int)} (h : DotsAt K H vs ps) : DpAll K H vs (ps.map dotD) := by
  unfold DotsAt at h
  induction h with
  | nil => exact .nil
  | cons a _ ih => exact .cons a.dp ih
end
theorem dot_lay (p : Int × Int) : (dotD p).canLay0 = true := by simp [dotD, PyData.canLay0, PyData.canLayAll0]
theorem dots_lay : ∀ ps : List (Int × Int), PyData.canLayAll0 (ps.map dotD) = true
  | [] => by simp [PyData.canLayAll0]
  | p :: ps => by simp [PyData.canLayAll0, dot_lay p, dots_lay ps]
theorem dot_depth (p : Int × Int) : (dotD p).depth = 1 := by simp [dotD, PyData.depth, PyData.depthAll]
theorem dot_eqv (p q : Int × Int) : PyData.eqv (dotD p) (dotD q) = decide (p = q) := by
  have e : PyData.eqv (dotD p) (dotD q) = (p.1 == q.1 && (p.2 == q.2 && true)) := by simp only [dotD, PyData.eqv, PyData.eqvAll]
  rw [e, Bool.and_true, Bool.eq_iff_iff, Bool.and_eq_true, beq_iff_eq, beq_iff_eq, decide_eq_true_iff, Prod.ext_iff]
theorem dots_any (ps : List (Int × Int)) (p : Int × Int) : ((ps.map dotD).any fun y => PyData.eqv y (dotD p)) = decide (p ∈ ps) := by
  rw [List.any_map, Bool.eq_iff_iff, List.any_eq_true, decide_eq_true_iff]
  constructor
  · rintro ⟨q, hq, e⟩
    rw [Function.comp_apply, dot_eqv, decide_eq_true_iff] at e
    exact e ▸ hq
  · intro h
    exact ⟨p, h, by rw [Function.comp_apply, dot_eqv, decide_eq_true rfl]⟩
/-- x in y, x not in y: a dot, a list or tuple of dots -/
def rInDot (K : PySem.W.Frag) (neg : Bool) : R2 := fun x y H Q => ∃ p b xs ps, y = V.ref b ∧ DotAt K H x p ∧ (SqL K H b xs ∨ SqT K H b xs) ∧ DotsAt K H xs ps ∧ Q (.bl (if neg then !decide (p ∈ ps) else decide (p ∈ ps))) H
theorem op_inDot {X : Cx} (hu : X.A.units + 65 < cLine) : OpR X (compareOp .In) (rInDot X.K false) := by
  intro pins s σ H x y v u Q I rx ry h
  obtain ⟨p, b, xs, ps, rfl, hx, hb, hd, q⟩ := h
  obtain ⟨as, r1⟩ := Dp.reads I (dotD p) x v hx.dp rx
  have room : X.A.units + 1 + min (PyData.depthAll (ps.map dotD)) (dotD p).depth < cLine := by
    rw [dot_depth]
    omega
  rcases hb with hb | hb
  · obtain ⟨bs, r2⟩ := Dp.reads I (.list (ps.map dotD)) _ u (.lst hb hd.dp) ry
    exact SeqAt.in_list_reads r2 r1 (dots_lay ps) (dot_lay p) room ⟨.bl _, H, I, rfl, by rw [dots_any]; exact q⟩
  · obtain ⟨bs, r2⟩ := Dp.reads I (.tuple (ps.map dotD)) _ u (.tup hb hd.dp) ry
    exact SeqAt.in_tuple_reads r2 r1 (dots_lay ps) (dot_lay p) room ⟨.bl _, H, I, rfl, by rw [dots_any]; exact q⟩
theorem op_notInDot {X : Cx} (hu : X.A.units + 65 < cLine) : OpR X (compareOp .NotIn) (rInDot X.K true) := by
  intro pins s σ H x y v u Q I rx ry h
  obtain ⟨p, b, xs, ps, rfl, hx, hb, hd, q⟩ := h
  obtain ⟨as, r1⟩ := Dp.reads I (dotD p) x v hx.dp rx
  have room : X.A.units + 1 + min (PyData.depthAll (ps.map dotD)) (dotD p).depth < cLine := by
    rw [dot_depth]
    omega
  rcases hb with hb | hb
  · obtain ⟨bs, r2⟩ := Dp.reads I (.list (ps.map dotD)) _ u (.lst hb hd.dp) ry
    exact SeqAt.notIn_list_reads r2 r1 (dots_lay ps) (dot_lay p) room ⟨.bl _, H, I, rfl, by rw [dots_any]; exact q⟩
  · obtain ⟨bs, r2⟩ := Dp.reads I (.tuple (ps.map dotD)) _ u (.tup hb hd.dp) ry
    exact SeqAt.notIn_tuple_reads r2 r1 (dots_lay ps) (dot_lay p) room ⟨.bl _, H, I, rfl, by rw [dots_any]; exact q⟩
/-! ### the order of dots -/
def ltP (p q : Int × Int) : Bool := decide (p.1 < q.1 ∨ (p.1 = q.1 ∧ p.2 < q.2))
def rLtDot (K : PySem.W.Frag) : R2 := fun x y H Q => ∃ p q, DotAt K H x p ∧ DotAt K H y q ∧ Q (.bl (ltP p q)) H
theorem lt_two {A : Around} {s : Shared} {x y : Addr} {a b c d : Int} {t1 t2 t3 t4 : Tok} (h1 : s.heap.IsTuple x #[.int a t1, .int b t2]) (h2 : s.heap.IsTuple y #[.int c t3, .int d t4]) (hu : A.units < cLine) : Ob.RcOp .Lt A s (.ref x) (.ref y) (ltP (a, b) (c, d)) := by
  have eqs : ∀ j (k1 : j < 2) (k2 : j < 2), SeqAt.EqAt A.in1 s (#[Value.int a t1, .int b t2][j]) (#[Value.int c t3, .int d t4][j]) (if j = 0 then a == c else b == d) := fun j k1 k2 => by
    match j, k1, k2 with
    | 0, _, _ => exact SeqAt.EqAt.int_int _ _ _ _
    | 1, _, _ => exact SeqAt.EqAt.int_int _ _ _ _
  have lts : ∀ j (k1 : j < 2) (k2 : j < 2), (if j = 0 then a == c else b == d) = false → Ob.RcOp .Lt A.in1 s (#[Value.int a t1, .int b t2][j]) (#[Value.int c t3, .int d t4][j]) (if j = 0 then decide (a < c) else decide (b < d)) := fun j k1 k2 _ => by
    match j, k1, k2 with
    | 0, _, _ => exact Ob.RcOp.lt_int _ _ _ _
    | 1, _, _ => exact Ob.RcOp.lt_int _ _ _ _
  have R := Ob.RcOp.tuples_lt h1 h2 hu eqs lts
  have e : Ob.lexAt (fun j => if j = 0 then a == c else b == d) (fun j => if j = 0 then decide (a < c) else decide (b < d)) (decide ((2 : Nat) < 2)) 0 2 = ltP (a, b) (c, d) := by
    rw [Ob.lexAt_succ, Ob.lexAt_succ, Ob.lexAt_zero]
    unfold ltP
    by_cases p : a = c
    · by_cases q : b = d
      · subst p q
        simp
      · have q2 : (b == d) = false := beq_eq_false_iff_ne.mpr q
        subst p
        simp [q]
    · have p2 : (a == c) = false := beq_eq_false_iff_ne.mpr p
      simp [p]
  rw [← e]
  exact R
theorem op_ltDot {X : Cx} (hu : X.A.units < cLine) : OpR X (compareOp .Lt) (rLtDot X.K) := by
  intro pins s σ H x y v u Q I rx ry h
  obtain ⟨p, q, ⟨a, rfl, ha⟩, ⟨b, rfl, hb⟩, z⟩ := h
  cases rx
  cases ry
  obtain ⟨its, r1, p1, _⟩ := I.tuple ha
  obtain ⟨its2, r2, p2, _⟩ := I.tuple hb
  obtain ⟨u1, u2, rfl, ⟨t1, rfl⟩, ⟨t2, rfl⟩⟩ := vals2 r1
  obtain ⟨u3, u4, rfl, ⟨t3, rfl⟩, ⟨t4, rfl⟩⟩ := vals2 r2
  exact lt_two p1 p2 hu X.prog X.w _ _ ⟨.bl _, H, I, rfl, z⟩
/-- a < b: ints or dots -/
def rLtA (K : PySem.W.Frag) : R2 := fun x y H Q => rI0 (fun i j => .bl (decide (i < j))) x y H Q ∨ rLtDot K x y H Q
theorem op_ltA {X : Cx} (hu : X.A.units < cLine) : OpR X (compareOp .Lt) (rLtA X.K) := OpR.or op_lt (op_ltDot hu)
def rGeDot (K : PySem.W.Frag) : R2 := fun x y H Q => ∃ p q, DotAt K H x p ∧ DotAt K H y q ∧ Q (.bl (!ltP p q)) H
theorem ge_two {A : Around} {s : Shared} {x y : Addr} {a b c d : Int} {t1 t2 t3 t4 : Tok} (h1 : s.heap.IsTuple x #[.int a t1, .int b t2]) (h2 : s.heap.IsTuple y #[.int c t3, .int d t4]) (hu : A.units < cLine) : Ob.RcOp .GtE A s (.ref x) (.ref y) (!ltP (a, b) (c, d)) := by
  have eqs : ∀ j (k1 : j < 2) (k2 : j < 2), SeqAt.EqAt A.in1 s (#[Value.int a t1, .int b t2][j]) (#[Value.int c t3, .int d t4][j]) (if j = 0 then a == c else b == d) := fun j k1 k2 => by
    match j, k1, k2 with
    | 0, _, _ => exact SeqAt.EqAt.int_int _ _ _ _
    | 1, _, _ => exact SeqAt.EqAt.int_int _ _ _ _
  have ges : ∀ j (k1 : j < 2) (k2 : j < 2), (if j = 0 then a == c else b == d) = false → Ob.RcOp .GtE A.in1 s (#[Value.int a t1, .int b t2][j]) (#[Value.int c t3, .int d t4][j]) (if j = 0 then decide (c ≤ a) else decide (d ≤ b)) := fun j k1 k2 _ => by
    match j, k1, k2 with
    | 0, _, _ => exact Ob.RcOp.ge_int _ _ _ _
    | 1, _, _ => exact Ob.RcOp.ge_int _ _ _ _
  have R := Ob.RcOp.tuples_ge h1 h2 hu eqs ges
  have e : Ob.lexAt (fun j => if j = 0 then a == c else b == d) (fun j => if j = 0 then decide (c ≤ a) else decide (d ≤ b)) (decide ((2 : Nat) ≥ 2)) 0 2 = !ltP (a, b) (c, d) := by
    rw [Ob.lexAt_succ, Ob.lexAt_succ, Ob.lexAt_zero]
    unfold ltP
    rw [← decide_not]
    by_cases p : a = c
    · by_cases q : b = d
      · subst p q
        simp
      · have q2 : (b == d) = false := beq_eq_false_iff_ne.mpr q
        subst p
        simp [q]
    · have p2 : (a == c) = false := beq_eq_false_iff_ne.mpr p
      simp [p]
  rw [← e]
  exact R
theorem op_geDot {X : Cx} (hu : X.A.units < cLine) : OpR X (compareOp .GtE) (rGeDot X.K) := by
  intro pins s σ H x y v u Q I rx ry h
  obtain ⟨p, q, ⟨a, rfl, ha⟩, ⟨b, rfl, hb⟩, z⟩ := h
  cases rx
  cases ry
  obtain ⟨its, r1, p1, _⟩ := I.tuple ha
  obtain ⟨its2, r2, p2, _⟩ := I.tuple hb
  obtain ⟨u1, u2, rfl, ⟨t1, rfl⟩, ⟨t2, rfl⟩⟩ := vals2 r1
  obtain ⟨u3, u4, rfl, ⟨t3, rfl⟩, ⟨t4, rfl⟩⟩ := vals2 r2
  exact ge_two p1 p2 hu X.prog X.w _ _ ⟨.bl _, H, I, rfl, z⟩
theorem dot_shaped (p : Int × Int) : SeqAt.shaped (dotD p) = true := by
  show ((dotD p).canLay0 && decide ((dotD p).depth ≤ 64)) = true
  rw [Bool.and_eq_true]
  exact ⟨dot_lay p, decide_eq_true (by rw [dot_depth]; omega)⟩
def rEqDot (K : PySem.W.Frag) : R2 := fun x y H Q => ∃ p q, DotAt K H x p ∧ DotAt K H y q ∧ Q (.bl (decide (p = q))) H
def rNeDot (K : PySem.W.Frag) : R2 := fun x y H Q => ∃ p q, DotAt K H x p ∧ DotAt K H y q ∧ Q (.bl (!decide (p = q))) H
theorem op_eqDot {X : Cx} (hu : X.A.units + 64 < cLine) : OpR X (compareOp .Eq) (rEqDot X.K) := by
  intro pins s σ H x y v u Q I rx ry h
  obtain ⟨p, q, hp, hq, z⟩ := h
  exact op_eqD hu pins s σ H x y v u Q I rx ry ⟨_, _, hp.dp, hq.dp, dot_shaped p, dot_shaped q, by rw [dot_eqv]; exact z⟩
theorem op_neDot {X : Cx} (hu : X.A.units + 64 < cLine) : OpR X (compareOp .NotEq) (rNeDot X.K) := by
  intro pins s σ H x y v u Q I rx ry h
  obtain ⟨p, q, hp, hq, z⟩ := h
  exact op_neD hu pins s σ H x y v u Q I rx ry ⟨_, _, hp.dp, hq.dp, dot_shaped p, dot_shaped q, by rw [dot_eqv]; exact z⟩
end RH
namespace RH
open PySem L2
/-! ### entries and deeds, over data -/
def isOne : D → Bool | .int i => decide (i = 1) | _ => false
def isItemOf (k i : D) : Bool := match k with
  | .str s => if s = "amount" then isInt i else if s = "flag" then isInt i && isOne i else (decide (s = "value") || decide (s = "element")) && isItem i
  | _ => false
def isEntry : D → Bool | .tup [p, k, i] => isPath p && isItemOf k i | _ => false
def dp : D → Int × Int | .tup [.int a, .int b] => (a, b) | _ => (0, 0)
def ascB {α : Type} (lt : α → α → Bool) : List α → Bool
  | a :: b :: r => lt a b && ascB lt (b :: r)
  | _ => true
def ltI (a b : Int) : Bool := decide (a < b)
def isOver (d0 : D) : D → Bool | .tup ds => ds.all isDot && (ascB ltP (ds.map dp) && !decide (dp d0 ∈ ds.map dp)) | _ => false
def isNon : D → Bool | .non => true | _ => false
def isDeed : D → Bool | .tup [t, e, o] => isDot t && ((isNon e || isEntry e) && isOver t o) | _ => false
theorem isDot_of {d : D} (h : isDot d = true) : ∃ a b, d = .tup [.int a, .int b] := by
  unfold isDot at h
  split at h
  · rename_i x y
    rw [Bool.and_eq_true, Bool.and_eq_true] at h
    obtain ⟨h1, h2, _⟩ := h
    cases x with
    | int a =>
      cases y with
      | int b => exact ⟨a, b, rfl⟩
      | _ => cases h2
    | _ => cases h1
  · cases h
section
variable {K : PySem.W.Frag} {CC : Addr → Prop} {H H' : Hp}
theorem rep_dot {x : V} {d : D} (R : Rep K CC H x d) (h : isDot d = true) : DotAt K H x (dp d) := by
  obtain ⟨a, b, rfl⟩ := isDot_of h
  cases R with
  | @tup p xs _ ha hl hs hi =>
    match xs, hl with
    | [u, v], _ =>
      have r1 := hi 0 u (.int a) rfl rfl
      have r2 := hi 1 v (.int b) rfl rfl
      cases r1
      cases r2
      exact ⟨p, rfl, SqT.of ha⟩
theorem rep_dots : ∀ {xs : List V} {ds : List D}, xs.length = ds.length → (∀ (i : Nat) (x : V) (d : D), xs[i]? = some x → ds[i]? = some d → Rep K CC H x d) → ds.all isDot = true → DotsAt K H xs (ds.map dp)
  | [], [], _, _, _ => .nil
  | x :: xs, d :: ds, hl, hi, h => by
    rw [List.all_cons, Bool.and_eq_true] at h
    exact .cons (rep_dot (hi 0 x d rfl rfl) h.1) (rep_dots (by simpa using hl) (fun i y e h1 h2 => hi (i + 1) y e h1 h2) h.2)
/-! ### ascends -/
def stepB {α : Type} (lt : α → α → Bool) (l : List α) (i : Nat) : Bool := match l[i]?, l[i + 1]? with | some a, some b => lt a b | _, _ => true
theorem stepB_of {α : Type} {lt : α → α → Bool} {l : List α} {i : Nat} {a b : α} (h : l[i]? = some a) (k : l[i + 1]? = some b) : stepB lt l i = lt a b := by
  unfold stepB
  rw [h, k]
theorem ascB_at {α : Type} (lt : α → α → Bool) : ∀ l : List α, ascB lt l = (List.range (l.length - 1)).all (stepB lt l)
  | [] => rfl
  | [_] => rfl
  | a :: b :: r => by
    have ih := ascB_at lt (b :: r)
    show (lt a b && ascB lt (b :: r)) = _
    rw [ih]
    show _ = (List.range (r.length + 1)).all _
    rw [List.range_succ_eq_map, List.all_cons, List.all_map]
    rfl
theorem paired_at {α β : Type} {F : α → β → Prop} : ∀ {l : List α} {m : List β}, Paired F l m → ∀ {i : Nat} {a : α}, l[i]? = some a → ∃ b, m[i]? = some b ∧ F a b
  | _, _, .nil, i, a, h => nomatch h
  | _, _, .cons f r, 0, a, h => by
    cases h
    exact ⟨_, rfl, f⟩
  | _, _, .cons f r, i + 1, a, h => paired_at r h
/-- the promise of ascends -/
def spAsc (K : PySem.W.Frag) : Sp := fun vs H Q _ => ∃ (b : Addr) (xs : List V), vs = [.ref b] ∧ (SqL K H b xs ∨ SqT K H b xs) ∧ xs.length ≤ 1000 ∧
  ((∃ ps, DotsAt K H xs ps ∧ ∀ H', Same H H' → Q (.bl (ascB ltP ps)) H') ∨ ∃ ns : List Int, xs = ns.map V.int ∧ ∀ H', Same H H' → Q (.bl (ascB ltI ns)) H')
theorem asc_fn {Q : VK} {xs : List V} (q : (∃ ps, DotsAt K H xs ps ∧ ∀ H', Same H H' → Q (.bl (ascB ltP ps)) H') ∨ ∃ ns : List Int, xs = ns.map V.int ∧ ∀ H', Same H H' → Q (.bl (ascB ltI ns)) H') :
    ∃ f : Nat → Bool, (∀ i x y, xs[i]? = some x → xs[i + 1]? = some y → ∀ (H1 : Hp) (Q1 : VK), Same H H1 → Q1 (.bl (f i)) H1 → rLtA K x y H1 Q1) ∧ ∀ H', Same H H' → Q (.bl ((List.range (xs.length - 1)).all f)) H' := by
  rcases q with ⟨ps, hps, q⟩ | ⟨ns, rfl, q⟩
  · refine ⟨stepB ltP ps, fun i x y hx hy H1 Q1 s1 q1 => ?_, fun H' s' => ?_⟩
    · obtain ⟨p, hp, dp1⟩ := paired_at hps hx
      obtain ⟨r, hr2, dp2⟩ := paired_at hps hy
      refine .inr ⟨p, r, dp1.mono s1, dp2.mono s1, ?_⟩
      rw [stepB_of hp hr2] at q1
      exact q1
    · rw [show xs.length = ps.length from Paired.length hps, ← ascB_at]
      exact q H' s'
  · refine ⟨stepB ltI ns, fun i x y hx hy H1 Q1 s1 q1 => ?_, fun H' s' => ?_⟩
    · rw [List.getElem?_map] at hx hy
      cases e1 : ns[i]? with
      | none => rw [e1] at hx; cases hx
      | some a =>
        cases e2 : ns[i + 1]? with
        | none => rw [e2] at hy; cases hy
        | some b =>
          rw [e1] at hx
          rw [e2] at hy
          cases hx
          cases hy
          rw [stepB_of e1 e2] at q1
          exact .inl ⟨a, b, rfl, rfl, q1⟩
    · rw [List.length_map, ← ascB_at]
      exact q H' s'
theorem r_lenA {Q : VK} {b : Addr} {xs : List V} (h : SqL K H b xs ∨ SqT K H b xs) (q : Q (.int xs.length) H) : rLenG K [.ref b] H Q := by
  rcases h with h | h
  · exact ⟨_, _, rfl, .inl ⟨xs, h, rfl⟩, q⟩
  · exact ⟨_, _, rfl, .inr ⟨xs, h, rfl⟩, q⟩
theorem r_ixA {Q : VK} {b : Addr} {xs : List V} {i : Int} {v : V} (h : SqL K H b xs ∨ SqT K H b xs) (e : atI xs i = some v) (q : Q v H) : rIx K (.ref b) (.int i) H Q := by
  rcases h with h | h
  · exact .inl ⟨b, xs, i, v, rfl, rfl, h, e, q⟩
  · exact .inr (.inl ⟨b, xs, i, v, rfl, rfl, h, e, q⟩)
theorem seqA_mono {b : Addr} {xs : List V} (h : SqL K H b xs ∨ SqT K H b xs) (s : Same H H') : SqL K H' b xs ∨ SqT K H' b xs := h.imp s.seq (same_t s)
/-- type(x) is not T -/
def rNTG : R2 := fun x y H Q => ∃ b, y = .ty b ∧ ((∃ a, x = .ty a ∧ Q (.bl (!decide (a = b))) H) ∨ ∃ C, x = .ref C ∧ Q (.bl true) H)
theorem op_notTyG {X : Cx} : OpR X (compareOp .IsNot) rNTG := by
  intro pins s σ H x y v u Q I rx ry h
  obtain ⟨b, rfl, h⟩ := h
  rcases h with ⟨a, rfl, q⟩ | ⟨C, rfl, q⟩
  · exact op_notTyB pins s σ H _ _ v u Q I rx ry ⟨a, b, rfl, rfl, q⟩
  · cases (show v = Value.ref C from rx)
    cases (show u = Value.type b from ry)
    exact PySem.wpAny_isNot_plain rfl (fin_bl I q rfl)
theorem r_notTy {Q : VK} {d : D} {y : V} {T : String} (h : TyV d y) (q : Q (.bl (!tyB d T)) H) : rNTG y (.ty T) H Q := by
  refine ⟨T, rfl, ?_⟩
  unfold TyV at h
  unfold tyB at q
  cases e : tyD d with
  | none =>
    rw [e] at h q
    obtain ⟨C, rfl⟩ := h
    exact .inr ⟨C, rfl, q⟩
  | some S =>
    rw [e] at h q
    subst h
    refine .inl ⟨S, rfl, ?_⟩
    by_cases z : S = T
    · subst z
      rw [decide_eq_true rfl] at q ⊢
      exact q
    · have z2 : ¬ (some S = some T) := fun w => z (Option.some.inj w)
      rw [decide_eq_false z2] at q
      rw [decide_eq_false z]
      exact q
theorem r_notNR {Q : VK} {x : V} {d : D} (R : Rep K CC H x d) (q : Q (.bl (!isNon d)) H) : rNotN x .non H Q := by
  refine ⟨rfl, ?_⟩
  cases R <;> exact q
/-- the promise of _is_item_of -/
def spItem (K : PySem.W.Frag) (CC : Addr → Prop) : Sp := fun vs H Q _ => ∃ x y k i, vs = [x, y] ∧ Rep K CC H x k ∧ Rep K CC H y i ∧ ∀ H', Same H H' → Q (.bl (isItemOf k i)) H'
theorem r_inT {Q : VK} {x : V} {p : Addr} {xs : List V} (h : H p = some (.tup xs)) (fx : flatV x = true) (fs : xs.all flatV = true) (q : Q (.bl (inV x xs)) H) : rIn K false x (.ref p) H Q := ⟨p, xs, rfl, .inr (SqT.of h), fx, fs, q⟩
theorem in_two (z a b : Str) : (decide (z = a) || decide (z = b)) = inV (.str z) [.str a, .str b] := by
  unfold inV
  rw [List.any_cons, List.any_cons, List.any_nil, Bool.or_false]
  have e : ∀ c : Str, eqV (.str c) (.str z) = decide (z = c) := fun c => by
    by_cases w : z = c
    · subst w
      simp [eqV]
    · rw [decide_eq_false w]
      simp [eqV]
      exact fun q => w q.symm
  rw [e, e]
/-- the promise of _is_over -/
def spOver (K : PySem.W.Frag) (CC : Addr → Prop) : Sp := fun vs H Q _ => ∃ x y d0 d, vs = [x, y] ∧ Rep K CC H x d0 ∧ isDot d0 = true ∧ Rep K CC H y d ∧ ∀ H', Same H H' → Q (.bl (isOver d0 d)) H'
theorem r_isNR {Q : VK} {x : V} {d : D} (R : Rep K CC H x d) (q : Q (.bl (isNon d)) H) : rIsN x .non H Q := by
  refine ⟨rfl, ?_⟩
  cases R <;> exact q
end
end RH
namespace RH
open PySem L2
/-- a loop that leaves by a return at the first item that is not ok; behind it the other names stand -/
theorem for_allW {J : It} {n : Nat} {G : Hp → Prop} {Y : Nat → Hp → V → Hp → Prop} {Y' : Nat → V → Prop} {tb : TS} {nx : St → Hp → Prop} {rt : VK} {σ : St} {k : Nat} {H : Hp} {w0 : Option V} (hk : σ[k]? = some w0) (w : Walk J n G Y) (hY : ∀ i H x H', Y i H x H' → H' = H ∧ Y' i x) (ok : Nat → Prop) (hG : ∀ H1, Same H H1 → G H1)
    (step : ∀ i x H1, i < n → Y' i x → Same H H1 → (∀ m, m < i → ok m) → ∀ N : St → Hp → Prop, (ok i → ∀ H2, Same H1 H2 → N (σ.set k (some x)) H2) → tb ⟨N, rt, nx, N⟩ (σ.set k (some x)) H1)
    (hd : (∀ i, i < n → ok i) → ∀ w' H1, Same H H1 → nx (σ.set k w') H1) : ForGo J (gName k) tb nx rt σ H := by
  refine go_it w (fun i σ' H' => (∃ w', σ' = σ.set k w') ∧ Same H H' ∧ ∀ m, m < i → ok m) ⟨⟨w0, ?_⟩, Same.refl H, fun m hm => absurd hm (Nat.not_lt_zero m)⟩ (fun i σ' H' _ p => hG H' p.2.1) ?_ ?_
  · refine (List.ext_getElem? fun i => ?_)
    rw [List.getElem?_set]
    by_cases e : k = i
    · subst e
      rw [if_pos rfl, hk, if_pos (List.getElem?_eq_some_iff.mp hk).1]
    · rw [if_neg e]
  · rintro i x σ' H1 H2 hi ⟨⟨w', rfl⟩, s, a⟩ y
    obtain ⟨rfl, y'⟩ := hY i H1 x H2 y
    show tb _ ((σ.set k w').set k (some x)) H2
    rw [List.set_set]
    refine step i x H2 hi y' s a _ fun o H3 s3 => ⟨⟨_, rfl⟩, s.trans s3, fun m hm => ?_⟩
    rcases Nat.lt_succ_iff_lt_or_eq.mp hm with h | h
    · exact a m h
    · rw [h]; exact o
  · rintro σ' H' ⟨⟨w', rfl⟩, s, a⟩
    exact hd a w' H' s
theorem r_rng2 {ta : TA} {σ : St} {H : Hp} {R : It → Hp → Prop} (h : ta σ H fun vs H1 => ∃ i j : Int, vs = [.int i, .int j] ∧ (-(2 ^ 62) ≤ i ∧ i < 2 ^ 62 ∧ -(2 ^ 62) ≤ j ∧ j < 2 ^ 62) ∧ R (Itr i (j - i).toNat) H1) : iRng2 ta σ H R := h
end RH
namespace RH
open PySem PySem.Spec PyProof.Rows L2
/-! ### methods and defs that may raise: met in a try, or where no error of theirs is met -/
structure MetX (P : Program) (w : World) (K : PySem.W.Frag) (mg : Str → Option Value) (base : Heap) (k : Nat) (C : Addr) (m : Str) (sp : Sp) : Prop where
  ex : ∃ (f : Addr) (fd : FuncData) (ps : List Str), Cls K C ∧ Meth K C m f ∧ FnOk P w K mg base (L2.CX P w) k f fd ps sp ∧ Binds K fd ps []
section
variable {X : Cx} {k j : Nat} {C : Addr} {x m : Str} {sp : Sp} {p pos apos : Pos} {o e : Expr} {es : List Expr} {t : TA} {ta : TE}
theorem pe_cX (c : CalX X.prog X.w X.K X.mg X.base k x sp) (hr : Room j X.A) (hk : k ≤ j) (hg : Gl X x) (ha : PA X (e :: es) t)
    (hdb : (x == ("__debug__" : Str)) = false := by decide) (he : starEach (e :: es) X.env = (false, eval e X.env) :: starEach es X.env := by rfl) (hpl : (backTo pos (starEach es X.env)).any (·.1) = false := by rfl) :
    PE X (.Call (.Name x p) (e :: es) [] pos) (tCall sp [] C8.E0 t) := by
  obtain ⟨f, fd, ps, F, hm, kp, b⟩ := c.ex
  exact pe_call F (hr.mono hk) hg hm kp b .nil passL ha hdb he hpl
theorem pe_cT {W : WX} (c : CalX X.prog X.w X.K X.mg X.base k x sp) (hr : Room j X.A) (hk : k ≤ j) (hg : Gl X x) (tk : Takes X W) (ha : PA X (e :: es) t)
    (hdb : (x == ("__debug__" : Str)) = false := by decide) (he : starEach (e :: es) X.env = (false, eval e X.env) :: starEach es X.env := by rfl) (hpl : (backTo pos (starEach es X.env)).any (·.1) = false := by rfl) :
    PE X (.Call (.Name x p) (e :: es) [] pos) (tCallS sp (WE W) t) := by
  obtain ⟨f, fd, ps, F, hm, kp, b⟩ := c.ex
  exact pe_callS F (hr.mono hk) hg hm kp b (fun σ => passAt tk σ) ha hdb he hpl
theorem pe_mtX {pl : Sem Bool} (c : MetX X.prog X.w X.K X.mg X.base k C m sp) (hr : Room j X.A) (hk : k ≤ j) (he : PE X o ta) (ha : PA X (e :: es) t)
    (hst : starEach (e :: es) X.env = (false, eval e X.env) :: starEach es X.env := by rfl) (hpl : (backTo pos (starEach es X.env)).any (·.1) = false := by rfl)
    (ht : eval (.Call (.Attribute o m apos) (e :: es) [] pos) X.env = (do
      let ov ← eval o X.env
      standAt apos.atName
      let (f, first) ← holding [ov] (getMethod ov m pl)
      callWith pos f first (backTo pos (starEach (e :: es) X.env)) (backToKw pos (keywordEach [] X.env))) := by rfl) :
    PE X (.Call (.Attribute o m apos) (e :: es) [] pos) (tMeth C m sp [] C8.E0 ta t) := by
  obtain ⟨f, fd, ps, hc, hm, F, b⟩ := c.ex
  exact pe_meth (pl := pl) he hc hm F (hr.mono hk) b .nil passL ha hst hpl ht
/-- o.m(..) in a try: what is wished of an error at these slots -/
def tMethE (C : Addr) (m : Str) (sp : Sp) (E : L2.St → XK) (ta : TE) (t : TA) : TE := fun σ H Q => ta σ H fun x H1 => ∃ a dx fs, x = .ref a ∧ H1 a = some (.ins C dx fs) ∧ fs.lookup m = none ∧ t σ H1 fun vs H2 => sp (x :: vs) H2 Q (E σ)
theorem pe_mtT {pl : Sem Bool} {W : WX} (c : MetX X.prog X.w X.K X.mg X.base k C m sp) (hr : Room j X.A) (hk : k ≤ j) (tk : Takes X W) (he : PE X o ta) (ha : PA X (e :: es) t)
    (hst : starEach (e :: es) X.env = (false, eval e X.env) :: starEach es X.env := by rfl) (hpl : (backTo pos (starEach es X.env)).any (·.1) = false := by rfl)
    (ht : eval (.Call (.Attribute o m apos) (e :: es) [] pos) X.env = (do
      let ov ← eval o X.env
      standAt apos.atName
      let (f, first) ← holding [ov] (getMethod ov m pl)
      callWith pos f first (backTo pos (starEach (e :: es) X.env)) (backToKw pos (keywordEach [] X.env))) := by rfl) :
    PE X (.Call (.Attribute o m apos) (e :: es) [] pos) (tMethE C m sp (WE W) ta t) := by
  obtain ⟨f, fd, ps, hc, hm, F, b⟩ := c.ex
  constructor
  intro pins s σ H Q I h
  refine PySem.W.methodCall_KW (pl := pl) (thn (he.run pins s σ H _ I h) ?_) ht
  rintro u s1 ⟨x, H1, I1, rx, a, dx, fs, rfl, ea, l, q⟩
  obtain rfl : u = Value.ref a := rx
  refine getmeth_ok I1 ea hc hm l ?_
  refine PySem.W.callWith_K (first := [.ref a]) (h₀ := X.base) I.ok.mod.kin hm.kp (thn (ha.run pos pins s1 σ H1 _ I1 q) ?_) hst hpl
  rintro us s2 ⟨vs, H2, I2, r, q2⟩
  exact ⟨I2.kIn, run_fnS (us := .ref a :: us) (vs := .ref a :: vs) F (hr.mono hk) b (passAt tk σ) I2 (.cons rfl r) q2⟩
theorem r_mtE {E : L2.St → XK} {σ : L2.St} {H : Hp} {Q : VK} (h : ta σ H fun x H1 => ∃ a dx fs, x = .ref a ∧ H1 a = some (.ins C dx fs) ∧ fs.lookup m = none ∧ t σ H1 fun vs H2 => sp (x :: vs) H2 Q (E σ)) : tMethE C m sp E ta t σ H Q := h
theorem r_cS {E : L2.St → XK} {σ : L2.St} {H : Hp} {Q : VK} (h : t σ H fun vs H1 => sp vs H1 Q (E σ)) : tCallS sp E t σ H Q := h
end
/-- two tuples of the same things -/
theorem evs_tup {K : PySem.W.Frag} {H : Hp} {a b : Addr} {xs : List V} (ha : H a = some (.tup xs)) (hb : H b = some (.tup xs)) (hx : ∀ x ∈ xs, Ev K 60 H x) :
    ∃ d, Dp K H (.ref a) d ∧ Dp K H (.ref b) d ∧ SeqAt.shaped d = true ∧ PyData.eqv d d = true := by
  obtain ⟨ds, p, q, r⟩ := evs_dp hx
  have p2 := dpAll_mono (tu_same H) _ _ p
  have lay : (PyData.tuple ds).canLay0 = true := by simp [PyData.canLay0, q]
  have dep : (PyData.tuple ds).depth ≤ 64 := by simp only [PyData.depth]; omega
  exact ⟨.tuple ds, .tup (SqT.of ha) p2, .tup (SqT.of hb) p2, shaped_of lay dep, SeqAt.eqv_refl _ lay⟩
theorem r_neTup {K : PySem.W.Frag} {H : Hp} {Q : VK} {a b : Addr} {xs : List V} (ha : H a = some (.tup xs)) (hb : H b = some (.tup xs)) (hx : ∀ x ∈ xs, Ev K 60 H x) (q : Q (.bl false) H) : rNeD K (.ref a) (.ref b) H Q := by
  obtain ⟨d, p1, p2, s, e⟩ := evs_tup ha hb hx
  refine ⟨d, d, p1, p2, s, s, ?_⟩
  rw [e]
  exact q
theorem r_eqTup {K : PySem.W.Frag} {H : Hp} {Q : VK} {a b : Addr} {xs : List V} (ha : H a = some (.tup xs)) (hb : H b = some (.tup xs)) (hx : ∀ x ∈ xs, Ev K 60 H x) (q : Q (.bl true) H) : rEqD K (.ref a) (.ref b) H Q := by
  obtain ⟨d, p1, p2, s, e⟩ := evs_tup ha hb hx
  refine ⟨d, d, p1, p2, s, s, ?_⟩
  rw [e]
  exact q
/-- isinstance(e, (C, D)), e the error in hand -/
def rIsExT (K : PySem.W.Frag) (cls : Value) (d : Option Addr) (a : Addr) : List V → Hp → VK → Prop := fun xs H Q => ∃ (D tp : Addr) (cs : List V) (us : List Value) (b : Bool), cls = .ref D ∧ d = none ∧ ExcC K D ∧ xs = [.ref a, .ref tp] ∧ H tp = some (.tup cs) ∧ Paired ClsV cs us ∧ PySem.W.kitAny K (.ref D) us = some b ∧ Q (.bl b) H
theorem call_isExT {X : Cx} {a : Addr} {cls : Value} {d : Option Addr} {oe : Obj} {pn : List (Addr × Obj)} (hz : Zc cls d oe) (hf : ∃ vs, oe.data = .fields vs) : CallR (X.suite a ((a, oe) :: pn)) (.builtin "isinstance") (rIsExT X.K cls d a) := by
  rintro pins s σ H xs us Q I r ⟨D, tp, cs, ws, b, rfl, rfl, C, rfl, hT, k, e, q⟩
  obtain ⟨u1, u2, rfl, r1, r2⟩ := vals2 r
  cases (show u2 = Value.ref tp from r2)
  cases (show u1 = Value.ref a from r1)
  obtain ⟨hget, _⟩ := I.pin (a, oe) (List.mem_append.mpr (.inl List.mem_cons_self))
  obtain ⟨vs, hv⟩ := hf
  have J : PySem.W.InstAt s.heap a oe D none := by
    obtain ⟨oc, od, oda, osl⟩ := oe
    obtain ⟨h1, h2⟩ := hz
    dsimp only at h1 h2 hv
    subst h1 h2 hv
    exact ⟨hget, rfl, rfl, trivial⟩
  obtain ⟨_, its, rv, o, h1, h2, n, h3⟩ := (show ObjOk _ _ H s.heap tp (.tup cs) from I.hok tp _ hT)
  have e3 := ClsV.all k rv
  subst e3
  obtain ⟨oc, od, dt, sl⟩ := o
  simp only at h2 h3
  subst h2 h3
  exact PySem.W.kia_tup (PySem.W.handS_kitx_exc C.hg C.hk C.hs C.hd C.ha C.hn C.ht C.hm) I.kIn J h1 e (fun z => nomatch z) fun tk => ⟨.bl b, H, I.tok tk, rfl, q⟩
theorem kit_any2 {K : PySem.W.Frag} {t a b : Value} (h1 : PySem.W.kitOne K t a = some false) (h2 : PySem.W.kitOne K t b = some false) : PySem.W.kitAny K t [a, b] = some false := by
  simp [PySem.W.kitAny, h1, h2]
theorem r_isET {K : PySem.W.Frag} {D A B a tp : Addr} {H : Hp} {Q : VK} (C : ExcC K D) (hT : H tp = some (.tup [.ref A, .ref B])) (h1 : PySem.W.kitOne K (.ref D) (.ref A) = some false) (h2 : PySem.W.kitOne K (.ref D) (.ref B) = some false) (q : Q (.bl false) H) : rIsExT K (.ref D) none a [.ref a, .ref tp] H Q :=
  ⟨D, tp, _, _, _, rfl, rfl, C, rfl, hT, .cons (.own A) (.cons (.own B) .nil), kit_any2 h1 h2, q⟩
/-! ### properties, fields written -/
section
variable {K : PySem.W.Frag} {σ : L2.St} {H : Hp} {Q : VK} {a C dx : Addr} {fs : List (Str × V)} {f : Str} {v : V}
theorem r_prX {sp : Sp} {dvs : List V} {E : XK} (ha : H a = some (.ins C dx fs)) (q : sp (.ref a :: dvs) H Q E) : ∃ b dx fs, V.ref a = .ref b ∧ H b = some (.ins C dx fs) ∧ sp (.ref b :: dvs) H Q E := ⟨a, dx, fs, rfl, ha, q⟩
theorem r_fldX {R : Hp → Prop} (ha : H a = some (.ins C dx fs)) (cl : Cls K C) (na : NoAttr K C f) (sz : Nat.ble (fs.length + 1) 1000 = true) (q : R (upd H a (.ins C dx (putF f v fs)))) : ∃ b C dx fs, V.ref a = .ref b ∧ H b = some (.ins C dx fs) ∧ Cls K C ∧ NoAttr K C f ∧ fs.length < 1000 ∧ R (upd H b (.ins C dx (putF f v fs))) :=
  ⟨a, C, dx, fs, rfl, ha, cl, na, Nat.le_of_ble_eq_true sz, q⟩
end
end RH
namespace RH
open PySem L2
/-! ### rings as objects that are compared by value -/
/-- a ring whose value is the pair of c and the tuple at tp -/
def RX (K : PySem.W.Frag) (H : Hp) (r C : Addr) (c : Int) (tp : Addr) : Prop := (∃ dx ow, H r = some (.ins C dx [("_copies", .int c), ("_points", .ref tp), ("_owners", .ref ow)])) ∧ Ev K 10 H (.ref tp)
theorem RX.mono {K : PySem.W.Frag} {H H' : Hp} {r C : Addr} {c : Int} {tp : Addr} (h : RX K H r C c tp) (s : Same H H') : RX K H' r C c tp := by
  obtain ⟨⟨dx, ow, e⟩, v⟩ := h
  exact ⟨⟨dx, ow, s _ _ e⟩, v.mono (TuK.of s)⟩
theorem RX.fr {K : PySem.W.Frag} {H H' : Hp} {r C l : Addr} {c : Int} {tp : Addr} {xs : List V} (h : RX K H r C c tp) (f : Fr l H H') (hl : H l = some (.lst xs)) : RX K H' r C c tp := by
  obtain ⟨⟨dx, ow, e⟩, v⟩ := h
  exact ⟨⟨dx, ow, f _ _ (ne_obj e hl (fun z => by cases z)) e⟩, v.mono (TuK.frL f hl)⟩
theorem pts_ev {K : PySem.W.Frag} {H : Hp} {tp : Addr} {xs : List V} {ps : List (Int × Int)} (h : H tp = some (.tup xs)) (hp : PtsAt H xs ps) : Ev K 10 H (.ref tp) := by
  refine ev_tup (n := 9) h fun x hx => ?_
  obtain ⟨i, hi, rfl⟩ := List.mem_iff_getElem.mp hx
  have hj : i < ps.length := by rw [← hp.1]; exact hi
  obtain ⟨t, e, ht⟩ := hp.2 i xs[i] ps[i] (List.getElem?_eq_getElem hi) (List.getElem?_eq_getElem hj)
  rw [e]
  refine ev_tup (n := 8) ht fun y hy => ?_
  simp only [List.mem_cons, List.not_mem_nil, or_false] at hy
  rcases hy with rfl | rfl
  · exact ev_int _
  · exact ev_int _
theorem RingAt.rx {K : PySem.W.Frag} {H : Hp} {r C : Addr} {c : Int} {ps : List (Int × Int)} (h : RingAt H r C c ps) : ∃ tp, RX K H r C c tp := by
  obtain ⟨dx, tp, ow, xs, fs, a, b, p, _⟩ := h
  exact ⟨tp, ⟨dx, ow, a⟩, pts_ev b p⟩
def spRingCX (K : PySem.W.Frag) (C : Addr) : Sp := fun vs H Q _ => ∃ r c tp, vs = [.ref r] ∧ RX K H r C c tp ∧ Q (.int c) H
def spRingVal (K : PySem.W.Frag) (C : Addr) : Sp := fun vs H Q _ => ∃ r c tp, vs = [.ref r] ∧ RX K H r C c tp ∧ ∀ H' p, Same H H' → H p = none → H' p = some (.tup [.int c, .ref tp]) → Q (.ref p) H'
/-! ### the notary -/
def NotAt (C : Addr) (H : Hp) (n l t : Addr) (rs : List Addr) : Prop := (∃ dx, H n = some (.ins C dx [("terms", .ref t), ("_rings", .ref l)])) ∧ H l = some (.lst (rs.map V.ref))
def spNewest (C : Addr) : Sp := fun vs H Q _ => ∃ n l t rs, vs = [.ref n] ∧ NotAt C H n l t rs ∧ Q (.int ((rs.length : Int) - 1)) H
def spEnter (K : PySem.W.Frag) (C CR CT CB : Addr) : Sp := fun vs H Q E => ∃ n l t rs r c tp c' w rd, vs = [.ref n, .ref r] ∧ NotAt C H n l t rs ∧ RX K H r CR c tp ∧ TermsAt H t CT c' w rd ∧ rs.length < 900 ∧
  (c = c' → ∀ H', Fr l H H' → H' l = some (.lst ((rs ++ [r]).map V.ref)) → Q (.int rs.length) H') ∧ (c ≠ c' → E (.ref CB) none H)
def spNotI (K : PySem.W.Frag) (C CR CT CB : Addr) : Sp := fun vs H Q E => ∃ n dx t r c tp c' w rd, vs = [.ref n, .ref r, .ref t] ∧ H n = some (.ins C dx []) ∧ RX K H r CR c tp ∧ TermsAt H t CT c' w rd ∧
  (c = c' → ∀ H' l, (∀ b o, b ≠ n → H b = some o → H' b = some o) → H l = none → NotAt C H' n l t [r] → Q .non H') ∧ (c ≠ c' → ∀ H', (∀ b o, b ≠ n → H b = some o → H' b = some o) → E (.ref CB) none H')
def spRingOf (C CU : Addr) : Sp := fun vs H Q E => ∃ n l t rs v, vs = [.ref n, .int v] ∧ NotAt C H n l t rs ∧ (∀ r, 0 ≤ v → rs[v.toNat]? = some r → Q (.ref r) H) ∧ ((v < 0 ∨ (rs.length : Int) ≤ v) → E (.ref CU) none H)
end RH
namespace RH
open PySem L2
theorem PtsAt.fr {H H' : Hp} {l : Addr} {ys xs : List V} {ps : List (Int × Int)} (h : PtsAt H xs ps) (f : Fr l H H') (hl : H l = some (.lst ys)) : PtsAt H' xs ps := ⟨h.1, fun i x p a b => by
  obtain ⟨t, e, z⟩ := h.2 i x p a b
  exact ⟨t, e, f _ _ (ne_obj z hl (fun z => by cases z)) z⟩⟩
theorem steps_nd {a S : Int} (hS : ∃ m, S = 2 * m + 1) (s0 : 0 ≤ S) {n : Nat} (hn : n ≤ 256) : ((List.range n).map fun i : Nat => (a + (i : Int) * S) % 256).Nodup := by
  rw [List.nodup_iff_pairwise_ne, List.pairwise_map]
  refine List.pairwise_lt_range.imp_of_mem fun {i j} hi hj h => ?_
  exact odd_steps hS s0 h (by have := List.mem_range.mp hj; omega)
theorem turns_many {a : Int} {c : Nat} (hc : c ≤ 7) {hs : List Int} (h : ∀ k : Nat, k < c → (a + (k : Int)) % 7 ∈ hs) : (c : Int) ≤ ((dd hs).length : Int) := by
  have nd : ((List.range c).map fun k : Nat => (a + (k : Int)) % 7).Nodup := by
    rw [List.nodup_iff_pairwise_ne, List.pairwise_map]
    refine List.pairwise_lt_range.imp_of_mem fun {i j} hi hj h => ?_
    have := List.mem_range.mp hj
    omega
  have z := le_of_sub nd (dd_nodup hs) fun o ho => by
    obtain ⟨k, hk, rfl⟩ := List.mem_map.mp ho
    exact dd_mem.mpr (h k (List.mem_range.mp hk))
  rw [List.length_map, List.length_range] at z
  omega
/-- Ring(..) of the law: copies of 7 houses -/
def spLawRing (C : Addr) : Sp := fun vs H Q _ => ∃ c d : Int, vs = [.int 7, .int c, .int d] ∧ 1 ≤ c ∧ c ≤ 7 ∧ 0 ≤ d ∧ d ≤ 6000 ∧ ∀ H' x ps, Same H H' → H x = none → RingAt H' x C c ps → Q (.ref x) H'
def spLawTerms (C : Addr) : Sp := fun vs H Q _ => ∃ d : Int, vs = [.int d] ∧ 0 ≤ d ∧ ∀ H' t c w r, Same H H' → H t = none → TermsAt H' t C c w r → 1 ≤ c → c ≤ 4 → Q (.ref t) H'
end RH
namespace RH
open PySem L2
/-- the notary's rings and the values that the law keeps -/
def Vals31 (K : PySem.W.Frag) (CR : Addr) (H : Hp) (rs : List Addr) (ws : List V) : Prop := rs.length = ws.length ∧ ∀ (i : Nat) r v, rs[i]? = some r → ws[i]? = some v → ∃ c tp p, v = .ref p ∧ RX K H r CR c tp ∧ H p = some (.tup [.int c, .ref tp])
theorem Vals31.mono {K : PySem.W.Frag} {CR : Addr} {H H' : Hp} {rs : List Addr} {ws : List V} (h : Vals31 K CR H rs ws) (s : Same H H') : Vals31 K CR H' rs ws := ⟨h.1, fun i r v a b => by
  obtain ⟨c, tp, p, e, x, z⟩ := h.2 i r v a b
  exact ⟨c, tp, p, e, x.mono s, s _ _ z⟩⟩
theorem Vals31.fr {K : PySem.W.Frag} {CR l : Addr} {H H' : Hp} {rs : List Addr} {ws ys : List V} (h : Vals31 K CR H rs ws) (f : Fr l H H') (hl : H l = some (.lst ys)) : Vals31 K CR H' rs ws := ⟨h.1, fun i r v a b => by
  obtain ⟨c, tp, p, e, x, z⟩ := h.2 i r v a b
  exact ⟨c, tp, p, e, x.fr f hl, f _ _ (ne_obj z hl (fun z => by cases z)) z⟩⟩
theorem Vals31.snoc {K : PySem.W.Frag} {CR : Addr} {H : Hp} {rs : List Addr} {ws : List V} (h : Vals31 K CR H rs ws) {r p tp : Addr} {c : Int} (x : RX K H r CR c tp) (z : H p = some (.tup [.int c, .ref tp])) : Vals31 K CR H (rs ++ [r]) (ws ++ [.ref p]) := by
  refine ⟨by simp [h.1], fun i r' v a b => ?_⟩
  by_cases y : i < rs.length
  · rw [List.getElem?_append_left y] at a
    rw [List.getElem?_append_left (by have := h.1; omega)] at b
    exact h.2 i r' v a b
  · rw [List.getElem?_append_right (by omega)] at a
    rw [List.getElem?_append_right (by have := h.1; omega)] at b
    have e1 : i - rs.length = 0 := by
      have := (List.getElem?_eq_some_iff.mp a).1
      rw [List.length_singleton] at this
      omega
    have e2 : i - ws.length = 0 := by have := h.1; omega
    rw [e1] at a
    rw [e2] at b
    cases a
    cases b
    exact ⟨c, tp, p, rfl, x, z⟩
def spLawEnter (K : PySem.W.Frag) (C CR CT : Addr) : Sp := fun vs H Q _ => ∃ n l t rs r c tp c' w rd, vs = [.ref n, .ref r] ∧ NotAt C H n l t rs ∧ RX K H r CR c tp ∧ TermsAt H t CT c' w rd ∧ rs.length < 900 ∧
  (c = c' → ∀ H' p, Fr l H H' → H' l = some (.lst ((rs ++ [r]).map V.ref)) → H' p = some (.tup [.str "entered", .int rs.length]) → Q (.ref p) H') ∧ (c ≠ c' → ∀ H' p, Same H H' → H' p = some (.tup [.str "bad", .bl true]) → Q (.ref p) H')
def spLawLooked (K : PySem.W.Frag) (C CR : Addr) : Sp := fun vs H Q _ => ∃ n l t rs ws v, vs = [.ref n, .int v] ∧ NotAt C H n l t rs ∧ Vals31 K CR H rs ws ∧
  (∀ p', 0 ≤ v → ws[v.toNat]? = some (.ref p') → ∀ H' p xs, Same H H' → H' p' = some (.tup xs) → H' p = some (.tup xs) → (∀ x ∈ xs, Ev K 60 H' x) → Q (.ref p) H') ∧
  ((v < 0 ∨ (rs.length : Int) ≤ v) → ∀ H' p, Same H H' → H' p = some (.tup [.str "unknown", .bl true]) → Q (.ref p) H')
def spLawMade (K : PySem.W.Frag) (C CR CT : Addr) : Sp := fun vs H Q _ => ∃ r t c tp c' w rd, vs = [.ref r, .ref t] ∧ RX K H r CR c tp ∧ TermsAt H t CT c' w rd ∧
  (c = c' → ∀ H' n l, Same H H' → H n = none → H l = none → NotAt C H' n l t [r] → Q (.ref n) H') ∧ (c ≠ c' → ∀ H', Same H H' → Q .non H')
def spLawHolds31 (K : PySem.W.Frag) (C CR : Addr) : Sp := fun vs H Q _ => ∃ n l t rs vl ws, vs = [.ref n, .ref vl] ∧ NotAt C H n l t rs ∧ H vl = some (.lst ws) ∧ Vals31 K CR H rs ws ∧ rs.length ≤ 50 ∧ ∀ H', Same H H' → Q (.bl true) H'
theorem NotAt.mono {C n l t : Addr} {H H' : Hp} {rs : List Addr} (h : NotAt C H n l t rs) (s : Same H H') : NotAt C H' n l t rs := ⟨h.1.imp fun _ e => s _ _ e, s _ _ h.2⟩
theorem NotAt.fr {C n l t k : Addr} {H H' : Hp} {rs : List Addr} {ys : List V} (h : NotAt C H n l t rs) (f : Fr k H H') (hk : H k = some (.lst ys)) (ne : l ≠ k) : NotAt C H' n l t rs := ⟨h.1.imp fun _ e => f _ _ (ne_obj e hk (fun z => by cases z)) e, f _ _ ne h.2⟩
theorem TermsAt.fr {t C l : Addr} {H H' : Hp} {c w r : Int} {ys : List V} (h : TermsAt H t C c w r) (f : Fr l H H') (hl : H l = some (.lst ys)) : TermsAt H' t C c w r := by
  obtain ⟨dx, e⟩ := h
  exact ⟨dx, f _ _ (ne_obj e hl (fun z => by cases z)) e⟩
end RH
namespace RH
open PySem L2
/-- what the law holds: two notaries, their values, the terms, the draws -/
structure NB (K : PySem.W.Frag) (C CR CT : Addr) (ds : List Int) (l t n ln vl m lm kl : Addr) (c w r : Int) (rs : List Addr) (ws : List V) (rs2 : List Addr) (ws2 : List V) (H : Hp) : Prop where
  hl : H l = some (.lst (ds.map V.int))
  hT : TermsAt H t CT c w r
  hn : NotAt C H n ln t rs
  hv : H vl = some (.lst ws)
  vn : Vals31 K CR H rs ws
  hm : NotAt C H m lm t rs2
  hk : H kl = some (.lst ws2)
  vm : Vals31 K CR H rs2 ws2
theorem NB.mono {K : PySem.W.Frag} {C CR CT : Addr} {ds : List Int} {l t n ln vl m lm kl : Addr} {c w r : Int} {rs rs2 : List Addr} {ws ws2 : List V} {H H' : Hp} (b : NB K C CR CT ds l t n ln vl m lm kl c w r rs ws rs2 ws2 H) (s : Same H H') : NB K C CR CT ds l t n ln vl m lm kl c w r rs ws rs2 ws2 H' :=
  ⟨s _ _ b.hl, b.hT.mono s, b.hn.mono s, s _ _ b.hv, b.vn.mono s, b.hm.mono s, s _ _ b.hk, b.vm.mono s⟩
end RH
namespace RH
open PySem L2
/-! ### what makes a ring -/
def lt256 : D → Bool | .int i => decide (i < 256) | _ => false
def isPtD : D → Bool | .tup [a, b] => isNum a && (lt256 a && isNum b) | _ => false
def intD : D → Int | .int i => i | _ => 0
def ptD : D → Int × Int | .tup [a, b] => (intD a, intD b) | _ => (0, 0)
def arePts : D → Bool | .lst ds => ds.all isPtD && decide ((dd (ds.map fun d => (ptD d).1)).length = ds.length) | _ => false
def okCp : D → Bool | .int c => decide (1 ≤ c) && decide (c ≤ 7) | _ => false
def okRing (a c : D) : Bool := match a, c with
  | .lst ds, .int c => arePts (.lst ds) && (okCp (.int c) && decide (c ≤ ((dd (ds.map fun d => (ptD d).2)).length : Int)))
  | _, _ => false
theorem isPt_is {d : D} (h : isPtD d = true) : ∃ a b : Int, d = .tup [.int a, .int b] ∧ 0 ≤ a ∧ a < 256 ∧ 0 ≤ b ∧ b ≤ 1000000000000 := by
  unfold isPtD at h
  split at h
  · rename_i x y
    simp only [Bool.and_eq_true] at h
    obtain ⟨h1, h2, h3⟩ := h
    cases x with
    | int a =>
      cases y with
      | int b =>
        have e1 : (limI a && decide (0 ≤ a)) = true := h1
        have e2 : decide (a < 256) = true := h2
        have e3 : (limI b && decide (0 ≤ b)) = true := h3
        unfold limI at e1 e3
        simp only [Bool.and_eq_true, decide_eq_true_iff] at e1 e2 e3
        exact ⟨a, b, rfl, by omega, by omega, by omega, by omega⟩
      | _ => cases h3
    | _ => cases h1
  · cases h
theorem pts_rep {K : PySem.W.Frag} {CC : Addr → Prop} {H : Hp} {xs : List V} {ds : List D} (hl : xs.length = ds.length) (hi : ∀ (i : Nat) (x : V) (d : D), xs[i]? = some x → ds[i]? = some d → Rep K CC H x d) (ok : ds.all isPtD = true) : PtsAt H xs (ds.map ptD) := by
  refine ⟨by rw [List.length_map]; exact hl, fun i x p h1 h2 => ?_⟩
  rw [List.getElem?_map] at h2
  cases z : ds[i]? with
  | none => rw [z] at h2; cases h2
  | some d =>
    rw [z] at h2
    obtain rfl := Option.some.inj h2
    obtain ⟨a, b, rfl, _⟩ := isPt_is (List.all_eq_true.mp ok d (List.mem_of_getElem? z))
    cases hi i x _ h1 z with
    | @tup t ys _ ht hy _ hz =>
      match ys, hy with
      | [y1, y2], _ =>
        have r1 := hz 0 y1 (.int a) rfl rfl
        have r2 := hz 1 y2 (.int b) rfl rfl
        cases r1
        cases r2
        exact ⟨t, rfl, ht⟩
theorem nodup_of_dd : ∀ {l : List Int}, (dd l).length = l.length → l.Nodup := fun {l} h => by
  induction l with
  | nil => exact List.nodup_nil
  | cons a l ih =>
    rw [dd_cons] at h
    have h1 : ((dd l).filter fun o => decide (o ≠ a)).length = l.length := by simpa using h
    have h2 : ((dd l).filter fun o => decide (o ≠ a)).length ≤ (dd l).length := List.length_filter_le ..
    have h3 := dd_len l
    have e : (dd l).length = l.length := by omega
    have nd := ih e
    refine List.nodup_cons.mpr ⟨fun m => ?_, nd⟩
    have m2 : a ∈ dd l := dd_mem.mpr m
    have h4 : ((dd l).filter fun o => decide (o ≠ a)).length < (dd l).length := by
      refine Nat.lt_of_le_of_ne h2 fun z => ?_
      have := (List.filter_eq_self.mp (List.Sublist.eq_of_length (List.filter_sublist) z)) a m2
      simp at this
    omega
theorem okPts_of {ds : List D} {c : Int} (few : ds.length ≤ 300) (h : okRing (.lst ds) (.int c) = true) : OkPts (ds.map ptD) c := by
  have h' : (arePts (.lst ds) && (okCp (.int c) && decide (c ≤ ((dd (ds.map fun d => (ptD d).2)).length : Int)))) = true := h
  have e0 : arePts (.lst ds) = (ds.all isPtD && decide ((dd (ds.map fun d => (ptD d).1)).length = ds.length)) := rfl
  have e1 : okCp (.int c) = (decide (1 ≤ c) && decide (c ≤ 7)) := rfl
  rw [e0, e1] at h'
  simp only [Bool.and_eq_true, decide_eq_true_iff] at h'
  obtain ⟨⟨h1, h2⟩, ⟨h3, h4⟩, h5⟩ := h'
  refine ⟨fun p hp => ?_, fun p hp => ?_, ?_, by rw [List.length_map]; exact few, h3, h4, by rw [List.map_map]; exact h5⟩
  · obtain ⟨d, hd, rfl⟩ := List.mem_map.mp hp
    obtain ⟨a, b, rfl, z⟩ := isPt_is (List.all_eq_true.mp h1 d hd)
    exact ⟨z.1, z.2.1⟩
  · obtain ⟨d, hd, rfl⟩ := List.mem_map.mp hp
    obtain ⟨a, b, rfl, z⟩ := isPt_is (List.all_eq_true.mp h1 d hd)
    exact ⟨z.2.2.1, z.2.2.2⟩
  · rw [List.map_map]
    have e : ((fun p : Int × Int => p.1) ∘ ptD) = fun d => (ptD d).1 := rfl
    rw [e]
    have len : (dd (ds.map fun d => (ptD d).1)).length = (ds.map fun d => (ptD d).1).length := by rw [h2, List.length_map]
    exact nodup_of_dd len
/-- Ring(points, copies) of anything -/
def spRingX (K : PySem.W.Frag) (CC : Addr → Prop) (C CB : Addr) : Sp := fun vs H Q E => ∃ (x dx : Addr) (a c : V) (da dc : D), vs = [.ref x, a, c] ∧ H x = some (.ins C dx []) ∧ Rep K CC H a da ∧ Rep K CC H c dc ∧ (∀ ds, da = .lst ds → ds.length ≤ 300) ∧
  (∀ p xs ds ci, a = .ref p → H p = some (.lst xs) → da = .lst ds → dc = .int ci → okRing da dc = true → ∀ H' qs, (∀ y o, y ≠ x → H y = some o → H' y = some o) → qs.Perm (ds.map ptD) → RingAt H' x C ci qs → Q .non H') ∧
  (okRing da dc = false → ∀ H', Same H H' → E (.ref CB) none H')
theorem PtsAt.frI {H H' : Hp} {l C dx : Addr} {fs : List (Str × V)} {xs : List V} {ps : List (Int × Int)} (h : PtsAt H xs ps) (f : Fr l H H') (hl : H l = some (.ins C dx fs)) : PtsAt H' xs ps := ⟨h.1, fun i x p a b => by
  obtain ⟨t, e, z⟩ := h.2 i x p a b
  exact ⟨t, e, f _ _ (ne_obj z hl (fun z => by cases z)) z⟩⟩
theorem pts_permX {H : Hp} {xs ys : List V} {ps : List (Int × Int)} {c : Int} (hp : PtsAt H xs ps) (srt : SrtO.Srtd (L2.ltP (kAt H)) ys) (pm : ys.Perm xs) (ok : OkPts ps c) : ∃ qs : List (Int × Int), PtsAt H ys qs ∧ OkPts qs c ∧ Asc qs ∧ qs.Perm ps := by
  have hm : ∀ y ∈ xs, PtAt H y (kAt H y) := fun y hy => by
    obtain ⟨i, hi, e⟩ := List.getElem_of_mem hy
    have hi2 : i < ps.length := by rw [← hp.1]; exact hi
    obtain ⟨t, e2, ht⟩ := hp.at_ hi2
    rw [List.getElem?_eq_getElem hi, e] at e2
    obtain rfl := Option.some.inj e2
    refine ⟨t, rfl, ?_⟩
    rw [kAt_at (d := ps[i]) ht]
    exact ht
  have e0 : xs.map (kAt H) = ps := by
    refine List.ext_getElem (by rw [List.length_map]; exact hp.1) fun i h1 h2 => ?_
    rw [List.getElem_map]
    obtain ⟨t, e2, ht⟩ := hp.at_ h2
    rw [List.getElem?_eq_getElem (by simpa using h1)] at e2
    rw [Option.some.inj e2]
    exact kAt_at (d := ps[i]) ht
  have pq : (ys.map (kAt H)).Perm ps := by
    rw [← e0]
    exact pm.map _
  have nd : ((ys.map (kAt H)).map (·.1)).Nodup := (pq.map _).nodup_iff.mpr ok.nd
  refine ⟨ys.map (kAt H), ⟨by rw [List.length_map], fun i x p h1 h2 => ?_⟩, ⟨fun p h => ok.pl p (pq.mem_iff.mp h), fun p h => ok.hs p (pq.mem_iff.mp h), nd, by rw [pq.length_eq]; exact ok.few, ok.c1, ok.c7, ?_⟩, ?_, pq⟩
  · rw [List.getElem?_map, h1] at h2
    obtain rfl := Option.some.inj h2
    exact hm x (pm.mem_iff.mp (List.mem_of_getElem? h1))
  · rw [dd_same fun j => (pq.map (·.2)).mem_iff]
    exact ok.many
  · unfold Asc
    rw [List.pairwise_map]
    unfold List.Nodup at nd
    rw [List.pairwise_map, List.pairwise_map] at nd
    refine List.Pairwise.imp₂ (fun a b h1 h2 => ?_) srt nd
    have h3 : ¬ SrtO.lexB (kAt H b) (kAt H a) = true := by rw [show SrtO.lexB (kAt H b) (kAt H a) = false from h1]; decide
    rw [SrtO.lexB_iff] at h3
    by_cases z : (kAt H a).1 < (kAt H b).1
    · exact z
    · exfalso
      have z2 : (kAt H b).1 < (kAt H a).1 := by omega
      exact h3 (.inl z2)
def ptD' (p : Int × Int) : D := .tup [.int p.1, .int p.2]
theorem ptAt_rep {K : PySem.W.Frag} {CC : Addr → Prop} {H : Hp} {v : V} {p : Int × Int} (h : PtAt H v p) : Rep K CC H v (ptD' p) := by
  obtain ⟨t, rfl, ht⟩ := h
  refine @Rep.tup K CC H t [.int p.1, .int p.2] [.int p.1, .int p.2] ht rfl (by show 2 ≤ 1000; decide) fun j y e g1 g2 => ?_
  match j with
  | 0 => cases g1; cases g2; exact .int _
  | 1 => cases g1; cases g2; exact .int _
  | _ + 2 => simp at g1
theorem pts_items {K : PySem.W.Frag} {CC : Addr → Prop} {H : Hp} {xs : List V} {ps : List (Int × Int)} (h : PtsAt H xs ps) : ∀ (i : Nat) (x : V) (d : D), xs[i]? = some x → (ps.map ptD')[i]? = some d → Rep K CC H x d := fun i x d a b => by
  rw [List.getElem?_map] at b
  cases z : ps[i]? with
  | none => rw [z] at b; cases b
  | some p =>
    rw [z] at b
    obtain rfl := Option.some.inj b
    exact ptAt_rep (h.2 i x p a z)
theorem pts_tup {K : PySem.W.Frag} {CC : Addr → Prop} {H : Hp} {a : Addr} {xs : List V} {ps : List (Int × Int)} (ha : H a = some (.tup xs)) (h : PtsAt H xs ps) (few : ps.length ≤ 1000) : Rep K CC H (.ref a) (.tup (ps.map ptD')) :=
  .tup ha (by rw [List.length_map]; exact h.1) (by rw [h.1]; exact few) (pts_items h)
theorem pts_lst {K : PySem.W.Frag} {CC : Addr → Prop} {H : Hp} {a : Addr} {xs : List V} {ps : List (Int × Int)} (ha : H a = some (.lst xs)) (h : PtsAt H xs ps) (few : ps.length ≤ 1000) : Rep K CC H (.ref a) (.lst (ps.map ptD')) :=
  .lst ha (by rw [List.length_map]; exact h.1) (by rw [h.1]; exact few) (pts_items h)
theorem ptD_D' (p : Int × Int) : ptD (ptD' p) = p := rfl
theorem map_ptD (ps : List (Int × Int)) : (ps.map ptD').map ptD = ps := by
  rw [List.map_map]
  have e : ptD ∘ ptD' = id := rfl
  rw [e, List.map_id]
theorem okRing_of {ps : List (Int × Int)} {c : Int} (ok : OkPts ps c) : okRing (.lst (ps.map ptD')) (.int c) = true := by
  have e1 : arePts (.lst (ps.map ptD')) = ((ps.map ptD').all isPtD && decide ((dd ((ps.map ptD').map fun d => (ptD d).1)).length = (ps.map ptD').length)) := rfl
  have e2 : okRing (.lst (ps.map ptD')) (.int c) = (arePts (.lst (ps.map ptD')) && (okCp (.int c) && decide (c ≤ ((dd ((ps.map ptD').map fun d => (ptD d).2)).length : Int)))) := rfl
  have m1 : ((ps.map ptD').map fun d => (ptD d).1) = ps.map (·.1) := by rw [List.map_map]; rfl
  have m2 : ((ps.map ptD').map fun d => (ptD d).2) = ps.map (·.2) := by rw [List.map_map]; rfl
  have a1 : (ps.map ptD').all isPtD = true := by
    rw [List.all_eq_true]
    intro d hd
    obtain ⟨p, hp, rfl⟩ := List.mem_map.mp hd
    have h1 := ok.pl p hp
    have h2 := ok.hs p hp
    show ((limI p.1 && decide (0 ≤ p.1)) && (decide (p.1 < 256) && (limI p.2 && decide (0 ≤ p.2)))) = true
    unfold limI
    simp only [Bool.and_eq_true, decide_eq_true_iff]
    omega
  have a2 : okCp (.int c) = true := by
    show (decide (1 ≤ c) && decide (c ≤ 7)) = true
    rw [decide_eq_true ok.c1, decide_eq_true ok.c7]
    rfl
  rw [e2, e1, a1, m1, m2, a2, dd_all ok.nd, List.length_map, List.length_map, decide_eq_true rfl, decide_eq_true ok.many]
  rfl
/-- a ring but for its table of owners -/
def RingV (H : Hp) (r C : Addr) (c : Int) (ps : List (Int × Int)) : Prop := ∃ dx tp ow xs, H r = some (.ins C dx [("_copies", .int c), ("_points", .ref tp), ("_owners", .ref ow)]) ∧ H tp = some (.tup xs) ∧ PtsAt H xs ps ∧ OkPts ps c ∧ Asc ps
theorem RingAt.v {H : Hp} {r C : Addr} {c : Int} {ps : List (Int × Int)} (h : RingAt H r C c ps) : RingV H r C c ps := by
  obtain ⟨dx, tp, ow, xs, fs, a, b, p, o, z, _⟩ := h
  exact ⟨dx, tp, ow, xs, a, b, p, o, z⟩
theorem RingV.mono {H H' : Hp} {r C : Addr} {c : Int} {ps : List (Int × Int)} (h : RingV H r C c ps) (s : Same H H') : RingV H' r C c ps := by
  obtain ⟨dx, tp, ow, xs, a, b, p, o, z⟩ := h
  exact ⟨dx, tp, ow, xs, s _ _ a, s _ _ b, p.mono s, o, z⟩
theorem RingV.fr {H H' : Hp} {r C l : Addr} {c : Int} {ps : List (Int × Int)} {ys : List V} (h : RingV H r C c ps) (f : Fr l H H') (hl : H l = some (.lst ys)) : RingV H' r C c ps := by
  obtain ⟨dx, tp, ow, xs, a, b, p, o, z⟩ := h
  exact ⟨dx, tp, ow, xs, f _ _ (ne_obj a hl (fun z => by cases z)) a, f _ _ (ne_obj b hl (fun z => by cases z)) b, p.fr f hl, o, z⟩
theorem RingV.look {H : Hp} {r C : Addr} {c : Int} {ps : List (Int × Int)} (h : RingV H r C c ps) : ∃ dx tp ow, H r = some (.ins C dx [("_copies", .int c), ("_points", .ref tp), ("_owners", .ref ow)]) := by
  obtain ⟨dx, tp, ow, xs, a, _⟩ := h
  exact ⟨dx, tp, ow, a⟩
def spRingCV (C : Addr) : Sp := fun vs H Q _ => ∃ r c ps, vs = [.ref r] ∧ RingV H r C c ps ∧ Q (.int c) H
def spRingHs (C : Addr) : Sp := fun vs H Q _ => ∃ r c ps, vs = [.ref r] ∧ RingV H r C c ps ∧ ∀ H' p ms, Same H H' → H p = none → H' p = some (.lst ((ms : List Int).map V.int)) → ms.Pairwise (· < ·) → (∀ k, k ∈ ms ↔ k ∈ ps.map (·.2)) → ms.length ≤ 1000 → Q (.ref p) H'
def spRingVR (C : Addr) : Sp := fun vs H Q _ => ∃ r c ps, vs = [.ref r] ∧ RingV H r C c ps ∧ ∀ H' p tp xs, Same H H' → H p = none → H' p = some (.tup [.int c, .ref tp]) → H' tp = some (.tup xs) → PtsAt H' xs ps → Q (.ref p) H'
instance (ps : List (Int × Int)) : Decidable (Asc ps) := by unfold Asc; infer_instance
/-- the value of a ring -/
def okRV : D → Bool | .tup [.int c, .tup ds] => okRing (.lst ds) (.int c) && decide (Asc (ds.map ptD)) | _ => false
def spFromVR (K : PySem.W.Frag) (CC : Addr → Prop) (C CB : Addr) : Sp := fun vs H Q E => ∃ (v : V) (d : D), vs = [v] ∧ Rep K CC H v d ∧ (∀ c ds, d = .tup [c, .tup ds] → ds.length ≤ 300) ∧
  (∀ c ds, d = .tup [.int c, .tup ds] → okRV d = true → ∀ H' r, Same H H' → RingAt H' r C c (ds.map ptD) → Q (.ref r) H') ∧ (okRV d = false → ∀ H', Same H H' → E (.ref CB) none H')
abbrev rNotTyG := rNTG
def ptP (p : Int × Int) : PyData := .tuple [.int p.1, .int p.2]
theorem eqv_pt (p q : Int × Int) : PyData.eqv (ptP p) (ptP q) = decide (p = q) := by
  obtain ⟨a, b⟩ := p
  obtain ⟨c, d⟩ := q
  have e : PyData.eqv (ptP (a, b)) (ptP (c, d)) = ((a == c) && ((b == d) && true)) := by simp [ptP, PyData.eqv, PyData.eqvAll]
  rw [e, Bool.and_true]
  by_cases h1 : a = c
  · by_cases h2 : b = d
    · subst h1 h2
      simp
    · rw [decide_eq_false (fun z => h2 (congrArg Prod.snd z)), show (b == d) = false from beq_eq_false_iff_ne.mpr h2, Bool.and_false]
  · rw [decide_eq_false (fun z => h1 (congrArg Prod.fst z)), show (a == c) = false from beq_eq_false_iff_ne.mpr h1, Bool.false_and]
theorem eqv_pts : ∀ ps qs : List (Int × Int), PyData.eqvAll (ps.map ptP) (qs.map ptP) = decide (ps = qs)
  | [], [] => by simp [PyData.eqvAll]
  | [], q :: qs => by simp [PyData.eqvAll]
  | p :: ps, [] => by simp [PyData.eqvAll]
  | p :: ps, q :: qs => by
    have e : PyData.eqvAll ((p :: ps).map ptP) ((q :: qs).map ptP) = (PyData.eqv (ptP p) (ptP q) && PyData.eqvAll (ps.map ptP) (qs.map ptP)) := by simp [PyData.eqvAll]
    rw [e, eqv_pt, eqv_pts ps qs]
    by_cases h1 : p = q
    · by_cases h2 : ps = qs
      · subst h1 h2
        simp
      · rw [decide_eq_false h2, Bool.and_false, decide_eq_false (fun z => h2 (List.cons.inj z).2)]
    · rw [decide_eq_false h1, Bool.false_and, decide_eq_false (fun z => h1 (List.cons.inj z).1)]
theorem pts_dp {K : PySem.W.Frag} {H : Hp} : ∀ {xs : List V} {ps : List (Int × Int)}, PtsAt H xs ps → DpAll K H xs (ps.map ptP)
  | [], [], _ => .nil
  | [], p :: ps, h => by cases h.1
  | x :: xs, [], h => by cases h.1
  | x :: xs, p :: ps, h => by
    obtain ⟨t, rfl, ht⟩ := h.2 0 x p rfl rfl
    exact .cons (.tup (SqT.of ht) (.cons (.int _) (.cons (.int _) .nil))) (pts_dp ⟨Nat.succ.inj h.1, fun i y q a b => h.2 (i + 1) y q a b⟩)
theorem lay_pts : ∀ ps : List (Int × Int), PyData.canLayAll0 (ps.map ptP) = true ∧ PyData.depthAll (ps.map ptP) ≤ 2
  | [] => by simp [PyData.canLayAll0, PyData.depthAll]
  | p :: ps => by
    have ih := lay_pts ps
    have e1 : (ptP p).canLay0 = true := by simp [ptP, PyData.canLay0, PyData.canLayAll0]
    have e2 : (ptP p).depth ≤ 2 := by simp [ptP, PyData.depth, PyData.depthAll]
    refine ⟨by simp [PyData.canLayAll0, e1, ih.1], ?_⟩
    simp only [List.map_cons, PyData.depthAll]
    omega
/-- the value's data -/
def rvP (c : Int) (ps : List (Int × Int)) : PyData := .tuple [.int c, .tuple (ps.map ptP)]
theorem rv_dp {K : PySem.W.Frag} {H : Hp} {a b : Addr} {c : Int} {xs : List V} {ps : List (Int × Int)} (ha : H a = some (.tup [.int c, .ref b])) (hb : H b = some (.tup xs)) (h : PtsAt H xs ps) : Dp K H (.ref a) (rvP c ps) :=
  .tup (SqT.of ha) (.cons (.int c) (.cons (.tup (SqT.of hb) (pts_dp h)) .nil))
theorem rv_shaped (c : Int) (ps : List (Int × Int)) : SeqAt.shaped (rvP c ps) = true := by
  have ih := lay_pts ps
  refine shaped_of (by simp [rvP, PyData.canLay0, PyData.canLayAll0, ih.1]) ?_
  simp only [rvP, PyData.depth, PyData.depthAll]
  omega
theorem rv_eqv (c : Int) (ps qs : List (Int × Int)) : PyData.eqv (rvP c ps) (rvP c qs) = decide (ps = qs) := by
  have e : PyData.eqv (rvP c ps) (rvP c qs) = ((c == c) && (PyData.eqvAll (ps.map ptP) (qs.map ptP) && true)) := by simp [rvP, PyData.eqv, PyData.eqvAll]
  rw [e, eqv_pts]
  simp
theorem asc_perm {ps qs : List (Int × Int)} (pm : qs.Perm ps) (aq : Asc qs) (ap : Asc ps) : qs = ps := by
  refine List.Perm.eq_of_pairwise (le := fun a b => a.1 ≤ b.1 ∧ (a.1 = b.1 → a = b)) (fun a b _ _ h1 h2 => h1.2 (by omega)) (aq.imp fun h => ⟨by omega, fun z => by omega⟩) (ap.imp fun h => ⟨by omega, fun z => by omega⟩) pm
theorem tree_rv (c : Int) (ps : List (Int × Int)) : ∃ d, d = D.tup [.int c, .tup (ps.map ptD')] := ⟨_, rfl⟩
end RH
namespace RH
open PySem PySem.Spec PyProof.Rows L2
/-! ### static methods, reached through their class -/
structure Sta (P : Program) (w : World) (K : PySem.W.Frag) (mg : Str → Option Value) (base : Heap) (k : Nat) (C : Addr) (m : Str) (sp : Sp) : Prop where
  ex : ∃ (p f : Addr) (fd : FuncData) (ps : List Str), PySem.W.readsIn K C (.type "type") = true ∧ PySem.W.specialIn K (.ref C) "__getattribute__" = some (some (.builtin "type.__getattribute__")) ∧
    PySem.W.findCls K (.ref C) (.type "type") m = some (.get (.builtin "staticmethod.__get__") (.ref p) .none (.ref C)) ∧ (∃ rest, PySem.W.recIn K p "staticmethod" = some (.ref f :: rest)) ∧
    PySem.W.keepIn K (.ref f) = true ∧ FnOk P w K mg base (L2.CX P w) k f fd ps sp ∧ Binds K fd ps []
def tSta (C : Addr) (sp : Sp) (E : L2.St → XK) (ta : TE) (t : TA) : TE := fun σ H Q => ta σ H fun x H1 => x = .ref C ∧ t σ H1 fun vs H2 => sp vs H2 Q (E σ)
section
variable {X : Cx} {k j : Nat} {C : Addr} {m : Str} {sp : Sp} {pos apos : Pos} {o e : Expr} {es : List Expr} {t : TA} {ta : TE}
theorem pe_staG {pl : Sem Bool} {E : L2.St → XK} (c : Sta X.prog X.w X.K X.mg X.base k C m sp) (hr : Room j X.A) (hk : k ≤ j) (hx : ∀ σ, PassesAt (L2.CX X.prog X.w) X σ (E σ)) (he : PE X o ta) (ha : PA X (e :: es) t)
    (hst : starEach (e :: es) X.env = (false, eval e X.env) :: starEach es X.env := by rfl) (hpl : (backTo pos (starEach es X.env)).any (·.1) = false := by rfl)
    (ht : eval (.Call (.Attribute o m apos) (e :: es) [] pos) X.env = (do
      let ov ← eval o X.env
      standAt apos.atName
      let (f, first) ← holding [ov] (getMethod ov m pl)
      callWith pos f first (backTo pos (starEach (e :: es) X.env)) (backToKw pos (keywordEach [] X.env))) := by rfl) :
    PE X (.Call (.Attribute o m apos) (e :: es) [] pos) (tSta C sp E ta t) := by
  obtain ⟨p, f, fd, ps, rd, ga, fc, ⟨rest, rc⟩, kp, F, b⟩ := c.ex
  constructor
  intro pins s σ H Q I h
  refine PySem.W.methodCall_KW (pl := pl) (thn (he.run pins s σ H _ I h) ?_) ht
  rintro u s1 ⟨x, H1, I1, rx, rfl, q⟩
  obtain rfl : u = Value.ref C := rx
  refine PySem.W.method_cls I1.kIn ga (PySem.W.cls_bind I1.kIn rd fc (wpAny_call (PySem.W.sm_get (s := { s1 with toks := s1.toks + 1 }) I1.kIn rc (PySem.W.handed_on rfl ?_))))
  have I2 := I1.tok (s1.toks + 1)
  refine PySem.W.callWith_K (first := []) (h₀ := X.base) I2.ok.mod.kin kp (thn (ha.run pos pins _ σ H1 _ I2 q) ?_) hst hpl
  rintro us s2 ⟨vs, H2, I3, r, q2⟩
  exact ⟨I3.kIn, run_fnS F (hr.mono hk) b (hx σ) I3 r q2⟩
theorem pe_sta {pl : Sem Bool} (c : Sta X.prog X.w X.K X.mg X.base k C m sp) (hr : Room j X.A) (hk : k ≤ j) (he : PE X o ta) (ha : PA X (e :: es) t)
    (hst : starEach (e :: es) X.env = (false, eval e X.env) :: starEach es X.env := by rfl) (hpl : (backTo pos (starEach es X.env)).any (·.1) = false := by rfl)
    (ht : eval (.Call (.Attribute o m apos) (e :: es) [] pos) X.env = (do
      let ov ← eval o X.env
      standAt apos.atName
      let (f, first) ← holding [ov] (getMethod ov m pl)
      callWith pos f first (backTo pos (starEach (e :: es) X.env)) (backToKw pos (keywordEach [] X.env))) := by rfl) :
    PE X (.Call (.Attribute o m apos) (e :: es) [] pos) (tSta C sp (fun _ => C8.E0) ta t) :=
  pe_staG c hr hk (fun σ pins H s e s' I z => passL pins σ H s e s' I z) he ha hst hpl ht
theorem pe_staT {pl : Sem Bool} {W : WX} (c : Sta X.prog X.w X.K X.mg X.base k C m sp) (hr : Room j X.A) (hk : k ≤ j) (tk : Takes X W) (he : PE X o ta) (ha : PA X (e :: es) t)
    (hst : starEach (e :: es) X.env = (false, eval e X.env) :: starEach es X.env := by rfl) (hpl : (backTo pos (starEach es X.env)).any (·.1) = false := by rfl)
    (ht : eval (.Call (.Attribute o m apos) (e :: es) [] pos) X.env = (do
      let ov ← eval o X.env
      standAt apos.atName
      let (f, first) ← holding [ov] (getMethod ov m pl)
      callWith pos f first (backTo pos (starEach (e :: es) X.env)) (backToKw pos (keywordEach [] X.env))) := by rfl) :
    PE X (.Call (.Attribute o m apos) (e :: es) [] pos) (tSta C sp (WE W) ta t) :=
  pe_staG c hr hk (fun σ => passAt tk σ) he ha hst hpl ht
theorem r_sta {E : L2.St → XK} {σ : L2.St} {H : Hp} {Q : VK} (h : ta σ H fun x H1 => x = .ref C ∧ t σ H1 fun vs H2 => sp vs H2 Q (E σ)) : tSta C sp E ta t σ H Q := h
theorem r_staX {R : Prop} (q : R) : V.ref C = V.ref C ∧ R := ⟨rfl, q⟩
end
/-- a def that calls itself -/
structure Rec (K : PySem.W.Frag) (mg : Str → Option Value) (x : Str) (f : Addr) (fd : FuncData) (ps : List Str) : Prop where
  mgf : mg x = some (.ref f)
  kp : PySem.W.keepIn K (.ref f) = true
  bd : Binds K fd ps []
theorem Rec.cal {P : Program} {w : World} {K : PySem.W.Frag} {mg : Str → Option Value} {base : Heap} {k : Nat} {x : Str} {f : Addr} {fd : FuncData} {ps : List Str} {sp : Sp} (r : Rec K mg x f fd ps) (F : FnOk P w K mg base C8.CX0 k f fd ps sp) : C8.Cal P w K mg base k x sp [] := ⟨f, fd, ps, [], F, r.mgf, r.kp, r.bd, .nil⟩
end RH
namespace RH
open PySem L2
/-! ### things by their parts -/
inductive RepAll (K : PySem.W.Frag) (CC : Addr → Prop) (H : Hp) : List V → List D → Prop
  | nil : RepAll K CC H [] []
  | cons {x : V} {d : D} {xs : List V} {ds : List D} : Rep K CC H x d → RepAll K CC H xs ds → RepAll K CC H (x :: xs) (d :: ds)
section
variable {K : PySem.W.Frag} {CC : Addr → Prop} {H H' : Hp} {a : Addr} {xs ys : List V} {ds es : List D} {v : V} {d : D}
theorem RepAll.len (h : RepAll K CC H xs ds) : xs.length = ds.length := by
  induction h with
  | nil => rfl
  | cons _ _ ih => simp [ih]
theorem RepAll.items (h : RepAll K CC H xs ds) : ∀ (i : Nat) (x : V) (d : D), xs[i]? = some x → ds[i]? = some d → Rep K CC H x d := by
  induction h with
  | nil => intro i x d h; simp at h
  | cons r _ ih =>
    intro i x d h1 h2
    match i with
    | 0 => cases h1; cases h2; exact r
    | i + 1 => exact ih i x d h1 h2
theorem RepAll.of (hl : xs.length = ds.length) (hi : ∀ (i : Nat) (x : V) (d : D), xs[i]? = some x → ds[i]? = some d → Rep K CC H x d) : RepAll K CC H xs ds := by
  induction xs generalizing ds with
  | nil =>
    cases ds with
    | nil => exact .nil
    | cons => cases hl
  | cons x xs ih =>
    cases ds with
    | nil => cases hl
    | cons d ds => exact .cons (hi 0 x d rfl rfl) (ih (Nat.succ.inj hl) fun i y e a b => hi (i + 1) y e a b)
theorem RepAll.mono (h : RepAll K CC H xs ds) (s : Same H H') : RepAll K CC H' xs ds := by
  induction h with
  | nil => exact .nil
  | cons r _ ih => exact .cons (r.mono s) ih
theorem RepAll.app (h : RepAll K CC H xs ds) (k : RepAll K CC H ys es) : RepAll K CC H (xs ++ ys) (ds ++ es) := by
  induction h with
  | nil => exact k
  | cons r _ ih => exact .cons r ih
theorem RepAll.take (h : RepAll K CC H xs ds) (n : Nat) : RepAll K CC H (xs.take n) (ds.take n) := by
  induction h generalizing n with
  | nil => simp; exact .nil
  | cons r _ ih =>
    cases n with
    | zero => exact .nil
    | succ n => exact .cons r (ih n)
theorem RepAll.drop (h : RepAll K CC H xs ds) (n : Nat) : RepAll K CC H (xs.drop n) (ds.drop n) := by
  induction h generalizing n with
  | nil => simp; exact .nil
  | cons r t ih =>
    cases n with
    | zero => exact .cons r t
    | succ n => exact ih n
theorem rep_tupA (h : H a = some (.tup xs)) (r : RepAll K CC H xs ds) (sz : xs.length ≤ 1000) : Rep K CC H (.ref a) (.tup ds) := .tup h r.len sz r.items
theorem rep_lstA (h : H a = some (.lst xs)) (r : RepAll K CC H xs ds) (sz : xs.length ≤ 1000) : Rep K CC H (.ref a) (.lst ds) := .lst h r.len sz r.items
theorem leB {n : Nat} (h : Nat.ble n 1000 = true) : n ≤ 1000 := Nat.le_of_ble_eq_true h
theorem pts_all {ps : List (Int × Int)} (h : PtsAt H xs ps) : RepAll K CC H xs (ps.map ptD') := .of (by rw [List.length_map]; exact h.1) (pts_items h)
end
/-! ### what makes no point, no ring -/
theorem ptl {a b : D} (h : isNum a = false) : isPtD (.tup [a, b]) = false := by
  show (isNum a && _) = false
  rw [h, Bool.false_and]
theorem ptr {a b : D} (h : isNum b = false) : isPtD (.tup [a, b]) = false := by
  show (isNum a && (lt256 a && isNum b)) = false
  rw [h, Bool.and_false, Bool.and_false]
theorem pt256 {b : D} : isPtD (.tup [.int 256, b]) = false := rfl
/-- a list with something that is no point -/
theorem no_ring {ds : List D} {d c : D} (m : d ∈ ds) (h : isPtD d = false) : okRing (.lst ds) c = false := by
  have e : ds.all isPtD = false := by
    refine Bool.eq_false_iff.mpr fun z => ?_
    rw [List.all_eq_true.mp z d m] at h
    cases h
  unfold okRing
  split
  · rename_i es ci he
    cases he
    show (((ds.all isPtD) && _) && _) = false
    rw [e, Bool.false_and, Bool.false_and]
  · rfl
/-- two points of one place -/
theorem twice_ring {ds : List D} {c : D} (h : ¬ (ds.map fun d => (ptD d).1).Nodup) : okRing (.lst ds) c = false := by
  have e : decide ((dd (ds.map fun d => (ptD d).1)).length = ds.length) = false := decide_eq_false fun z => h (nodup_of_dd (by rw [z, List.length_map]))
  unfold okRing
  split
  · rename_i es ci he
    cases he
    show ((_ && decide ((dd (ds.map fun d => (ptD d).1)).length = ds.length)) && _) = false
    rw [e, Bool.and_false, Bool.false_and]
  · rfl
theorem nil_ring {c : D} : okRing (.lst []) c = false := by
  cases c with
  | int c =>
    show (arePts (.lst []) && ((decide (1 ≤ c) && decide (c ≤ 7)) && decide (c ≤ ((0 : Nat) : Int)))) = false
    by_cases h : 1 ≤ c
    · rw [decide_eq_false (show ¬ c ≤ ((0 : Nat) : Int) by omega), Bool.and_false, Bool.and_false]
    · rw [decide_eq_false h, Bool.false_and, Bool.false_and, Bool.and_false]
  | _ => rfl
theorem lst_ring {a c : D} (h : ∀ ds, a ≠ .lst ds) : okRing a c = false := by
  unfold okRing
  split
  · exact absurd rfl (h _)
  · rfl
theorem cp_ring {a c : D} (h : okCp c = false) : okRing a c = false := by
  unfold okRing
  split
  · rw [h, Bool.false_and, Bool.and_false]
  · rfl
theorem many_ring {ps : List (Int × Int)} {c : Int} (h : ((dd (ps.map (·.2))).length : Int) < c) : okRing (.lst (ps.map ptD')) (.int c) = false := by
  have m2 : ((ps.map ptD').map fun d => (ptD d).2) = ps.map (·.2) := by rw [List.map_map]; rfl
  show (_ && (_ && decide (c ≤ ((dd ((ps.map ptD').map fun d => (ptD d).2)).length : Int)))) = false
  rw [m2, decide_eq_false (by omega), Bool.and_false, Bool.and_false]
theorem cpI {c : Int} (h : c < 1 ∨ 7 < c) : okCp (.int c) = false := by
  show (decide (1 ≤ c) && decide (c ≤ 7)) = false
  rcases h with h | h
  · rw [decide_eq_false (by omega), Bool.false_and]
  · rw [decide_eq_false (show ¬ c ≤ 7 by omega), Bool.and_false]
/-! ### promises of the law's bad things -/
def spBadPt (K : PySem.W.Frag) (CC : Addr → Prop) : Sp := fun vs H Q _ => ∃ (t : Addr) (a b d : Int), vs = [.ref t, .int d] ∧ H t = some (.tup [.int a, .int b]) ∧ 0 ≤ d ∧ ∀ H' v e, Same H H' → Rep K CC H' v e → isPtD e = false → Q v H'
def spBadPts (K : PySem.W.Frag) (CC : Addr → Prop) : Sp := fun vs H Q _ => ∃ (p : Addr) (xs : List V) (ps : List (Int × Int)) (d m : Int), vs = [.ref p, .int d, .int m] ∧ H p = some (.lst xs) ∧ PtsAt H xs ps ∧ OkPts ps 1 ∧ ps ≠ [] ∧ 0 ≤ d ∧ 0 ≤ m ∧
  ∀ H' q ys es, Same H H' → H q = none → H' q = some (.lst ys) → RepAll K CC H' ys es → es.length ≤ 300 → (∀ c, okRing (.lst es) c = false) → Q (.ref q) H'
def spBadCp (K : PySem.W.Frag) (CC : Addr → Prop) : Sp := fun vs H Q _ => ∃ (p : Addr) (xs : List V) (ps : List (Int × Int)) (d : Int), vs = [.ref p, .int d] ∧ H p = some (.lst xs) ∧ PtsAt H xs ps ∧ OkPts ps 1 ∧ 0 ≤ d ∧
  ∀ H' v e, Same H H' → Rep K CC H' v e → okRing (.lst (ps.map ptD')) e = false → (∀ qs : List (Int × Int), qs.Perm ps → okRing (.lst (qs.map ptD')) e = false) → Q v H'
def spRefR (K : PySem.W.Frag) (CC : Addr → Prop) : Sp := fun vs H Q _ => ∃ (a c : V) (da dc : D), vs = [a, c] ∧ Rep K CC H a da ∧ Rep K CC H c dc ∧ (∀ ds, da = .lst ds → ds.length ≤ 300) ∧ okRing da dc = false ∧ ∀ H', Same H H' → Q (.bl true) H'
def spRefV (K : PySem.W.Frag) (CC : Addr → Prop) : Sp := fun vs H Q _ => ∃ (v : V) (d : D), vs = [v] ∧ Rep K CC H v d ∧ (∀ c ds, d = .tup [c, .tup ds] → ds.length ≤ 300) ∧ okRV d = false ∧ ∀ H', Same H H' → Q (.bl true) H'
def spBadVal (K : PySem.W.Frag) (CC : Addr → Prop) : Sp := fun vs H Q _ => ∃ (v tp : Addr) (c d m : Int) (xs : List V) (ps : List (Int × Int)), vs = [.ref v, .int d, .int m] ∧ H v = some (.tup [.int c, .ref tp]) ∧ H tp = some (.tup xs) ∧ PtsAt H xs ps ∧ Asc ps ∧ ps ≠ [] ∧ ps.length ≤ 290 ∧ 0 ≤ d ∧ 0 ≤ m ∧
  ∀ H' u e, Same H H' → Rep K CC H' u e → (∀ c ds, e = .tup [c, .tup ds] → ds.length ≤ 300) → okRV e = false → Q u H'
section
variable {K : PySem.W.Frag} {H : Hp} {Q : VK} {p q : Addr} {xs ys : List V}
theorem r_catT (h1 : H p = some (.tup xs)) (h2 : H q = some (.tup ys)) (n1 : xs ≠ []) (n2 : ys ≠ []) (sz : xs.length + ys.length ≤ sizeLine) (k : ∀ l, H l = none → Q (.ref l) (upd H l (.tup (xs ++ ys)))) : rCatT K (.ref p) (.ref q) H Q :=
  ⟨p, q, xs, ys, rfl, rfl, SqT.of h1, SqT.of h2, n1, sz, fun e => absurd e n2, fun _ => k⟩
theorem r_listTU (h : H p = some (.tup xs)) (k : ∀ l, H l = none → Q (.ref l) (upd H l (.lst xs))) : rListOf K [.ref p] H Q := ⟨p, xs, rfl, .inr (SqT.of h), k⟩
theorem r_slT {lo hi : Option Int} (h : H p = some (.tup xs)) (ne : ¬ (HT.sIx xs.length 0 lo = 0 ∧ HT.sIx xs.length xs.length hi = xs.length)) (k : ∀ l, H l = none → Q (.ref l) (upd H l (.tup (cutV xs lo hi)))) : rSlT K (.ref p) lo hi H Q := ⟨p, xs, rfl, SqT.of h, ne, k⟩
end
theorem r_pI {R : Int → Prop} {i : Int} (h : R i) : ∃ j, V.int i = .int j ∧ R j := ⟨i, rfl, h⟩
theorem cutV_to (xs : List V) (n : Nat) : cutV xs none (some (n : Int)) = xs.take n := by
  unfold cutV
  rw [HT.sIx_none, HT.sIx_nat, List.drop_zero, Nat.sub_zero, List.take_eq_take_iff]
  omega
theorem cutV_from {xs : List V} {n : Nat} (h : n ≤ xs.length) : cutV xs (some (n : Int)) none = xs.drop n := by
  unfold cutV
  rw [HT.sIx_none, HT.sIx_nat, Nat.min_eq_left h]
  exact List.take_of_length_le (by rw [List.length_drop]; exact Nat.le_refl _)
theorem cutV_from1 {xs : List V} {n : Nat} (h : n + 1 ≤ xs.length) : cutV xs (some ((n : Int) + 1)) none = xs.drop (n + 1) := cutV_from (n := n + 1) h
theorem cutV_to1 (xs : List V) (n : Nat) : cutV xs none (some ((n : Int) + 1)) = xs.take (n + 1) := cutV_to xs (n + 1)
theorem OkPts.le256 {ps : List (Int × Int)} {c : Int} (ok : OkPts ps c) : ps.length ≤ 256 := by
  have nd : ((List.range 256).map fun i : Nat => (i : Int)).Nodup := by
    rw [List.nodup_iff_pairwise_ne, List.pairwise_map]
    exact List.pairwise_lt_range.imp fun h => by omega
  have z := le_of_sub ok.nd nd fun o ho => by
    obtain ⟨p, hp, rfl⟩ := List.mem_map.mp ho
    have := ok.pl p hp
    exact List.mem_map.mpr ⟨p.1.toNat, List.mem_range.mpr (by omega), by omega⟩
  rw [List.length_map, List.length_map, List.length_range] at z
  exact z
theorem okRing_dup {ps : List (Int × Int)} {k : Nat} {q : D} {c : D} (hk : k < ps.length) (h : (ptD q).1 = ps[k].1) : okRing (.lst ((ps.map ptD').take k ++ [q] ++ (ps.map ptD').drop k)) c = false := by
  refine twice_ring fun nd => ?_
  have e5 : (((ps.map ptD').take k ++ [q] ++ (ps.map ptD').drop k).map fun d => (ptD d).1) = (ps.map (·.1)).take k ++ [ps[k].1] ++ (ps.map (·.1)).drop k := by
    rw [List.map_append, List.map_append, List.map_take, List.map_drop, List.map_map, List.map_singleton, h]
    rfl
  rw [e5] at nd
  have m1 : ps[k].1 ∈ ps.map (·.1) := List.mem_map_of_mem (List.getElem_mem hk)
  rw [← List.take_append_drop k (ps.map (·.1))] at m1
  rw [List.append_assoc, List.nodup_append] at nd
  rcases List.mem_append.mp m1 with z | z
  · exact nd.2.2 _ z _ List.mem_cons_self rfl
  · exact (List.nodup_cons.mp nd.2.1).1 z
theorem turned_no {ps : List (Int × Int)} {k : Nat} (asc : Asc ps) (h0 : 0 < k) (hk : k < ps.length) : ¬ Asc (ps.drop k ++ ps.take k) := by
  intro z
  have z2 := List.pairwise_append.mp z
  have m1 : ps[k] ∈ ps.drop k := by
    rw [List.drop_eq_getElem_cons hk]
    exact List.mem_cons_self
  have m2 : ps[0] ∈ ps.take k := by
    rw [List.mem_take_iff_getElem]
    exact ⟨0, by omega, rfl⟩
  have h1 := z2.2.2 _ m1 _ m2
  have h2 := asc.take_lt h0 hk
  omega
theorem okRV_of {c : Int} {ds : List D} (h : okRing (.lst ds) (.int c) = false ∨ ¬ Asc (ds.map ptD)) : okRV (.tup [.int c, .tup ds]) = false := by
  show (okRing (.lst ds) (.int c) && decide (Asc (ds.map ptD))) = false
  rcases h with h | h
  · rw [h, Bool.false_and]
  · rw [decide_eq_false h, Bool.and_false]
/-! ### trees of ints -/
def TreeI : Nat → D → Prop
  | 0, d => ∃ i, d = .int i
  | n + 1, d => (∃ i, d = .int i) ∨ ∃ ds, d = .tup ds ∧ ∀ e ∈ ds, TreeI n e
def spAlike (K : PySem.W.Frag) (CC : Addr → Prop) (n : Nat) : Sp := fun vs H Q _ => ∃ (v u : V) (d : D), vs = [v, u] ∧ Rep K CC H v d ∧ Rep K CC H u d ∧ TreeI n d ∧ ∀ H', Same H H' → Q (.bl true) H'
def spAl (K : PySem.W.Frag) (CC : Addr → Prop) : Nat → Sp
  | 0 => fun _ _ _ _ => False
  | n + 1 => spAlike K CC n
theorem fnok_bot {P : Program} {w : World} {K : PySem.W.Frag} {mg : Str → Option Value} {base : Heap} {f : Addr} {fd : FuncData} {ps : List Str} : FnOk P w K mg base C8.CX0 0 f fd ps (fun _ _ _ _ => False) :=
  ⟨fun _ _ _ _ h => h.elim, fun _ _ _ _ _ _ _ _ _ _ _ _ _ h => h.elim⟩
theorem rep_monoX {K : PySem.W.Frag} {CC : Addr → Prop} {H H' : Hp} {x : V} {d : D} (h : Rep K CC H x d) (s : Same H H') : Rep K CC H' x d := h.mono s
theorem okRV_e {e : D} {ds : List D} (h : okRing (.lst ds) e = false) : okRV (.tup [e, .tup ds]) = false := by
  cases e with
  | int c => exact okRV_of (.inl h)
  | _ => rfl
theorem r_nePts {K : PySem.W.Frag} {H : Hp} {Q : VK} {a b : Addr} {xs : List V} {ps : List (Int × Int)} (ha : H a = some (.lst xs)) (hb : H b = some (.lst xs)) (hP : PtsAt H xs ps) (q : Q (.bl false) H) : rNeD K (.ref a) (.ref b) H Q := by
  have ih := lay_pts ps
  have sh : SeqAt.shaped (.list (ps.map ptP)) = true := by
    refine shaped_of (by simp [PyData.canLay0, ih.1]) ?_
    simp only [PyData.depth]
    omega
  have ev : PyData.eqv (.list (ps.map ptP)) (.list (ps.map ptP)) = true := by
    have := eqv_pts ps ps
    simp [PyData.eqv, this]
  refine ⟨_, _, .lst (SqL.of ha) (pts_dp hP), .lst (SqL.of hb) (pts_dp hP), sh, sh, ?_⟩
  rw [ev]
  exact q
def spRefused25 (K : PySem.W.Frag) : Sp := fun vs H Q _ => ∃ (p v tp l : Addr) (c : Int) (xs ys : List V) (ps qs : List (Int × Int)) (ds : List Int), vs = [.ref p, .int c, .ref v, .ref l] ∧ H p = some (.lst xs) ∧ PtsAt H xs ps ∧ OkPts ps c ∧ OkPts ps 1 ∧ ps ≠ [] ∧
  H v = some (.tup [.int c, .ref tp]) ∧ H tp = some (.tup ys) ∧ PtsAt H ys qs ∧ qs.Perm ps ∧ Asc qs ∧ H l = some (.lst (ds.map V.int)) ∧ DrawsOk ds ∧ ∀ H', Same H H' → Q (.bl true) H'
theorem r_bm0G {K : PySem.W.Frag} {σ : L2.St} {H : Hp} {Q : VK} {T : String} {r : V → List V → Hp → VK → Prop} {to : TE} (h : to σ H fun x H1 => tyV K T x H1 ∧ r x [] H1 Q) : tBM0 K T r to σ H Q := h
theorem r_refR {K : PySem.W.Frag} {CC : Addr → Prop} {H : Hp} {Q : VK} {E : XK} {a : V} {da : D} {c : Int} (r : Rep K CC H a da) (nl : ∀ es, da ≠ .lst es) (q : ∀ H7, Same H H7 → Q (.bl true) H7) : spRefR K CC [a, .int c] H Q E :=
  ⟨a, .int c, da, .int c, rfl, r, .int c, fun es z => absurd z (nl es), lst_ring nl, q⟩
theorem tree_val (c : Int) (ps : List (Int × Int)) : TreeI 3 (.tup [.int c, .tup (ps.map ptD')]) := by
  refine .inr ⟨_, rfl, fun e he => ?_⟩
  simp only [List.mem_cons, List.not_mem_nil, or_false] at he
  rcases he with rfl | rfl
  · exact .inl ⟨_, rfl⟩
  · refine .inr ⟨_, rfl, fun e he => ?_⟩
    obtain ⟨p, _, rfl⟩ := List.mem_map.mp he
    refine .inr ⟨_, rfl, fun e he => ?_⟩
    simp only [List.mem_cons, List.not_mem_nil, or_false] at he
    rcases he with rfl | rfl
    · exact ⟨_, rfl⟩
    · exact ⟨_, rfl⟩
theorem tree_two (a b : Int) : TreeI 3 (.tup [.int a, .int b]) := by
  refine .inr ⟨_, rfl, fun e he => ?_⟩
  simp only [List.mem_cons, List.not_mem_nil, or_false] at he
  rcases he with rfl | rfl <;> exact .inl ⟨_, rfl⟩
theorem val_rep {K : PySem.W.Frag} {CC : Addr → Prop} {H : Hp} {v tp : Addr} {c : Int} {xs : List V} {ps : List (Int × Int)} (hv : H v = some (.tup [.int c, .ref tp])) (ht : H tp = some (.tup xs)) (hp : PtsAt H xs ps) (few : ps.length ≤ 1000) : Rep K CC H (.ref v) (.tup [.int c, .tup (ps.map ptD')]) :=
  rep_tupA hv (.cons (.int c) (.cons (pts_tup ht hp few) .nil)) (leB rfl)
/-- two ascending lists of the same houses -/
theorem houses_one {us ms : List Int} {ps qs : List (Int × Int)} (pm : qs.Perm ps) (pu : us.Perm (dd (ps.map (·.2)))) (au : us.Pairwise (· ≤ ·)) (am : ms.Pairwise (· < ·)) (mm : ∀ k, k ∈ ms ↔ k ∈ qs.map (·.2)) : ms = us := by
  have nd : us.Nodup := pu.nodup_iff.mpr (dd_nodup _)
  refine asc_one am ?_ fun k => ?_
  · have nd2 : us.Pairwise (· ≠ ·) := nd
    exact (au.and nd2).imp fun h => by omega
  · rw [mm k, pu.mem_iff, dd_mem, (pm.map (·.2)).mem_iff]
end RH
namespace RH
open PySem L2
/-! ### the groups of sorted dots, row by row -/
def gM (os : List (Int × Int)) : Nat := (stl os.length (btD os)).length
def gS (os : List (Int × Int)) (j : Nat) : Nat := ((stl os.length (btD os))[j]?).getD os.length
def gC (os : List (Int × Int)) (j : Nat) : Int := (os.getD (gS os j) (0, 0)).1
def gN (os : List (Int × Int)) (j : Nat) : List Int := ((os.drop (gS os j)).take (gS os (j + 1) - gS os j)).map (·.2)
section
variable {os : List (Int × Int)}
theorem gS_at {j : Nat} (h : j < gM os) : (stl os.length (btD os))[j]? = some (gS os j) := by
  unfold gS
  rw [List.getElem?_eq_getElem h]
  rfl
theorem gS_get {j : Nat} (h : j < gM os) : (stl os.length (btD os))[j]'h = gS os j := by
  have := gS_at h
  rw [List.getElem?_eq_getElem h] at this
  exact Option.some.inj this
theorem gE_eq (j : Nat) : stE os.length (btD os) j = gS os (j + 1) := rfl
theorem g_lt {j : Nat} (h : j < gM os) : gS os j < gS os (j + 1) ∧ gS os (j + 1) ≤ os.length := by
  have := st_end (n := os.length) (bt := btD os) h
  rw [gS_get h] at this
  exact this
theorem gS_end : gS os (gM os) = os.length := by
  unfold gS gM
  rw [List.getElem?_eq_none (Nat.le_refl _)]
  rfl
theorem gS_zero : gS os 0 = 0 := by
  cases os with
  | nil => rfl
  | cons a l =>
    obtain ⟨j, hj, h1, h2⟩ := st_cov (n := (a :: l).length) (bt := btD (a :: l)) (fun _ => rfl) 0 (Nat.succ_pos _)
    rcases Nat.eq_zero_or_pos j with z | z
    · subst z
      rw [gS_get hj] at h1
      omega
    · have := st_lt z hj
      omega
theorem gC_at {j : Nat} (h : j < gM os) : gC os j = (os[gS os j]'(by have := g_lt h; omega)).1 := by
  have := g_lt h
  unfold gC
  rw [List.getD_eq_getElem?_getD, List.getElem?_eq_getElem (by omega)]
  rfl
theorem gC_same {j t : Nat} (h : j < gM os) (h1 : gS os j ≤ t) (h2 : t < gS os (j + 1)) (ht : t < os.length) : os[t].1 = gC os j := by
  have := grp_same (os := os) h t ht (by rw [gS_get h]; exact h1) h2
  rw [this, gC_at h]
  congr 2
  exact gS_get h
theorem gC_asc (srt : DSrt os) {i j : Nat} (h : i < j) (hj : j < gM os) : gC os i < gC os j := by
  have := grp_asc srt h hj
  rw [gC_at hj, gC_at (Nat.lt_trans h hj)]
  have e : ∀ (m : Nat) (hm : m < gM os), (os[(stl os.length (btD os))[m]'hm]'(st_get hm).1).1 = (os[gS os m]'(by have := g_lt hm; omega)).1 := fun m hm => by
    congr 2
    exact gS_get hm
  have a := e i (Nat.lt_trans h hj)
  have b := e j hj
  exact (a ▸ b ▸ this : _)
theorem g_cov {t : Nat} (ht : t < os.length) : ∃ j, j < gM os ∧ gS os j ≤ t ∧ t < gS os (j + 1) := by
  obtain ⟨j, hj, h1, h2⟩ := st_cov (n := os.length) (bt := btD os) (fun _ => rfl) t ht
  rw [gS_get hj] at h1
  exact ⟨j, hj, h1, h2⟩
theorem gN_mem {j : Nat} (h : j < gM os) {k : Int} : k ∈ gN os j ↔ (gC os j, k) ∈ os ∧ ∃ t, ∃ ht : t < os.length, gS os j ≤ t ∧ t < gS os (j + 1) ∧ os[t].2 = k := by
  have lt := g_lt h
  unfold gN
  rw [List.mem_map]
  constructor
  · rintro ⟨d, hd, rfl⟩
    obtain ⟨i, hi, e⟩ := List.mem_iff_getElem.mp hd
    rw [List.length_take, List.length_drop] at hi
    rw [List.getElem_take, List.getElem_drop] at e
    have ht : gS os j + i < os.length := by omega
    have ec := gC_same h (t := gS os j + i) (by omega) (by omega) ht
    refine ⟨?_, gS os j + i, ht, by omega, by omega, by rw [e]⟩
    rw [← ec, e]
    exact e ▸ List.getElem_mem ht
  · rintro ⟨_, t, ht, h1, h2, e⟩
    refine ⟨os[t], List.mem_iff_getElem.mpr ⟨t - gS os j, by rw [List.length_take, List.length_drop]; omega, ?_⟩, e⟩
    rw [List.getElem_take, List.getElem_drop]
    congr 1
    omega
theorem gN_len {j : Nat} (h : j < gM os) : (gN os j).length = gS os (j + 1) - gS os j := by
  have := g_lt h
  unfold gN
  rw [List.length_map, List.length_take, List.length_drop]
  omega
/-- a list without doubles is no longer than one that has its members -/
theorem nodup_le {a b : List Int} (h : a.Nodup) (m : ∀ k ∈ a, k ∈ b) : a.length ≤ b.length := by
  have e : a.length ≤ (dd b).length := by
    induction a generalizing b with
    | nil => exact Nat.zero_le _
    | cons x a ih =>
      rw [List.nodup_cons] at h
      have nb := dd_nodup b
      have hx : x ∈ dd b := dd_mem.mpr (m x List.mem_cons_self)
      have ih := ih (b := (dd b).erase x) h.2 fun k hk => (List.mem_erase_of_ne (a := k) (b := x) fun z : k = x => h.1 (z ▸ hk)).mpr (dd_mem.mpr (m k (List.mem_cons_of_mem _ hk)))
      have e1 := dd_len ((dd b).erase x)
      rw [List.length_erase_of_mem hx] at e1
      have e2 : 0 < (dd b).length := List.length_pos_of_mem hx
      rw [List.length_cons]
      omega
  exact Nat.le_trans e (dd_len b)
/-- the first i rows -/
structure GRow (os : List (Int × Int)) (ro : List RowA) (i : Nat) : Prop where
  len : ro.length = i
  at_ : ∀ j, j < i → ∃ r so, ro[j]? = some r ∧ r.1 = gC os j ∧ so.Pairwise (· < ·) ∧ (∀ k, k ∈ so ↔ k ∈ gN os j) ∧ r.2.2 = pk 0 so
  wt : wtR ro ≤ 2 * gS os i
theorem GRow.zero : GRow os [] 0 := ⟨rfl, fun j h => by omega, Nat.zero_le _⟩
theorem GRow.snoc {ro : List RowA} {i : Nat} {q : Addr} {so : List Int} (g : GRow os ro i) (hi : i < gM os) (asc : so.Pairwise (· < ·)) (mem : ∀ k, k ∈ so ↔ k ∈ gN os i) : GRow os (ro ++ [(gC os i, q, (pk 0 so).1, (pk 0 so).2)]) (i + 1) := by
  refine ⟨by rw [List.length_append, g.len]; rfl, fun j hj => ?_, ?_⟩
  · rcases Nat.lt_or_ge j i with z | z
    · obtain ⟨r, so, a, b⟩ := g.at_ j z
      exact ⟨r, so, by rw [List.getElem?_append_left (by rw [g.len]; exact z)]; exact a, b⟩
    · have e : j = i := by omega
      subst e
      refine ⟨(gC os j, q, (pk 0 so).1, (pk 0 so).2), so, ?_, rfl, asc, mem, rfl⟩
      rw [List.getElem?_append_right (by rw [g.len]; exact Nat.le_refl _), g.len, Nat.sub_self]
      rfl
  · have lt := g_lt hi
    have wt := g.wt
    have l1 : (pk 0 so).2.length ≤ so.length := by
      have := pk_len so (0, [])
      rw [List.length_nil, Nat.zero_add] at this
      exact this
    have l2 : so.length ≤ gS os (i + 1) - gS os i := by
      rw [← gN_len hi]
      exact nodup_le (asc.imp fun h => by omega) fun k hk => (mem k).mp hk
    have e : wtR (ro ++ [(gC os i, q, (pk 0 so).1, (pk 0 so).2)]) = wtR ro + (1 + (pk 0 so).2.length) := by
      unfold wtR
      rw [List.map_append, List.sum_append]
      simp
    rw [e]
    omega
theorem GRow.new {ro : List RowA} {i : Nat} (g : GRow os ro i) (hi : i < gM os) (srt : DSrt os) : ∀ r ∈ ro, r.1 ≠ gC os i := by
  intro r hr z
  obtain ⟨j, hj, e⟩ := List.mem_iff_getElem.mp hr
  obtain ⟨r', so, a, b, _⟩ := g.at_ j (by rw [← g.len]; exact hj)
  rw [List.getElem?_eq_getElem hj, e] at a
  obtain rfl := Option.some.inj a
  have := gC_asc srt (by rw [← g.len]; exact hj : j < i) hi
  omega
theorem GRow.nd {ro : List RowA} {i : Nat} (g : GRow os ro i) (hi : i ≤ gM os) (srt : DSrt os) : (ro.map (·.1)).Pairwise (· < ·) := by
  rw [List.pairwise_iff_getElem]
  intro a b ha hb ab
  rw [List.length_map] at ha hb
  rw [List.getElem_map, List.getElem_map]
  obtain ⟨r1, _, e1, c1, _⟩ := g.at_ a (by rw [← g.len]; exact ha)
  obtain ⟨r2, _, e2, c2, _⟩ := g.at_ b (by rw [← g.len]; exact hb)
  rw [List.getElem?_eq_getElem ha] at e1
  rw [List.getElem?_eq_getElem hb] at e2
  rw [Option.some.inj e1, Option.some.inj e2, c1, c2]
  exact gC_asc srt ab (by have := g.len; omega)
theorem GRow.done {ro : List RowA} (g : GRow os ro (gM os)) (srt : DSrt os) (pos : ∀ d ∈ os, 1 ≤ d.2) : RowsOk ro ∧ wtR ro ≤ 2 * os.length ∧ ∀ c k, 1 ≤ k → (HasR ro c k ↔ (c, k) ∈ os) := by
  have each : ∀ r ∈ ro, ∃ j so, j < gM os ∧ r.1 = gC os j ∧ so.Pairwise (· < ·) ∧ (∀ k, k ∈ so ↔ k ∈ gN os j) ∧ r.2.2 = pk 0 so := fun r hr => by
    obtain ⟨j, hj, e⟩ := List.mem_iff_getElem.mp hr
    obtain ⟨r', so, a, b⟩ := g.at_ j (by rw [← g.len]; exact hj)
    rw [List.getElem?_eq_getElem hj, e] at a
    obtain rfl := Option.some.inj a
    exact ⟨j, so, by rw [← g.len]; exact hj, b⟩
  have inp : ∀ {j : Nat} {so : List Int}, j < gM os → so.Pairwise (· < ·) → (∀ k, k ∈ so ↔ k ∈ gN os j) → ∀ k, 1 ≤ k → (InP (pk 0 so).1 (pk 0 so).2 k ↔ k ∈ gN os j) := fun {j so} hj asc mem k k1 => by
    rw [pk_in (Int.le_refl 0) asc k, mem k]
    exact ⟨fun z => z.elim (fun y => by omega) id, .inr⟩
  refine ⟨⟨(g.nd (Nat.le_refl _) srt).imp fun h => by omega, fun r hr => ?_, fun r hr => ?_⟩, by have := g.wt; rw [gS_end] at this; exact this, fun c k k1 => ⟨?_, fun hm => ?_⟩⟩
  · obtain ⟨j, so, hj, _, asc, mem, e⟩ := each r hr
    rw [show r.2.2.1 = (pk 0 so).1 from congrArg Prod.fst e, show r.2.2.2 = (pk 0 so).2 from congrArg Prod.snd e]
    exact pk_nf (Int.le_refl 0) asc
  · obtain ⟨j, so, hj, _, asc, mem, e⟩ := each r hr
    rw [show r.2.2.1 = (pk 0 so).1 from congrArg Prod.fst e, show r.2.2.2 = (pk 0 so).2 from congrArg Prod.snd e]
    have lt := g_lt hj
    have hin : os[gS os j].2 ∈ gN os j := by
      rw [gN_mem hj]
      refine ⟨?_, gS os j, by omega, Nat.le_refl _, lt.1, rfl⟩
      rw [gC_at hj]
      exact List.getElem_mem _
    have k1 := pos _ (List.getElem_mem (l := os) (show gS os j < os.length by omega))
    rcases (inp hj asc mem _ k1).mpr hin with z | z
    · exact .inl (by omega)
    · exact .inr fun y => by rw [y] at z; cases z
  · rintro ⟨r, hr, rfl, h⟩
    obtain ⟨j, so, hj, ec, asc, mem, e⟩ := each r hr
    rw [show r.2.2.1 = (pk 0 so).1 from congrArg Prod.fst e, show r.2.2.2 = (pk 0 so).2 from congrArg Prod.snd e] at h
    rw [ec]
    exact ((gN_mem hj).mp ((inp hj asc mem k k1).mp h)).1
  · obtain ⟨t, ht, e⟩ := List.mem_iff_getElem.mp hm
    obtain ⟨j, hj, h1, h2⟩ := g_cov ht
    obtain ⟨r, so, a, b, asc, mem, e2⟩ := g.at_ j hj
    refine ⟨r, List.mem_of_getElem? a, ?_, ?_⟩
    · rw [b, ← gC_same hj h1 h2 ht, e]
    · rw [show r.2.2.1 = (pk 0 so).1 from congrArg Prod.fst e2, show r.2.2.2 = (pk 0 so).2 from congrArg Prod.snd e2, inp hj asc mem k k1, gN_mem hj]
      have ec := gC_same hj h1 h2 ht
      rw [e] at ec
      refine ⟨?_, t, ht, h1, h2, by rw [e]⟩
      rw [← ec]
      exact hm
end
theorem valK_kvR {ro : List RowA} {c : Int} (h : ∀ r ∈ ro, r.1 ≠ c) : valV (kvR ro) (.inl c) = none := by
  unfold kvR
  induction ro with
  | nil => rfl
  | cons r ro ih =>
    rw [List.map_cons]
    unfold valV at ih ⊢
    rw [List.find?_cons]
    have n : decide ((Sum.inl r.1 : Key) = .inl c) = false := decide_eq_false fun z => h r List.mem_cons_self (Sum.inl.inj z)
    rw [n]
    exact ih fun r hr => h r (List.mem_cons_of_mem _ hr)
theorem put_kvR {ro : List RowA} {c : Int} {q : Addr} {u : Int} {l : List Int} (h : ∀ r ∈ ro, r.1 ≠ c) : putK (kvR ro) (.inl c) (.ref q) = kvR (ro ++ [(c, q, u, l)]) := by
  rw [putK_new _ (valK_kvR h)]
  unfold kvR
  rw [List.map_append]
  rfl
theorem starts_eq {n : Nat} {b : Nat → Bool} : (((List.range n).map fun i => (b i, V.int (i : Int))).filter (·.1)).map (·.2) = ((List.range n).filter b).map fun i : Nat => V.int (i : Int) := by
  rw [List.filter_map, List.map_map]
  rfl
theorem cutV_tail (xs : List V) : cutV xs (some 1) none = xs.drop 1 := by
  cases xs with
  | nil => rfl
  | cons x xs => exact cutV_from (n := 1) (by rw [List.length_cons]; omega)
theorem cutV_mid {xs : List V} {i j : Nat} (h : i ≤ j) (hj : j ≤ xs.length) : cutV xs (some (i : Int)) (some (j : Int)) = (xs.drop i).take (j - i) := by
  unfold cutV
  rw [HT.sIx_nat, HT.sIx_nat, Nat.min_eq_left (show i ≤ xs.length by omega), Nat.min_eq_left hj]
end RH
/-! a dict and a tuple are unlike -/
namespace RH
open PySem PySem.SeqAt
open AutoSeq1 (wpAny_loadPart')
open MeetsSeq MeetsSeq2 MeetsSeq3
theorem dict_ne_tuple (l b : Addr) (es : Array DictEntry) (items2 : Array Value) (n n2 : Nat) (dd dd2 : Option Addr) (sl sl2 : Array (Option Value)) :
    Meets (Builtin.«dict.__ne__» ⟨[.ref l, .ref b], []⟩) (fun _ R s => s.heap.get? l = some { cls := .type "dict", dict := dd, data := .dict es n, slots := sl } ∧ s.heap.get? b = some { cls := .type "tuple", dict := dd2, data := .seq items2 n2, slots := sl2 } ∧ R (.ok (.ret .notImplemented)) s) :=
  .of_wp fun prog w A R s h => by obtain ⟨hp, g, d, tk, os⟩ := s; obtain ⟨hl, hb, h⟩ := h; have f1 := F.sub_tuple_dict; wp_walk using wpAny_loadPart' hl, wpAny_loadPart' hb; exact ⟨_, rfl, h⟩
theorem tuple_ne_dict (l b : Addr) (items : Array Value) (es : Array DictEntry) (n n2 : Nat) (dd dd2 : Option Addr) (sl sl2 : Array (Option Value)) :
    Meets (Builtin.«tuple.__ne__» ⟨[.ref l, .ref b], []⟩) (fun _ R s => s.heap.get? l = some { cls := .type "tuple", dict := dd, data := .seq items n, slots := sl } ∧ s.heap.get? b = some { cls := .type "dict", dict := dd2, data := .dict es n2, slots := sl2 } ∧ R (.ok (.ret .notImplemented)) s) :=
  .of_wp fun prog w A R s h => by obtain ⟨hp, g, d, tk, os⟩ := s; obtain ⟨hl, hb, h⟩ := h; have f1 := F.sub_dict_tuple; wp_walk using wpAny_loadPart' hl, wpAny_loadPart' hb; exact ⟨_, rfl, h⟩
theorem ne_dict_tuple {prog : Program} {w : World} {A : Around} {E : Value → Shared → Prop} {s : Shared} {Q : Value → Shared → Prop} {l b : Addr} {cls2 : Value} {es : Array DictEntry} {items2 : Array Value} {n n2 : Nat} {dd dd2 : Option Addr} {sl sl2 : Array (Option Value)}
    (ho : s.heap.get? l = some { cls := .type "dict", dict := dd, data := .dict es n, slots := sl }) (ho2 : s.heap.get? b = some { cls := .type "tuple", dict := dd2, data := .seq items2 n2, slots := sl2 }) (hu : A.units < cLine) (h : Q (.bool true) s) :
    wpAny (model prog w) A (compareOp .NotEq (.ref l) (.ref b)) Q E s := by
  have hne : l ≠ b := fun z => by rw [z, ho2] at ho; exact absurd (congrArg Obj.cls (Option.some.inj ho)) (by simp)
  show wpAny _ A (richCompare .NotEq _ _) Q E s
  exact (rc_ne_decline_or (k := false) ⟨_, ho, rfl⟩ ⟨_, ho2, rfl⟩ (by decide) F.sub_tuple_dict F.slot_dict_ne F.slot_tuple_ne_refl
    (fun _ hq => call_meets F.slot_dict_ne ⟨_, ho, rfl⟩ F.entry_dict_ne (F.args_dict_ne_2 _ _) (dict_ne_tuple l b es items2 n n2 dd dd2 sl sl2) ⟨ho, ho2, hq⟩)
    (fun _ hq => call_meets F.slot_tuple_ne_refl ⟨_, ho2, rfl⟩ F.entry_tuple_ne (F.args_tuple_ne_2 _ _) (tuple_ne_dict b l items2 es n2 n dd2 dd sl2 sl) ⟨ho2, ho, hq⟩)
    (fun _ hq => wpAny_isSame_ref_other hne ho ho2 (by simp) hq) (.inr hu) h)
end RH
namespace RH
open PySem L2
/-- x != y: data, or a dict and a tuple -/
def rNeX (K : PySem.W.Frag) : R2 := fun x y H Q => rNeD K x y H Q ∨ ∃ a b kvs ys, x = .ref a ∧ y = .ref b ∧ H a = some (.dK kvs) ∧ H b = some (.tup ys) ∧ Q (.bl true) H
theorem op_neX {X : Cx} (hu : X.A.units + 64 < cLine) : OpR X (compareOp .NotEq) (rNeX X.K) := by
  intro pins s σ H x y v u Q I rx ry h
  rcases h with h | ⟨a, b, kvs, ys, rfl, rfl, ha, hb, q⟩
  · exact op_neD hu pins s σ H x y v u Q I rx ry h
  · obtain rfl : v = Value.ref a := rx
    obtain rfl : u = Value.ref b := ry
    obtain ⟨_, _, vs, _, hd⟩ := dk_of I.hok ha
    obtain ⟨⟨c1, dd1, da1, sl1⟩, es, ep, h1, h2, h3, _⟩ := hd
    obtain ⟨its, r, ⟨⟨c2, dd2, da2, sl2⟩, g1, g2, n2, g3⟩, _⟩ := I.tuple (SqT.of hb)
    simp only at g2 g3 h3
    subst g2 g3 h3
    obtain ⟨h2, _⟩ := h2
    simp only at h2
    subst h2
    exact ne_dict_tuple (cls2 := .none) h1 g1 (by omega) ⟨.bl true, H, I, rfl, q⟩
/-! ### text * n -/
section
open PySem.Spec PyProof.Rows
theorem mul_si {prog : Program} {w : World} {A : Around} {E : Value → Shared → Prop} {s : Shared} {x : Str} {t u : Tok} {Q : Value → Shared → Prop} {n : Int} (hok : MulOk x n) (h : ∀ t' k, Q (.str (Txt.mul x n) t') { s with toks := k }) : wpAny (model prog w) A (binaryOp .Mult (.str x t) (.int n u)) Q E s := by
  refine PySem.P.mul_str hok.1 hok.2.1 hok.2.2 ?_
  unfold Txt.mul at h
  by_cases h1 : n < 1
  · rw [if_pos h1]; have h' := h s.toks (s.toks + 1); rw [if_pos h1] at h'; exact ⟨by decide, h'⟩
  · rw [if_neg h1]; refine post_val_or_made (fun hc => fits_reps (hok.2.2 h1 (by simpa using hc))) fun t' k => ?_
    have h' := h t' k; rw [if_neg h1] at h'; exact h'
def rMulSI : R2 := fun x y H Q => ∃ (n : Int) (z : Str), x = .str z ∧ y = .int n ∧ MulOk z n ∧ Q (.str (Txt.mul z n)) H
theorem op_mulSI {X : Cx} : OpR X (binaryOp .Mult) rMulSI := by
  intro pins s σ H x y v u Q I rx ry h
  obtain ⟨n, z, rfl, rfl, ok, q⟩ := h
  obtain ⟨t, rfl⟩ := rx
  obtain ⟨t', rfl⟩ := ry
  exact mul_si ok fun t' tk => ⟨.str _, H, I.tok _, ⟨_, rfl⟩, q⟩
end
end RH
namespace RH
open PySem L2
/-! ### dicts that are written out, read and filled -/
def keyV : V → Key
  | .int i => .inl i
  | .str z => .inr z
  | _ => .inl 0
def kvsOf (ps : List (V × V)) : List (Key × V) := ps.map fun p => (keyV p.1, p.2)
theorem r_disp {trs : List (TE × TE)} {σ : L2.St} {H : Hp} {Q : VK} (h : ∀ p, H p = none → tPairs trs σ (upd H p (.dK [])) fun ps H2 => H2 p = some (.dK []) ∧ ∃ kvs : List (Key × V), ps = kvs.map (fun kv => (kV kv.1, kv.2)) ∧ kvs.length ≤ 15 ∧ Q (.ref p) (upd H2 p (.dK (mergeK [] kvs)))) : tDisp trs σ H Q := h
theorem r_pcons {tk tv : TE} {r : List (TE × TE)} {σ : L2.St} {H : Hp} {Q : List (V × V) → Hp → Prop} (h : tk σ H fun x H1 => tv σ H1 fun y H2 => tPairs r σ H2 fun ps H3 => Q ((x, y) :: ps) H3) : tPairs ((tk, tv) :: r) σ H Q := h
theorem r_pnil {σ : L2.St} {H : Hp} {Q : List (V × V) → Hp → Prop} (h : Q [] H) : tPairs [] σ H Q := h
theorem r_dend {H2 : Hp} {p : Addr} {ps : List (V × V)} {R : List (Key × V) → Prop} (h : H2 p = some (.dK [])) (e : ps = (kvsOf ps).map fun kv => (kV kv.1, kv.2)) (hl : Nat.ble (kvsOf ps).length 15 = true) (q : R (kvsOf ps)) : H2 p = some (.dK []) ∧ ∃ kvs : List (Key × V), ps = kvs.map (fun kv => (kV kv.1, kv.2)) ∧ kvs.length ≤ 15 ∧ R kvs :=
  ⟨h, _, e, Nat.le_of_ble_eq_true hl, q⟩
theorem r_dputK {H3 : Hp} {a : Addr} {kvs : List (Key × V)} {k : V} {v : V} {R : Hp → Prop} (e : H3 a = some (.dK kvs)) (ek : k = kV (keyV k)) (hl : Nat.ble kvs.length 1000 = true) (q : R (upd H3 a (.dK (putK kvs (keyV k) v)))) : ∃ a' H4, V.ref a = .ref a' ∧ DPut H3 a' k v H4 ∧ R H4 :=
  ⟨a, _, rfl, .inl ⟨kvs, keyV k, e, ek, small1000 (Nat.le_of_ble_eq_true hl), rfl⟩, q⟩
theorem r_dgetK {H2 : Hp} {a : Addr} {kvs : List (Key × V)} {k v : V} {R : V → Prop} (e : H2 a = some (.dK kvs)) (ek : k = kV (keyV k)) (g : valV kvs (keyV k) = some v) (q : R v) : ∃ a' v', V.ref a = .ref a' ∧ DGet H2 a' k (some v') ∧ R v' :=
  ⟨a, v, rfl, .inl ⟨kvs, keyV k, .inl e, ek, g.symm⟩, q⟩
theorem r_dget {td ty : TE} {σ : L2.St} {H : Hp} {Q : VK} (h : td σ H fun x H1 => ty σ H1 fun y H2 => ∃ a v, x = V.ref a ∧ DGet H2 a y (some v) ∧ Q v H2) : tDGet td ty σ H Q := h
theorem r_dputW {td ty tv : TE} {nx bk ct : L2.St → Hp → Prop} {rt : VK} {σ : L2.St} {H : Hp} (h : tv σ H fun v H1 => td σ H1 fun x H2 => ty σ H2 fun y H3 => ∃ a H4, x = V.ref a ∧ DPut H3 a y v H4 ∧ nx σ H4) : sDPut td ty tv ⟨nx, rt, bk, ct⟩ σ H := h
end RH
namespace RH
open PySem L2
/-- a dict with the texts zs for keys -/
def zipK (zs : List Str) (vs : List V) : List (Key × V) := (zs.zip vs).map fun p => (.inr p.1, p.2)
theorem zipK_cons (z : Str) (zs : List Str) (v : V) (vs : List V) : zipK (z :: zs) (v :: vs) = (.inr z, v) :: zipK zs vs := rfl
theorem zipK_val {z : Str} : ∀ {zs : List Str} {vs : List V}, zs.length = vs.length → valV (zipK zs vs) (.inr z) = vs[zs.idxOf z]?
  | [], [], _ => rfl
  | a :: zs, b :: vs, h => by
    have ih := zipK_val (z := z) (zs := zs) (vs := vs) (by simpa using h)
    rw [zipK_cons]
    unfold valV at ih ⊢
    rw [List.find?_cons]
    by_cases e : a = z
    · subst e
      rw [decide_eq_true rfl]
      simp
    · have e2 : ¬ (Sum.inr a : Key) = .inr z := fun y => e (Sum.inr.inj y)
      rw [decide_eq_false e2]
      rw [ih, List.idxOf_cons]
      rw [show (a == z) = false from beq_eq_false_iff_ne.mpr e]
      rfl
theorem zipK_put {z : Str} {zs : List Str} {vs : List V} {v : V} (h : zs.length = vs.length) (n : z ∉ zs) : putK (zipK zs vs) (.inr z) v = zipK (zs ++ [z]) (vs ++ [v]) := by
  have e : ((zipK zs vs).any fun kv => decide (kv.1 = (.inr z : Key))) = false := by
    refine Bool.eq_false_iff.mpr fun y => ?_
    obtain ⟨kv, hm, e⟩ := List.any_eq_true.mp y
    obtain ⟨p, hp, rfl⟩ := List.mem_map.mp hm
    have : p.1 = z := Sum.inr.inj (of_decide_eq_true e)
    exact n (this ▸ (List.of_mem_zip hp).1)
  unfold putK
  rw [e, if_neg (by decide)]
  unfold zipK
  rw [List.zip_append h, List.map_append]
  rfl
theorem zipK_merge {zs : List Str} {vs : List V} (h : zs.length = vs.length) (nd : zs.Nodup) : mergeK [] (zipK zs vs) = zipK zs vs := by
  have go : ∀ (zs : List Str) (vs : List V) (ys : List Str) (us : List V), zs.length = vs.length → ys.length = us.length → (ys ++ zs).Nodup → mergeK (zipK ys us) (zipK zs vs) = zipK (ys ++ zs) (us ++ vs) := by
    intro zs
    induction zs with
    | nil =>
      intro vs ys us h1 _ _
      cases vs with
      | nil => rw [List.append_nil, List.append_nil]; rfl
      | cons _ _ => cases h1
    | cons z zs ih =>
      intro vs ys us h1 h2 nd
      cases vs with
      | nil => cases h1
      | cons v vs =>
        rw [zipK_cons]
        show mergeK (putK (zipK ys us) (.inr z) v) (zipK zs vs) = _
        have hn : z ∉ ys := fun m => by
          have := (List.nodup_append.mp nd).2.2 z m z List.mem_cons_self
          exact this rfl
        rw [zipK_put h2 hn, ih vs (ys ++ [z]) (us ++ [v]) (by simpa using h1) (by simp [h2]) (by rw [List.append_assoc]; exact nd), List.append_assoc, List.append_assoc]
        rfl
  exact go zs vs [] [] h rfl nd
theorem r_dendZ {H2 : Hp} {p : Addr} {ps : List (V × V)} {Q : VK} (zs : List Str) (vs : List V) (h : H2 p = some (.dK [])) (e : ps = (zipK zs vs).map fun kv => (kV kv.1, kv.2)) (hl : zs.length = vs.length) (h15 : zs.length ≤ 15) (nd : zs.Nodup) (q : Q (.ref p) (upd H2 p (.dK (zipK zs vs)))) :
    H2 p = some (.dK []) ∧ ∃ kvs : List (Key × V), ps = kvs.map (fun kv => (kV kv.1, kv.2)) ∧ kvs.length ≤ 15 ∧ Q (.ref p) (upd H2 p (.dK (mergeK [] kvs))) :=
  ⟨h, zipK zs vs, e, by unfold zipK; rw [List.length_map, List.length_zip]; omega, by rw [zipK_merge hl nd]; exact q⟩
theorem r_dputZ {H3 : Hp} {a : Addr} {zs : List Str} {vs : List V} {z : Str} {v : V} {R : Hp → Prop} (e : H3 a = some (.dK (zipK zs vs))) (hl : zs.length = vs.length) (h9 : zs.length ≤ 900) (n : z ∉ zs) (q : R (upd H3 a (.dK (zipK (zs ++ [z]) (vs ++ [v]))))) : ∃ a' H4, V.ref a = .ref a' ∧ DPut H3 a' (.str z) v H4 ∧ R H4 :=
  ⟨a, _, rfl, .inl ⟨zipK zs vs, .inr z, e, rfl, small1000 (by unfold zipK; rw [List.length_map, List.length_zip]; omega), rfl⟩, by rw [zipK_put hl n]; exact q⟩
theorem r_dgetZ {H2 : Hp} {a : Addr} {zs : List Str} {vs : List V} {z : Str} {v : V} {R : V → Prop} (i : Nat) (e : H2 a = some (.dK (zipK zs vs))) (hl : zs.length = vs.length) (hi : zs.idxOf z = i) (g : vs[i]? = some v) (q : R v) : ∃ a' v', V.ref a = .ref a' ∧ DGet H2 a' (.str z) (some v') ∧ R v' :=
  ⟨a, v, rfl, .inl ⟨zipK zs vs, .inr z, .inl e, rfl, by rw [zipK_val hl, hi, g]⟩, q⟩
theorem r_dendR {H2 : Hp} {p : Addr} {ps : List (V × V)} {R : List (Key × V) → Prop} (zs : List Str) (vs : List V) (h : H2 p = some (.dK [])) (e : ps = (zipK zs vs).map fun kv => (kV kv.1, kv.2)) (hl : zs.length = vs.length) (h15 : zs.length ≤ 15) (q : R (zipK zs vs)) :
    H2 p = some (.dK []) ∧ ∃ kvs : List (Key × V), ps = kvs.map (fun kv => (kV kv.1, kv.2)) ∧ kvs.length ≤ 15 ∧ R kvs :=
  ⟨h, zipK zs vs, e, by unfold zipK; rw [List.length_map, List.length_zip]; omega, q⟩
end RH
namespace RH
open PySem L2
/-! ### the value of a clock: its rows by ascending client -/
abbrev RV := List (Int × Int × List Int)
def HasV (rows : RV) (c k : Int) : Prop := ∃ r ∈ rows, r.1 = c ∧ InP r.2.1 r.2.2 k
def wtV (rows : RV) : Nat := (rows.map fun r => 1 + r.2.2.length).sum
def szV (rows : RV) : Int := (rows.map fun r => r.2.1 + (r.2.2.length : Int)).sum
structure CanR (rows : RV) : Prop where
  asc : (rows.map (·.1)).Pairwise (· < ·)
  nf : ∀ r ∈ rows, NF r.2.1 r.2.2
  some : ∀ r ∈ rows, 0 < r.2.1 ∨ r.2.2 ≠ []
/-- the value of the clock with the dots S -/
def CanV (rows : RV) (S : Int → Int → Prop) : Prop := CanR rows ∧ ∀ c k, 1 ≤ k → (HasV rows c k ↔ S c k)
theorem row_has {u : Int} {l : List Int} (n : NF u l) (s : 0 < u ∨ l ≠ []) : ∃ k, 1 ≤ k ∧ InP u l k := by
  rcases s with z | z
  · exact ⟨u, by omega, .inl (Int.le_refl u)⟩
  · cases l with
    | nil => exact absurd rfl z
    | cons k l =>
      have := n.gap k List.mem_cons_self
      have := n.nn
      exact ⟨k, by omega, .inr List.mem_cons_self⟩
theorem CanR.tail {r : Int × Int × List Int} {rows : RV} (h : CanR (r :: rows)) : CanR rows ∧ ∀ q ∈ rows, r.1 < q.1 := by
  have a := h.asc
  rw [List.map_cons, List.pairwise_cons] at a
  exact ⟨⟨a.2, fun q m => h.nf q (List.mem_cons_of_mem _ m), fun q m => h.some q (List.mem_cons_of_mem _ m)⟩, fun q m => a.1 _ (List.mem_map.mpr ⟨q, m, rfl⟩)⟩
theorem hasV_cons {r : Int × Int × List Int} {rows : RV} {c k : Int} : HasV (r :: rows) c k ↔ (r.1 = c ∧ InP r.2.1 r.2.2 k) ∨ HasV rows c k := by
  unfold HasV
  constructor
  · rintro ⟨q, m, h⟩
    rcases List.mem_cons.mp m with rfl | m
    · exact .inl h
    · exact .inr ⟨q, m, h⟩
  · rintro (h | ⟨q, m, h⟩)
    · exact ⟨r, List.mem_cons_self, h⟩
    · exact ⟨q, List.mem_cons_of_mem _ m, h⟩
/-- the same dots: the same value -/
theorem can_one : ∀ {a b : RV}, CanR a → CanR b → (∀ c k, 1 ≤ k → (HasV a c k ↔ HasV b c k)) → a = b
  | [], [], _, _, _ => rfl
  | [], r :: b, _, hb, h => by
    obtain ⟨k, k1, hk⟩ := row_has (hb.nf r List.mem_cons_self) (hb.some r List.mem_cons_self)
    obtain ⟨q, m, _⟩ := (h r.1 k k1).mpr (hasV_cons.mpr (.inl ⟨rfl, hk⟩))
    cases m
  | r :: a, [], ha, _, h => by
    obtain ⟨k, k1, hk⟩ := row_has (ha.nf r List.mem_cons_self) (ha.some r List.mem_cons_self)
    obtain ⟨q, m, _⟩ := (h r.1 k k1).mp (hasV_cons.mpr (.inl ⟨rfl, hk⟩))
    cases m
  | r :: a, q :: b, ha, hb, h => by
    obtain ⟨ta, la⟩ := ha.tail
    obtain ⟨tb, lb⟩ := hb.tail
    have no : ∀ {rows : RV} {c c' k : Int}, (∀ q ∈ rows, c < q.1) → c' ≤ c → ¬ HasV rows c' k := fun l le ⟨q, m, e, _⟩ => by
      have := l q m
      omega
    have ec : r.1 = q.1 := by
      rcases Int.lt_trichotomy r.1 q.1 with z | z | z
      · obtain ⟨k, k1, hk⟩ := row_has (ha.nf r List.mem_cons_self) (ha.some r List.mem_cons_self)
        rcases hasV_cons.mp ((h r.1 k k1).mp (hasV_cons.mpr (.inl ⟨rfl, hk⟩))) with y | y
        · omega
        · exact absurd y (no lb (by omega))
      · exact z
      · obtain ⟨k, k1, hk⟩ := row_has (hb.nf q List.mem_cons_self) (hb.some q List.mem_cons_self)
        rcases hasV_cons.mp ((h q.1 k k1).mpr (hasV_cons.mpr (.inl ⟨rfl, hk⟩))) with y | y
        · omega
        · exact absurd y (no la (by omega))
    have e2 := nf_one (ha.nf r List.mem_cons_self) (hb.nf q List.mem_cons_self) fun k k1 => by
      have := h r.1 k k1
      rw [hasV_cons, hasV_cons] at this
      constructor
      · intro z
        rcases this.mp (.inl ⟨rfl, z⟩) with y | y
        · exact y.2
        · exact absurd y (no lb (by omega))
      · intro z
        rcases this.mpr (.inl ⟨ec.symm, z⟩) with y | y
        · exact y.2
        · exact absurd y (no la (Int.le_refl _))
    have er : r = q := Prod.ext ec (Prod.ext e2.1 e2.2)
    subst er
    rw [can_one ta tb fun c k k1 => ?_]
    have := h c k k1
    rw [hasV_cons, hasV_cons] at this
    constructor
    · intro z
      rcases this.mp (.inr z) with y | y
      · exact absurd z (no la (by omega))
      · exact y
    · intro z
      rcases this.mpr (.inr z) with y | y
      · exact absurd z (no lb (by omega))
      · exact y
theorem CanV.one {a b : RV} {S T : Int → Int → Prop} (ha : CanV a S) (hb : CanV b T) (h : ∀ c k, 1 ≤ k → (S c k ↔ T c k)) : a = b :=
  can_one ha.1 hb.1 fun c k k1 => by rw [ha.2 c k k1, hb.2 c k k1, h c k k1]
theorem CanV.iff {a b : RV} {S T : Int → Int → Prop} (ha : CanV a S) (hb : CanV b T) : a = b ↔ ∀ c k, 1 ≤ k → (S c k ↔ T c k) :=
  ⟨fun e c k k1 => by subst e; rw [← ha.2 c k k1, ← hb.2 c k k1], ha.one hb⟩
def rwD (r : Int × Int × List Int) : D := .tup [.int r.1, .int r.2.1, .tup (r.2.2.map D.int)]
def cvD (rows : RV) : D := .tup (rows.map rwD)
def rwP (r : Int × Int × List Int) : PyData := .tuple [.int r.1, .int r.2.1, .tuple (r.2.2.map PyData.int)]
def cvP (rows : RV) : PyData := .tuple (rows.map rwP)
/-- a row of a value -/
def RvAt (H : Hp) (x : V) (r : Int × Int × List Int) : Prop := ∃ t b, x = .ref t ∧ H t = some (.tup [.int r.1, .int r.2.1, .ref b]) ∧ H b = some (.tup (r.2.2.map V.int))
def ValAt (H : Hp) (v : V) (rows : RV) : Prop := ∃ p xs, v = .ref p ∧ H p = some (.tup xs) ∧ xs.length = rows.length ∧ ∀ (i : Nat) x r, xs[i]? = some x → rows[i]? = some r → RvAt H x r
theorem RvAt.mono {H H' : Hp} {x : V} {r : Int × Int × List Int} (h : RvAt H x r) (s : Same H H') : RvAt H' x r := by
  obtain ⟨t, b, rfl, h1, h2⟩ := h
  exact ⟨t, b, rfl, s _ _ h1, s _ _ h2⟩
theorem ValAt.mono {H H' : Hp} {v : V} {rows : RV} (h : ValAt H v rows) (s : Same H H') : ValAt H' v rows := by
  obtain ⟨p, xs, rfl, h1, h2, h3⟩ := h
  exact ⟨p, xs, rfl, s _ _ h1, h2, fun i x r a b => (h3 i x r a b).mono s⟩
theorem rep_ints {K : PySem.W.Frag} {CC : Addr → Prop} {H : Hp} {b : Addr} {l : List Int} (h : H b = some (.tup (l.map V.int))) (sz : l.length ≤ 1000) : Rep K CC H (.ref b) (.tup (l.map D.int)) :=
  .tup h (by rw [List.length_map, List.length_map]) (by rw [List.length_map]; exact sz) fun i x d h1 h2 => by
    rw [List.getElem?_map] at h1 h2
    cases z : l[i]? with
    | none => rw [z] at h1; cases h1
    | some n =>
      rw [z] at h1 h2
      cases h1
      cases h2
      exact .int n
theorem RvAt.rep {K : PySem.W.Frag} {CC : Addr → Prop} {H : Hp} {x : V} {r : Int × Int × List Int} (h : RvAt H x r) (sz : r.2.2.length ≤ 1000) : Rep K CC H x (rwD r) := by
  obtain ⟨t, b, rfl, h1, h2⟩ := h
  exact rep_tupA h1 (.cons (.int _) (.cons (.int _) (.cons (rep_ints h2 sz) .nil))) (leB rfl)
theorem wtV_le {rows : RV} {r : Int × Int × List Int} (m : r ∈ rows) : 1 + r.2.2.length ≤ wtV rows := by
  induction rows with
  | nil => cases m
  | cons q rows ih =>
    have e : wtV (q :: rows) = (1 + q.2.2.length) + wtV rows := by
      unfold wtV
      rw [List.map_cons, List.sum_cons]
    rw [e]
    rcases List.mem_cons.mp m with rfl | m
    · omega
    · have := ih m
      omega
theorem wtV_len (rows : RV) : rows.length ≤ wtV rows := by
  induction rows with
  | nil => exact Nat.zero_le _
  | cons q rows ih =>
    have e : wtV (q :: rows) = (1 + q.2.2.length) + wtV rows := by
      unfold wtV
      rw [List.map_cons, List.sum_cons]
    rw [e, List.length_cons]
    omega
theorem ValAt.rep {K : PySem.W.Frag} {CC : Addr → Prop} {H : Hp} {v : V} {rows : RV} (h : ValAt H v rows) (sz : wtV rows ≤ 1000) : Rep K CC H v (cvD rows) := by
  obtain ⟨p, xs, rfl, h1, h2, h3⟩ := h
  refine .tup h1 (by rw [List.length_map]; exact h2) (by have := wtV_len rows; omega) fun i x d a b => ?_
  rw [List.getElem?_map] at b
  cases z : rows[i]? with
  | none => rw [z] at b; cases b
  | some r =>
    rw [z] at b
    cases b
    have := wtV_le (List.mem_of_getElem? z)
    exact (h3 i x r a z).rep (by omega)
/-! ### values as data that == looks at -/
theorem dpAll_ints {K : PySem.W.Frag} {H : Hp} (l : List Int) : DpAll K H (l.map V.int) (l.map PyData.int) := by
  induction l with
  | nil => exact .nil
  | cons n l ih => exact .cons (.int n) ih
theorem lay_ints (l : List Int) : PyData.canLayAll0 (l.map PyData.int) = true ∧ PyData.depthAll (l.map PyData.int) = 0 := by
  induction l with
  | nil => exact ⟨rfl, rfl⟩
  | cons n l ih => exact ⟨by simp [PyData.canLayAll0, PyData.canLay0, ih.1], by simp [PyData.depthAll, PyData.depth, ih.2]⟩
theorem eqv_ints : ∀ a b : List Int, PyData.eqvAll (a.map PyData.int) (b.map PyData.int) = decide (a = b)
  | [], [] => by simp [PyData.eqvAll]
  | [], q :: qs => by simp [PyData.eqvAll]
  | p :: ps, [] => by simp [PyData.eqvAll]
  | p :: ps, q :: qs => by
    have e : PyData.eqvAll ((p :: ps).map PyData.int) ((q :: qs).map PyData.int) = ((p == q) && PyData.eqvAll (ps.map PyData.int) (qs.map PyData.int)) := by simp [PyData.eqvAll, PyData.eqv]
    rw [e, eqv_ints ps qs]
    by_cases h1 : p = q
    · by_cases h2 : ps = qs
      · subst h1 h2
        simp
      · rw [decide_eq_false h2, Bool.and_false, decide_eq_false (fun z => h2 (List.cons.inj z).2)]
    · rw [show (p == q) = false from beq_eq_false_iff_ne.mpr h1, Bool.false_and, decide_eq_false (fun z => h1 (List.cons.inj z).1)]
theorem eqv_rv (r q : Int × Int × List Int) : PyData.eqv (rwP r) (rwP q) = decide (r = q) := by
  have e : PyData.eqv (rwP r) (rwP q) = ((r.1 == q.1) && ((r.2.1 == q.2.1) && (PyData.eqvAll (r.2.2.map PyData.int) (q.2.2.map PyData.int) && true))) := by simp [rwP, PyData.eqvAll, PyData.eqv]
  rw [e, eqv_ints]
  obtain ⟨a, b, c⟩ := r
  obtain ⟨a', b', c'⟩ := q
  by_cases h1 : a = a'
  · by_cases h2 : b = b'
    · by_cases h3 : c = c'
      · subst h1 h2 h3
        simp
      · simp [h1, h2, h3]
    · simp [h1, h2]
  · simp [h1]
theorem eqv_val : ∀ a b : RV, PyData.eqvAll (a.map rwP) (b.map rwP) = decide (a = b)
  | [], [] => by simp [PyData.eqvAll]
  | [], q :: qs => by simp [PyData.eqvAll]
  | p :: ps, [] => by simp [PyData.eqvAll]
  | p :: ps, q :: qs => by
    have e : PyData.eqvAll ((p :: ps).map rwP) ((q :: qs).map rwP) = (PyData.eqv (rwP p) (rwP q) && PyData.eqvAll (ps.map rwP) (qs.map rwP)) := by simp [PyData.eqvAll]
    rw [e, eqv_rv, eqv_val ps qs]
    by_cases h1 : p = q
    · by_cases h2 : ps = qs
      · subst h1 h2
        simp
      · rw [decide_eq_false h2, Bool.and_false, decide_eq_false (fun z => h2 (List.cons.inj z).2)]
    · rw [decide_eq_false h1, Bool.false_and, decide_eq_false (fun z => h1 (List.cons.inj z).1)]
theorem lay_rvs (rows : RV) : PyData.canLayAll0 (rows.map rwP) = true ∧ PyData.depthAll (rows.map rwP) ≤ 2 := by
  induction rows with
  | nil => exact ⟨rfl, by simp [PyData.depthAll]⟩
  | cons r rows ih =>
    have l := lay_ints r.2.2
    refine ⟨by simp [PyData.canLayAll0, PyData.canLay0, rwP, ih.1, l.1], ?_⟩
    have e : PyData.depthAll ((r :: rows).map rwP) = max (PyData.depth (rwP r)) (PyData.depthAll (rows.map rwP)) := by simp [PyData.depthAll]
    have e2 : PyData.depth (rwP r) ≤ 2 := by simp [rwP, PyData.depth, PyData.depthAll, l.2]
    have := ih.2
    omega
theorem val_shaped (rows : RV) : SeqAt.shaped (cvP rows) = true := by
  have l := lay_rvs rows
  refine shaped_of (by simp [cvP, PyData.canLay0, l.1]) ?_
  have := l.2
  simp only [cvP, PyData.depth]
  omega
theorem RvAt.dp {K : PySem.W.Frag} {H : Hp} {x : V} {r : Int × Int × List Int} (h : RvAt H x r) : Dp K H x (rwP r) := by
  obtain ⟨t, b, rfl, h1, h2⟩ := h
  exact .tup (SqT.of h1) (.cons (.int _) (.cons (.int _) (.cons (.tup (SqT.of h2) (dpAll_ints _)) .nil)))
theorem ValAt.dp {K : PySem.W.Frag} {H : Hp} {v : V} {rows : RV} (h : ValAt H v rows) : Dp K H v (cvP rows) := by
  obtain ⟨p, xs, rfl, h1, h2, h3⟩ := h
  refine .tup (SqT.of h1) ?_
  clear h1
  induction rows generalizing xs with
  | nil =>
    rw [List.length_nil] at h2
    rw [List.eq_nil_of_length_eq_zero h2]
    exact .nil
  | cons r rows ih =>
    cases xs with
    | nil => cases h2
    | cons x xs => exact .cons (h3 0 x r rfl rfl).dp (ih xs (by simpa using h2) fun i y q a b => h3 (i + 1) y q a b)
theorem r_eqVal {K : PySem.W.Frag} {H : Hp} {Q : VK} {v u : V} {a b : RV} (h1 : ValAt H v a) (h2 : ValAt H u b) (q : Q (.bl (decide (a = b))) H) : rEqD K v u H Q := by
  refine ⟨_, _, h1.dp, h2.dp, val_shaped a, val_shaped b, ?_⟩
  have e : PyData.eqv (cvP a) (cvP b) = decide (a = b) := by
    simp only [cvP, PyData.eqv]
    exact eqv_val a b
  rw [e]
  exact q
/-! ### what clocks promise -/
structure NoDots (K : PySem.W.Frag) (mg : Str → Option Value) : Prop where
  ex : ∃ p q, mg "NO_DOTS" = some (.ref p) ∧ (∀ H, SqT K H p [.int 0, .ref q]) ∧ ∀ H, SqT K H q []
abbrev DotS := Int → Int → Prop
def inL (ps : List (Int × Int)) : DotS := fun c k => (c, k) ∈ ps
def orS (S T : DotS) : DotS := fun c k => S c k ∨ T c k
def oneS (c k : Int) : DotS := fun c' k' => c' = c ∧ k' = k
/-- the greatest number of a client, or 0 -/
def TopS (S : DotS) (c g : Int) : Prop := 0 ≤ g ∧ (g = 0 ∨ S c g) ∧ ∀ k, 1 ≤ k → S c k → k ≤ g
def spClkI (C : Addr) : Sp := fun vs H Q _ => ∃ (x dx p : Addr) (xs : List V) (ps : List (Int × Int)), vs = [.ref x, .ref p] ∧ H x = some (.ins C dx []) ∧ H p = some (.lst xs) ∧ PtsAt H xs ps ∧ xs.length ≤ 450 ∧ (∀ q ∈ ps, 1 ≤ q.2) ∧
  ∀ H', (∀ b o, b ≠ x → H b = some o → H' b = some o) → ClkS C (2 * ps.length) H' x (inL ps) → Q .non H'
def spClkIn (C : Addr) : Sp := fun vs H Q _ => ∃ (x t : Addr) (c k : Int) (N : Nat) (S : DotS), vs = [.ref x, .ref t] ∧ ClkS C N H x S ∧ H t = some (.tup [.int c, .int k]) ∧ 1 ≤ k ∧ N ≤ 1000 ∧
  ∀ b H', Same H H' → (b = true ↔ S c k) → Q (.bl b) H'
def spClkOr (C : Addr) : Sp := fun vs H Q _ => ∃ (x y : Addr) (N M : Nat) (S T : DotS), vs = [.ref x, .ref y] ∧ ClkS C N H x S ∧ ClkS C M H y T ∧ N + M ≤ 1000 ∧
  ∀ z H', Same H H' → H z = none → ClkS C (N + M) H' z (orS S T) → Q (.ref z) H'
def spClkWith (C : Addr) : Sp := fun vs H Q _ => ∃ (x t : Addr) (c k : Int) (N : Nat) (S : DotS), vs = [.ref x, .ref t] ∧ ClkS C N H x S ∧ H t = some (.tup [.int c, .int k]) ∧ 1 ≤ k ∧ N + 2 ≤ 1000 ∧
  ∀ z H', Same H H' → H z = none → ClkS C (N + 2) H' z (orS S (oneS c k)) → Q (.ref z) H'
def spClkSize (C : Addr) : Sp := fun vs H Q _ => ∃ (x : Addr) (N : Nat) (S : DotS), vs = [.ref x] ∧ ClkS C N H x S ∧ N ≤ 1000 ∧ ∀ rows H', Same H H' → CanV rows S → Q (.int (szV rows)) H'
def spClkNext (C : Addr) : Sp := fun vs H Q _ => ∃ (x : Addr) (c : Int) (N : Nat) (S : DotS), vs = [.ref x, .int c] ∧ ClkS C N H x S ∧ N ≤ 1000 ∧ ∀ g t H', Same H H' → H t = none → TopS S c g → H' t = some (.tup [.int c, .int (g + 1)]) → Q (.ref t) H'
def spClkVal (C : Addr) : Sp := fun vs H Q _ => ∃ (x : Addr) (N : Nat) (S : DotS), vs = [.ref x] ∧ ClkS C N H x S ∧ N ≤ 1000 ∧ ∀ v rows H', Same H H' → CanV rows S → wtV rows ≤ N → ValAt H' (.ref v) rows → Q (.ref v) H'
def spClkCov (C : Addr) : Sp := fun vs H Q _ => ∃ (x y : Addr) (N M : Nat) (S T : DotS), vs = [.ref x, .ref y] ∧ ClkS C N H x S ∧ ClkS C M H y T ∧ N + M ≤ 1000 ∧
  ∀ b H', Same H H' → (b = true ↔ ∀ c k, 1 ≤ k → T c k → S c k) → Q (.bl b) H'
end RH
namespace RH
open PySem L2
/-! ### a row put into the rows -/
def setR (ro : List RowA) (c : Int) (q : Addr) (u : Int) (l : List Int) : List RowA := if (ro.any fun r => decide (r.1 = c)) = true then ro.map fun r => if r.1 = c then (c, q, u, l) else r else ro ++ [(c, q, u, l)]
section
variable {ro : List RowA} {c : Int} {q : Addr} {u : Int} {l : List Int}
theorem any_kvR : ((kvR ro).any fun kv => decide (kv.1 = (Sum.inl c : Key))) = ro.any fun r => decide (r.1 = c) := by
  unfold kvR
  rw [List.any_map]
  congr 1
  funext r
  show decide ((Sum.inl r.1 : Key) = Sum.inl c) = decide (r.1 = c)
  by_cases z : r.1 = c
  · rw [decide_eq_true z, decide_eq_true (congrArg Sum.inl z)]
  · rw [decide_eq_false z, decide_eq_false fun y => z (Sum.inl.inj y)]
theorem put_setR : putK (kvR ro) (.inl c) (.ref q) = kvR (setR ro c q u l) := by
  unfold putK setR
  rw [any_kvR]
  by_cases z : (ro.any fun r => decide (r.1 = c)) = true
  · rw [if_pos z, if_pos z]
    unfold kvR
    rw [List.map_map, List.map_map]
    refine List.map_congr_left fun r _ => ?_
    show (if (Sum.inl r.1 : Key) = Sum.inl c then ((Sum.inl r.1 : Key), V.ref q) else (Sum.inl r.1, V.ref r.2.1)) = _
    by_cases y : r.1 = c
    · rw [if_pos (congrArg Sum.inl y)]
      simp [y]
    · rw [if_neg fun z => y (Sum.inl.inj z)]
      simp [y]
  · rw [if_neg z, if_neg z]
    unfold kvR
    rw [List.map_append]
    rfl
theorem any_no (h : ¬ (ro.any fun r => decide (r.1 = c)) = true) : ∀ r ∈ ro, r.1 ≠ c := fun r m z => h (List.any_eq_true.mpr ⟨r, m, decide_eq_true z⟩)
theorem mem_setR {r : RowA} : r ∈ setR ro c q u l ↔ r = (c, q, u, l) ∨ (r ∈ ro ∧ r.1 ≠ c) := by
  unfold setR
  by_cases z : (ro.any fun r => decide (r.1 = c)) = true
  · rw [if_pos z, List.mem_map]
    constructor
    · rintro ⟨p, m, rfl⟩
      by_cases y : p.1 = c
      · rw [if_pos y]
        exact .inl rfl
      · rw [if_neg y]
        exact .inr ⟨m, y⟩
    · rintro (rfl | ⟨m, y⟩)
      · obtain ⟨p, m, e⟩ := List.any_eq_true.mp z
        exact ⟨p, m, if_pos (of_decide_eq_true e)⟩
      · exact ⟨r, m, if_neg y⟩
  · rw [if_neg z, List.mem_append, List.mem_singleton]
    constructor
    · rintro (m | rfl)
      · exact .inr ⟨m, any_no z r m⟩
      · exact .inl rfl
    · rintro (rfl | ⟨m, _⟩)
      · exact .inr rfl
      · exact .inl m
theorem nd_setR (nd : (ro.map (·.1)).Nodup) : ((setR ro c q u l).map (·.1)).Nodup := by
  unfold setR
  by_cases z : (ro.any fun r => decide (r.1 = c)) = true
  · rw [if_pos z, List.map_map]
    have e : ro.map ((fun x : RowA => x.1) ∘ fun r => if r.1 = c then (c, q, u, l) else r) = ro.map (·.1) := List.map_congr_left fun r _ => by
      show (if r.1 = c then ((c, q, u, l) : RowA) else r).1 = r.1
      by_cases y : r.1 = c
      · rw [if_pos y]
        exact y.symm
      · rw [if_neg y]
    rw [e]
    exact nd
  · rw [if_neg z, List.map_append]
    refine List.nodup_append.mpr ⟨nd, by simp, fun a ha b hb e => ?_⟩
    obtain ⟨r, m, rfl⟩ := List.mem_map.mp ha
    obtain rfl := List.mem_singleton.mp hb
    exact any_no z r m e
theorem wtR_cons (r : RowA) (ro : List RowA) : wtR (r :: ro) = (1 + r.2.2.2.length) + wtR ro := by
  unfold wtR
  rw [List.map_cons, List.sum_cons]
theorem wtR_app (a b : List RowA) : wtR (a ++ b) = wtR a + wtR b := by
  unfold wtR
  rw [List.map_append, List.sum_append]
theorem wtR_le {r : RowA} (m : r ∈ ro) : 1 + r.2.2.2.length ≤ wtR ro := by
  induction ro with
  | nil => cases m
  | cons p ro ih =>
    rw [wtR_cons]
    rcases List.mem_cons.mp m with rfl | m
    · omega
    · have := ih m
      omega
theorem wtR_len (ro : List RowA) : ro.length ≤ wtR ro := by
  induction ro with
  | nil => exact Nat.zero_le _
  | cons p ro ih =>
    rw [wtR_cons, List.length_cons]
    omega
theorem wtR_map : ∀ {ro : List RowA}, (ro.map (·.1)).Nodup → ∀ {r : RowA}, r ∈ ro → r.1 = c → wtR (ro.map fun r => if r.1 = c then (c, q, u, l) else r) + (1 + r.2.2.2.length) = wtR ro + (1 + l.length)
  | p :: ro, nd, r, m, e => by
    rw [List.map_cons, List.nodup_cons] at nd
    rw [List.map_cons, wtR_cons, wtR_cons]
    rcases List.mem_cons.mp m with rfl | m
    · rw [if_pos e]
      have same : ro.map (fun r => if r.1 = c then ((c, q, u, l) : RowA) else r) = ro := by
        refine (List.map_congr_left fun p' hp => ?_).trans (List.map_id ro)
        rw [if_neg fun z => nd.1 (List.mem_map.mpr ⟨p', hp, z.trans e.symm⟩)]
        rfl
      rw [same]
      show (1 + l.length + wtR ro) + _ = _
      omega
    · have n : p.1 ≠ c := fun z => nd.1 (List.mem_map.mpr ⟨r, m, e.trans z.symm⟩)
      rw [if_neg n]
      have := wtR_map nd.2 m e
      omega
theorem hasR_set {c' k : Int} : HasR (setR ro c q u l) c' k ↔ (c' = c ∧ InP u l k) ∨ (c' ≠ c ∧ HasR ro c' k) := by
  unfold HasR
  constructor
  · rintro ⟨r, m, e, h⟩
    rcases mem_setR.mp m with rfl | ⟨m, n⟩
    · exact .inl ⟨e.symm, h⟩
    · exact .inr ⟨fun z => n (e.trans z), r, m, e, h⟩
  · rintro (⟨rfl, h⟩ | ⟨n, r, m, e, h⟩)
    · exact ⟨_, mem_setR.mpr (.inl rfl), rfl, h⟩
    · exact ⟨r, mem_setR.mpr (.inr ⟨m, fun z => n (e.symm.trans z)⟩), e, h⟩
theorem RowsOk.set (ok : RowsOk ro) (nf : NF u l) (sm : 0 < u ∨ l ≠ []) : RowsOk (setR ro c q u l) := by
  refine ⟨nd_setR ok.nd, fun r m => ?_, fun r m => ?_⟩
  · rcases mem_setR.mp m with rfl | ⟨m, _⟩
    · exact nf
    · exact ok.nf r m
  · rcases mem_setR.mp m with rfl | ⟨m, _⟩
    · exact sm
    · exact ok.some r m
end
theorem val_kvR {ro : List RowA} (nd : (ro.map (·.1)).Nodup) {r : RowA} (m : r ∈ ro) : valV (kvR ro) (.inl r.1) = some (.ref r.2.1) := by
  induction ro with
  | nil => cases m
  | cons p ro ih =>
    rw [List.map_cons, List.nodup_cons] at nd
    rcases List.mem_cons.mp m with rfl | m
    · exact valV_pos rfl
    · exact (valV_neg (p := (Sum.inl p.1, V.ref p.2.1)) fun y => nd.1 (List.mem_map.mpr ⟨r, m, (Sum.inl.inj y).symm⟩)).trans (ih nd.2 m)
theorem wtR_take (ro : List RowA) (i : Nat) : wtR (ro.take i) ≤ wtR ro := by
  have e := wtR_app (ro.take i) (ro.drop i)
  rw [List.take_append_drop] at e
  omega
theorem some_of_in {u : Int} {l : List Int} (h : ∃ k, 1 ≤ k ∧ InP u l k) : 0 < u ∨ l ≠ [] := by
  obtain ⟨k, k1, z | z⟩ := h
  · exact .inl (by omega)
  · exact .inr fun y => by rw [y] at z; cases z
/-- the heap without the rows at r and e -/
def W2 (H : Hp) (r e : Addr) : Hp := wo (wo H r) e
section
variable {H H' : Hp} {r e b : Addr} {o : HO}
theorem w2_of (h : H b = some o) (n : b ≠ r) (m : b ≠ e) : W2 H r e b = some o := by
  unfold W2
  rw [wo_ne m, wo_ne n]
  exact h
theorem w2_in : Same (W2 H r e) H := fun b o h => same_wo H r b o (same_wo (wo H r) e b o h)
theorem w2_ne (h : W2 H r e b = some o) : b ≠ r ∧ b ≠ e := by
  have h1 := wo_some (show wo (wo H r) e b = some o from h)
  exact ⟨(wo_some h1.1).2, h1.2⟩
theorem w2_mono (h : ∀ b o, b ≠ r → b ≠ e → H b = some o → H' b = some o) : Same (W2 H r e) (W2 H' r e) := fun b o z => by
  obtain ⟨n, m⟩ := w2_ne z
  exact w2_of (h b o n m (w2_in b o z)) n m
end
/-- a client's pair in the rows, or none: what stands there -/
theorem row_get {K : PySem.W.Frag} {H : Hp} {d nD nE : Addr} {ro : List RowA} (hd : Rd H d (.dK (kvR ro))) (ra : ∀ r ∈ ro, RowH H r.2.1 r.2.2.1 r.2.2.2) (ok : RowsOk ro) (hD : SqT K H nD [.int 0, .ref nE]) (hE : SqT K H nE []) (c : Int) :
    ∃ o v u l, DGet H d (.int c) o ∧ o.getD (.ref nD) = v ∧ RowAt K H v u l ∧ NF u l ∧ (∀ k, 1 ≤ k → (InP u l k ↔ HasR ro c k)) ∧ l.length ≤ wtR ro ∧ ∀ q u' l', wtR (setR ro c q u' l') + l.length ≤ wtR ro + 1 + l'.length := by
  by_cases z : (ro.any fun r => decide (r.1 = c)) = true
  · obtain ⟨r, m, e⟩ := List.any_eq_true.mp z
    have e := of_decide_eq_true e
    have gv : ∀ {rr : List RowA}, (rr.map (·.1)).Nodup → r ∈ rr → valV (kvR rr) (.inl c) = some (.ref r.2.1) := by
      intro rr
      induction rr with
      | nil => exact fun _ m => nomatch m
      | cons p rr ih =>
        intro nd m
        rw [List.map_cons, List.nodup_cons] at nd
        rcases List.mem_cons.mp m with rfl | m
        · exact valV_pos (congrArg Sum.inl e)
        · exact (valV_neg (p := (Sum.inl p.1, V.ref p.2.1)) fun y => nd.1 (List.mem_map.mpr ⟨r, m, e.trans (Sum.inl.inj y).symm⟩)).trans (ih nd.2 m)
    have uq : ∀ r' ∈ ro, r'.1 = c → r' = r := fun r' m' e' => inj_on ok.nd m' m (e'.trans e.symm)
    refine ⟨some (.ref r.2.1), _, r.2.2.1, r.2.2.2, .inl ⟨kvR ro, .inl c, hd, rfl, (gv ok.nd m).symm⟩, rfl, (ra r m).at_, ok.nf r m, fun k k1 => ?_, by have := wtR_le m; omega, fun q u' l' => ?_⟩
    · constructor
      · exact fun h => ⟨r, m, e, h⟩
      · rintro ⟨r', m', e', h⟩
        rw [uq r' m' e'] at h
        exact h
    · unfold setR
      rw [if_pos z]
      have := wtR_map (q := q) (u := u') (l := l') ok.nd m e
      omega
  · have no := any_no z
    refine ⟨none, _, 0, [], .inl ⟨kvR ro, .inl c, hd, rfl, (valK_kvR no).symm⟩, rfl, ⟨nD, nE, rfl, hD, hE⟩, ⟨Int.le_refl 0, .nil, fun _ m => nomatch m⟩, fun k k1 => ?_, Nat.zero_le _, fun q u' l' => ?_⟩
    · constructor
      · rintro (h | h)
        · omega
        · cases h
      · rintro ⟨r, m, e, _⟩
        exact absurd e (no r m)
    · unfold setR
      rw [if_neg z, wtR_app, wtR_cons]
      show wtR ro + (1 + l'.length + wtR []) + 0 ≤ _
      have : wtR [] = 0 := rfl
      omega
theorem wtR_take_succ {ro : List RowA} {i : Nat} {r : RowA} (h : ro[i]? = some r) : wtR (ro.take (i + 1)) = wtR (ro.take i) + (1 + r.2.2.2.length) := by
  rw [List.take_add_one, h, wtR_app]
  show wtR (ro.take i) + wtR [r] = _
  rw [wtR_cons]
  rfl
theorem hasR_take_succ {ro : List RowA} {i : Nat} {r : RowA} (h : ro[i]? = some r) {c k : Int} : HasR (ro.take (i + 1)) c k ↔ HasR (ro.take i) c k ∨ (r.1 = c ∧ InP r.2.2.1 r.2.2.2 k) := by
  rw [List.take_add_one, h]
  unfold HasR
  constructor
  · rintro ⟨p, m, e⟩
    rcases List.mem_append.mp m with m | m
    · exact .inl ⟨p, m, e⟩
    · obtain rfl := List.mem_singleton.mp m
      exact .inr e
  · rintro (⟨p, m, e⟩ | e)
    · exact ⟨p, List.mem_append_left _ m, e⟩
    · exact ⟨r, List.mem_append_right _ (List.mem_singleton.mpr rfl), e⟩
/-- the union of two pairs: its form, its numbers, how many -/
theorem join_row {u v : Int} {l m so : List Int} (a : NF u l) (b : NF v m) (hp : so.Pairwise (· < ·)) (hs : ∀ k, k ∈ so ↔ k ∈ l ++ m) : NF (pk (max u v) so).1 (pk (max u v) so).2 ∧ (pk (max u v) so).2.length ≤ l.length + m.length ∧
    ∀ k, InP (pk (max u v) so).1 (pk (max u v) so).2 k ↔ InP u l k ∨ InP v m k := by
  have h1 := a.nn
  refine ⟨pk_nf (by omega) hp, ?_, fun k => join_in h1 hp hs k⟩
  have e := pk_len so (max u v, [])
  rw [List.length_nil, Nat.zero_add] at e
  have e2 : so.length ≤ (l ++ m).length := nodup_le (hp.imp fun h => by omega) fun k hk => (hs k).mp hk
  rw [List.length_append] at e2
  exact Nat.le_trans e e2
/-- C(list of dots) -/
theorem clk_new {C : Addr} {H : Hp} {Q : Addr → Hp → Prop} {E : XK} {p : Addr} {xs : List V} {ps : List (Int × Int)} (hp : H p = some (.lst xs)) (hP : PtsAt H xs ps) (hl : xs.length ≤ 450) (pos : ∀ q ∈ ps, 1 ≤ q.2)
    (k : ∀ z H', Same H H' → H z = none → ClkS C (2 * ps.length) H' z (inL ps) → Q z H') : ∀ x dx, H x = none → H dx = none → dx ≠ x → spClkI C (.ref x :: ([.ref p] ++ [])) (upd (upd H dx (.own x)) x (.ins C dx [])) (fun v H2 => v = .non ∧ Q x H2) E := by
  intro x dx hx hd n
  have s1 : Same H (upd (upd H dx (.own x)) x (.ins C dx [])) := (same_new hd).trans (same_new (by rw [upd_ne n.symm]; exact hx))
  refine ⟨x, dx, p, xs, ps, rfl, upd_same, s1 _ _ hp, hP.mono s1, hl, pos, fun H' f c => ⟨rfl, k x H' (fun b o e => f b o (ne_of_none e hx) (s1 _ _ e)) hx c⟩⟩
theorem r_dget2 {td ty tx : TE} {σ : L2.St} {H : Hp} {Q : VK} (h : td σ H fun x H1 => ∃ a, x = V.ref a ∧ IsD H1 a ∧ ty σ H1 fun y H2 => tx σ H2 fun z H3 => ∃ o, DGet H3 a y o ∧ Q (o.getD z) H3) : tDGet2 td ty tx σ H Q := h
theorem isD_rd {H : Hp} {d : Addr} {kvs : List (Key × V)} (h : Rd H d (.dK kvs)) : IsD H d := .inl ⟨kvs, h⟩
end RH
namespace RH
open PySem L2
theorem r_keys {td : TE} {σ : L2.St} {H : Hp} {R : It → Hp → Prop} (h : td σ H fun x H1 => ∃ d o, x = V.ref d ∧ ((∃ kvs, H1 d = some (.frz o (.dK kvs)) ∧ R (Itk d o kvs) H1) ∨ ∃ kvs, H1 d = some (.frz o (.dT kvs)) ∧ R (Itkt d o kvs) H1)) : iKeys td σ H R := h
theorem r_vals {td : TE} {σ : L2.St} {H : Hp} {R : It → Hp → Prop} (h : td σ H fun x H1 => ∃ d o kvs, x = V.ref d ∧ H1 d = some (.frz o (.dK kvs)) ∧ R (Itd d o kvs) H1) : iVals td σ H R := h
end RH
namespace RH
open PySem L2
theorem putF_rows (v u : V) : putF "_rows" v [(("_rows" : Str), u)] = [(("_rows" : Str), v)] := by
  unfold putF
  simp
end RH
namespace RH
open PySem L2
theorem ClkS.congr {C : Addr} {N : Nat} {H : Hp} {x : Addr} {S T : DotS} (h : ClkS C N H x S) (e : ∀ c k, 1 ≤ k → (S c k ↔ T c k)) : ClkS C N H x T := by
  obtain ⟨dx, d, ro, a, b, c, w, g⟩ := h
  exact ⟨dx, d, ro, a, b, c, w, fun c k k1 => (g c k k1).trans (e c k k1)⟩
theorem ClkS.wider {C : Addr} {N M : Nat} {H : Hp} {x : Addr} {S : DotS} (h : ClkS C N H x S) (l : N ≤ M) : ClkS C M H x S := by
  obtain ⟨dx, d, ro, a, b, c, w, g⟩ := h
  exact ⟨dx, d, ro, a, b, c, by omega, g⟩
/-- a row as it stands in the value -/
def rwOf (r : RowA) : Int × Int × List Int := (r.1, r.2.2.1, r.2.2.2)
theorem wtV_rw (zs : List RowA) : wtV (zs.map rwOf) = wtR zs := by
  unfold wtV wtR
  rw [List.map_map]
  rfl
theorem wtR_perm {a b : List RowA} (h : a.Perm b) : wtR a = wtR b := (h.map _).sum_nat
theorem isum_perm {a b : List Int} (h : a.Perm b) : a.sum = b.sum := by
  induction h with
  | nil => rfl
  | cons x _ ih => rw [List.sum_cons, List.sum_cons, ih]
  | swap x y l =>
    rw [List.sum_cons, List.sum_cons, List.sum_cons, List.sum_cons]
    omega
  | trans _ _ i j => exact i.trans j
theorem can_of {ro zs : List RowA} {S : DotS} (p : zs.Perm ro) (asc : (zs.map (·.1)).Pairwise (· < ·)) (ok : RowsOk ro) (has : ∀ c k, 1 ≤ k → (HasR ro c k ↔ S c k)) : CanV (zs.map rwOf) S := by
  refine ⟨⟨?_, fun r m => ?_, fun r m => ?_⟩, fun c k k1 => ?_⟩
  · rw [List.map_map]
    exact asc
  · obtain ⟨z, hz, rfl⟩ := List.mem_map.mp m
    exact ok.nf z (p.mem_iff.mp hz)
  · obtain ⟨z, hz, rfl⟩ := List.mem_map.mp m
    exact ok.some z (p.mem_iff.mp hz)
  · rw [← has c k k1]
    constructor
    · rintro ⟨r, m, e, h⟩
      obtain ⟨z, hz, rfl⟩ := List.mem_map.mp m
      exact ⟨z, p.mem_iff.mp hz, e, h⟩
    · rintro ⟨z, hz, e, h⟩
      exact ⟨rwOf z, List.mem_map.mpr ⟨z, p.mem_iff.mpr hz, rfl⟩, e, h⟩
theorem can_ex {ro : List RowA} {S : DotS} (ok : RowsOk ro) (has : ∀ c k, 1 ≤ k → (HasR ro c k ↔ S c k)) : ∃ zs : List RowA, zs.Perm ro ∧ (zs.map (·.1)).Pairwise (· < ·) ∧ CanV (zs.map rwOf) S := by
  have pm := List.mergeSort_perm ro fun a b => decide (a.1 ≤ b.1)
  have so := List.pairwise_mergeSort (le := fun a b : RowA => decide (a.1 ≤ b.1)) (fun a b c h1 h2 => by
    have := of_decide_eq_true h1
    have := of_decide_eq_true h2
    exact decide_eq_true (by omega)) (fun a b => by
    rcases Int.le_total a.1 b.1 with z | z
    · rw [decide_eq_true z]; rfl
    · rw [decide_eq_true z, Bool.or_true]) ro
  generalize ro.mergeSort (fun a b => decide (a.1 ≤ b.1)) = zs at pm so
  have nd : (zs.map (·.1)).Nodup := (pm.map _).nodup_iff.mpr ok.nd
  have le : (zs.map (·.1)).Pairwise (· ≤ ·) := List.pairwise_map.mpr (so.imp fun h => of_decide_eq_true h)
  have asc : (zs.map (·.1)).Pairwise (· < ·) := List.Pairwise.imp₂ (fun a b h1 h2 => by omega) le nd
  exact ⟨zs, pm, asc, can_of pm asc ok has⟩
theorem szV_of {ro zs : List RowA} (p : zs.Perm ro) : szV (zs.map rwOf) = (ro.map fun r => r.2.2.1 + (r.2.2.2.length : Int)).sum := by
  unfold szV
  rw [List.map_map]
  exact isum_perm (p.map _)
theorem atI_lastI {l : List Int} (h : l ≠ []) : atI (l.map V.int) (-1) = some (V.int (l.getLast h)) := by
  have e : l.map V.int = l.dropLast.map V.int ++ [V.int (l.getLast h)] := by
    conv => lhs; rw [← List.dropLast_concat_getLast h]
    rw [List.map_append]
    rfl
  rw [e]
  exact atI_last _ _
theorem last_top {l : List Int} (h : l ≠ []) (asc : l.Pairwise (· < ·)) : ∀ k ∈ l, k ≤ l.getLast h := by
  intro k hk
  have e := List.dropLast_concat_getLast h
  rw [← e] at hk asc
  rcases List.mem_append.mp hk with z | z
  · have := (List.pairwise_append.mp asc).2.2 k z _ (List.mem_singleton.mpr rfl)
    omega
  · rw [List.mem_singleton] at z
    omega
theorem top_row {u : Int} {l : List Int} {S : DotS} {c : Int} (nf : NF u l) (inp : ∀ k, 1 ≤ k → (InP u l k ↔ S c k)) : TopS S c (if h : l = [] then u else l.getLast h) := by
  have nn := nf.nn
  by_cases h : l = []
  · rw [dif_pos h]
    subst h
    refine ⟨nn, ?_, fun k k1 hk => ?_⟩
    · rcases Int.lt_or_le 0 u with z | z
      · exact .inr ((inp u (by omega)).mp (.inl (Int.le_refl u)))
      · exact .inl (by omega)
    · rcases (inp k k1).mpr hk with z | z
      · exact z
      · cases z
  · rw [dif_neg h]
    have m := List.getLast_mem h
    have g := nf.gap _ m
    refine ⟨by omega, .inr ((inp _ (by omega)).mp (.inr m)), fun k k1 hk => ?_⟩
    rcases (inp k k1).mpr hk with z | z
    · omega
    · exact last_top h nf.asc k z
theorem r_lenTK {K : PySem.W.Frag} {H : Hp} {Q : VK} {p : Addr} {xs : List V} (h : SqT K H p xs) (q : Q (.int xs.length) H) : rLenG K [.ref p] H Q := ⟨.ref p, _, rfl, .inr ⟨xs, h, rfl⟩, q⟩
/-- [v for .. in ..], the values told by a property -/
theorem lc_P {J : It} {n : Nat} {G : Hp → Prop} {Y : Nat → Hp → V → Hp → Prop} {Y' : Nat → V → Prop} (wk : Walk J n G Y) (hY : ∀ i H x H', Y i H x H' → H' = H ∧ Y' i x) {g : TG} {te : TE} {vs : List Nat} {σ : L2.St} {H1 : Hp} {D : Addr} {Qd : Hp → Prop} (Pr : Nat → Hp → V → Prop) (mono : ∀ i H H' v, Pr i H v → Same H H' → Pr i H' v) (hs : n ≤ 1000) (hD : H1 D = none) (hG : ∀ H, Same H1 H → G H)
    (step : ∀ (i : Nat) x H ys, i < n → Y' i x → Same H1 H → H D = some (.lst ys) → ∀ Q : VK, (∀ v H', Same H H' → Pr i (wo H' D) v → Q v H') → g x (wipe σ vs) H fun σ2 H2 => wipe σ2 vs = wipe σ vs ∧ te σ2 H2 Q)
    (hd : ∀ H xs, Same H1 H → H D = some (.lst xs) → xs.length = n → (∀ i v, xs[i]? = some v → Pr i H v) → Qd H) : LcGo J g tYes te vs σ D Qd H1 := by
  refine lc_it wk (g := g) (tt := tYes) (te := te) (fun i H => Same H1 H ∧ ∃ xs, H D = some (.lst xs) ∧ xs.length = i ∧ ∀ j v, xs[j]? = some v → Pr j (wo H D) v) ⟨same_new hD, [], upd_same, rfl, fun j v h => by cases h⟩ (fun _ H _ p => hG H p.1) ?_ ?_
  · rintro i x H H' hi ⟨s, xs, at_, lx, px⟩ y
    obtain ⟨rfl, y'⟩ := hY i H x H' y
    refine step i x H' xs hi y' s at_ _ fun v H4 s4 pv => ⟨xs, s4 _ _ at_, small1000 (by omega), fun b o e => ?_, xs ++ [v], upd_same, by rw [List.length_append, lx]; rfl, fun j u hj => ?_⟩
    · rw [upd_ne (ne_of_none e hD)]
      exact s4 _ _ (s _ _ e)
    · have w1 : Same (wo H' D) (wo H4 D) := (show Fr D H' H4 from fun b o _ e => s4 b o e).wo
      have w2 : Same (wo H4 D) (wo (upd H4 D (.lst (xs ++ [v]))) D) := (Fr.row (r := D)).wo
      rcases Nat.lt_or_ge j xs.length with z | z
      · rw [List.getElem?_append_left z] at hj
        exact mono _ _ _ _ (px j u hj) (w1.trans w2)
      · rw [List.getElem?_append_right z] at hj
        have z0 : j - xs.length = 0 := by
          have := (List.getElem?_eq_some_iff.mp hj).1
          rw [List.length_singleton] at this
          omega
        rw [z0] at hj
        obtain rfl : v = u := Option.some.inj hj
        have : j = i := by omega
        subst this
        exact mono _ _ _ _ pv w2
  · rintro H ⟨s, xs, at_, lx, px⟩
    exact hd H xs s at_ lx fun i v h => mono _ _ _ _ (px i v h) (same_wo H D)
end RH
namespace RH
open PySem PySem.Spec PyProof.Rows L2
/-! ### {k: v for .. in ..}, the keys tuples of ints and texts -/
def DtGo (J : It) (g : TG) (tt : TT) (tk tv : TE) (vs : List Nat) (σ : L2.St) (D : Addr) (Qd : Hp → Prop) (H1 : Hp) : Prop :=
  ∃ W : Nat → Nat → Hp → Prop, (∃ m, W 0 m (upd H1 D (.dT []))) ∧ ∀ i m H, W i m H →
    (J.stop i H ∧ Qd H) ∨ (J.go i H ∧ ∃ Nx : Hp → Prop, (∀ H', Nx H' → ∃ m', m' < m ∧ W (i + 1) m' H') ∧ ∀ x H', J.yld i H x H' → g x (wipe σ vs) H' fun σ2 H2 => wipe σ2 vs = wipe σ vs ∧ tt σ2 H2 fun b H3 =>
      if b = true then tk σ2 H3 fun y H4 => tv σ2 H4 fun z H5 => ∃ (kvs : List (List Key × V)) (k : List Key) (q : Addr), y = .ref q ∧ H5 q = some (.tup (k.map kV)) ∧ H5 D = some (.dT kvs) ∧ kvs.length < sizeLine ∧ Nx (upd H5 D (.dT (putK kvs k z))) else Nx H3)
def tDcT (wi : TI) (g : TG) (tt : TT) (tk tv : TE) (vs : List Nat) : TE := fun σ H Q => wi σ H fun J H1 => ∀ D, H1 D = none → DtGo J g tt tk tv vs σ D (Q (.ref D)) H1
theorem r_dcT {wi : TI} {g : TG} {tt : TT} {tk tv : TE} {vs : List Nat} {σ : L2.St} {H : Hp} {Q : VK} (h : wi σ H fun J H1 => ∀ D, H1 D = none → DtGo J g tt tk tv vs σ D (Q (.ref D)) H1) : tDcT wi g tt tk tv vs σ H Q := h
section
variable {X : Cx} {pins : List (Addr × Obj)} {σ : L2.St} {H : Hp} {s : Shared} {D : Addr}
/-- one key more, or its value anew -/
theorem one_key {E : Value → Shared → Prop} {kvs : List (List Key × V)} {k : List Key} {q : Addr} {z : V} {u r : Value} {R : Unit → Shared → Prop} (hu : X.A.units + 1 < cLine) (I : Inv X pins σ H s) (atD : H D = some (.dT kvs)) (atq : H q = some (.tup (k.map kV))) (few : kvs.length < sizeLine) (ru : RelV (.ref q) u) (rr : RelV z r)
    (go : ∀ s2, Inv X pins σ (upd H D (.dT (putK kvs k z))) s2 → R () s2) : wpAny (model X.prog X.w) X.A (dictSet D u r) R E s := by
  cases (show u = Value.ref q from ru)
  have there := dt_of I.hok atD
  obtain ⟨cap, plain, entries, rel, held⟩ := there
  have capE : entries.length ≤ sizeLine := by
    have := Paired.length rel
    omega
  have cap2 : (putK kvs k z).length ≤ sizeLine := by
    have := length_putK kvs k z
    omega
  have room : (tupleKind (mixKind X.prog X.w)).room X.A := Nat.lt_of_succ_lt hu
  refine wpAny_dictSet_heap (hsz := capE) room (key_of I.hok atq) held fun h2 held2 same => go _ ?_
  obtain ⟨ob, es, ep, g1, g2, g3, g4, _, g5⟩ := held2
  have rel2 : KT (upd H D (.dT (putK kvs k z))) (putK kvs k z) (storedH entries k q r) := (rel.put k atq rr).keeps fun c ys ec => by
    rw [upd_ne (ne_of ec atD (fun w => nomatch w))]
    exact ec
  exact d_write I (by rw [atD]; exact True.intro) same ⟨ob, g1⟩ ⟨cap2, plain, _, rel2, ob, es, ep, g1, g2, g3, g4, g5⟩
/-- the turns of the block -/
theorem dt_turns {kx vx tg iter : Expr} {ifs : List Expr} {scope : Scope} {pos : Pos} {ce : Env} {s0 : Shared} {H0 : Hp} {fp : List Addr} {it : Addr} {tn : Nat → Heap → Prop} {J : It} {g : TG} {tt : TT} {tk tv : TE} {vs : List Nat} {Qd : Hp → Prop} {R : Result → Shared → Prop}
    {W : Nat → Nat → Hp → Prop} {m0 : Nat} (hu : X.A.units + 1 < cLine) (calm : X.calm = true) (T : Turn X.prog X.w X.K tg J fp it tn) (pg : PG (X.blk s0 H0 scope ce fp) tg g) (pt : PTs (X.blk s0 H0 scope ce fp) ifs tt) (pk : PE (X.blk s0 H0 scope ce fp) kx tk) (pe : PE (X.blk s0 H0 scope ce fp) vx tv)
    (I : Inv (X.blk s0 H0 scope ce fp) [] (wipe σ vs) H s) (st : tn 0 s.heap) (un : ∀ b ∈ fp, H b = none) (w0 : W 0 m0 H)
    (turn : ∀ i m H, W i m H → (J.stop i H ∧ Qd H) ∨ (J.go i H ∧ ∃ Nx : Hp → Prop, (∀ H', Nx H' → ∃ m', m' < m ∧ W (i + 1) m' H') ∧ ∀ x H', J.yld i H x H' → g x (wipe σ vs) H' fun σ2 H2 => wipe σ2 vs = wipe σ vs ∧ tt σ2 H2 fun b H3 =>
      if b = true then tk σ2 H3 fun y H4 => tv σ2 H4 fun z H5 => ∃ (kvs : List (List Key × V)) (k : List Key) (q : Addr), y = .ref q ∧ H5 q = some (.tup (k.map kV)) ∧ H5 D = some (.dT kvs) ∧ kvs.length < sizeLine ∧ Nx (upd H5 D (.dT (putK kvs k z))) else Nx H3))
    (last : ∀ H5 s6, Inv (X.blk s0 H0 scope ce fp) [] (wipe σ vs) H5 s6 → Qd H5 → R (.ok .next) s6) :
    codeAny (model X.prog X.w) X.A (.compLoop (.DictComp kx vx [⟨tg, iter, ifs, 0⟩] scope pos) 0 (.ref it) (.ref D) ce) R s := by
  have fit : ∀ {σ' : L2.St} {Hc : Hp} {sc : Shared}, Inv (X.blk s0 H0 scope ce fp) [] σ' Hc sc → (∀ b ∈ fp, Hc b = none) → ∀ b ∈ fp, FpOk (X.blk s0 H0 scope ce fp) [] Hc b := by
    intro σ' Hc sc Ic uc b hb
    refine ⟨uc b hb, (Ic.ok.exf b hb).1, Ic.ok.exfs b hb, .inl hb, (Ic.ok.exf b hb).2, fun p hp => ?_⟩
    exact nomatch (show p ∈ ([] : List (Addr × Obj)) from hp)
  refine compLoop_anyD (fun left sc => ∃ i Hc, W i left Hc ∧ tn i sc.heap ∧ (∀ b ∈ fp, Hc b = none) ∧ Inv (X.blk s0 H0 scope ce fp) [] (wipe σ vs) Hc sc) ?_ m0 ⟨0, H, w0, st, un, I⟩
  rintro left sc ⟨i, Hc, wc, tc, uc, Ic⟩
  rcases turn i left Hc wc with ⟨stops, fin⟩ | ⟨goes, Nx, onward, does⟩
  · refine thnF (T.done (X.blk s0 H0 scope ce fp) rfl rfl rfl calm i [] sc _ Hc (fun _ _ => False) Ic (fit Ic uc) tc stops) ?_
    rintro _ se ⟨rfl, Ie⟩
    exact last Hc se Ie fin
  · refine thnF (T.item (X.blk s0 H0 scope ce fp) rfl rfl rfl calm i [] sc _ Hc (fun _ _ => False) Ic (fit Ic uc) tc goes) ?_
    rintro _ sd ⟨u, rfl, got⟩
    refine thnF got ?_
    rintro _ se ⟨x, He, Ie, rx, hy, te', ue⟩
    refine thnF (pg.run _ se _ He x u _ (Ie.pinned (fit Ie ue) (T.obj _ _ te')) rx (does x He hy)) ?_
    rintro _ sf ⟨σf, Hf, If, same, test⟩
    refine thnF (pt.run _ sf σf Hf _ If test) ?_
    rintro b sg ⟨Hg, Ig, item⟩
    have close : ∀ (sh : Shared) (Hh : Hp), Inv (X.blk s0 H0 scope ce fp) ([] ++ pinsAt fp se.heap) σf Hh sh → Nx Hh → ∃ m, m < left ∧ ∃ i Hc, W i m Hc ∧ tn i sh.heap ∧ (∀ b ∈ fp, Hc b = none) ∧ Inv (X.blk s0 H0 scope ce fp) [] (wipe σ vs) Hc sh := by
      intro sh Hh Ih nx
      obtain ⟨m, less, wm⟩ := onward Hh nx
      have held : ∀ c ∈ fp, ∀ o, se.heap.get? c = some o → sh.heap.get? c = some o ∧ Hh c = none := fun c hc o e => by
        have z := Ih.pin (c, o) (List.mem_append_right _ (List.mem_append_right _ (mem_pinsAt hc e)))
        exact ⟨z.1, z.2.1⟩
      refine ⟨m, less, i + 1, Hh, wm, T.keep _ _ _ te' (fun c hc o e => (held c hc o e).1), fun c hc => ?_, ?_⟩
      · obtain ⟨o, e, _⟩ := T.obj _ _ te' c hc
        exact (held c hc o e).2
      · refine (Ih.unpinned (pins := [])).weak (by rw [← same, wipe_length]) fun j v e => ?_
        rw [← same] at e
        exact (wipe_some e).1
    rcases Bool.eq_false_or_eq_true b with rfl | rfl
    · simp only [if_true] at item ⊢
      refine thnF (pk.run _ sg σf Hg _ Ig item) ?_
      rintro z sh ⟨y, Hh, Ih, ry, item2⟩
      refine thnF (pe.run _ sh σf Hh _ Ih item2) ?_
      rintro z2 si ⟨y2, Hi, Ii, ry2, kvs, k, q, rfl, atq, atD, few, nx⟩
      exact one_key (X := X.blk s0 H0 scope ce fp) hu Ii atD atq few ry ry2 fun s2 I2 => close s2 _ I2 nx
    · simp only [Bool.false_eq_true, if_false] at item ⊢
      exact close sg Hg Ig item
theorem pe_dcT {kx vx tg iter : Expr} {ifs : List Expr} {scope : Scope} {own : List (PySem.Str × Nat)} {pos : Pos} {wi : TI} {g : TG} {tt : TT} {tk tv : TE} (hu : X.A.units + 1 < cLine) (calm : X.calm = true) (nd : X.N.Nodup) (walks : PI X tg iter wi) (blk : BlkOk X.N X.env.scope scope own)
    (tgt : ∀ (s : Shared) (H : Hp) (C : Addr) (cl : List (PySem.Str × Addr)) (fp : List Addr), PG (X.blk s H scope (compEnvC scope cl C X.env) fp) tg g)
    (tests : ∀ (s : Shared) (H : Hp) (C : Addr) (cl : List (PySem.Str × Addr)) (fp : List Addr), PTs (X.blk s H scope (compEnvC scope cl C X.env) fp) ifs tt)
    (keys : ∀ (s : Shared) (H : Hp) (C : Addr) (cl : List (PySem.Str × Addr)) (fp : List Addr), PE (X.blk s H scope (compEnvC scope cl C X.env) fp) kx tk)
    (vals : ∀ (s : Shared) (H : Hp) (C : Addr) (cl : List (PySem.Str × Addr)) (fp : List Addr), PE (X.blk s H scope (compEnvC scope cl C X.env) fp) vx tv) (fold : ∀ x, foldedSetIterable iter X.env x = pure x := by intro _; rfl) :
    PE X (.DictComp kx vx [⟨tg, iter, ifs, 0⟩] scope pos) (tDcT wi g tt tk tv (own.map (·.2))) := by
  refine ⟨fun pins s σ H Q I h => ?_⟩
  rw [arm_eval_DictComp]
  have cells : ∀ y ∈ scope.names, y.2 = .free → ∃ c, X.env.cells.lookup y.1 = some c := fun y hy e => (blk.free y hy e).elim (fun z => I.ok.has _ (.inl z)) fun z => I.ok.has _ (.inr z)
  refine wpAny_comprehension_free (use := none) rfl fold (closure_ok cells) blk.kind (fun y hy e => by rw [blk.uniq y hy, e]) (thn (walks.run pins s σ H _ I h) fun _ sa ha => thn ha fun _ sb hb => ?_)
  obtain ⟨it, fp, tn, J, Hb, rfl, Ib, T, tb, fb, q⟩ := hb
  refine wpAny_newObj_type (newEnv_comp ?_)
  have none0 : Hb sb.heap.objs.size = none := Ib.hok.fresh (Nat.le_refl _)
  obtain ⟨W, ⟨m0, w0⟩, turn⟩ := q sb.heap.objs.size none0
  have I0 : Inv X pins σ (upd Hb sb.heap.objs.size (.dT [])) { sb with heap := sb.heap.push { cls := .type "dict", data := .dict #[] } } := Ib.laid (t' := sb.toks) (fun _ _ e => Heap.get?_push_of_some _ e) (Nat.le_refl _) (dt_empty sb.heap Ib.big)
  have low : ∀ b ∈ fp, b < sb.heap.objs.size := fun b hb => (T.obj _ _ tb b hb).elim fun o e => Heap.lt_size e.1
  have t0 : tn 0 (sb.heap.push { cls := .type "dict", data := .dict #[] }) := T.keep _ _ _ tb fun b _ o e => Heap.get?_push_of_some _ e
  have f0 : ∀ b ∈ fp, FpOk X pins (upd Hb sb.heap.objs.size (.dT [])) b ∧ b < (sb.heap.push { cls := .type "dict", data := .dict #[] }).objs.size := fun b hb => by
    have lt := low b hb
    refine ⟨⟨?_, (fb b hb).2⟩, by rw [Heap.size_push]; exact Nat.lt_succ_of_lt lt⟩
    rw [upd_ne (Nat.ne_of_lt lt)]
    exact (fb b hb).1
  generalize upd Hb sb.heap.objs.size (.dT []) = Hs at I0 f0 w0
  generalize sb.heap.objs.size = D at *
  show codeAny _ _ (.compStart _ 0 (.ref it) (.ref D) (compEnvC scope (cellsFrom ((sb.heap.push { cls := .type "dict", data := .dict #[] }).objs.size + 1) scope.names (cloFrom X.env.cells scope.names [])) (sb.heap.push { cls := .type "dict", data := .dict #[] }).objs.size X.env)) (compPost (model X.prog X.w) X.A X.xe none (EP X pins σ Q) (.ref D) (sb.heap.push { cls := .type "dict", data := .dict #[] }).objs.size) { sb with heap := pushCells ((sb.heap.push { cls := .type "dict", data := .dict #[] }).push { cls := .type "dict", data := .dict #[] }) scope.names }
  generalize sb.heap.push { cls := .type "dict", data := .dict #[] } = hs at I0 t0 f0
  have Iz := block_start I0 blk nd f0
  have loop := dt_turns (kx := kx) (vx := vx) (iter := iter) (pos := pos) (R := compPost (model X.prog X.w) X.A X.xe none (EP X pins σ Q) (.ref D) hs.objs.size) hu calm T
    (tgt { sb with heap := hs } Hs hs.objs.size _ fp) (tests { sb with heap := hs } Hs hs.objs.size _ fp) (keys { sb with heap := hs } Hs hs.objs.size _ fp) (vals { sb with heap := hs } Hs hs.objs.size _ fp) Iz
    (T.keep _ _ _ t0 fun b _ o e => pushCells_keeps _ _ _ _ (Heap.get?_push_of_some _ e)) (fun b hb => (f0 b hb).1.1) w0 turn fun Hl sl Il ql => ?_
  · exact codeAny_compStart_dict loop (T.self X.A 0 _ _ _ (T.keep _ _ _ t0 fun b _ o e => pushCells_keeps _ _ _ _ (Heap.get?_push_of_some _ e)) loop)
  · have Ir : Inv X pins σ Hl sl := I0.call' (ch := fp) Il.os Il.base Il.hok Il.bare fun b hb => by
      obtain ⟨_, a1, _, a3, a4, a5⟩ := (f0 b hb).1
      exact ⟨a3, a1, a4, a5⟩
    obtain ⟨m, ns, _⟩ := Il.loc
    obtain ⟨b0, b1, b2, b3, b4, b5⟩ := I0.fpOk (Nat.le_refl hs.objs.size) (show Hl hs.objs.size = none from Il.free)
    exact ⟨m, ns, fun hz sz => ⟨.ref D, Hl, Ir.turned (t' := sl.toks) (fun b o nb e => (sz.2 b nb).trans e) b0 b1 b3 b4 b5, rfl, ql⟩⟩
end
theorem dt_it {J : It} {n : Nat} {G : Hp → Prop} {Y : Nat → Hp → V → Hp → Prop} (w : Walk J n G Y) {g : TG} {tt : TT} {tk tv : TE} {vs : List Nat} {σ : L2.St} {H1 : Hp} {D : Addr} {Qd : Hp → Prop} (Pv : Nat → Hp → Prop) (h0 : Pv 0 (upd H1 D (.dT []))) (hG : ∀ i H, i ≤ n → Pv i H → G H)
    (hs : ∀ i x H H', i < n → Pv i H → Y i H x H' → g x (wipe σ vs) H' fun σ2 H2 => wipe σ2 vs = wipe σ vs ∧ tt σ2 H2 fun b H3 =>
      if b = true then tk σ2 H3 fun y H4 => tv σ2 H4 fun z H5 => ∃ (kvs : List (List Key × V)) (k : List Key) (q : Addr), y = .ref q ∧ H5 q = some (.tup (k.map kV)) ∧ H5 D = some (.dT kvs) ∧ kvs.length < sizeLine ∧ Pv (i + 1) (upd H5 D (.dT (putK kvs k z))) else Pv (i + 1) H3) (hd : ∀ H, Pv n H → Qd H) :
    DtGo J g tt tk tv vs σ D Qd H1 := by
  refine ⟨fun i m H => m = n - i ∧ i ≤ n ∧ Pv i H, ⟨n, by simp, Nat.zero_le _, h0⟩, ?_⟩
  rintro i m H ⟨rfl, hi, p⟩
  have q := hG i H hi p
  by_cases hlt : i < n
  · refine .inr ⟨w.goes i H hlt q, Pv (i + 1), fun H' p' => ⟨n - (i + 1), by omega, rfl, hlt, p'⟩, fun x H' y => hs i x H H' hlt p (w.yields i H x H' hlt q y)⟩
  · have e : i = n := by omega
    subst e
    exact .inl ⟨w.stops H q, hd H p⟩
end RH
namespace RH
open PySem PySem.Spec PyProof.Rows L2
/-! ### sorted(d), the keys pairs of ints -/
def pk2 (p : Int × Int) : List L2.Key := [Sum.inl p.1, Sum.inl p.2]
def rSortedDT : List V → Hp → VK → Prop := fun vs H Q => ∃ (d : Addr) (kvs : List (List L2.Key × V)) (ps : List (Int × Int)), vs = [.ref d] ∧ H d = some (.dT kvs) ∧ kvs.map (·.1) = ps.map pk2 ∧
  ∀ (bs : List (Addr × (Int × Int))) (p : Addr), (bs.map (·.2)).Perm ps → bs.Pairwise (fun a b => SrtO.lexB b.2 a.2 = false) → (∀ b ∈ bs, H b.1 = some (.tup [.int b.2.1, .int b.2.2])) → H p = none → Q (.ref p) (upd H p (.lst (bs.map fun b => V.ref b.1)))
theorem kt_pairs {H : Hp} {kvs : List (List L2.Key × V)} {ks : List (List L2.Key × Addr × Value)} (r : KT H kvs ks) : ∀ {ps : List (Int × Int)}, kvs.map (·.1) = ps.map pk2 →
    (ks.map fun x => kAt H (.ref x.2.1)) = ps ∧ ∀ x ∈ ks, H x.2.1 = some (.tup [.int (kAt H (.ref x.2.1)).1, .int (kAt H (.ref x.2.1)).2]) := by
  induction r with
  | nil =>
    intro ps e
    cases ps with
    | nil => exact ⟨rfl, fun _ m => nomatch m⟩
    | cons => cases e
  | @cons kv x kvs ks h _ ih =>
    intro ps e
    cases ps with
    | nil => cases e
    | cons p ps =>
      rw [List.map_cons, List.map_cons] at e
      obtain ⟨e1, e2⟩ := List.cons.inj e
      obtain ⟨i1, i2⟩ := ih e2
      have at_ : H x.2.1 = some (.tup [.int p.1, .int p.2]) := by
        have z := h.2.1
        rw [e1] at z
        exact z
      have ek : kAt H (.ref x.2.1) = p := kAt_at at_
      refine ⟨by rw [List.map_cons, ek, i1], fun y m => ?_⟩
      rcases List.mem_cons.mp m with rfl | m
      · rw [ek]
        exact at_
      · exact i2 y m
def adV : Value → Addr
  | .ref a => a
  | _ => 0
theorem refs_list : ∀ {out : List Value}, (∀ u ∈ out, ∃ a, u = Value.ref a) → out = (out.map adV).map Value.ref
  | [], _ => rfl
  | u :: out, h => by
    obtain ⟨a, rfl⟩ := h u List.mem_cons_self
    rw [List.map_cons, List.map_cons, ← refs_list fun v m => h v (List.mem_cons_of_mem _ m)]
    rfl
theorem cr_sortedDT {X : Cx} (calm : X.calm = true) : CallR X (.builtin "sorted") rSortedDT := by
  intro pins s σ H vs us Q I r h
  obtain ⟨d, kvs, ps, rfl, hd, keys, q⟩ := h
  obtain ⟨u, rfl, ru⟩ := vals1 r
  cases (show u = Value.ref d from ru)
  obtain ⟨z, lo, ks, pr, o, es, ep, ho, hx, hdt, he, _⟩ := (show ObjOk X.prog X.w H s.heap d (.dT kvs) from I.hok d _ hd)
  have n1 : es.size = ks.length := size_of_entries he
  have n2 : kvs.length = ks.length := Paired.length pr
  obtain ⟨eps, hks⟩ := kt_pairs pr keys
  refine Calls.call_function_entry kind_sorted plain_sorted entry_sorted (args_sorted1 _) ?_
  unfold Builtin.«sorted»
  refine wpAny_bind (m := checkCount "sorted" 1 1 _) (wpAny_pure ?_)
  refine wpAny_bind (PySem.W.kdu_collect (A := X.A.in1) (kdl_raw lo hx hdt) (I.ok.hd calm) ho (by omega) fun h1 tk acc stay got => ?_)
  have en : acc.toList.length = ks.length := by
    rw [Array.length_toList, got.1]
    exact n1
  have ea : acc.toList = ks.map fun x => Value.ref x.2.1 := by
    refine List.ext_getElem? fun j => ?_
    rw [List.getElem?_map]
    rcases Nat.lt_or_ge j ks.length with lt | ge
    · obtain ⟨v, hv⟩ : ∃ v, acc.toList[j]? = some v := ⟨_, List.getElem?_eq_getElem (by omega)⟩
      obtain ⟨e, he1, he2⟩ := got.2 j v (by rw [← Array.getElem?_toList]; exact hv)
      have z2 := entry_at he j
      rw [he1, List.getElem?_eq_getElem lt] at z2
      have z3 : e = entryOfKey (tupleKind (mixKind X.prog X.w)) ks[j] := Option.some.inj z2
      rw [hv, he2, z3, List.getElem?_eq_getElem lt]
      rfl
    · rw [List.getElem?_eq_none (by omega), List.getElem?_eq_none ge]
      rfl
  have I1 : Inv X pins σ H { s with heap := h1, toks := tk } := I.kept stay
  refine wpAny_bind (wpAny_newList ?_ (by omega))
  generalize hP : h1.push { cls := .type "list", data := .seq acc.toList.toArray } = hp
  have atL : hp.get? h1.objs.size = some (seqObj "list" acc.toList.toArray 0) := by
    rw [← hP]
    exact Heap.get?_push_size _ rfl
  have stay2 : ∀ b ob, h1.get? b = some ob → hp.get? b = some ob := fun b ob e => by
    rw [← hP]
    exact Heap.get?_push_of_some _ e
  have pairs : ∀ v ∈ acc.toList, Srt.IsPair hp v (kAt H (backV v)).1 (kAt H (backV v)).2 := by
    intro v mv
    rw [ea] at mv
    obtain ⟨x, mx, rfl⟩ := List.mem_map.mp mv
    obtain ⟨_, its, r2, ob, g1, g2, m, g3⟩ := I1.hok _ _ (hks x mx)
    obtain ⟨u1, u2, rfl, ri, rj⟩ := vals2 r2
    obtain ⟨t1, rfl⟩ := ri
    obtain ⟨t2, rfl⟩ := rj
    exact ⟨x.2.1, ob, t1, t2, m, rfl, stay2 _ _ g1, g2, g3⟩
  refine wpAny_bind (wpAny_holding (wpAny_call_entry slot_list_sort ⟨_, atL, rfl⟩ entry_list_sort
    (SrtO.list_sort_ord (SrtO.swo_lex fun u => kAt H (backV u)) atL (by omega) (fun two => SrtO.pairs_sortableO (by omega) pairs fun ob e => ?_) fun out sd st => ⟨_, rfl, ?_⟩) (args_list_sort _)))
  · have e2 : some ob = some (seqObj "list" acc.toList.toArray 0) := e.symm.trans atL
    cases e2
    intro c
    exact absurd (Value.type.inj c) (by decide)
  · have outrefs : ∀ u ∈ out, ∃ a, u = Value.ref a := fun u m => by
      have m2 := st.perm.mem_iff.mp m
      rw [ea] at m2
      obtain ⟨x, _, rfl⟩ := List.mem_map.mp m2
      exact ⟨_, rfl⟩
    have eo := refs_list outrefs
    have pm : (out.map adV).Perm (ks.map fun x => x.2.1) := by
      have m := st.perm.map adV
      rw [ea, List.map_map] at m
      exact m
    generalize out.map adV = as at eo pm
    have sd2 : as.Pairwise fun a b => SrtO.lexB (kAt H (.ref b)) (kAt H (.ref a)) = false := by
      rw [eo] at sd
      exact List.pairwise_map.mp sd
    obtain ⟨e9, at9⟩ := sortedHeap_at (vs := acc.toList) (out := out.toArray) atL
    have em : ((as.map fun a => (a, kAt H (.ref a))).map fun b => V.ref b.1) = as.map V.ref := by rw [List.map_map]; rfl
    have cap : ((as.map fun a => (a, kAt H (.ref a))).map fun b => V.ref b.1).length ≤ sizeLine := by
      rw [em, List.length_map, pm.length_eq, List.length_map]
      omega
    refine wpAny_pure ⟨_, rfl, .ref h1.objs.size, upd H h1.objs.size (.lst ((as.map fun a => (a, kAt H (.ref a))).map fun b => V.ref b.1)), I1.laid (t' := tk) (fun b u e => ?_) (Nat.le_refl _) ⟨cap, out, e9, by rw [em, eo]; exact vals_refs as, at9⟩, rfl, q _ h1.objs.size ?_ ?_ ?_ (I1.hok.fresh (Nat.le_refl _))⟩
    · have lt : b < h1.objs.size := Heap.lt_size e
      rw [sortedHeap_old (Nat.ne_of_lt lt) (Nat.lt_of_lt_of_le lt (by rw [← hP, Heap.size_push]; exact Nat.le_succ _))]
      exact stay2 _ _ e
    · rw [List.map_map, ← eps]
      have m := pm.map fun a => kAt H (.ref a)
      rw [List.map_map] at m
      exact m
    · exact List.pairwise_map.mpr sd2
    · intro b mb
      obtain ⟨a, ma, rfl⟩ := List.mem_map.mp mb
      obtain ⟨x, mx, rfl⟩ := List.mem_map.mp (pm.mem_iff.mp ma)
      exact hks x mx
end RH
namespace RH
open PySem L2
/-! ### a house that comes -/
def wk (c : Int) (os : List Int) (h : Int) : List Int := wkS c os (some h)
theorem wk_fold {c : Int} (c0 : 0 ≤ c) : ∀ (m l : List Int), m.foldl (wk c) ((dd l).take c.toNat) = (dd (l ++ m)).take c.toNat
  | [], l => by simp
  | x :: m, l => by
    rw [List.foldl_cons]
    unfold wk
    rw [wkS_dd c0]
    have := wk_fold c0 m (l ++ [x])
    rw [List.append_assoc] at this
    exact this
theorem wk_own {c : Int} (c0 : 0 ≤ c) (l : List Int) : l.foldl (wk c) [] = (dd l).take c.toNat := by
  have := wk_fold c0 l []
  rw [List.nil_append] at this
  rw [← this]
  congr 1
  show [] = List.take _ (dd [])
  simp [dd]
/-- the second list is the first with some h put in -/
inductive Ins (h : Int) : List Int → List Int → Prop where
  | nil : Ins h [] []
  | both {x : Int} {l m : List Int} : Ins h l m → Ins h (x :: l) (x :: m)
  | add {l m : List Int} : Ins h l m → Ins h l (h :: m)
theorem ins_of {h : Int} {P : Int × Int → Bool} : ∀ {ps : List (Int × Int)}, (∀ p ∈ ps, P p = false → p.2 = h) → Ins h ((ps.filter P).map (·.2)) (ps.map (·.2))
  | [], _ => .nil
  | p :: ps, hp => by
    have ih := ins_of (h := h) (P := P) (ps := ps) fun x hx => hp x (List.mem_cons_of_mem _ hx)
    cases e : P p with
    | true =>
      rw [List.filter_cons_of_pos e]
      exact .both ih
    | false =>
      rw [List.filter_cons_of_neg (by rw [e]; decide)]
      have := hp p List.mem_cons_self e
      rw [List.map_cons, this]
      exact .add ih
/-- the owners before and behind the coming of h, under way -/
structure Rel (h c : Int) (os os' : List Int) : Prop where
  nd : os.Nodup
  nd' : os'.Nodup
  le : (os.length : Int) ≤ c
  r : (h ∉ os ∧ os' = os) ∨ (h ∈ os' ∧ h ∈ os ∧ os'.filter (fun o => decide (o ≠ h)) = os.filter fun o => decide (o ≠ h)) ∨ (h ∈ os' ∧ h ∉ os ∧ os'.filter (fun o => decide (o ≠ h)) = os.take (c.toNat - 1))
theorem one_less {h : Int} : ∀ {os : List Int}, os.Nodup → h ∈ os → (os.filter fun o => decide (o ≠ h)).length + 1 = os.length
  | x :: os, nd, m => by
    rw [List.nodup_cons] at nd
    by_cases e : x = h
    · have e2 : os.filter (fun o => decide (o ≠ h)) = os := List.filter_eq_self.mpr fun o ho => decide_eq_true fun z => nd.1 (by rw [e, ← z]; exact ho)
      rw [List.filter_cons_of_neg (by rw [decide_eq_true_iff]; exact fun z => z e), e2]
      rfl
    · rw [List.filter_cons_of_pos (by exact decide_eq_true e), List.length_cons, List.length_cons, one_less nd.2 ((List.mem_cons.mp m).resolve_left fun z => e z.symm)]
theorem wk_nd {c : Int} {os : List Int} (nd : os.Nodup) (x : Int) : (wk c os x).Nodup := by
  show (if x ∉ os ∧ (os.length : Int) < c then os ++ [x] else os).Nodup
  split
  · rename_i z
    exact List.nodup_append.mpr ⟨nd, by simp, fun a ha b hb e => z.1 (by rw [List.mem_singleton] at hb; rw [← hb, ← e]; exact ha)⟩
  · exact nd
theorem wk_le {c : Int} {os : List Int} (le : (os.length : Int) ≤ c) (x : Int) : ((wk c os x).length : Int) ≤ c := by
  show ((if x ∉ os ∧ (os.length : Int) < c then os ++ [x] else os).length : Int) ≤ c
  split
  · rw [List.length_append, List.length_singleton]
    omega
  · exact le
theorem wk_yes {c : Int} {os : List Int} {x : Int} (n : x ∉ os) (l : (os.length : Int) < c) : wk c os x = os ++ [x] := if_pos ⟨n, l⟩
theorem wk_in {c : Int} {os : List Int} {x : Int} (n : x ∈ os) : wk c os x = os := if_neg fun z => z.1 n
theorem wk_full {c : Int} {os : List Int} {x : Int} (l : ¬ (os.length : Int) < c) : wk c os x = os := if_neg fun z => l z.2
theorem filt_no {h : Int} {os : List Int} (n : h ∉ os) : (os.filter fun o => decide (o ≠ h)) = os := List.filter_eq_self.mpr fun o ho => decide_eq_true fun z => n (by rw [← z]; exact ho)
theorem Rel.add {h c : Int} {os os' : List Int} (R : Rel h c os os') : Rel h c os (wk c os' h) := by
  refine ⟨R.nd, wk_nd R.nd' h, R.le, ?_⟩
  rcases R.r with ⟨a, rfl⟩ | ⟨a, b, e⟩ | ⟨a, b, e⟩
  · by_cases lt : (os'.length : Int) < c
    · rw [wk_yes a lt]
      refine .inr (.inr ⟨by simp, a, ?_⟩)
      rw [List.filter_append, filt_no a, List.take_of_length_le (by omega)]
      simp
    · rw [wk_full lt]
      exact .inl ⟨a, rfl⟩
  · rw [wk_in a]
    exact .inr (.inl ⟨a, b, e⟩)
  · rw [wk_in a]
    exact .inr (.inr ⟨a, b, e⟩)
theorem filt_in {h x : Int} {os : List Int} (n : x ≠ h) : x ∈ os.filter (fun o => decide (o ≠ h)) ↔ x ∈ os := by
  rw [List.mem_filter, decide_eq_true_iff]
  exact ⟨fun z => z.1, fun z => ⟨z, n⟩⟩
theorem Rel.both {h c x : Int} {os os' : List Int} (c1 : 1 ≤ c) (R : Rel h c os os') : Rel h c (wk c os x) (wk c os' x) := by
  refine ⟨wk_nd R.nd x, wk_nd R.nd' x, wk_le R.le x, ?_⟩
  by_cases n : x = h
  · subst n
    rcases R.r with ⟨a, rfl⟩ | ⟨a, b, e⟩ | ⟨a, b, e⟩
    · by_cases lt : (os'.length : Int) < c
      · rw [wk_yes a lt]
        exact .inr (.inl ⟨by simp, by simp, rfl⟩)
      · rw [wk_full lt]
        exact .inl ⟨a, rfl⟩
    · rw [wk_in a, wk_in b]
      exact .inr (.inl ⟨a, b, e⟩)
    · rw [wk_in a]
      by_cases lt : (os.length : Int) < c
      · rw [wk_yes b lt]
        refine .inr (.inl ⟨a, by simp, ?_⟩)
        rw [e, List.take_of_length_le (by omega), List.filter_append, filt_no b]
        simp
      · rw [wk_full lt]
        exact .inr (.inr ⟨a, b, e⟩)
  · have fx : [x].filter (fun o => decide (o ≠ h)) = [x] := List.filter_eq_self.mpr fun o ho => decide_eq_true (by rw [List.mem_singleton.mp ho]; exact n)
    rcases R.r with ⟨a, rfl⟩ | ⟨a, b, e⟩ | ⟨a, b, e⟩
    · by_cases m : x ∈ os'
      · rw [wk_in m]
        exact .inl ⟨a, rfl⟩
      · by_cases lt : (os'.length : Int) < c
        · rw [wk_yes m lt]
          exact .inl ⟨by simp [a, Ne.symm n], rfl⟩
        · rw [wk_full lt]
          exact .inl ⟨a, rfl⟩
    · have l1 := one_less R.nd' a
      have l2 := one_less R.nd b
      rw [e] at l1
      have mm : x ∈ os' ↔ x ∈ os := by rw [← filt_in n, e, filt_in n]
      by_cases m : x ∈ os
      · rw [wk_in m, wk_in (mm.mpr m)]
        exact .inr (.inl ⟨a, b, e⟩)
      · by_cases lt : (os.length : Int) < c
        · rw [wk_yes m lt, wk_yes (fun z => m (mm.mp z)) (by omega)]
          refine .inr (.inl ⟨by simp [a], by simp [b], ?_⟩)
          rw [List.filter_append, List.filter_append, e]
        · rw [wk_full lt, wk_full (by omega)]
          exact .inr (.inl ⟨a, b, e⟩)
    · have l1 := one_less R.nd' a
      rw [e, List.length_take] at l1
      have le := R.le
      have mm : x ∈ os' ↔ x ∈ os.take (c.toNat - 1) := by rw [← filt_in n, e]
      by_cases lt1 : (os.length : Int) < c - 1
      · have et : os.take (c.toNat - 1) = os := List.take_of_length_le (by omega)
        rw [et] at mm e
        by_cases m : x ∈ os
        · rw [wk_in m, wk_in (mm.mpr m)]
          exact .inr (.inr ⟨a, b, by rw [et]; exact e⟩)
        · rw [wk_yes m (by omega), wk_yes (fun z => m (mm.mp z)) (by omega)]
          refine .inr (.inr ⟨by simp [a], by simp [b, Ne.symm n], ?_⟩)
          rw [List.filter_append, e, fx, List.take_of_length_le (by rw [List.length_append, List.length_singleton]; omega)]
      · rw [wk_full (os := os') (by omega)]
        by_cases m : x ∈ os
        · rw [wk_in m]
          exact .inr (.inr ⟨a, b, e⟩)
        · by_cases lt : (os.length : Int) < c
          · rw [wk_yes m lt]
            refine .inr (.inr ⟨a, by simp [b, Ne.symm n], ?_⟩)
            rw [e, List.take_append_of_le_length (by omega)]
          · rw [wk_full lt]
            exact .inr (.inr ⟨a, b, e⟩)
theorem rel_all {h c : Int} (c1 : 1 ≤ c) {l m : List Int} (I : Ins h l m) : ∀ {os os' : List Int}, Rel h c os os' → Rel h c (l.foldl (wk c) os) (m.foldl (wk c) os') := by
  induction I with
  | nil => exact fun R => R
  | both _ ih => exact fun R => ih (R.both c1)
  | add _ ih => exact fun R => ih R.add
/-- owners before and behind -/
theorem rel_own {h c : Int} (c1 : 1 ≤ c) {ps : List (Int × Int)} {P : Int × Int → Bool} (hP : ∀ p ∈ ps, P p = false → p.2 = h) (q : Int) : Rel h c (own (ps.filter P) c q) (own ps c q) := by
  have e : turn (ps.filter P) q = (turn ps q).filter P := by
    unfold turn
    rw [List.filter_append, List.filter_filter, List.filter_filter, List.filter_filter, List.filter_filter]
    congr 1 <;> exact List.filter_congr fun x _ => Bool.and_comm _ _
  have I : Ins h ((turn (ps.filter P) q).map (·.2)) ((turn ps q).map (·.2)) := by
    rw [e]
    refine ins_of fun p hp z => ?_
    unfold turn at hp
    rcases List.mem_append.mp hp with g | g
    · exact hP p (List.mem_filter.mp g).1 z
    · exact hP p (List.mem_filter.mp g).1 z
  unfold own
  rw [← wk_own (by omega), ← wk_own (by omega)]
  exact rel_all c1 I ⟨List.nodup_nil, List.nodup_nil, by show (0 : Int) ≤ c; omega, .inl ⟨(fun z => nomatch z), rfl⟩⟩
/-! ### what the law draws and asks -/
def spNewPoints : Sp := fun vs H Q _ => ∃ (a l : Addr) (xs : List V) (ps : List (Int × Int)) (h : Int) (ds : List Int), vs = [.ref a, .int h, .ref l] ∧ H a = some (.lst xs) ∧ PtsAt H xs ps ∧ OkPts ps 1 ∧ H l = some (.lst (ds.map V.int)) ∧ DrawsOk ds ∧
  ∀ H' p ys qs, Same H H' → H p = none → H' p = some (.lst ys) → PtsAt H' ys qs → qs.length ≤ 6 → (∀ x ∈ qs, x.2 = h ∧ 0 ≤ x.1 ∧ x.1 < 256) → ((ps.map (·.1)) ++ (qs.map (·.1))).Nodup → Q (.ref p) H'
def spAreOwners : Sp := fun vs H Q _ => ∃ (a b : Addr) (os hs : List Int) (c : Int), vs = [.ref a, .int c, .ref b] ∧ H a = some (.lst (os.map V.int)) ∧ H b = some (.lst (hs.map V.int)) ∧ (os.length : Int) = c ∧ c ≤ 7 ∧ os.Nodup ∧ (∀ o ∈ os, o ∈ hs) ∧ ∀ H', Same H H' → Q (.bl true) H'
def spFits : Sp := fun vs H Q _ => ∃ (a b : Addr) (os os' : List Int) (h c : Int), vs = [.ref a, .ref b, .int h] ∧ H a = some (.lst (os.map V.int)) ∧ H b = some (.lst (os'.map V.int)) ∧ (os.length : Int) = c ∧ (os'.length : Int) = c ∧ c ≤ 7 ∧ 1 ≤ c ∧ Rel h c os os' ∧ ∀ H', Same H H' → Q (.bl true) H'
def spWithin : Sp := fun vs H Q _ => ∃ (a b : Addr) (ns ms : List Int), vs = [.ref a, .ref b] ∧ H a = some (.lst (ns.map V.int)) ∧ H b = some (.lst (ms.map V.int)) ∧ ms.length ≤ 300 ∧ (∀ n ∈ ns, n ∈ ms) ∧ ms.Nodup ∧ ∀ H', Same H H' → Q (.bl true) H'
theorem ints_all (ns ms : List Int) : PyData.eqvAll (ns.map PyData.int) (ms.map PyData.int) = decide (ns = ms) := by
  induction ns generalizing ms with
  | nil => cases ms <;> simp [PyData.eqvAll]
  | cons n ns ih =>
    cases ms with
    | nil => simp [PyData.eqvAll]
    | cons m ms =>
      simp only [List.map_cons, PyData.eqvAll, PyData.eqv, ih, List.cons.injEq]
      rw [Bool.eq_iff_iff, Bool.and_eq_true, decide_eq_true_iff, decide_eq_true_iff]
      simp
theorem ints_is (ns ms : List Int) : PyData.eqv (.list (ns.map PyData.int)) (.list (ms.map PyData.int)) = decide (ns = ms) := by
  simp only [PyData.eqv, ints_all]
theorem r_neLL {K : PySem.W.Frag} {H : Hp} {Q : VK} {a b : Addr} {ns ms : List Int} (ha : SqL K H a (ns.map V.int)) (hb : SqL K H b (ms.map V.int)) (q : Q (.bl (!decide (ns = ms))) H) : rNeD K (.ref a) (.ref b) H Q :=
  ⟨_, _, .lst ha (ints_dpAll ns), .lst hb (ints_dpAll ms), ints_shaped ns, ints_shaped ms, by rw [ints_is]; exact q⟩
theorem r_eqLL {K : PySem.W.Frag} {H : Hp} {Q : VK} {a b : Addr} {ns ms : List Int} (ha : SqL K H a (ns.map V.int)) (hb : SqL K H b (ms.map V.int)) (q : Q (.bl (decide (ns = ms))) H) : rEqD K (.ref a) (.ref b) H Q :=
  ⟨_, _, .lst ha (ints_dpAll ns), .lst hb (ints_dpAll ms), ints_shaped ns, ints_shaped ms, by rw [ints_is]; exact q⟩
theorem cut_last (ns : List Int) : cutV (ns.map V.int) none (some (-1)) = (ns.take (ns.length - 1)).map V.int := by
  unfold cutV
  rw [HT.sIx_none, List.drop_zero, Nat.sub_zero, List.map_take]
  congr 1
  show (if (-1 : Int) < 0 then ((-1 : Int) + ((ns.map V.int).length : Int)).toNat else min (-1 : Int).toNat (ns.map V.int).length) = _
  rw [if_pos (by decide), List.length_map]
  omega
def bOf (ns : List Int) : List (Key × V) := ns.map fun n => (.inl n, .bl true)
theorem bOf_val (ns : List Int) (q : Int) : valV (bOf ns) (.inl q) = if q ∈ ns then some (.bl true) else none := by
  induction ns with
  | nil => rfl
  | cons n ns ih =>
    unfold valV bOf at ih ⊢
    rw [List.map_cons, List.find?_cons]
    by_cases e : n = q
    · rw [decide_eq_true (show (Sum.inl n : Key) = .inl q by rw [e]), if_pos (by rw [e]; exact List.mem_cons_self)]
      rfl
    · rw [decide_eq_false (show ¬ (Sum.inl n : Key) = .inl q from fun z => e (Sum.inl.inj z))]
      dsimp only
      rw [ih]
      have : q ∈ n :: ns ↔ q ∈ ns := by
        rw [List.mem_cons]
        exact ⟨fun z => z.resolve_left fun w => e w.symm, .inr⟩
      by_cases m : q ∈ ns
      · rw [if_pos m, if_pos (this.mpr m)]
      · rw [if_neg m, if_neg fun z => m (this.mp z)]
theorem bOf_snoc {ns : List Int} {n : Int} (h : n ∉ ns) : putK (bOf ns) (.inl n) (.bl true) = bOf (ns ++ [n]) := by
  rw [putK_new _ (by rw [bOf_val, if_neg h])]
  unfold bOf
  rw [List.map_append]
  rfl
theorem r_dnotin {td ty : TE} {σ : L2.St} {H : Hp} {Q : VK} (h : ty σ H fun y H1 => td σ H1 fun x H2 => ∃ a o, x = V.ref a ∧ DGet H2 a y o ∧ Q (.bl (!o.isSome)) H2) : tDNotIn ty td σ H Q := h
theorem seqG {t u : TS} {nx bk ct : L2.St → Hp → Prop} {rt : VK} {σ : L2.St} {H : Hp} (k : ∀ H', Same H H' → u ⟨nx, rt, bk, ct⟩ σ H') (h : ∀ N : L2.St → Hp → Prop, (∀ H', Same H H' → N σ H') → t ⟨N, rt, bk, ct⟩ σ H) : tSeq t u ⟨nx, rt, bk, ct⟩ σ H := h _ k
theorem Rel.back {h c o : Int} {os os' : List Int} (R : Rel h c os os') (n : o ≠ h) (m : o ∈ os') : o ∈ os := by
  rcases R.r with ⟨a, rfl⟩ | ⟨a, b, e⟩ | ⟨a, b, e⟩
  · exact m
  · rw [← filt_in n, e, filt_in n] at m
    exact m
  · rw [← filt_in n, e] at m
    exact List.mem_of_mem_take m
theorem Rel.fore {h c : Int} {os os' : List Int} (R : Rel h c os os') (m : h ∈ os) : h ∈ os' := by
  rcases R.r with ⟨a, rfl⟩ | ⟨a, b, e⟩ | ⟨a, b, e⟩
  · exact m
  · exact a
  · exact a
theorem asc_eq : ∀ {l m : List (Int × Int)}, Asc l → Asc m → l.Perm m → l = m
  | [], m, _, _, p => p.nil_eq
  | x :: l, [], _, _, p => absurd p.length_eq (by simp)
  | x :: l, y :: m, hl, hm, p => by
    have h1 := List.pairwise_cons.mp hl
    have h2 := List.pairwise_cons.mp hm
    have e : x = y := by
      rcases List.mem_cons.mp (p.mem_iff.mp List.mem_cons_self) with z | z
      · exact z
      · rcases List.mem_cons.mp (p.mem_iff.mpr List.mem_cons_self) with w | w
        · exact w.symm
        · have := h2.1 x z
          have := h1.1 y w
          omega
    subst e
    rw [asc_eq h1.2 h2.2 ((List.perm_cons x).mp p)]
/-- the old ring's points are the new one's without those that came -/
theorem old_is {ps ns qs1 qs2 : List (Int × Int)} (p1 : qs1.Perm ps) (a1 : Asc qs1) (p2 : qs2.Perm (ns ++ ps)) (a2 : Asc qs2) (nd : (ps.map (·.1) ++ ns.map (·.1)).Nodup) : qs2.filter (fun p => decide (p.1 ∉ ns.map (·.1))) = qs1 := by
  refine asc_eq (List.Pairwise.filter _ a2) a1 ?_
  refine (p2.filter _).trans ?_
  rw [List.filter_append]
  have e1 : ns.filter (fun p => decide (p.1 ∉ ns.map (·.1))) = [] := List.filter_eq_nil_iff.mpr fun p hp => by
    rw [decide_eq_true_iff]
    exact fun z => z (List.mem_map_of_mem hp)
  have e2 : ps.filter (fun p => decide (p.1 ∉ ns.map (·.1))) = ps := List.filter_eq_self.mpr fun p hp => decide_eq_true fun z => (List.nodup_append.mp nd).2.2 _ (List.mem_map_of_mem hp) p.1 z rfl
  rw [e1, e2, List.nil_append]
  exact p1.symm
/-- a place with a point: its house is the first owner -/
theorem own_head {ps : List (Int × Int)} (h : Asc ps) (hp : ∀ p ∈ ps, 0 ≤ p.1 ∧ p.1 < 256) {q : Nat} (hq : q < 256) {x c : Int} (m : ((q : Int), x) ∈ ps) (c1 : 1 ≤ c) : ∃ r, own ps c q = x :: r := by
  have e := ring_all h hp hq
  have e0 : ring ps (q : Int) 256 = x :: ((List.range 255).filterMap fun s : Nat => atF ps (((q : Int) + ((s + 1 : Nat) : Int)) % 256)) := by
    unfold ring
    rw [show (256 : Nat) = 255 + 1 from rfl, List.range_succ_eq_map, List.filterMap_cons, List.filterMap_map]
    have a0 : atF ps (((q : Int) + ((0 : Nat) : Int)) % 256) = some x := by
      rw [show ((q : Int) + ((0 : Nat) : Int)) % 256 = q by omega]
      exact (atF_some h.nodup).mpr m
    rw [a0]
    rfl
  unfold own
  rw [← e, e0, dd_cons]
  obtain ⟨k, hk⟩ : ∃ k, c.toNat = k + 1 := ⟨c.toNat - 1, by omega⟩
  rw [hk, List.take_succ_cons]
  exact ⟨_, rfl⟩
theorem plI_mem {ps : List (Int × Int)} {c h n : Int} : n ∈ plI ps c h ↔ ∃ q : Nat, q < 256 ∧ h ∈ own ps c q ∧ n = (q : Int) := by
  unfold plI
  rw [List.mem_map]
  constructor
  · rintro ⟨q, m, rfl⟩
    rw [List.mem_filter, decide_eq_true_iff, List.mem_range] at m
    exact ⟨q, m.1, m.2, rfl⟩
  · rintro ⟨q, a, b, rfl⟩
    exact ⟨q, by rw [List.mem_filter, decide_eq_true_iff, List.mem_range]; exact ⟨a, b⟩, rfl⟩
theorem plI_nd (ps : List (Int × Int)) (c h : Int) : (plI ps c h).Nodup := by
  unfold plI List.Nodup
  rw [List.pairwise_map]
  exact List.Pairwise.imp (fun lt => by omega) (List.Pairwise.filter _ List.pairwise_lt_range)
/-- unlike places: no more than 256 -/
theorem places_few {ps : List (Int × Int)} (nd : (ps.map (·.1)).Nodup) (hp : ∀ p ∈ ps, 0 ≤ p.1 ∧ p.1 < 256) : ps.length ≤ 256 := by
  have nr : ((List.range 256).map fun i : Nat => (i : Int)).Nodup := by
    unfold List.Nodup
    rw [List.pairwise_map]
    exact List.Pairwise.imp (fun lt => by omega) List.pairwise_lt_range
  have := le_of_sub nd nr fun o ho => by
    obtain ⟨p, hm, rfl⟩ := List.mem_map.mp ho
    have := hp p hm
    exact List.mem_map.mpr ⟨p.1.toNat, List.mem_range.mpr (by omega), by omega⟩
  rw [List.length_map, List.length_map, List.length_range] at this
  exact this
theorem PtsAt.cat {H : Hp} {xs ys : List V} {ps qs : List (Int × Int)} (h : PtsAt H xs ps) (g : PtsAt H ys qs) : PtsAt H (xs ++ ys) (ps ++ qs) := by
  refine ⟨by rw [List.length_append, List.length_append, h.1, g.1], fun i x p a b => ?_⟩
  by_cases lt : i < xs.length
  · rw [List.getElem?_append_left lt] at a
    rw [List.getElem?_append_left (by rw [← h.1]; exact lt)] at b
    exact h.2 i x p a b
  · rw [List.getElem?_append_right (by omega)] at a
    rw [List.getElem?_append_right (by rw [← h.1]; omega), ← h.1] at b
    exact g.2 _ x p a b
end RH
namespace RH
open PySem L2
/-! ### clients and their numbers, in dicts of dicts -/
abbrev Gp := Int × Addr × List Int
def gKv (gs : List Gp) : List (Key × V) := gs.map fun g => (Sum.inl g.1, V.ref g.2.1)
def HasG (gs : List Gp) (c n : Int) : Prop := ∃ g ∈ gs, g.1 = c ∧ n ∈ g.2.2
def CliG (gs : List Gp) (c : Int) : Prop := ∃ g ∈ gs, g.1 = c
structure GpsAt (H0 H : Hp) (cd : Addr) (gs : List Gp) (N : Nat) : Prop where
  at_ : H cd = some (.dK (gKv gs))
  rows : ∀ g ∈ gs, H g.2.1 = some (.dK (bOf g.2.2))
  nd : (gs.map (·.1)).Nodup
  na : (gs.map (·.2.1)).Nodup
  ne : ∀ g ∈ gs, g.2.1 ≠ cd
  nn : ∀ g ∈ gs, g.2.2.Nodup
  new : ∀ g ∈ gs, H0 g.2.1 = none
  newd : H0 cd = none
  few : gs.length ≤ N
  fewn : ∀ g ∈ gs, g.2.2.length ≤ N
section
variable {H0 H H' : Hp} {cd : Addr} {gs : List Gp} {N : Nat}
theorem GpsAt.mono (g : GpsAt H0 H cd gs N) (s : Same H H') : GpsAt H0 H' cd gs N := ⟨s _ _ g.at_, fun x m => s _ _ (g.rows x m), g.nd, g.na, g.ne, g.nn, g.new, g.newd, g.few, g.fewn⟩
theorem GpsAt.wide {M : Nat} (g : GpsAt H0 H cd gs N) (l : N ≤ M) : GpsAt H0 H cd gs M := ⟨g.at_, g.rows, g.nd, g.na, g.ne, g.nn, g.new, g.newd, Nat.le_trans g.few l, fun x m => Nat.le_trans (g.fewn x m) l⟩
theorem GpsAt.start (h : H cd = some (.dK [])) (h0 : H0 cd = none) : GpsAt H0 H cd [] N := ⟨h, (fun _ m => nomatch m), .nil, .nil, (fun _ m => nomatch m), (fun _ m => nomatch m), (fun _ m => nomatch m), h0, Nat.zero_le _, (fun _ m => nomatch m)⟩
theorem gKv_none {c : Int} (h : ∀ g ∈ gs, g.1 ≠ c) : valV (gKv gs) (.inl c) = none := by
  unfold gKv
  induction gs with
  | nil => rfl
  | cons r ro ih =>
    rw [List.map_cons, valV_neg fun z => h r List.mem_cons_self (Sum.inl.inj z)]
    exact ih fun r hr => h r (List.mem_cons_of_mem _ hr)
theorem gKv_some {g : Gp} (nd : (gs.map (·.1)).Nodup) (m : g ∈ gs) : valV (gKv gs) (.inl g.1) = some (.ref g.2.1) := by
  unfold gKv
  induction gs with
  | nil => cases m
  | cons p rr ih =>
    rw [List.map_cons, List.nodup_cons] at nd
    rcases List.mem_cons.mp m with rfl | m
    · exact valV_pos rfl
    · rw [List.map_cons, valV_neg fun y => nd.1 (List.mem_map.mpr ⟨g, m, (Sum.inl.inj y).symm⟩)]
      exact ih nd.2 m
theorem gKv_or (nd : (gs.map (·.1)).Nodup) (c : Int) : (∃ g ∈ gs, g.1 = c ∧ valV (gKv gs) (.inl c) = some (.ref g.2.1)) ∨ ((∀ g ∈ gs, g.1 ≠ c) ∧ valV (gKv gs) (.inl c) = none) := by
  by_cases h : ∃ g ∈ gs, g.1 = c
  · obtain ⟨g, m, rfl⟩ := h
    exact .inl ⟨g, m, rfl, gKv_some nd m⟩
  · exact .inr ⟨fun g m z => h ⟨g, m, z⟩, gKv_none fun g m z => h ⟨g, m, z⟩⟩
/-- a client comes -/
theorem GpsAt.add {c : Int} {a : Addr} (g : GpsAt H0 H cd gs N) (h0 : H0 a = none) (no : ∀ x ∈ gs, x.1 ≠ c) (ha : H a = none) (e : upd (upd H a (.dK [])) cd (.dK (putK (gKv gs) (.inl c) (.ref a))) = H') : GpsAt H0 H' cd (gs ++ [(c, a, [])]) (N + 1) := by
  have nc : a ≠ cd := fun z => by rw [z, g.at_] at ha; cases ha
  have old : ∀ x ∈ gs, x.2.1 ≠ a := fun x m z => by rw [← z, g.rows x m] at ha; cases ha
  subst e
  refine ⟨?_, fun x m => ?_, ?_, ?_, fun x m => ?_, fun x m => ?_, fun x m => ?_, g.newd, ?_, fun x m => ?_⟩
  · rw [upd_same, putK_new _ (gKv_none no)]
    unfold gKv
    rw [List.map_append]
    rfl
  · rcases List.mem_append.mp m with m | m
    · rw [upd_ne (g.ne x m), upd_ne (old x m)]
      exact g.rows x m
    · rw [List.mem_singleton.mp m, upd_ne nc]
      exact upd_same
  · rw [List.map_append]
    exact List.nodup_append.mpr ⟨g.nd, by simp, fun p hp q hq z => by
      obtain ⟨x, m, rfl⟩ := List.mem_map.mp hp
      obtain rfl := List.mem_singleton.mp hq
      exact no x m z⟩
  · rw [List.map_append]
    exact List.nodup_append.mpr ⟨g.na, by simp, fun p hp q hq z => by
      obtain ⟨x, m, rfl⟩ := List.mem_map.mp hp
      obtain rfl := List.mem_singleton.mp hq
      exact old x m z⟩
  · rcases List.mem_append.mp m with m | m
    · exact g.ne x m
    · rw [List.mem_singleton.mp m]
      exact nc
  · rcases List.mem_append.mp m with m | m
    · exact g.nn x m
    · rw [List.mem_singleton.mp m]
      exact .nil
  · rcases List.mem_append.mp m with m | m
    · exact g.new x m
    · rw [List.mem_singleton.mp m]
      exact h0
  · rw [List.length_append]
    have := g.few
    simp
    omega
  · rcases List.mem_append.mp m with m | m
    · exact Nat.le_succ_of_le (g.fewn x m)
    · rw [List.mem_singleton.mp m]
      exact Nat.zero_le _
theorem hasG_add {c : Int} {a : Addr} {c' n : Int} : HasG (gs ++ [(c, a, [])]) c' n ↔ HasG gs c' n := by
  unfold HasG
  constructor
  · rintro ⟨g, m, e, h⟩
    rcases List.mem_append.mp m with m | m
    · exact ⟨g, m, e, h⟩
    · rw [List.mem_singleton.mp m] at h
      cases h
  · rintro ⟨g, m, e, h⟩
    exact ⟨g, List.mem_append_left _ m, e, h⟩
theorem cliG_add {c : Int} {a : Addr} {c' : Int} : CliG (gs ++ [(c, a, [])]) c' ↔ CliG gs c' ∨ c' = c := by
  unfold CliG
  constructor
  · rintro ⟨g, m, e⟩
    rcases List.mem_append.mp m with m | m
    · exact .inl ⟨g, m, e⟩
    · rw [List.mem_singleton.mp m] at e
      exact .inr e.symm
  · rintro (⟨g, m, e⟩ | rfl)
    · exact ⟨g, List.mem_append_left _ m, e⟩
    · exact ⟨_, List.mem_append_right _ (List.mem_singleton.mpr rfl), rfl⟩
theorem bOf_put {ns : List Int} {n : Int} : putK (bOf ns) (.inl n) (.bl true) = bOf (if n ∈ ns then ns else ns ++ [n]) := by
  by_cases h : n ∈ ns
  · rw [if_pos h]
    unfold putK
    have e : ((bOf ns).any fun kv => decide (kv.1 = (.inl n : Key))) = true := List.any_eq_true.mpr ⟨(.inl n, .bl true), List.mem_map.mpr ⟨n, h, rfl⟩, decide_eq_true rfl⟩
    rw [if_pos e]
    unfold bOf
    rw [List.map_map]
    refine List.map_congr_left fun k _ => ?_
    show (if (Sum.inl k : Key) = .inl n then ((Sum.inl k : Key), V.bl true) else (Sum.inl k, V.bl true)) = _
    split <;> rfl
  · rw [if_neg h]
    exact bOf_snoc h
/-- a number comes to a client -/
theorem GpsAt.put {g : Gp} {n : Int} (h : GpsAt H0 H cd gs N) (m : g ∈ gs) (e : upd H g.2.1 (.dK (putK (bOf g.2.2) (.inl n) (.bl true))) = H') :
    ∃ gs', GpsAt H0 H' cd gs' (N + 1) ∧ (∀ c k, HasG gs' c k ↔ HasG gs c k ∨ (c = g.1 ∧ k = n)) ∧ ∀ c, CliG gs' c ↔ CliG gs c := by
  have F : ∀ x : Gp, (if x.1 = g.1 then ((g.1, g.2.1, if n ∈ g.2.2 then g.2.2 else g.2.2 ++ [n]) : Gp) else x).1 = x.1 := fun x => by
    by_cases z : x.1 = g.1
    · rw [if_pos z]
      exact z.symm
    · rw [if_neg z]
  have uq : ∀ x ∈ gs, x.1 = g.1 → x = g := fun x mx z => inj_on h.nd mx m z
  have F2 : ∀ x ∈ gs, (if x.1 = g.1 then ((g.1, g.2.1, if n ∈ g.2.2 then g.2.2 else g.2.2 ++ [n]) : Gp) else x).2.1 = x.2.1 := fun x mx => by
    by_cases z : x.1 = g.1
    · rw [if_pos z, uq x mx z]
    · rw [if_neg z]
  have mem : ∀ y, y ∈ gs.map (fun x => if x.1 = g.1 then ((g.1, g.2.1, if n ∈ g.2.2 then g.2.2 else g.2.2 ++ [n]) : Gp) else x) ↔ y = (g.1, g.2.1, if n ∈ g.2.2 then g.2.2 else g.2.2 ++ [n]) ∨ (y ∈ gs ∧ y.1 ≠ g.1) := fun y => by
    rw [List.mem_map]
    constructor
    · rintro ⟨x, mx, rfl⟩
      by_cases z : x.1 = g.1
      · rw [if_pos z]
        exact .inl rfl
      · rw [if_neg z]
        exact .inr ⟨mx, z⟩
    · rintro (rfl | ⟨mx, z⟩)
      · exact ⟨g, m, if_pos rfl⟩
      · exact ⟨y, mx, if_neg z⟩
  have memN : ∀ k, k ∈ (if n ∈ g.2.2 then g.2.2 else g.2.2 ++ [n]) ↔ k ∈ g.2.2 ∨ k = n := fun k => by
    by_cases z : n ∈ g.2.2
    · rw [if_pos z]
      exact ⟨.inl, fun y => y.elim id fun y => y ▸ z⟩
    · rw [if_neg z, List.mem_append, List.mem_singleton]
  rw [bOf_put] at e
  subst e
  refine ⟨gs.map fun x => if x.1 = g.1 then (g.1, g.2.1, if n ∈ g.2.2 then g.2.2 else g.2.2 ++ [n]) else x, ⟨?_, fun x mx => ?_, ?_, ?_, fun x mx => ?_, fun x mx => ?_, fun x mx => ?_, h.newd, ?_, fun x mx => ?_⟩, fun c k => ?_, fun c => ?_⟩
  · rw [upd_ne (h.ne g m).symm, h.at_]
    congr 2
    unfold gKv
    rw [List.map_map]
    refine List.map_congr_left fun x mx => ?_
    show _ = ((Sum.inl (if x.1 = g.1 then ((g.1, g.2.1, if n ∈ g.2.2 then g.2.2 else g.2.2 ++ [n]) : Gp) else x).1 : Key), V.ref (if x.1 = g.1 then ((g.1, g.2.1, if n ∈ g.2.2 then g.2.2 else g.2.2 ++ [n]) : Gp) else x).2.1)
    rw [F x, F2 x mx]
  · rcases (mem x).mp mx with rfl | ⟨mx, z⟩
    · exact upd_same
    · rw [upd_ne fun y => z (by rw [inj_on h.na mx m y])]
      exact h.rows x mx
  · rw [List.map_map]
    have e : gs.map ((fun x : Gp => x.1) ∘ fun x => if x.1 = g.1 then ((g.1, g.2.1, if n ∈ g.2.2 then g.2.2 else g.2.2 ++ [n]) : Gp) else x) = gs.map (·.1) := List.map_congr_left fun x _ => F x
    rw [e]
    exact h.nd
  · rw [List.map_map]
    have e : gs.map ((fun x : Gp => x.2.1) ∘ fun x => if x.1 = g.1 then ((g.1, g.2.1, if n ∈ g.2.2 then g.2.2 else g.2.2 ++ [n]) : Gp) else x) = gs.map (·.2.1) := List.map_congr_left fun x mx => F2 x mx
    rw [e]
    exact h.na
  · rcases (mem x).mp mx with rfl | ⟨mx, z⟩
    · exact h.ne g m
    · exact h.ne x mx
  · rcases (mem x).mp mx with rfl | ⟨mx, z⟩
    · show (if n ∈ g.2.2 then g.2.2 else g.2.2 ++ [n]).Nodup
      by_cases z : n ∈ g.2.2
      · rw [if_pos z]
        exact h.nn g m
      · rw [if_neg z]
        refine List.nodup_append.mpr ⟨h.nn g m, by simp, fun a ha b hb y => z ?_⟩
        rw [← List.mem_singleton.mp hb, ← y]
        exact ha
    · exact h.nn x mx
  · rcases (mem x).mp mx with rfl | ⟨mx, z⟩
    · exact h.new g m
    · exact h.new x mx
  · rw [List.length_map]
    exact Nat.le_succ_of_le h.few
  · rcases (mem x).mp mx with rfl | ⟨mx, z⟩
    · show (if n ∈ g.2.2 then g.2.2 else g.2.2 ++ [n]).length ≤ N + 1
      have := h.fewn g m
      by_cases z : n ∈ g.2.2
      · rw [if_pos z]
        omega
      · rw [if_neg z, List.length_append, List.length_singleton]
        omega
    · exact Nat.le_succ_of_le (h.fewn x mx)
  · unfold HasG
    constructor
    · rintro ⟨x, mx, rfl, hk⟩
      rcases (mem x).mp mx with rfl | ⟨mx, z⟩
      · rcases (memN k).mp hk with y | y
        · exact .inl ⟨g, m, rfl, y⟩
        · exact .inr ⟨rfl, y⟩
      · exact .inl ⟨x, mx, rfl, hk⟩
    · rintro (⟨x, mx, rfl, hk⟩ | ⟨rfl, rfl⟩)
      · by_cases z : x.1 = g.1
        · rw [uq x mx z] at hk ⊢
          exact ⟨_, (mem _).mpr (.inl rfl), rfl, (memN k).mpr (.inl hk)⟩
        · exact ⟨x, (mem x).mpr (.inr ⟨mx, z⟩), rfl, hk⟩
      · exact ⟨_, (mem _).mpr (.inl rfl), rfl, (memN _).mpr (.inr rfl)⟩
  · unfold CliG
    constructor
    · rintro ⟨x, mx, rfl⟩
      rcases (mem x).mp mx with rfl | ⟨mx, z⟩
      · exact ⟨g, m, rfl⟩
      · exact ⟨x, mx, rfl⟩
    · rintro ⟨x, mx, rfl⟩
      by_cases z : x.1 = g.1
      · exact ⟨_, (mem _).mpr (.inl rfl), z.symm⟩
      · exact ⟨x, (mem x).mpr (.inr ⟨mx, z⟩), rfl⟩
end
/-! ### how far the numbers go without a hole -/
def upStep (ns : List Int) (u : Int) : Int := if u + 1 ∈ ns then u + 1 else u
def upRun (ns : List Int) (b : Int) : Nat → Int
  | 0 => b
  | k + 1 => upStep ns (upRun ns b k)
theorem up_in {ns : List Int} {b : Int} : ∀ k, b ≤ upRun ns b k ∧ (∀ j, b < j → j ≤ upRun ns b k → j ∈ ns) ∧ (upRun ns b k = b + k ∨ upRun ns b k + 1 ∉ ns)
  | 0 => ⟨Int.le_refl b, fun j h1 h2 => by have : upRun ns b 0 = b := rfl; omega, .inl (by show b = b + ((0 : Nat) : Int); omega)⟩
  | k + 1 => by
    obtain ⟨h1, h2, h3⟩ := up_in (ns := ns) (b := b) k
    show b ≤ upStep ns (upRun ns b k) ∧ (∀ j, b < j → j ≤ upStep ns (upRun ns b k) → j ∈ ns) ∧ (upStep ns (upRun ns b k) = b + (k + 1 : Nat) ∨ upStep ns (upRun ns b k) + 1 ∉ ns)
    unfold upStep
    by_cases z : upRun ns b k + 1 ∈ ns
    · rw [if_pos z]
      refine ⟨by omega, fun j g1 g2 => ?_, .inl ?_⟩
      · by_cases e : j = upRun ns b k + 1
        · exact e ▸ z
        · exact h2 j g1 (by omega)
      · rcases h3 with h3 | h3
        · omega
        · exact absurd z h3
    · rw [if_neg z]
      exact ⟨h1, h2, .inr z⟩
theorem up_end {ns : List Int} {b : Int} : upRun ns b ns.length + 1 ∉ ns := by
  obtain ⟨h1, h2, h3⟩ := up_in (ns := ns) (b := b) ns.length
  rcases h3 with h3 | h3
  · intro z
    have nd : ((List.range (ns.length + 1)).map fun i : Nat => b + 1 + (i : Int)).Nodup := by
      unfold List.Nodup
      rw [List.pairwise_map]
      exact List.pairwise_lt_range.imp fun h => by omega
    have := nodup_le nd (b := ns) fun k hk => by
      obtain ⟨i, hi, rfl⟩ := List.mem_map.mp hk
      rw [List.mem_range] at hi
      by_cases e : i = ns.length
      · rw [e]
        have : b + 1 + (ns.length : Int) = upRun ns b ns.length + 1 := by omega
        rw [this]
        exact z
      · exact h2 _ (by omega) (by omega)
    rw [List.length_map, List.length_range] at this
    omega
  · exact h3
/-- the row of a client: base, numbers -/
theorem row_made {ns so : List Int} {b : Int} (b0 : 0 ≤ b) (asc : so.Pairwise (· < ·)) (mem : ∀ k, k ∈ so ↔ k ∈ ns) :
    NF (upRun ns b ns.length) (so.filter fun k => decide (upRun ns b ns.length < k)) ∧ ∀ k, 1 ≤ k → (InP (upRun ns b ns.length) (so.filter fun k => decide (upRun ns b ns.length < k)) k ↔ k ≤ b ∨ k ∈ ns) := by
  obtain ⟨h1, h2, _⟩ := up_in (ns := ns) (b := b) ns.length
  have h3 := up_end (ns := ns) (b := b)
  generalize upRun ns b ns.length = u at h1 h2 h3
  refine ⟨⟨by omega, asc.filter _, fun k hk => ?_⟩, fun k k1 => ?_⟩
  · obtain ⟨m, l⟩ := List.mem_filter.mp hk
    have l := of_decide_eq_true l
    have n : k ≠ u + 1 := fun z => h3 (z ▸ (mem k).mp m)
    omega
  · unfold InP
    rw [List.mem_filter, mem k, decide_eq_true_iff]
    constructor
    · rintro (z | ⟨z, _⟩)
      · by_cases y : k ≤ b
        · exact .inl y
        · exact .inr (h2 k (by omega) z)
      · exact .inr z
    · rintro (z | z)
      · exact .inl (by omega)
      · by_cases y : k ≤ u
        · exact .inl y
        · exact .inr ⟨z, by omega⟩
end RH
namespace RH
open PySem L2
/-! ### trees of ints, texts, None -/
def LeafV (d : D) : Prop := (∃ i, d = .int i) ∨ (∃ z, d = .str z) ∨ d = .non
def TreeV : Nat → D → Prop
  | 0, d => LeafV d
  | n + 1, d => LeafV d ∨ ∃ ds, d = .tup ds ∧ ∀ e ∈ ds, TreeV n e
theorem TreeV.int {n : Nat} (i : Int) : TreeV n (.int i) := by
  cases n with
  | zero => exact .inl ⟨i, rfl⟩
  | succ n => exact .inl (.inl ⟨i, rfl⟩)
theorem TreeV.str {n : Nat} (z : Str) : TreeV n (.str z) := by
  cases n with
  | zero => exact .inr (.inl ⟨z, rfl⟩)
  | succ n => exact .inl (.inr (.inl ⟨z, rfl⟩))
theorem TreeV.tup {n : Nat} {ds : List D} (h : ∀ e ∈ ds, TreeV n e) : TreeV (n + 1) (.tup ds) := .inr ⟨ds, rfl, h⟩
def spSame (K : PySem.W.Frag) (CC : Addr → Prop) (n : Nat) : Sp := fun vs H Q _ => ∃ (v u : V) (d : D), vs = [v, u] ∧ Rep K CC H v d ∧ Rep K CC H u d ∧ TreeV n d ∧ ∀ H', Same H H' → Q (.bl true) H'
def spSm (K : PySem.W.Frag) (CC : Addr → Prop) : Nat → Sp
  | 0 => fun _ _ _ _ => False
  | n + 1 => spSame K CC n
theorem tree_cv {n : Nat} (rows : RV) : TreeV (n + 3) (cvD rows) := by
  refine TreeV.tup fun e m => ?_
  obtain ⟨r, _, rfl⟩ := List.mem_map.mp m
  refine TreeV.tup fun e m => ?_
  rcases List.mem_cons.mp m with rfl | m
  · exact TreeV.int _
  rcases List.mem_cons.mp m with rfl | m
  · exact TreeV.int _
  rcases List.mem_cons.mp m with rfl | m
  · refine TreeV.tup fun e m => ?_
    obtain ⟨k, _, rfl⟩ := List.mem_map.mp m
    exact TreeV.int _
  · cases m
end RH
namespace RH
open PySem L2
theorem nodup_leG {α : Type} [DecidableEq α] : ∀ {a b : List α}, a.Nodup → (∀ x ∈ a, x ∈ b) → a.length ≤ b.length
  | [], _, _, _ => Nat.zero_le _
  | x :: a, b, nd, h => by
    rw [List.nodup_cons] at nd
    have hx := h x List.mem_cons_self
    have ih := nodup_leG (a := a) (b := b.erase x) nd.2 fun y hy => (List.mem_erase_of_ne (a := y) (b := x) fun z : y = x => nd.1 (z ▸ hy)).mpr (h y (List.mem_cons_of_mem _ hy))
    rw [List.length_erase_of_mem hx] at ih
    have := List.length_pos_of_mem hx
    rw [List.length_cons]
    omega
/-- the later numbers, with their clients -/
def flV (rows : RV) : List (Int × Int) := rows.flatMap fun r => r.2.2.map fun k => (r.1, k)
theorem flV_cons (r : Int × Int × List Int) (rows : RV) : flV (r :: rows) = (r.2.2.map fun k => (r.1, k)) ++ flV rows := rfl
theorem flV_mem {rows : RV} {d : Int × Int} : d ∈ flV rows ↔ ∃ r ∈ rows, r.1 = d.1 ∧ d.2 ∈ r.2.2 := by
  unfold flV
  rw [List.mem_flatMap]
  constructor
  · rintro ⟨r, m, h⟩
    obtain ⟨k, hk, rfl⟩ := List.mem_map.mp h
    exact ⟨r, m, rfl, hk⟩
  · rintro ⟨r, m, e, h⟩
    exact ⟨r, m, List.mem_map.mpr ⟨d.2, h, by rw [e]⟩⟩
theorem flV_nodup : ∀ {rows : RV}, CanR rows → (flV rows).Nodup
  | [], _ => .nil
  | r :: rows, h => by
    obtain ⟨t, l⟩ := h.tail
    rw [flV_cons]
    refine List.nodup_append.mpr ⟨?_, flV_nodup t, fun a ha b hb e => ?_⟩
    · unfold List.Nodup
      rw [List.pairwise_map]
      exact (h.nf r List.mem_cons_self).asc.imp fun {a b} g z => by
        have := (Prod.mk.inj z).2
        omega
    · obtain ⟨k, _, rfl⟩ := List.mem_map.mp ha
      obtain ⟨q, mq, e2, _⟩ := flV_mem.mp hb
      have := l q mq
      rw [← e] at e2
      dsimp only at e2
      omega
theorem wtV_fl : ∀ rows : RV, wtV rows = rows.length + (flV rows).length
  | [] => rfl
  | r :: rows => by
    have e : wtV (r :: rows) = (1 + r.2.2.length) + wtV rows := by
      unfold wtV
      rw [List.map_cons, List.sum_cons]
    rw [e, wtV_fl rows, flV_cons, List.length_append, List.length_map, List.length_cons]
    omega
theorem row_of {rows : RV} {S : DotS} (can : CanV rows S) {r : Int × Int × List Int} (m : r ∈ rows) {k : Int} (k1 : 1 ≤ k) : InP r.2.1 r.2.2 k ↔ S r.1 k := by
  rw [← can.2 r.1 k k1]
  constructor
  · exact fun h => ⟨r, m, rfl, h⟩
  · rintro ⟨q, mq, e, h⟩
    have nd : (rows.map (·.1)).Nodup := can.1.asc.imp fun h => by omega
    rw [inj_on nd mq m e] at h
    exact h
/-- how much stands in the value: no more than clients and single dots -/
theorem tight {rows : RV} {S : DotS} (can : CanV rows S) {ps : List (Int × Int)} {cs : List Int} (h : ∀ c k, 1 ≤ k → S c k → (c, k) ∈ ps ∨ ∀ j, 1 ≤ j → j ≤ k → S c j) (hc : ∀ c k, 1 ≤ k → S c k → c ∈ cs) : wtV rows ≤ cs.length + ps.length := by
  have e1 : rows.length ≤ cs.length := by
    have nd : (rows.map (·.1)).Nodup := can.1.asc.imp fun h => by omega
    have := nodup_leG nd (b := cs) fun c m => by
      obtain ⟨r, mr, rfl⟩ := List.mem_map.mp m
      obtain ⟨k, k1, hk⟩ := row_has (can.1.nf r mr) (can.1.some r mr)
      exact hc r.1 k k1 ((row_of can mr k1).mp hk)
    rw [List.length_map] at this
    exact this
  have e2 : (flV rows).length ≤ ps.length := nodup_leG (flV_nodup can.1) fun d m => by
    obtain ⟨r, mr, e, hk⟩ := flV_mem.mp m
    have nf := can.1.nf r mr
    have g := nf.gap _ hk
    have n := nf.nn
    rcases h r.1 d.2 (by omega) ((row_of can mr (by omega)).mp (.inr hk)) with z | z
    · rw [e] at z
      exact z
    · exfalso
      rcases (row_of can mr (k := r.2.1 + 1) (by omega)).mpr (z _ (by omega) (by omega)) with y | y
      · omega
      · have := nf.gap _ y
        omega
  rw [wtV_fl]
  omega
theorem ClkS.tight {C : Addr} {N : Nat} {H : Hp} {x : Addr} {S : DotS} (cx : ClkS C N H x S) {ps : List (Int × Int)} {cs : List Int} (h : ∀ c k, 1 ≤ k → S c k → (c, k) ∈ ps ∨ ∀ j, 1 ≤ j → j ≤ k → S c j) (hc : ∀ c k, 1 ≤ k → S c k → c ∈ cs) : ClkS C (cs.length + ps.length) H x S := by
  obtain ⟨dx, d, ro, a, b, ok, w, g⟩ := cx
  obtain ⟨zs, pz, _, can⟩ := can_ex ok g
  have := RH.tight can h hc
  rw [wtV_rw, wtR_perm pz] at this
  exact ⟨dx, d, ro, a, b, ok, this, g⟩
/-- a value that a list of dots and a dict of bases make -/
def baseS (bs : List (Int × Int)) : DotS := fun c k => ∃ b ∈ bs, b.1 = c ∧ k ≤ b.2
def spCval : Sp := fun vs H Q _ => ∃ (l bd : Addr) (xs : List V) (ps bs : List (Int × Int)), vs = [.ref l, .ref bd] ∧ H l = some (.lst xs) ∧ PtsAt H xs ps ∧ xs.length ≤ 450 ∧ (∀ d ∈ ps, 1 ≤ d.2) ∧ H bd = some (.dK (dOf bs)) ∧ (bs.map (·.1)).Nodup ∧ bs.length ≤ 50 ∧ (∀ b ∈ bs, 0 ≤ b.2) ∧
  ∀ v rows H', Same H H' → CanV rows (orS (inL ps) (baseS bs)) → ValAt H' (.ref v) rows → Q (.ref v) H'
theorem lock_same {H H' : Hp} {d : Addr} {o u : HO} (h : H d = some o) (s : Same (upd H d u) H') : Same H (upd H' d o) := fun b x z => by
  by_cases n : b = d
  · rw [n] at z ⊢
    rw [h] at z
    rw [← z]
    exact upd_same
  · rw [upd_ne n]
    exact s _ _ (by rw [upd_ne n]; exact z)
theorem baseS_at {bs : List (Int × Int)} (nd : (bs.map (·.1)).Nodup) {b : Int × Int} (m : b ∈ bs) {k : Int} : baseS bs b.1 k ↔ k ≤ b.2 := by
  constructor
  · rintro ⟨q, mq, e, h⟩
    rw [inj_on nd mq m e] at h
    exact h
  · exact fun h => ⟨b, m, rfl, h⟩
end RH
namespace RH
open PySem L2
/-- rows for the first clients -/
structure RowsUp (rows : RV) (cs : List Int) (S : DotS) : Prop where
  can : CanR rows
  cl : ∀ r ∈ rows, r.1 ∈ cs
  has : ∀ c k, 1 ≤ k → (HasV rows c k ↔ c ∈ cs ∧ S c k)
theorem RowsUp.zero {S : DotS} : RowsUp [] [] S := ⟨⟨.nil, (fun _ m => nomatch m), (fun _ m => nomatch m)⟩, (fun _ m => nomatch m), fun c k _ => ⟨fun ⟨_, m, _⟩ => (nomatch m), fun ⟨m, _⟩ => (nomatch m)⟩⟩
theorem RowsUp.add {rows : RV} {cs : List Int} {S : DotS} {c u : Int} {l : List Int} (h : RowsUp rows cs S) (asc : ∀ d ∈ cs, d < c) (nf : NF u l) (sm : 0 < u ∨ l ≠ []) (inp : ∀ k, 1 ≤ k → (InP u l k ↔ S c k)) : RowsUp (rows ++ [(c, u, l)]) (cs ++ [c]) S := by
  refine ⟨⟨?_, fun r m => ?_, fun r m => ?_⟩, fun r m => ?_, fun d k k1 => ?_⟩
  · rw [List.map_append]
    refine List.pairwise_append.mpr ⟨h.can.asc, List.pairwise_singleton .., fun a ha b hb => ?_⟩
    obtain ⟨r, m, rfl⟩ := List.mem_map.mp ha
    rw [List.map_cons, List.map_nil, List.mem_singleton] at hb
    rw [hb]
    exact asc _ (h.cl r m)
  · rcases List.mem_append.mp m with m | m
    · exact h.can.nf r m
    · rw [List.mem_singleton.mp m]
      exact nf
  · rcases List.mem_append.mp m with m | m
    · exact h.can.some r m
    · rw [List.mem_singleton.mp m]
      exact sm
  · rcases List.mem_append.mp m with m | m
    · exact List.mem_append_left _ (h.cl r m)
    · rw [List.mem_singleton.mp m]
      exact List.mem_append_right _ (List.mem_singleton.mpr rfl)
  · have e : HasV (rows ++ [(c, u, l)]) d k ↔ HasV rows d k ∨ (c = d ∧ InP u l k) := by
      unfold HasV
      constructor
      · rintro ⟨r, m, z⟩
        rcases List.mem_append.mp m with m | m
        · exact .inl ⟨r, m, z⟩
        · rw [List.mem_singleton.mp m] at z
          exact .inr z
      · rintro (⟨r, m, z⟩ | z)
        · exact ⟨r, List.mem_append_left _ m, z⟩
        · exact ⟨_, List.mem_append_right _ (List.mem_singleton.mpr rfl), z⟩
    rw [e, h.has d k k1, List.mem_append, List.mem_singleton]
    constructor
    · rintro (⟨m, z⟩ | ⟨rfl, z⟩)
      · exact ⟨.inl m, z⟩
      · exact ⟨.inr rfl, (inp k k1).mp z⟩
    · rintro ⟨m | rfl, z⟩
      · exact .inl ⟨m, z⟩
      · exact .inr ⟨rfl, (inp k k1).mpr z⟩
theorem RowsUp.skip {rows : RV} {cs : List Int} {S : DotS} {c : Int} (h : RowsUp rows cs S) (no : ∀ k, 1 ≤ k → ¬ S c k) : RowsUp rows (cs ++ [c]) S := by
  refine ⟨h.can, fun r m => List.mem_append_left _ (h.cl r m), fun d k k1 => ?_⟩
  rw [h.has d k k1, List.mem_append, List.mem_singleton]
  constructor
  · exact fun ⟨m, z⟩ => ⟨.inl m, z⟩
  · rintro ⟨m | rfl, z⟩
    · exact ⟨m, z⟩
    · exact absurd z (no k k1)
/-- a client's base -/
def bvOf (bs : List (Int × Int)) (c : Int) : Int := (atF bs c).getD 0
theorem bv_at {bs : List (Int × Int)} (nd : (bs.map (·.1)).Nodup) (pos : ∀ b ∈ bs, 0 ≤ b.2) (c : Int) : 0 ≤ bvOf bs c ∧ (∀ k, 1 ≤ k → (k ≤ bvOf bs c ↔ baseS bs c k)) ∧ ((valV (dOf bs) (.inl c)).getD (.int 0) = .int (bvOf bs c)) := by
  unfold bvOf
  rw [dOf_val]
  cases e : atF bs c with
  | none =>
    refine ⟨Int.le_refl 0, fun k k1 => ⟨fun z => absurd z (by show ¬ k ≤ 0; omega), fun ⟨b, m, e2, _⟩ => ?_⟩, rfl⟩
    exfalso
    unfold atF at e
    rw [Option.map_eq_none_iff, List.find?_eq_none] at e
    exact e b m (by simpa using e2)
  | some u =>
    unfold atF at e
    obtain ⟨b, hb, rfl⟩ := Option.map_eq_some_iff.mp e
    have m := List.mem_of_find?_eq_some hb
    have e1 : b.1 = c := by simpa using List.find?_some hb
    subst e1
    exact ⟨pos b m, fun k k1 => (baseS_at nd m).symm, rfl⟩
end RH
namespace RH
open PySem L2
theorem r_dinV {td ty : TE} {σ : L2.St} {H : Hp} {Q : VK} (h : ty σ H fun y H1 => td σ H1 fun x H2 => ∃ a o, x = V.ref a ∧ DGet H2 a y o ∧ Q (.bl o.isSome) H2) : tDIn ty td σ H Q := h
theorem up_yes {ns : List Int} {b : Int} {j : Nat} (z : upRun ns b j + 1 ∈ ns) : upRun ns b (j + 1) = upRun ns b j + 1 := by
  show upStep ns (upRun ns b j) = _
  unfold upStep
  rw [if_pos z]
theorem up_no {ns : List Int} {b : Int} {j : Nat} (z : ¬ upRun ns b j + 1 ∈ ns) : upRun ns b (j + 1) = upRun ns b j := by
  show upStep ns (upRun ns b j) = _
  unfold upStep
  rw [if_neg z]
end RH
namespace RH
open PySem L2
theorem r_rng2V {ta : TA} {σ : L2.St} {H : Hp} {R : It → Hp → Prop} (h : ta σ H fun vs H1 => ∃ i j : Int, vs = [.int i, .int j] ∧ (-(2 ^ 62) ≤ i ∧ i < 2 ^ 62 ∧ -(2 ^ 62) ≤ j ∧ j < 2 ^ 62) ∧ R (Itr i (j - i).toNat) H1) : iRng2 ta σ H R := h
def lim12 : Int := 1000000000000
def spNumR : Sp := fun vs H Q _ => ∃ r : Addr, vs = [.ref r] ∧ Row H r ∧ ∀ i H', Fr r H H' → Row H' r → 0 ≤ i → i ≤ lim12 → Q (.int i) H'
def spDotR : Sp := fun vs H Q _ => ∃ (r c : Addr) (ns : List Int), vs = [.ref r, .ref c] ∧ Row H r ∧ c ≠ r ∧ H c = some (.lst (ns.map V.int)) ∧ 0 < ns.length ∧ ns.length ≤ 1000 ∧
  ∀ p cl j H', Fr r H H' → Row H' r → p ≠ r → H p = none → H' p = some (.tup [.int cl, .int j]) → cl ∈ ns → 1 ≤ j → j ≤ lim12 → Q (.ref p) H'
/-- [v for .. in ..], each off the row at r, the values told by a property -/
theorem lc_R {r : Addr} {J : It} {n : Nat} {G : Hp → Prop} {Y : Nat → Hp → V → Hp → Prop} {Y' : Nat → V → Prop} (wk : Walk J n G Y) (hY : ∀ i H x H', Y i H x H' → H' = H ∧ Y' i x) {g : TG} {te : TE} {vs : List Nat} {σ : L2.St} {H1 : Hp} {D : Addr} {Qd : Hp → Prop} (Pr : Nat → Hp → V → Prop) (mono : ∀ i H H' v, Pr i H v → Same H H' → Pr i H' v) (hs : n ≤ 1000) (hD : H1 D = none) (hr : Row H1 r) (hG : ∀ H, Fr r H1 H → G H)
    (step : ∀ (i : Nat) x H ys, i < n → Y' i x → Fr r H1 H → Row H r → H D = some (.lst ys) → ∀ Q : VK, (∀ v H', Fr r H H' → Row H' r → Pr i (W2 H' D r) v → Q v H') → g x (wipe σ vs) H fun σ2 H2 => wipe σ2 vs = wipe σ vs ∧ te σ2 H2 Q)
    (hd : ∀ H xs, Fr r H1 H → Row H r → H D = some (.lst xs) → xs.length = n → (∀ i v, xs[i]? = some v → Pr i H v) → Qd H) : LcGo J g tYes te vs σ D Qd H1 := by
  have rD : D ≠ r := fun z => hr.ne (z ▸ hD)
  refine lc_it wk (g := g) (tt := tYes) (te := te) (fun i H => Fr r H1 H ∧ Row H r ∧ ∃ xs, H D = some (.lst xs) ∧ xs.length = i ∧ ∀ j v, xs[j]? = some v → Pr j (W2 H D r) v) ⟨Fr.new hD, hr.upd hD, [], upd_same, rfl, fun j v h => by cases h⟩ (fun _ H _ p => hG H p.1) ?_ ?_
  · rintro i x H H' hi ⟨f, row, xs, at_, lx, px⟩ y
    obtain ⟨rfl, y'⟩ := hY i H x H' y
    refine step i x H' xs hi y' f row at_ _ fun v H4 f4 row4 pv => ⟨xs, f4 _ _ rD at_, small1000 (by omega), fun b o n e => ?_, row4.setne rD, xs ++ [v], upd_same, by rw [List.length_append, lx]; rfl, fun j u hj => ?_⟩
    · rw [upd_ne (ne_of_none e hD)]
      exact f4 _ _ n (f _ _ n e)
    · have w1 : Same (W2 H' D r) (W2 H4 D r) := w2_mono fun b o _ m z => f4 b o m z
      have w2 : Same (W2 H4 D r) (W2 (upd H4 D (.lst (xs ++ [v]))) D r) := w2_mono fun b o n _ z => by rw [upd_ne n]; exact z
      rcases Nat.lt_or_ge j xs.length with z | z
      · rw [List.getElem?_append_left z] at hj
        exact mono _ _ _ _ (px j u hj) (w1.trans w2)
      · rw [List.getElem?_append_right z] at hj
        have z0 : j - xs.length = 0 := by
          have := (List.getElem?_eq_some_iff.mp hj).1
          rw [List.length_singleton] at this
          omega
        rw [z0] at hj
        obtain rfl : v = u := Option.some.inj hj
        have : j = i := by omega
        subst this
        exact mono _ _ _ _ pv w2
  · rintro H ⟨f, row, xs, at_, lx, px⟩
    exact hd H xs f row at_ lx fun i v h => mono _ _ _ _ (px i v h) w2_in
theorem ints_of {xs : List V} (h : ∀ (i : Nat) v, xs[i]? = some v → ∃ n : Int, v = .int n) : ∃ ns : List Int, xs = ns.map V.int := by
  induction xs with
  | nil => exact ⟨[], rfl⟩
  | cons x xs ih =>
    obtain ⟨n, rfl⟩ := h 0 x rfl
    obtain ⟨ns, e⟩ := ih fun i v z => h (i + 1) v z
    exact ⟨n :: ns, by rw [e]; rfl⟩
theorem pts_of {H : Hp} {P : Int × Int → Prop} : ∀ {xs : List V}, (∀ (i : Nat) v, xs[i]? = some v → ∃ d, PtAt H v d ∧ P d) → ∃ ps, PtsAt H xs ps ∧ ∀ d ∈ ps, P d
  | [], _ => ⟨[], PtsAt.nil, (fun _ m => nomatch m)⟩
  | x :: xs, h => by
    obtain ⟨d, hd, pd⟩ := h 0 x rfl
    obtain ⟨ps, hp, pp⟩ := pts_of (xs := xs) fun i v z => h (i + 1) v z
    refine ⟨d :: ps, ⟨by rw [List.length_cons, List.length_cons, hp.1], fun i y q a b => ?_⟩, fun e m => ?_⟩
    · match i, a, b with
      | 0, a, b =>
        cases a
        cases b
        exact hd
      | i + 1, a, b => exact hp.2 i y q a b
    · rcases List.mem_cons.mp m with rfl | m
      · exact pd
      · exact pp e m
theorem PtsAt.app {H : Hp} {xs ys : List V} {ps qs : List (Int × Int)} (h : PtsAt H xs ps) (k : PtsAt H ys qs) : PtsAt H (xs ++ ys) (ps ++ qs) := by
  refine ⟨by rw [List.length_append, List.length_append, h.1, k.1], fun i x p a b => ?_⟩
  rcases Nat.lt_or_ge i xs.length with z | z
  · rw [List.getElem?_append_left z] at a
    rw [List.getElem?_append_left (by rw [← h.1]; exact z)] at b
    exact h.2 i x p a b
  · rw [List.getElem?_append_right z] at a
    rw [List.getElem?_append_right (by rw [← h.1]; exact z), ← h.1] at b
    exact k.2 _ x p a b
theorem PtsAt.take {H : Hp} {xs : List V} {ps : List (Int × Int)} (h : PtsAt H xs ps) (n : Nat) : PtsAt H (xs.take n) (ps.take n) := by
  refine ⟨by rw [List.length_take, List.length_take, h.1], fun i x p a b => ?_⟩
  rw [List.getElem?_take] at a b
  split at a
  · rename_i z
    rw [if_pos z] at b
    exact h.2 i x p a b
  · cases a
/-- the dots of k04's law -/
def spDots4 (K : PySem.W.Frag) : Sp := fun vs H Q _ => ∃ (a : Addr) (ns : List Int), vs = [.ref a] ∧ SqL K H a (ns.map V.int) ∧ ns.length ≤ 63 ∧
  ∀ l xs ps H', Same H H' → H' l = some (.lst xs) → H l = none → PtsAt H' xs ps → (∀ d ∈ ps, 1 ≤ d.2) → xs.length ≤ 130 → Q (.ref l) H'
end RH
namespace RH
open PySem L2
def spStranger : Sp := fun vs H Q _ => ∃ (l : Addr) (xs : List V) (ps : List (Int × Int)), vs = [.ref l] ∧ H l = some (.lst xs) ∧ PtsAt H xs ps ∧ xs.length ≤ 450 ∧ ∀ c H', Same H H' → (∀ k, (c, k) ∉ ps) → Q (.int c) H'
def spSize4 : Sp := fun vs H Q _ => ∃ (v : Addr) (rows : RV), vs = [.ref v] ∧ ValAt H (.ref v) rows ∧ rows.length ≤ 1000 ∧ ∀ H', Same H H' → Q (.int (szV rows)) H'
def spNextDue (C : Addr) : Sp := fun vs H Q _ => ∃ (x l : Addr) (c : Int) (N : Nat) (S : DotS) (xs : List V) (ps : List (Int × Int)), vs = [.ref x, .int c, .ref l] ∧ ClkS C N H x S ∧ N ≤ 1000 ∧ H l = some (.lst xs) ∧ PtsAt H xs ps ∧ xs.length ≤ 450 ∧ (∀ d ∈ ps, 1 ≤ d.2) ∧ (∀ k, 1 ≤ k → (S c k ↔ (c, k) ∈ ps)) ∧
  ∀ H', Same H H' → Q (.bl true) H'
def spHolds4 (C : Addr) : Sp := fun vs H Q _ => ∃ (x l v : Addr) (N : Nat) (S : DotS) (xs : List V) (ps : List (Int × Int)) (rows : RV), vs = [.ref x, .ref l, .ref v] ∧ ClkS C N H x S ∧ N ≤ 1000 ∧ H l = some (.lst xs) ∧ PtsAt H xs ps ∧ xs.length ≤ 300 ∧ (∀ d ∈ ps, 1 ≤ d.2) ∧ ValAt H (.ref v) rows ∧ CanV rows S ∧
  (∀ c k, 1 ≤ k → (S c k ↔ (c, k) ∈ ps)) ∧ ∀ H', Same H H' → Q (.bl true) H'
theorem r_tupJ {K : PySem.W.Frag} {σ : L2.St} {H : Hp} {tl : TE} {R : It → Hp → Prop} (h : tl σ H fun x H1 => ∃ a, x = V.ref a ∧ (∃ xs, SqT K H1 a xs) ∧ R (Itt K a) H1) : iTup K tl σ H R := h
theorem no_room {cs : List Int} {n : Nat} (h : ∀ i : Nat, i < n → (i : Int) ∈ cs) : n ≤ cs.length := by
  have nd : ((List.range n).map fun i : Nat => (i : Int)).Nodup := by
    unfold List.Nodup
    rw [List.pairwise_map]
    exact List.pairwise_lt_range.imp fun h => by omega
  have := nodup_le nd (b := cs) fun k hk => by
    obtain ⟨i, hi, rfl⟩ := List.mem_map.mp hk
    exact h i (List.mem_range.mp hi)
  rw [List.length_map, List.length_range] at this
  exact this
theorem inV_ints {c : Int} {cs : List Int} : inV (.int c) (cs.map V.int) = decide (c ∈ cs) := by
  unfold inV
  rw [List.any_map]
  by_cases z : c ∈ cs
  · rw [decide_eq_true z]
    exact List.any_eq_true.mpr ⟨c, z, by simp [eqV]⟩
  · rw [decide_eq_false z]
    refine Bool.eq_false_iff.mpr fun y => z ?_
    obtain ⟨n, hn, e⟩ := List.any_eq_true.mp y
    have : n = c := by simpa [eqV] using e
    exact this ▸ hn
theorem flatIs (cs : List Int) : (cs.map V.int).all flatV = true := by
  rw [List.all_map]
  exact List.all_eq_true.mpr fun _ _ => rfl
theorem top_one {S : DotS} {c g m : Int} {ps : List (Int × Int)} (tg : TopS S c g) (hS : ∀ k, 1 ≤ k → (S c k ↔ (c, k) ∈ ps)) (pos : ∀ d ∈ ps, 1 ≤ d.2) (m0 : 0 ≤ m) (hm : m = 0 ∨ (c, m) ∈ ps) (ub : ∀ k, (c, k) ∈ ps → k ≤ m) : g = m := by
  obtain ⟨g0, g1, g2⟩ := tg
  have a : g ≤ m := by
    rcases g1 with z | z
    · omega
    · by_cases y : 1 ≤ g
      · exact ub g ((hS g y).mp z)
      · omega
  have b : m ≤ g := by
    rcases hm with z | z
    · omega
    · have m1 := pos _ z
      exact g2 m m1 ((hS m m1).mpr z)
  omega
end RH
namespace RH
open PySem L2
theorem r_dnewT {σ : L2.St} {H : Hp} {Q : VK} (h : ∀ p, H p = none → Q (.ref p) (upd H p (.dT []))) : tDNewT σ H Q := h
/-- a dict whose keys are dots -/
def Known (kvs : List (List Key × V)) (ps : List (Int × Int)) : Prop := ∀ c k : Int, valV kvs [Sum.inl c, Sum.inl k] = if (c, k) ∈ ps then some (V.bl true) else none
theorem Known.nil : Known [] [] := fun c k => rfl
theorem Known.put {kvs : List (List Key × V)} {ps : List (Int × Int)} (h : Known kvs ps) (d : Int × Int) : Known (putK kvs [Sum.inl d.1, Sum.inl d.2] (.bl true)) (ps ++ [d]) := fun c k => by
  rw [valV_put, h c k]
  by_cases z : (c, k) = d
  · subst z
    rw [if_pos rfl, if_pos (by simp)]
  · rw [if_neg (fun y => z (by
      have y1 := (List.cons.inj y).1
      have y2 := (List.cons.inj (List.cons.inj y).2).1
      exact Prod.ext (Sum.inl.inj y1) (Sum.inl.inj y2)))]
    by_cases m : (c, k) ∈ ps
    · rw [if_pos m, if_pos (List.mem_append_left _ m)]
    · rw [if_neg m, if_neg fun y => (List.mem_append.mp y).elim m fun y => z (List.mem_singleton.mp y)]
end RH
namespace RH
open PySem L2
theorem Fr.tup {H H' : Hp} {p b : Addr} {ys zs : List V} (f : Fr p H H') (hp : H p = some (.lst ys)) (h : H b = some (.tup zs)) : H' b = some (.tup zs) := f _ _ (fun z => by rw [z, hp] at h; cases h) h
theorem RowH.fr {H H' : Hp} {p a : Addr} {u : Int} {l : List Int} {ys : List V} (h : RowH H a u l) (f : Fr p H H') (hp : H p = some (.lst ys)) : RowH H' a u l := by
  obtain ⟨b, h1, h2⟩ := h
  exact ⟨b, f.tup hp h1, f.tup hp h2⟩
theorem ClkS.fr {C : Addr} {N : Nat} {H H' : Hp} {x p : Addr} {S : DotS} {ys : List V} (h : ClkS C N H x S) (f : Fr p H H') (hp : H p = some (.lst ys)) : ClkS C N H' x S := by
  obtain ⟨dx, d, ro, a, ⟨b, c⟩, e, g⟩ := h
  exact ⟨dx, d, ro, f _ _ (fun z => by rw [z, hp] at a; cases a) a, ⟨f _ _ (fun z => by rw [z, hp] at b; cases b) b, fun r m => (c r m).fr f hp⟩, e, g⟩
theorem PtsAt.frL {H H' : Hp} {p : Addr} {xs ys : List V} {ps : List (Int × Int)} (h : PtsAt H xs ps) (f : Fr p H H') (hp : H p = some (.lst ys)) : PtsAt H' xs ps := ⟨h.1, fun i x d a b => by
  obtain ⟨t, e, z⟩ := h.2 i x d a b
  exact ⟨t, e, f.tup hp z⟩⟩
theorem ValAt.fr {H H' : Hp} {p : Addr} {v : V} {ys : List V} {rows : RV} (h : ValAt H v rows) (f : Fr p H H') (hp : H p = some (.lst ys)) : ValAt H' v rows := by
  obtain ⟨q, xs, e, a, b, c⟩ := h
  refine ⟨q, xs, e, f.tup hp a, b, fun i x r h1 h2 => ?_⟩
  obtain ⟨t, w, e2, z1, z2⟩ := c i x r h1 h2
  exact ⟨t, w, e2, f.tup hp z1, f.tup hp z2⟩
theorem CanV.congr {rows : RV} {S T : DotS} (h : CanV rows S) (e : ∀ c k, 1 ≤ k → (S c k ↔ T c k)) : CanV rows T := ⟨h.1, fun c k k1 => (h.2 c k k1).trans (e c k k1)⟩
theorem canL {rows : RV} {ps : List (Int × Int)} (h : CanV rows (orS (inL ps) (baseS []))) : CanV rows (inL ps) := h.congr fun c k _ => ⟨fun z => z.elim id fun ⟨_, m, _⟩ => (nomatch m), .inl⟩
theorem ValAt.nil {H : Hp} {p : Addr} (h : H p = some (.tup [])) : ValAt H (.ref p) [] := ⟨p, [], rfl, h, rfl, fun i x r z => by simp at z⟩
theorem canNil : CanV [] (inL []) := ⟨⟨.nil, (fun _ m => nomatch m), (fun _ m => nomatch m)⟩, fun c k _ => ⟨fun ⟨_, m, _⟩ => (nomatch m), fun m => (nomatch m)⟩⟩
theorem wt_L {rows : RV} {ps : List (Int × Int)} (h : CanV rows (inL ps)) : wtV rows ≤ 2 * ps.length := by
  have := tight h (ps := ps) (cs := ps.map (·.1)) (fun c k _ z => .inl z) fun c k _ z => List.mem_map.mpr ⟨_, z, rfl⟩
  rw [List.length_map] at this
  omega
end RH
namespace RH
open PySem L2
/-! ### values of clocks, as anything -/
def tailB (u : Int) : List D → Bool
  | [] => decide (0 < u)
  | k :: r => decide (u + 1 < intD k) && ascB ltI ((k :: r).map intD)
def laterB (u : Int) : D → Bool
  | .tup ls => ls.all isNum && tailB u ls
  | _ => false
def rowB : D → Bool
  | .tup [c, u, l] => isNum c && (isNum u && laterB (intD u) l)
  | _ => false
def cliD : D → Int | .tup (c :: _) => intD c | _ => 0
def cvB : D → Bool
  | .tup rs => rs.all rowB && ascB ltI (rs.map cliD)
  | _ => false
theorem ascB_iff : ∀ {l : List Int}, ascB ltI l = true ↔ l.Pairwise (· < ·)
  | [] => ⟨fun _ => .nil, fun _ => rfl⟩
  | [a] => ⟨fun _ => List.pairwise_singleton .., fun _ => rfl⟩
  | a :: b :: r => by
    have ih := ascB_iff (l := b :: r)
    show (ltI a b && ascB ltI (b :: r)) = true ↔ _
    rw [Bool.and_eq_true, ih, List.pairwise_cons (a := a)]
    unfold ltI
    rw [decide_eq_true_iff]
    constructor
    · rintro ⟨h, p⟩
      refine ⟨fun c m => ?_, p⟩
      rcases List.mem_cons.mp m with rfl | m
      · exact h
      · have := (List.pairwise_cons.mp p).1 c m
        omega
    · exact fun ⟨h, p⟩ => ⟨h b List.mem_cons_self, p⟩
theorem num_intD {d : D} (h : isNum d = true) : d = .int (intD d) ∧ 0 ≤ intD d ∧ intD d ≤ 1000000000000 := by
  cases d with
  | int i =>
    have h : (limI i && decide (0 ≤ i)) = true := h
    unfold limI at h
    simp only [Bool.and_eq_true, decide_eq_true_iff] at h
    exact ⟨rfl, h.2, h.1.2⟩
  | _ => cases h
theorem nums_int {ls : List D} (h : ls.all isNum = true) : ls = (ls.map intD).map D.int := by
  rw [List.map_map]
  have : ls.map (D.int ∘ intD) = ls.map id := List.map_congr_left fun d m => ((num_intD (List.all_eq_true.mp h d m)).1).symm
  rw [this, List.map_id]
theorem later_of {u : Int} {ls : List D} (u0 : 0 ≤ u) (h : laterB u (.tup ls) = true) : ∃ l : List Int, ls = l.map D.int ∧ NF u l ∧ (0 < u ∨ l ≠ []) := by
  have h : (ls.all isNum && tailB u ls) = true := h
  rw [Bool.and_eq_true] at h
  refine ⟨ls.map intD, nums_int h.1, ?_⟩
  obtain ⟨_, h2⟩ := h
  match ls, h2 with
  | [], h2 => exact ⟨⟨u0, .nil, (fun _ m => nomatch m)⟩, .inl (of_decide_eq_true h2)⟩
  | k :: r, h2 =>
    have h2 : (decide (u + 1 < intD k) && ascB ltI ((k :: r).map intD)) = true := h2
    rw [Bool.and_eq_true, decide_eq_true_iff, ascB_iff] at h2
    refine ⟨⟨u0, h2.2, fun c m => ?_⟩, .inr (List.cons_ne_nil _ _)⟩
    rw [List.map_cons] at m h2
    rcases List.mem_cons.mp m with rfl | m
    · exact h2.1
    · have := (List.pairwise_cons.mp h2.2).1 c m
      omega
theorem row_ofD {d : D} (h : rowB d = true) : ∃ r, d = rwD r ∧ r.1 = cliD d ∧ NF r.2.1 r.2.2 ∧ (0 < r.2.1 ∨ r.2.2 ≠ []) := by
  unfold rowB at h
  split at h
  · rename_i c u l
    rw [Bool.and_eq_true, Bool.and_eq_true] at h
    obtain ⟨hc, hu, hl⟩ := h
    obtain ⟨ec, _, _⟩ := num_intD hc
    obtain ⟨eu, u0, _⟩ := num_intD hu
    cases l with
    | tup ls =>
      obtain ⟨l, rfl, nf, sm⟩ := later_of u0 hl
      refine ⟨(intD c, intD u, l), ?_, rfl, nf, sm⟩
      unfold rwD
      rw [← ec, ← eu]
    | _ => cases hl
  · cases h
theorem cv_of {d : D} (h : cvB d = true) : ∃ rows, d = cvD rows ∧ CanR rows := by
  unfold cvB at h
  split at h
  · rename_i rs
    rw [Bool.and_eq_true, ascB_iff] at h
    obtain ⟨hr, ha⟩ := h
    have go : ∀ rs : List D, rs.all rowB = true → ∃ rows : RV, rs = rows.map rwD ∧ rows.map (·.1) = rs.map cliD ∧ ∀ r ∈ rows, NF r.2.1 r.2.2 ∧ (0 < r.2.1 ∨ r.2.2 ≠ []) := by
      intro rs
      induction rs with
      | nil => exact fun _ => ⟨[], rfl, rfl, (fun _ m => nomatch m)⟩
      | cons d rs ih =>
        intro h
        rw [List.all_cons, Bool.and_eq_true] at h
        obtain ⟨r, e1, e2, e3⟩ := row_ofD h.1
        obtain ⟨rows, g1, g2, g3⟩ := ih h.2
        refine ⟨r :: rows, by rw [List.map_cons, ← e1, ← g1], by rw [List.map_cons, List.map_cons, e2, g2], fun q m => ?_⟩
        rcases List.mem_cons.mp m with rfl | m
        · exact e3
        · exact g3 q m
    obtain ⟨rows, g1, g2, g3⟩ := go rs hr
    exact ⟨rows, by rw [g1]; rfl, ⟨by rw [g2]; exact ha, fun r m => (g3 r m).1, fun r m => (g3 r m).2⟩⟩
  · cases h
theorem isNum_int {i : Int} (h0 : 0 ≤ i) (h1 : i ≤ lim12) : isNum (.int i) = true := by
  show (limI i && decide (0 ≤ i)) = true
  unfold limI
  unfold lim12 at h1
  rw [decide_eq_true h0, decide_eq_true h1, decide_eq_true (show -1000000000000 ≤ i by omega)]
  rfl
/-- parts that are numbers -/
def NumV (rows : RV) : Prop := ∀ r ∈ rows, (0 ≤ r.1 ∧ r.1 ≤ lim12) ∧ r.2.1 ≤ lim12 ∧ ∀ k ∈ r.2.2, k ≤ lim12
theorem map_intD (l : List Int) : (l.map D.int).map intD = l := by
  rw [List.map_map]
  exact (List.map_congr_left fun _ _ => rfl).trans (List.map_id l)
theorem cv_back {rows : RV} (c : CanR rows) (n : NumV rows) : cvB (cvD rows) = true := by
  show ((rows.map rwD).all rowB && ascB ltI ((rows.map rwD).map cliD)) = true
  rw [Bool.and_eq_true, ascB_iff]
  constructor
  · rw [List.all_map, List.all_eq_true]
    intro r m
    obtain ⟨⟨a, b⟩, u1, ks⟩ := n r m
    have nf := c.nf r m
    have sm := c.some r m
    show (isNum (.int r.1) && (isNum (.int r.2.1) && laterB r.2.1 (.tup (r.2.2.map D.int)))) = true
    rw [isNum_int a b, isNum_int nf.nn u1, Bool.true_and, Bool.true_and]
    show ((r.2.2.map D.int).all isNum && tailB r.2.1 (r.2.2.map D.int)) = true
    rw [Bool.and_eq_true]
    constructor
    · rw [List.all_map, List.all_eq_true]
      intro k mk
      have := nf.gap k mk
      have := nf.nn
      exact isNum_int (by omega) (ks k mk)
    · cases e : r.2.2 with
      | nil =>
        rw [e] at sm
        exact decide_eq_true (sm.elim id fun z => absurd rfl z)
      | cons k q =>
        rw [List.map_cons]
        show (decide (r.2.1 + 1 < k) && ascB ltI ((D.int k :: q.map D.int).map intD)) = true
        rw [Bool.and_eq_true, decide_eq_true_iff, ascB_iff]
        have e2 : (D.int k :: q.map D.int).map intD = k :: q := map_intD (k :: q)
        rw [e2, ← e]
        exact ⟨nf.gap k (by rw [e]; exact List.mem_cons_self), nf.asc⟩
  · rw [List.map_map]
    exact c.asc
theorem r_tupI5 {K : PySem.W.Frag} {σ : L2.St} {H : Hp} {tl : TE} {R : It → Hp → Prop} (h : tl σ H fun x H1 => ∃ a, x = V.ref a ∧ (∃ xs, SqT K H1 a xs) ∧ R (Itt K a) H1) : iTup K tl σ H R := h
def spLaterB (K : PySem.W.Frag) (CC : Addr → Prop) : Sp := fun vs H Q _ => ∃ (u : Int) (x : V) (d : D), vs = [.int u, x] ∧ Rep K CC H x d ∧ ∀ H', Same H H' → Q (.bl (laterB u d)) H'
def spFromCV (K : PySem.W.Frag) (CC : Addr → Prop) (C CB : Addr) : Sp := fun vs H Q E => ∃ (v : V) (d : D), vs = [v] ∧ Rep K CC H v d ∧ (∀ rows, d = cvD rows → cvB d = true → CanR rows → ∀ z H', Same H H' → H z = none → ClkS C (wtV rows) H' z (HasV rows) → Q (.ref z) H') ∧
  (cvB d = false → ∀ H', Same H H' → E (.ref CB) none H')
/-- the rows that stand in a value -/
theorem rep_cv {K : PySem.W.Frag} {CC : Addr → Prop} {H : Hp} {v : V} {rows : RV} (R : Rep K CC H v (cvD rows)) : ValAt H v rows ∧ rows.length ≤ 1000 := by
  unfold cvD at R
  cases R with
  | @tup a xs _ ha hl hs hi =>
    rw [List.length_map] at hl
    refine ⟨⟨a, xs, rfl, ha, hl, fun i x r h1 h2 => ?_⟩, by omega⟩
    have Rr := hi i x (rwD r) h1 (by rw [List.getElem?_map, h2]; rfl)
    unfold rwD at Rr
    cases Rr with
    | @tup t ys _ ht hl2 hs2 hi2 =>
      match ys, hl2 with
      | [y1, y2, y3], _ =>
        have r1 := hi2 0 y1 (.int r.1) rfl rfl
        have r2 := hi2 1 y2 (.int r.2.1) rfl rfl
        have r3 := hi2 2 y3 (.tup (r.2.2.map D.int)) rfl rfl
        cases r1
        cases r2
        cases r3 with
        | @tup b zs _ hb hl3 hs3 hi3 =>
          have ez : zs = r.2.2.map V.int := by
            rw [List.length_map] at hl3
            refine List.ext_getElem? fun j => ?_
            rw [List.getElem?_map]
            rcases Nat.lt_or_ge j zs.length with z | z
            · have h1 : zs[j]? = some zs[j] := List.getElem?_eq_getElem z
              have h2 : r.2.2[j]? = some (r.2.2[j]'(by omega)) := List.getElem?_eq_getElem (by omega)
              have q := hi3 j _ (.int (r.2.2[j]'(by omega))) h1 (by rw [List.getElem?_map, h2]; rfl)
              rw [h1, h2]
              generalize zs[j] = zz at q
              cases q
              rfl
            · rw [List.getElem?_eq_none z, List.getElem?_eq_none (by omega)]
              rfl
          subst ez
          exact ⟨t, b, rfl, ht, hb⟩
end RH
namespace RH
open PySem L2
theorem dots_pts {K : PySem.W.Frag} {H : Hp} : ∀ {xs : List V} {ps : List (Int × Int)}, PtsAt H xs ps → DotsAt K H xs ps
  | [], [], _ => .nil
  | [], _ :: _, h => by cases h.1
  | _ :: _, [], h => by cases h.1
  | x :: xs, p :: ps, h => by
    obtain ⟨t, e, z⟩ := h.2 0 x p rfl rfl
    exact .cons ⟨t, e, SqT.of z⟩ (dots_pts ⟨by simpa using h.1, fun i y q a b => h.2 (i + 1) y q a b⟩)
def DotsOk (ps : List (Int × Int)) : Prop := ∀ d ∈ ps, 1 ≤ d.2 ∧ d.2 ≤ lim12
def spPool7 (K : PySem.W.Frag) : Sp := fun vs H Q _ => ∃ (a : Addr) (ns : List Int), vs = [.ref a] ∧ SqL K H a (ns.map V.int) ∧ ns.length ≤ 63 ∧
  ∀ l xs ps H', Same H H' → H' l = some (.lst xs) → H l = none → PtsAt H' xs ps → DotsOk ps → ps.Nodup → (∀ d ∈ ps, 0 ≤ d.1 ∧ d.1 ≤ lim12) → xs.length ≤ 40 → Q (.ref l) H'
/-- three lists of dots out of the pool, a dict of at most one base -/
structure SetsAt (H : Hp) (xs : List V) (ps : List (Int × Int)) (s0 s1 s2 : Addr) (y0 y1 y2 : List V) (p0 p1 p2 : List (Int × Int)) : Prop where
  h0 : H s0 = some (.lst y0)
  h1 : H s1 = some (.lst y1)
  h2 : H s2 = some (.lst y2)
  q0 : PtsAt H y0 p0
  q1 : PtsAt H y1 p1
  q2 : PtsAt H y2 p2
  m0 : ∀ d ∈ p0, d ∈ ps
  m1 : ∀ d ∈ p1, d ∈ ps
  m2 : ∀ d ∈ p2, d ∈ ps
def spSets7 (K : PySem.W.Frag) : Sp := fun vs H Q _ => ∃ (a l : Addr) (ns : List Int) (xs : List V) (ps : List (Int × Int)), vs = [.ref a, .ref l] ∧ SqL K H a (ns.map V.int) ∧ ns.length ≤ 63 ∧ H l = some (.lst xs) ∧ PtsAt H xs ps ∧ xs.length ≤ 40 ∧ DotsOk ps ∧
  ∀ v S B s0 s1 s2 y0 y1 y2 p0 p1 p2 bs H', Same H H' → H' v = some (.lst [.ref S, .ref B]) → H' S = some (.lst [.ref s0, .ref s1, .ref s2]) → SetsAt H' xs ps s0 s1 s2 y0 y1 y2 p0 p1 p2 → y0.length ≤ 40 → y1.length ≤ 40 → y2.length ≤ 40 →
    H' B = some (.dK (dOf bs)) → bs.length ≤ 1 → (∀ b ∈ bs, (1 ≤ b.2 ∧ b.2 ≤ lim12) ∧ ∃ k, (b.1, k) ∈ ps) → Q (.ref v) H'
theorem DotsOk.sub {ps qs : List (Int × Int)} (h : DotsOk ps) (m : ∀ d ∈ qs, d ∈ ps) : DotsOk qs := fun d md => h d (m d md)
end RH
namespace RH
open PySem L2
/-- own lists, by places -/
structure OwnL (H : Hp) (ps : List (Int × Int)) (s : Nat → Addr) (y : Nat → List V) (p : Nat → List (Int × Int)) : Prop where
  at_ : ∀ k, k < 3 → H (s k) = some (.lst (y k))
  pt : ∀ k, k < 3 → PtsAt H (y k) (p k)
  sub : ∀ k, k < 3 → ∀ d ∈ p k, d ∈ ps
  inj : ∀ j k, j < 3 → k < 3 → s j = s k → j = k
theorem OwnL.mono {H H' : Hp} {ps : List (Int × Int)} {s : Nat → Addr} {y : Nat → List V} {p : Nat → List (Int × Int)} (h : OwnL H ps s y p) (e : Same H H') : OwnL H' ps s y p := ⟨fun k hk => e _ _ (h.at_ k hk), fun k hk => (h.pt k hk).mono e, h.sub, h.inj⟩
theorem OwnL.fr {H H' : Hp} {r : Addr} {zs : List V} {ps : List (Int × Int)} {s : Nat → Addr} {y : Nat → List V} {p : Nat → List (Int × Int)} (h : OwnL H ps s y p) (f : Fr r H H') (hr : H r = some (.lst zs)) (n : ∀ k, k < 3 → s k ≠ r) : OwnL H' ps s y p := ⟨fun k hk => f _ _ (n k hk) (h.at_ k hk), fun k hk => (h.pt k hk).frL f hr, h.sub, h.inj⟩
theorem OwnL.set {H : Hp} {ps : List (Int × Int)} {s : Nat → Addr} {y : Nat → List V} {p : Nat → List (Int × Int)} (h : OwnL H ps s y p) {j : Nat} (hj : j < 3) {ys : List V} {qs : List (Int × Int)} (hq : PtsAt H ys qs) (hs : ∀ d ∈ qs, d ∈ ps) :
    OwnL (upd H (s j) (.lst ys)) ps s (fun k => if k = j then ys else y k) (fun k => if k = j then qs else p k) := by
  have f : Fr (s j) H (upd H (s j) (.lst ys)) := Fr.row
  refine ⟨fun k hk => ?_, fun k hk => ?_, fun k hk d m => ?_, h.inj⟩
  · by_cases z : k = j
    · subst z
      rw [if_pos rfl]
      exact upd_same
    · rw [if_neg z, upd_ne fun e => z (h.inj k j hk hj e)]
      exact h.at_ k hk
  · by_cases z : k = j
    · rw [if_pos z, if_pos z]
      exact hq.frL f (h.at_ j hj)
    · rw [if_neg z, if_neg z]
      exact (h.pt k hk).frL f (h.at_ j hj)
  · by_cases z : k = j
    · rw [if_pos z] at m
      exact hs d m
    · rw [if_neg z] at m
      exact h.sub k hk d m
theorem OwnL.upd {H : Hp} {ps : List (Int × Int)} {s : Nat → Addr} {y : Nat → List V} {p : Nat → List (Int × Int)} {o : HO} (h : OwnL H ps s y p) (B : Addr) (n : ∀ k, k < 3 → s k ≠ B) (kv : List (Key × V) := []) (hB : H B = some (.dK kv) := by assumption) : OwnL (L2.upd H B o) ps s y p := ⟨fun k hk => by rw [upd_ne (n k hk)]; exact h.at_ k hk, fun k hk => ⟨(h.pt k hk).1, fun i x d a b => by
  obtain ⟨t, e, z⟩ := (h.pt k hk).2 i x d a b
  exact ⟨t, e, by rw [upd_ne (fun y => by rw [y, hB] at z; cases z)]; exact z⟩⟩, h.sub, h.inj⟩
theorem PtsAt.erase {H : Hp} {xs : List V} {ps : List (Int × Int)} (h : PtsAt H xs ps) (n : Nat) : PtsAt H (xs.eraseIdx n) (ps.eraseIdx n) := by
  refine ⟨by rw [List.length_eraseIdx, List.length_eraseIdx, h.1], fun i x p a b => ?_⟩
  rw [List.getElem?_eraseIdx] at a b
  split at a
  · rename_i z
    rw [if_pos z] at b
    exact h.2 i x p a b
  · rename_i z
    rw [if_neg z] at b
    exact h.2 (i + 1) x p a b
end RH
namespace RH
theorem inj3 {s : Nat → PySem.Addr} (n01 : s 0 ≠ s 1) (n02 : s 0 ≠ s 2) (n12 : s 1 ≠ s 2) : ∀ j k, j < 3 → k < 3 → s j = s k → j = k := by
  intro j k hj hk e
  match j, k, hj, hk with
  | 0, 0, _, _ => rfl
  | 0, 1, _, _ => exact absurd e n01
  | 0, 2, _, _ => exact absurd e n02
  | 1, 0, _, _ => exact absurd e.symm n01
  | 1, 1, _, _ => rfl
  | 1, 2, _, _ => exact absurd e n12
  | 2, 0, _, _ => exact absurd e.symm n02
  | 2, 1, _, _ => exact absurd e.symm n12
  | 2, 2, _, _ => rfl
end RH
namespace RH
open PySem L2
theorem top_uniq {S : DotS} {c g m : Int} (a : TopS S c g) (b : TopS S c m) : g = m := by
  have le : ∀ {x y : Int}, TopS S c x → TopS S c y → x ≤ y := fun {x y} a b => by
    obtain ⟨x0, x1, _⟩ := a
    obtain ⟨y0, _, y2⟩ := b
    rcases x1 with z | z
    · omega
    · by_cases w : 1 ≤ x
      · exact y2 x w z
      · omega
  have := le a b
  have := le b a
  omega
/-! ### one dot more on top: the size is one more -/
def insR (c g : Int) : RV → RV
  | [] => [(c, 1, [])]
  | r :: rows => if c < r.1 then (c, 1, []) :: r :: rows else if c = r.1 then (if r.2.2 = [] then (c, r.2.1 + 1, []) else (c, r.2.1, r.2.2 ++ [g + 1])) :: rows else r :: insR c g rows
theorem szV_cons (r : Int × Int × List Int) (rows : RV) : szV (r :: rows) = r.2.1 + (r.2.2.length : Int) + szV rows := by
  unfold szV
  rw [List.map_cons, List.sum_cons]
theorem insR_sz (c g : Int) : ∀ rows : RV, szV (insR c g rows) = szV rows + 1
  | [] => by
    show szV [(c, 1, [])] = szV [] + 1
    rw [szV_cons]
    show 1 + ((0 : Nat) : Int) + szV [] = _
    omega
  | r :: rows => by
    unfold insR
    by_cases h1 : c < r.1
    · rw [if_pos h1, szV_cons]
      show 1 + ((0 : Nat) : Int) + szV (r :: rows) = _
      omega
    · rw [if_neg h1]
      by_cases h2 : c = r.1
      · rw [if_pos h2]
        by_cases h3 : r.2.2 = []
        · rw [if_pos h3, szV_cons, szV_cons, h3]
          show r.2.1 + 1 + ((0 : Nat) : Int) + szV rows = r.2.1 + ((0 : Nat) : Int) + szV rows + 1
          omega
        · rw [if_neg h3, szV_cons, szV_cons]
          show r.2.1 + ((r.2.2 ++ [g + 1]).length : Int) + szV rows = _
          rw [List.length_append, List.length_singleton]
          omega
      · rw [if_neg h2, szV_cons, szV_cons, insR_sz c g rows]
        omega
theorem insR_cl {c g : Int} : ∀ {rows : RV} {q : Int × Int × List Int}, q ∈ insR c g rows → q.1 = c ∨ ∃ r ∈ rows, r.1 = q.1
  | [], q, m => by
    rw [List.mem_singleton.mp m]
    exact .inl rfl
  | r :: rows, q, m => by
    unfold insR at m
    by_cases h1 : c < r.1
    · rw [if_pos h1] at m
      rcases List.mem_cons.mp m with rfl | m
      · exact .inl rfl
      · exact .inr ⟨q, m, rfl⟩
    · rw [if_neg h1] at m
      by_cases h2 : c = r.1
      · rw [if_pos h2] at m
        rcases List.mem_cons.mp m with rfl | m
        · refine .inl ?_
          split <;> rfl
        · exact .inr ⟨q, List.mem_cons_of_mem _ m, rfl⟩
      · rw [if_neg h2] at m
        rcases List.mem_cons.mp m with rfl | m
        · exact .inr ⟨q, List.mem_cons_self, rfl⟩
        · rcases insR_cl m with z | ⟨r', mr, e⟩
          · exact .inl z
          · exact .inr ⟨r', List.mem_cons_of_mem _ mr, e⟩
theorem CanR.cons {r : Int × Int × List Int} {rows : RV} (h : CanR rows) (nf : NF r.2.1 r.2.2) (sm : 0 < r.2.1 ∨ r.2.2 ≠ []) (l : ∀ q ∈ rows, r.1 < q.1) : CanR (r :: rows) := by
  refine ⟨?_, fun q m => ?_, fun q m => ?_⟩
  · rw [List.map_cons, List.pairwise_cons]
    exact ⟨fun c hc => by
      obtain ⟨q, mq, rfl⟩ := List.mem_map.mp hc
      exact l q mq, h.asc⟩
  · rcases List.mem_cons.mp m with rfl | m
    · exact nf
    · exact h.nf q m
  · rcases List.mem_cons.mp m with rfl | m
    · exact sm
    · exact h.some q m
theorem insR_can {c g : Int} : ∀ {rows : RV}, CanR rows → TopS (HasV rows) c g → CanR (insR c g rows) ∧ ∀ c' k, 1 ≤ k → (HasV (insR c g rows) c' k ↔ HasV rows c' k ∨ (c' = c ∧ k = g + 1))
  | [], can, ⟨g0, g1, g2⟩ => by
    have e : g = 0 := g1.elim id fun ⟨_, m, _⟩ => (nomatch m)
    subst e
    refine ⟨can.cons (r := (c, 1, [])) ⟨(show (0:Int) ≤ 1 by decide), .nil, (fun _ m => nomatch m)⟩ (.inl (show (0:Int) < 1 by decide)) (fun _ m => nomatch m), fun c' k k1 => ?_⟩
    show HasV [(c, 1, [])] c' k ↔ _
    rw [hasV_cons]
    constructor
    · rintro (⟨rfl, z | z⟩ | ⟨_, m, _⟩)
      · have z : k ≤ 1 := z
        exact .inr ⟨rfl, by omega⟩
      · cases z
      · cases m
    · rintro (⟨_, m, _⟩ | ⟨rfl, rfl⟩)
      · cases m
      · exact .inl ⟨rfl, .inl (by show (0 : Int) + 1 ≤ 1; omega)⟩
  | r :: rows, can, top => by
    obtain ⟨g0, g1, g2⟩ := id top
    obtain ⟨tl, lt⟩ := can.tail
    have nf := can.nf r List.mem_cons_self
    have sm := can.some r List.mem_cons_self
    have no : ∀ {d k : Int}, d ≤ r.1 → ¬ HasV rows d k := fun le ⟨q, m, e, _⟩ => by
      have := lt q m
      omega
    unfold insR
    by_cases h1 : c < r.1
    · rw [if_pos h1]
      have e : g = 0 := by
        rcases g1 with z | z
        · exact z
        · rcases hasV_cons.mp z with ⟨e, _⟩ | z
          · omega
          · exact absurd z (no (by omega))
      subst e
      refine ⟨can.cons (r := (c, 1, [])) ⟨(show (0:Int) ≤ 1 by decide), .nil, (fun _ m => nomatch m)⟩ (.inl (show (0:Int) < 1 by decide)) (fun q m => ?_), fun c' k k1 => ?_⟩
      · rcases List.mem_cons.mp m with rfl | m
        · exact h1
        · have := lt q m
          show c < q.1
          omega
      · rw [hasV_cons (r := (c, 1, []))]
        constructor
        · rintro (⟨rfl, z | z⟩ | z)
          · have z : k ≤ 1 := z
            exact .inr ⟨rfl, by omega⟩
          · cases z
          · exact .inl z
        · rintro (z | ⟨rfl, rfl⟩)
          · exact .inr z
          · exact .inl ⟨rfl, .inl (by show (0 : Int) + 1 ≤ 1; omega)⟩
    · rw [if_neg h1]
      by_cases h2 : c = r.1
      · rw [if_pos h2]
        subst h2
        have inS : ∀ k, HasV (r :: rows) r.1 k ↔ InP r.2.1 r.2.2 k := fun k => by
          rw [hasV_cons]
          exact ⟨fun z => z.elim (·.2) fun z => absurd z (no (Int.le_refl _)), fun z => .inl ⟨rfl, z⟩⟩
        have eg : g = (if h : r.2.2 = [] then r.2.1 else r.2.2.getLast h) := top_uniq (S := HasV (r :: rows)) top (top_row nf fun k _ => (inS k).symm)
        have fin : ∀ r' : Int × Int × List Int, r'.1 = r.1 → NF r'.2.1 r'.2.2 → (0 < r'.2.1 ∨ r'.2.2 ≠ []) → (∀ k, 1 ≤ k → (InP r'.2.1 r'.2.2 k ↔ InP r.2.1 r.2.2 k ∨ k = g + 1)) → CanR (r' :: rows) ∧ ∀ c' k, 1 ≤ k → (HasV (r' :: rows) c' k ↔ HasV (r :: rows) c' k ∨ (c' = r.1 ∧ k = g + 1)) := fun r' e nf' sm' inp => by
          refine ⟨tl.cons nf' sm' fun q m => by rw [e]; exact lt q m, fun c' k k1 => ?_⟩
          rw [hasV_cons, hasV_cons, inp k k1, e]
          constructor
          · rintro (⟨rfl, z | z⟩ | z)
            · exact .inl (.inl ⟨rfl, z⟩)
            · exact .inr ⟨rfl, z⟩
            · exact .inl (.inr z)
          · rintro ((⟨rfl, z⟩ | z) | ⟨rfl, z⟩)
            · exact .inl ⟨rfl, .inl z⟩
            · exact .inr z
            · exact .inl ⟨rfl, .inr z⟩
        have nn := nf.nn
        by_cases h3 : r.2.2 = []
        · rw [if_pos h3]
          rw [dif_pos h3] at eg
          refine fin (r.1, r.2.1 + 1, []) rfl ⟨by show 0 ≤ r.2.1 + 1; omega, .nil, (fun _ m => nomatch m)⟩ (.inl (by show 0 < r.2.1 + 1; omega)) fun k k1 => ?_
          rw [h3]
          unfold InP
          constructor
          · rintro (z | z)
            · by_cases y : k = g + 1
              · exact .inr y
              · exact .inl (.inl (by have z : k ≤ r.2.1 + 1 := z; omega))
            · cases z
          · rintro ((z | z) | z)
            · exact .inl (by show k ≤ r.2.1 + 1; omega)
            · cases z
            · exact .inl (by show k ≤ r.2.1 + 1; omega)
        · rw [if_neg h3]
          rw [dif_neg h3] at eg
          have lst := last_top h3 nf.asc
          rw [← eg] at lst
          have gap := nf.gap _ (List.getLast_mem h3)
          rw [← eg] at gap
          refine fin (r.1, r.2.1, r.2.2 ++ [g + 1]) rfl ⟨nn, ?_, fun k m => ?_⟩ (.inr (by simp)) fun k k1 => ?_
          · refine List.pairwise_append.mpr ⟨nf.asc, List.pairwise_singleton .., fun a ha b hb => ?_⟩
            rw [List.mem_singleton.mp hb]
            have := lst a ha
            omega
          · rcases List.mem_append.mp m with m | m
            · exact nf.gap k m
            · rw [List.mem_singleton.mp m]
              show r.2.1 + 1 < g + 1
              omega
          · unfold InP
            rw [List.mem_append, List.mem_singleton]
            exact or_assoc.symm
      · rw [if_neg h2]
        have e : ∀ k, HasV (r :: rows) c k ↔ HasV rows c k := fun k => by
          rw [hasV_cons]
          exact ⟨fun z => z.elim (fun z => absurd z.1.symm h2) id, .inr⟩
        have top' : TopS (HasV rows) c g := ⟨g0, g1.imp id (e g).mp, fun k k1 z => g2 k k1 ((e k).mpr z)⟩
        obtain ⟨i1, i2⟩ := insR_can tl top'
        refine ⟨i1.cons nf sm fun q m => ?_, fun c' k k1 => ?_⟩
        · rcases insR_cl m with z | ⟨r', mr, z⟩
          · rw [z]
            omega
          · rw [← z]
            exact lt r' mr
        · rw [hasV_cons, hasV_cons, i2 c' k k1, or_assoc]
theorem size_succ {rows rows' : RV} {S : DotS} {c g : Int} (a : CanV rows S) (b : CanV rows' (orS S (oneS c (g + 1)))) (top : TopS S c g) : szV rows' = szV rows + 1 := by
  have top' : TopS (HasV rows) c g := ⟨top.1, by
    rcases top.2.1 with z | z
    · exact .inl z
    · by_cases g1 : 1 ≤ g
      · exact .inr ((a.2 c g g1).mpr z)
      · exact .inl (by have := top.1; omega), fun k k1 z => top.2.2 k k1 ((a.2 c k k1).mp z)⟩
  obtain ⟨i1, i2⟩ := insR_can a.1 top'
  have e : rows' = insR c g rows := can_one b.1 i1 fun d k k1 => by
    rw [b.2 d k k1, i2 d k k1, a.2 d k k1]
    exact Iff.rfl
  rw [e, insR_sz]
/-! ### subsets -/
def subB (ps qs bs : List (Int × Int)) : Bool := ps.all fun d => decide (d ∈ qs) || decide (d.2 ≤ bvOf bs d.1)
def setS (ps bs : List (Int × Int)) : DotS := orS (inL ps) (baseS bs)
theorem sub_iff {ps qs bs : List (Int × Int)} (pos : ∀ d ∈ ps, 1 ≤ d.2) (nd : (bs.map (·.1)).Nodup) (bp : ∀ b ∈ bs, 0 ≤ b.2) : subB ps qs bs = true ↔ ∀ c k, 1 ≤ k → setS ps bs c k → setS qs bs c k := by
  unfold subB
  rw [List.all_eq_true]
  constructor
  · rintro h c k k1 (z | z)
    · have := h _ z
      rw [Bool.or_eq_true, decide_eq_true_iff, decide_eq_true_iff] at this
      rcases this with y | y
      · exact .inl y
      · exact .inr (((bv_at nd bp c).2.1 k k1).mp y)
    · exact .inr z
  · intro h d m
    have d1 := pos d m
    rw [Bool.or_eq_true, decide_eq_true_iff, decide_eq_true_iff]
    rcases h d.1 d.2 d1 (.inl m) with z | z
    · exact .inl z
    · exact .inr (((bv_at nd bp d.1).2.1 d.2 d1).mpr z)
def spSub7 : Sp := fun vs H Q _ => ∃ (f s B : Addr) (xs ys : List V) (ps qs bs : List (Int × Int)), vs = [.ref f, .ref s, .ref B] ∧ H f = some (.lst xs) ∧ PtsAt H xs ps ∧ xs.length ≤ 100 ∧ H s = some (.lst ys) ∧ PtsAt H ys qs ∧ H B = some (.dK (dOf bs)) ∧ (bs.map (·.1)).Nodup ∧ (∀ b ∈ bs, 0 ≤ b.2) ∧
  ∀ H', Same H H' → Q (.bl (subB ps qs bs)) H'
def spNew7 (C : Addr) : Sp := fun vs H Q _ => ∃ (x : Addr) (c g : Int) (N : Nat) (S : DotS), vs = [.ref x, .int c, .int g] ∧ ClkS C N H x S ∧ N ≤ 300 ∧ TopS S c g ∧ ∀ H', Same H H' → Q (.bl true) H'
def spJoin7 (K : PySem.W.Frag) (C : Addr) : Sp := fun vs H Q _ => ∃ (l x y z : Addr) (N : Nat) (S T U : DotS), vs = [.ref l] ∧ H l = some (.lst [.ref x, .ref y, .ref z]) ∧ ClkS C N H x S ∧ ClkS C N H y T ∧ ClkS C N H z U ∧ N ≤ 200 ∧ ∀ H', Same H H' → Q (.bl true) H'
theorem r_sameV {K : PySem.W.Frag} {CC : Addr → Prop} {H : Hp} {Q : VK} {E : XK} {v u : V} {a b : RV} {S T : DotS} (h1 : ValAt H v a) (h2 : ValAt H u b) (c1 : CanV a S) (c2 : CanV b T) (wt : wtV a ≤ 1000) (e : ∀ c k, 1 ≤ k → (S c k ↔ T c k)) (q : ∀ H', Same H H' → Q (.bl true) H') : spSame K CC 6 ([v, u] ++ []) H Q E := by
  obtain rfl := c1.one c2 e
  exact ⟨v, u, cvD a, rfl, h1.rep wt, h2.rep wt, tree_cv a, q⟩
theorem r_orM {C x y : Addr} {N M : Nat} {S T : DotS} {H : Hp} {Q : VK} (cx : ClkS C N H x S) (cy : ClkS C M H y T) (le : N + M ≤ 1000) (q : ∀ z dz o H', Same H H' → H' z = some (.ins C dz [("_rows", .ref o)]) → ClkS C (N + M) H' z (orS S T) → Q (.ref z) H') : rOrM C (spClkOr C) (.ref x) (.ref y) H Q := by
  obtain ⟨dx, _, _, hx, _⟩ := id cx
  obtain ⟨dy, _, _, hy, _⟩ := id cy
  refine ⟨x, dx, _, y, dy, _, rfl, rfl, hx, hy, x, y, N, M, S, T, rfl, cx, cy, le, fun z H1 s1 _ cz => ?_⟩
  obtain ⟨dz, _, _, hz, _⟩ := id cz
  exact q z dz _ H1 s1 hz cz
theorem orS_comm {S T : DotS} : ∀ c k, 1 ≤ k → (orS S T c k ↔ orS T S c k) := fun c k _ => or_comm
theorem orS_self {S : DotS} : ∀ c k, 1 ≤ k → (orS S S c k ↔ S c k) := fun c k _ => or_self_iff
theorem orS_assoc {S T U : DotS} : ∀ c k, 1 ≤ k → (orS (orS S T) U c k ↔ orS S (orS T U) c k) := fun c k _ => or_assoc
theorem orS_abs {S T : DotS} : ∀ c k, 1 ≤ k → (orS (orS S T) T c k ↔ orS S T c k) := fun c k _ => ⟨fun z => z.elim id .inr, .inl⟩
end RH
namespace RH
open PySem L2
def basR (bs : List (Int × Int)) : RV := bs.map fun b => (b.1, b.2, [])
theorem basR_has {bs : List (Int × Int)} {c k : Int} : HasV (basR bs) c k ↔ baseS bs c k := by
  constructor
  · rintro ⟨r, m, e, z⟩
    obtain ⟨b, mb, rfl⟩ := List.mem_map.mp m
    exact ⟨b, mb, e, z.elim id fun z => nomatch z⟩
  · rintro ⟨b, mb, e, z⟩
    exact ⟨_, List.mem_map.mpr ⟨b, mb, rfl⟩, e, .inl z⟩
theorem basR_can {bs : List (Int × Int)} (l : bs.length ≤ 1) (p : ∀ b ∈ bs, 1 ≤ b.2) : CanR (basR bs) := by
  refine ⟨?_, fun r m => ?_, fun r m => ?_⟩
  · match bs, l with
    | [], _ => exact .nil
    | [b], _ => exact List.pairwise_singleton ..
  · obtain ⟨b, mb, rfl⟩ := List.mem_map.mp m
    exact ⟨by have := p b mb; show 0 ≤ b.2; omega, .nil, (fun _ m => nomatch m)⟩
  · obtain ⟨b, mb, rfl⟩ := List.mem_map.mp m
    exact .inl (by have := p b mb; show 0 < b.2; omega)
theorem basR_wt : ∀ bs : List (Int × Int), wtV (basR bs) = bs.length
  | [] => rfl
  | b :: bs => by
    have := basR_wt bs
    unfold wtV basR at this ⊢
    rw [List.map_cons, List.map_cons, List.sum_cons, this, List.length_cons]
    show 1 + 0 + bs.length = _
    omega
theorem base_nd {bs : List (Int × Int)} (l : bs.length ≤ 1) : (bs.map (·.1)).Nodup := by
  match bs, l with
  | [], _ => exact .nil
  | [b], _ => simp
theorem rwD_inj {r q : Int × Int × List Int} (h : rwD r = rwD q) : r = q := by
  unfold rwD at h
  injection h with h
  injection h with h1 h
  injection h with h2 h
  injection h with h3 _
  injection h1 with h1
  injection h2 with h2
  injection h3 with h3
  have h3 := (List.map_inj_right fun x y e => by injection e).mp h3
  exact Prod.ext h1 (Prod.ext h2 h3)
theorem cvD_inj {a b : RV} (h : cvD a = cvD b) : a = b := by
  unfold cvD at h
  injection h with h
  exact (List.map_inj_right fun x y e => rwD_inj e).mp h
theorem RvAt.put {H : Hp} {x : V} {r : Int × Int × List Int} {B : Addr} {o : Obj} {u w : HO} (h : RvAt H x r) (hB : H B = some (.frz o u)) : RvAt (upd H B w) x r := by
  obtain ⟨t, b, rfl, h1, h2⟩ := h
  refine ⟨t, b, rfl, ?_, ?_⟩
  · rw [upd_ne fun z => by rw [z, hB] at h1; cases h1]
    exact h1
  · rw [upd_ne fun z => by rw [z, hB] at h2; cases h2]
    exact h2
theorem r_from {K : PySem.W.Frag} {CC : Addr → Prop} {C CB : Addr} {H : Hp} {Q : VK} {E : XK} {v : V} {rows : RV} (hv : ValAt H v rows) (can : CanR rows) (num : NumV rows) (wt : wtV rows ≤ 1000) (q : ∀ z H', Same H H' → ClkS C (wtV rows) H' z (HasV rows) → Q (.ref z) H') : spFromCV K CC C CB ([v] ++ []) H Q E := by
  refine ⟨v, cvD rows, rfl, hv.rep wt, fun rows' e _ _ z H' s _ cz => ?_, fun h => ?_⟩
  · obtain rfl := cvD_inj e
    exact q z H' s cz
  · rw [cv_back can num] at h
    cases h
/-- sets of dots, by places -/
structure Sets7 (H : Hp) (S : Addr) (s : Nat → Addr) (y : Nat → List V) (p : Nat → List (Int × Int)) : Prop where
  hS : H S = some (.lst [.ref (s 0), .ref (s 1), .ref (s 2)])
  at_ : ∀ k, k < 3 → H (s k) = some (.lst (y k))
  pts : ∀ k, k < 3 → PtsAt H (y k) (p k)
theorem Sets7.mono {H H' : Hp} {S : Addr} {s : Nat → Addr} {y : Nat → List V} {p : Nat → List (Int × Int)} (h : Sets7 H S s y p) (e : Same H H') : Sets7 H' S s y p := ⟨e _ _ h.hS, fun k hk => e _ _ (h.at_ k hk), fun k hk => (h.pts k hk).mono e⟩
structure Clks7 (C : Addr) (H : Hp) (L : Addr) (x : Nat → Addr) (p : Nat → List (Int × Int)) (bs : List (Int × Int)) : Prop where
  hL : H L = some (.lst [.ref (x 0), .ref (x 1), .ref (x 2)])
  at_ : ∀ k, k < 3 → ClkS C 81 H (x k) (setS (p k) bs)
theorem Clks7.mono {C : Addr} {H H' : Hp} {L : Addr} {x : Nat → Addr} {p : Nat → List (Int × Int)} {bs : List (Int × Int)} (h : Clks7 C H L x p bs) (e : Same H H') : Clks7 C H' L x p bs := ⟨e _ _ h.hL, fun k hk => (h.at_ k hk).mono e⟩
theorem at3 (f : Nat → Addr) {i : Nat} (h : i < 3) : atI [V.ref (f 0), .ref (f 1), .ref (f 2)] (i : Int) = some (.ref (f i)) := by
  match i, h with
  | 0, _ => exact atI_nat (j := 0) rfl
  | 1, _ => exact atI_nat (j := 1) rfl
  | 2, _ => exact atI_nat (j := 2) rfl
theorem get3 (f : Nat → Addr) {i : Nat} (h : i < 3) : [V.ref (f 0), .ref (f 1), .ref (f 2)][i]? = some (.ref (f i)) := by
  match i, h with
  | 0, _ => rfl
  | 1, _ => rfl
  | 2, _ => rfl
theorem size_zero {rows : RV} {S : DotS} (h : CanV rows S) : szV rows = 0 ↔ ∀ c k, 1 ≤ k → ¬ S c k := by
  cases rows with
  | nil =>
    refine ⟨fun _ c k k1 z => ?_, fun _ => rfl⟩
    obtain ⟨_, m, _⟩ := (h.2 c k k1).mpr z
    exact nomatch m
  | cons r rows =>
    have m : r ∈ r :: rows := List.mem_cons_self
    obtain ⟨k, k1, z⟩ := row_has (h.1.nf r m) (h.1.some r m)
    have pos : ∀ {rs : RV}, (∀ q ∈ rs, 0 ≤ q.2.1) → 0 ≤ szV rs := fun {rs} hp => by
      induction rs with
      | nil => exact Int.le_refl 0
      | cons q rs ih =>
        rw [szV_cons]
        have := ih fun q' m => hp q' (List.mem_cons_of_mem _ m)
        have := hp q List.mem_cons_self
        omega
    have p2 := pos fun q mq => (h.1.nf q (List.mem_cons_of_mem _ mq)).nn
    constructor
    · intro e
      rw [szV_cons] at e
      have n := (h.1.nf r m).nn
      rcases h.1.some r m with y | y
      · omega
      · have := List.length_pos_iff.mpr y
        omega
    · exact fun no => absurd ((h.2 r.1 k k1).mp ⟨r, m, rfl, z⟩) (no _ k k1)
theorem top_set {ps bs : List (Int × Int)} {c m : Int} (pos : ∀ d ∈ ps, 1 ≤ d.2) (nd : (bs.map (·.1)).Nodup) (bp : ∀ b ∈ bs, 0 ≤ b.2) (hm : m = bvOf bs c ∨ (c, m) ∈ ps) (ub : ∀ k, (c, k) ∈ ps → k ≤ m) (ub2 : bvOf bs c ≤ m) : TopS (setS ps bs) c m := by
  obtain ⟨b0, b1, _⟩ := bv_at nd bp c
  refine ⟨by omega, ?_, fun k k1 z => ?_⟩
  · rcases hm with e | e
    · by_cases z : 1 ≤ m
      · exact .inr (.inr ((b1 m z).mp (by omega)))
      · exact .inl (by omega)
    · exact .inr (.inl e)
  · rcases z with z | z
    · exact ub k z
    · have := (b1 k k1).mpr z
      omega
theorem at_only {bs : List (Int × Int)} (l : bs.length ≤ 1) {i : Nat} {b : Int × Int} (h : bs[i]? = some b) : valV (dOf bs) (.inl b.1) = some (.int b.2) := by
  rw [dOf_val]
  have m := List.mem_of_getElem? h
  match bs, l with
  | [], _ => cases m
  | [c], _ =>
    obtain rfl := List.mem_singleton.mp m
    unfold atF
    simp
theorem sets_7 {H : Hp} {S s0 s1 s2 : Addr} {xs y0 y1 y2 : List V} {ps p0 p1 p2 : List (Int × Int)} (hS : H S = some (.lst [.ref s0, .ref s1, .ref s2])) (h : SetsAt H xs ps s0 s1 s2 y0 y1 y2 p0 p1 p2) (l0 : y0.length ≤ 40) (l1 : y1.length ≤ 40) (l2 : y2.length ≤ 40) (ok : DotsOk ps) :
    ∃ sf yf pf, Sets7 H S sf yf pf ∧ (∀ k, k < 3 → (yf k).length ≤ 40) ∧ ∀ k, k < 3 → ∀ d ∈ pf k, 1 ≤ d.2 := by
  refine ⟨fun | 0 => s0 | 1 => s1 | _ => s2, fun | 0 => y0 | 1 => y1 | _ => y2, fun | 0 => p0 | 1 => p1 | _ => p2, ⟨hS, fun k hk => ?_, fun k hk => ?_⟩, fun k hk => ?_, fun k hk d m => ?_⟩
  · match k, hk with
    | 0, _ => exact h.h0
    | 1, _ => exact h.h1
    | 2, _ => exact h.h2
  · match k, hk with
    | 0, _ => exact h.q0
    | 1, _ => exact h.q1
    | 2, _ => exact h.q2
  · match k, hk with
    | 0, _ => exact l0
    | 1, _ => exact l1
    | 2, _ => exact l2
  · match k, hk with
    | 0, _ => exact (ok d (h.m0 d m)).1
    | 1, _ => exact (ok d (h.m1 d m)).1
    | 2, _ => exact (ok d (h.m2 d m)).1
theorem clks_7 {C : Addr} {H : Hp} {L : Addr} {vs : List V} {p : Nat → List (Int × Int)} {bs : List (Int × Int)} (hL : H L = some (.lst vs)) (lv : vs.length = 3) (px : ∀ i v, vs[i]? = some v → ∃ z, v = .ref z ∧ ClkS C 81 H z (setS (p i) bs)) : ∃ x, Clks7 C H L x p bs := by
  match vs, lv with
  | [a, b, c], _ =>
    obtain ⟨x0, rfl, h0⟩ := px 0 a rfl
    obtain ⟨x1, rfl, h1⟩ := px 1 b rfl
    obtain ⟨x2, rfl, h2⟩ := px 2 c rfl
    refine ⟨fun | 0 => x0 | 1 => x1 | _ => x2, hL, fun k hk => ?_⟩
    match k, hk with
    | 0, _ => exact h0
    | 1, _ => exact h1
    | 2, _ => exact h2
theorem cutV_in (xs : List V) (lo hi : Option Int) : (∀ v ∈ cutV xs lo hi, v ∈ xs) ∧ (cutV xs lo hi).length ≤ xs.length := by
  have s : (cutV xs lo hi).Sublist xs := by
    unfold cutV
    exact (List.take_sublist _ _).trans (List.drop_sublist _ _)
  exact ⟨fun v m => s.subset m, s.length_le⟩
theorem PtsAt.memV {H : Hp} {xs : List V} {ps : List (Int × Int)} (h : PtsAt H xs ps) {v : V} (m : v ∈ xs) : ∃ t p, v = .ref t ∧ H t = some (.tup [.int p.1, .int p.2]) ∧ p ∈ ps := by
  obtain ⟨i, hi, rfl⟩ := List.mem_iff_getElem.mp m
  have hip : i < ps.length := by rw [← h.1]; exact hi
  obtain ⟨t, et, ht⟩ := h.at_ hip
  rw [List.getElem?_eq_getElem hi] at et
  exact ⟨t, ps[i], Option.some.inj et, ht, List.getElem_mem hip⟩
end RH
namespace RH
open PySem L2
def LenV (n : Nat) (rows : RV) : Prop := ∀ r ∈ rows, r.2.2.length ≤ n
theorem row_one {rows : RV} (can : CanR rows) {r q : Int × Int × List Int} (mr : r ∈ rows) (mq : q ∈ rows) (e : r.1 = q.1) : r = q := by
  obtain ⟨i, hi, rfl⟩ := List.mem_iff_getElem.mp mr
  obtain ⟨j, hj, rfl⟩ := List.mem_iff_getElem.mp mq
  have p := List.pairwise_iff_getElem.mp (List.pairwise_map.mp can.asc)
  rcases Nat.lt_trichotomy i j with z | z | z
  · have := p i j hi hj z
    omega
  · subst z
    rfl
  · have := p j i hj hi z
    omega
theorem has_row {rows : RV} (can : CanR rows) {r : Int × Int × List Int} (m : r ∈ rows) {k : Int} : HasV rows r.1 k ↔ InP r.2.1 r.2.2 k := by
  constructor
  · rintro ⟨q, mq, e, z⟩
    rw [row_one can m mq e.symm]
    exact z
  · exact fun z => ⟨r, m, rfl, z⟩
/-- the later numbers of a union stand among those of the parts -/
theorem later_sub {rows a : RV} {S T : DotS} (can : CanV rows (orS S T)) (ca : CanV a S) {r : Int × Int × List Int} (m : r ∈ rows) : ∃ la : List Int, (∀ n, LenV n a → la.length ≤ n) ∧ ∀ k ∈ r.2.2, S r.1 k → k ∈ la := by
  have nf := can.1.nf r m
  by_cases z : ∃ q ∈ a, q.1 = r.1
  · obtain ⟨q, mq, e⟩ := z
    refine ⟨q.2.2, fun n h => h q mq, fun k mk sk => ?_⟩
    have gap := nf.gap k mk
    have nn := nf.nn
    have ik : InP q.2.1 q.2.2 k := (has_row ca.1 mq).mp (by rw [e]; exact (ca.2 r.1 k (by omega)).mpr sk)
    rcases ik with y | y
    · exfalso
      have s1 : S r.1 (r.2.1 + 1) := by
        rw [← e]
        exact (ca.2 q.1 _ (by omega)).mp ⟨q, mq, rfl, .inl (by omega)⟩
      have := (has_row can.1 m).mp ((can.2 r.1 (r.2.1 + 1) (by omega)).mpr (.inl s1))
      rcases this with w | w
      · omega
      · have := nf.gap _ w
        omega
    · exact y
  · refine ⟨[], fun n _ => Nat.zero_le n, fun k mk sk => ?_⟩
    have gap := nf.gap k mk
    have nn := nf.nn
    obtain ⟨q, mq, e, _⟩ := (ca.2 r.1 k (by omega)).mpr sk
    exact absurd ⟨q, mq, e⟩ z
theorem CanV.swap {rows : RV} {S T : DotS} (h : CanV rows (orS S T)) : CanV rows (orS T S) := h.congr fun c k _ => or_comm
theorem union_len {rows a b : RV} {S T : DotS} {n m : Nat} (can : CanV rows (orS S T)) (ca : CanV a S) (cb : CanV b T) (la : LenV n a) (lb : LenV m b) : LenV (n + m) rows := fun r mr => by
  obtain ⟨xa, na, ia⟩ := later_sub can ca mr
  obtain ⟨xb, nb, ib⟩ := later_sub can.swap cb mr
  have nf := can.1.nf r mr
  have nd : r.2.2.Nodup := nf.asc.imp fun h => Int.ne_of_lt h
  have := nodup_leG (b := xa ++ xb) nd fun k mk => by
    have gap := nf.gap k mk
    have nn := nf.nn
    rcases (can.2 r.1 k (by omega)).mp ((has_row can.1 mr).mpr (.inr mk)) with z | z
    · exact List.mem_append_left _ (ia k mk z)
    · exact List.mem_append_right _ (ib k mk z)
  rw [List.length_append] at this
  have := na n la
  have := nb m lb
  omega
/-- numbers and clients of a set of dots -/
def NumS (cs : List Int) (S : DotS) : Prop := ∀ c k, 1 ≤ k → S c k → c ∈ cs ∧ (0 ≤ c ∧ c ≤ lim12) ∧ k ≤ lim12
theorem NumS.or {cs : List Int} {S T : DotS} (a : NumS cs S) (b : NumS cs T) : NumS cs (orS S T) := fun c k k1 z => z.elim (a c k k1) (b c k k1)
theorem NumS.rows {cs : List Int} {S : DotS} {rows : RV} (h : NumS cs S) (can : CanV rows S) : NumV rows ∧ ∀ r ∈ rows, r.1 ∈ cs := by
  have go : ∀ r ∈ rows, ∀ k, 1 ≤ k → InP r.2.1 r.2.2 k → r.1 ∈ cs ∧ (0 ≤ r.1 ∧ r.1 ≤ lim12) ∧ k ≤ lim12 := fun r m k k1 z => h r.1 k k1 ((can.2 r.1 k k1).mp ⟨r, m, rfl, z⟩)
  refine ⟨fun r m => ?_, fun r m => ?_⟩
  · obtain ⟨k, k1, z⟩ := row_has (can.1.nf r m) (can.1.some r m)
    refine ⟨(go r m k k1 z).2.1, ?_, fun j mj => ?_⟩
    · by_cases y : 1 ≤ r.2.1
      · exact (go r m r.2.1 y (.inl (Int.le_refl _))).2.2
      · unfold lim12
        omega
    · have gap := (can.1.nf r m).gap j mj
      have nn := (can.1.nf r m).nn
      exact (go r m j (by omega) (.inr mj)).2.2
  · obtain ⟨k, k1, z⟩ := row_has (can.1.nf r m) (can.1.some r m)
    exact (go r m k k1 z).1
theorem NumV.dots {cs : List Int} {rows : RV} (num : NumV rows) (can : CanR rows) (hc : ∀ r ∈ rows, r.1 ∈ cs) : NumS cs (HasV rows) := fun c k k1 ⟨r, m, e, z⟩ => by
  subst e
  obtain ⟨n1, n2, n3⟩ := num r m
  exact ⟨hc r m, n1, z.elim (fun z => by omega) (n3 k)⟩
theorem canH {rows : RV} (can : CanR rows) : CanV rows (HasV rows) := ⟨can, fun _ _ _ => Iff.rfl⟩
/-- what a law of k05 draws -/
structure Drawn (H : Hp) (v : V) (rows : RV) (cs : List Int) : Prop where
  val : ValAt H v rows
  can : CanR rows
  num : NumV rows
  cli : ∀ r ∈ rows, r.1 ∈ cs
theorem Drawn.mono {H H' : Hp} {v : V} {rows : RV} {cs : List Int} (h : Drawn H v rows cs) (s : Same H H') : Drawn H' v rows cs := ⟨h.val.mono s, h.can, h.num, h.cli⟩
def spHas5 : Sp := fun vs H Q _ => ∃ (v : V) (rows : RV) (c n : Int), vs = [v, .int c, .int n] ∧ ValAt H v rows ∧ CanR rows ∧ ∀ b H', Same H H' → (b = true ↔ HasV rows c n) → Q (.bl b) H'
def spEdges5 : Sp := fun vs H Q _ => ∃ (l : Addr) (v0 v1 v2 : V) (r0 r1 r2 : RV) (c : Int), vs = [.ref l, .int c] ∧ H l = some (.lst [v0, v1, v2]) ∧ (ValAt H v0 r0 ∧ CanR r0 ∧ LenV 60 r0) ∧ (ValAt H v1 r1 ∧ CanR r1 ∧ LenV 60 r1) ∧ (ValAt H v2 r2 ∧ CanR r2 ∧ LenV 60 r2) ∧
  ∀ (d : Addr) (ns : List Int) (H' : Hp), Same H H' → H d = none → H' d = some (.lst (ns.map V.int)) → ns.length ≤ 1000 → (∀ n ∈ ns, 1 ≤ n) → Q (.ref d) H'
def spClients5 : Sp := fun vs H Q _ => ∃ r : Addr, vs = [.ref r] ∧ Row H r ∧ ∀ (l : Addr) (cs : List Int) (H' : Hp), Fr r H H' → Row H' r → l ≠ r → H l = none → H' l = some (.lst (cs.map V.int)) → cs.Pairwise (· < ·) → (∀ c ∈ cs, 0 ≤ c ∧ c ≤ lim12) → 1 ≤ cs.length → cs.length ≤ 14 → Q (.ref l) H'
def BaseOk (bs : List Int) : Prop := ∀ b ∈ bs, 0 ≤ b ∧ b + 5 ≤ lim12
def spBases5 : Sp := fun vs H Q _ => ∃ (r l : Addr) (cs : List Int), vs = [.ref r, .ref l] ∧ Row H r ∧ l ≠ r ∧ H l = some (.lst (cs.map V.int)) ∧ cs.length ≤ 14 ∧
  ∀ (b : Addr) (bs : List Int) (H' : Hp), Fr r H H' → Row H' r → b ≠ r → H b = none → H' b = some (.lst (bs.map V.int)) → bs.length = cs.length → BaseOk bs → Q (.ref b) H'
def spRows5 : Sp := fun vs H Q _ => ∃ (r l b : Addr) (cs bs : List Int), vs = [.ref r, .ref l, .ref b] ∧ Row H r ∧ l ≠ r ∧ b ≠ r ∧ H l = some (.lst (cs.map V.int)) ∧ H b = some (.lst (bs.map V.int)) ∧ cs.length ≤ 14 ∧ cs.Pairwise (· < ·) ∧ (∀ c ∈ cs, 0 ≤ c ∧ c ≤ lim12) ∧ bs.length = cs.length ∧ BaseOk bs ∧
  ∀ (v : Addr) (rows : RV) (H' : Hp), Fr r H H' → Row H' r → v ≠ r → Drawn H' (.ref v) rows cs → LenV 6 rows → rows.length ≤ 14 → Q (.ref v) H'
def spIsRow5 : Sp := fun vs H Q _ => ∃ (x : V) (r : Int × Int × List Int), vs = [x] ∧ RvAt H x r ∧ NF r.2.1 r.2.2 ∧ (0 < r.2.1 ∨ r.2.2 ≠ []) ∧ (0 ≤ r.1 ∧ r.1 ≤ lim12) ∧ r.2.1 ≤ lim12 ∧ (∀ k ∈ r.2.2, k ≤ lim12) ∧ r.2.2.length ≤ 1000 ∧ ∀ H', Same H H' → Q (.bl true) H'
def spIsVal5 : Sp := fun vs H Q _ => ∃ (v : V) (rows : RV), vs = [v] ∧ ValAt H v rows ∧ CanR rows ∧ NumV rows ∧ wtV rows ≤ 1000 ∧ ∀ H', Same H H' → Q (.bl true) H'
def spUnion5 (C : Addr) : Sp := fun vs H Q _ => ∃ (x l : Addr) (v u : V) (N : Nat) (a b : RV) (cs : List Int), vs = [.ref x, v, u, .ref l] ∧ ClkS C N H x (orS (HasV a) (HasV b)) ∧ N ≤ 1000 ∧ Drawn H v a cs ∧ Drawn H u b cs ∧ LenV 50 a ∧ LenV 10 b ∧ H l = some (.lst (cs.map V.int)) ∧ cs.length ≤ 14 ∧ ∀ H', Same H H' → Q (.bl true) H'
theorem r_isTup {K : PySem.W.Frag} {H : Hp} {Q : VK} {t : Addr} {xs : List V} (h : H t = some (.tup xs)) (q : Q (.bl true) H) : rIsi K [.ref t, .ty "tuple"] H Q :=
  ⟨_, _, _, _, _, rfl, .ty "tuple", .base (.tup h), kit_ty (by decide +kernel), q⟩
theorem isNumI {i : Int} (h0 : 0 ≤ i) (h1 : i ≤ lim12) : isNum (.int i) = true := isNum_int h0 h1
theorem RvAt.frL {H H' : Hp} {p : Addr} {ys : List V} {v : V} {q : Int × Int × List Int} (h : RvAt H v q) (f : Fr p H H') (hp : H p = some (.lst ys)) : RvAt H' v q := by
  obtain ⟨t, b, rfl, h1, h2⟩ := h
  exact ⟨t, b, rfl, f.tup hp h1, f.tup hp h2⟩
theorem CanR.snoc {rows : RV} {q : Int × Int × List Int} (h : CanR rows) (l : ∀ r ∈ rows, r.1 < q.1) (nf : NF q.2.1 q.2.2) (sm : 0 < q.2.1 ∨ q.2.2 ≠ []) : CanR (rows ++ [q]) := by
  refine ⟨?_, fun r m => ?_, fun r m => ?_⟩
  · rw [List.map_append]
    refine List.pairwise_append.mpr ⟨h.asc, by simp, fun a ma b mb => ?_⟩
    obtain ⟨r, mr, rfl⟩ := List.mem_map.mp ma
    rw [List.mem_singleton.mp mb]
    exact l r mr
  · rcases List.mem_append.mp m with m | m
    · exact h.nf r m
    · rw [List.mem_singleton.mp m]
      exact nf
  · rcases List.mem_append.mp m with m | m
    · exact h.some r m
    · rw [List.mem_singleton.mp m]
      exact sm
theorem r_catT5 {K : PySem.W.Frag} {H : Hp} {Q : VK} {p q : Addr} {xs ys : List V} (h1 : H p = some (.tup xs)) (h2 : H q = some (.tup ys)) (n1 : xs ≠ []) (sz : xs.length + ys.length ≤ sizeLine)
    (k : ∀ l H', Same H H' → H' l = some (.tup (xs ++ ys)) → Q (.ref l) H') : rCatT K (.ref p) (.ref q) H Q :=
  ⟨p, q, xs, ys, rfl, rfl, SqT.of h1, SqT.of h2, n1, sz, fun e => k p H (Same.refl H) (by rw [e, List.append_nil]; exact h1), fun _ l hl => k l _ (same_new hl) upd_same⟩
def putN (ns : List Int) (n : Int) : List Int := if n ∈ ns then ns else ns ++ [n]
theorem putN_len (ns : List Int) (n : Int) : (putN ns n).length ≤ ns.length + 1 := by
  unfold putN
  split
  · omega
  · rw [List.length_append, List.length_singleton]
    omega
theorem wt_le {n : Nat} : ∀ {rows : RV}, LenV n rows → wtV rows ≤ rows.length * (1 + n)
  | [], _ => Nat.zero_le _
  | r :: rows, h => by
    have := wt_le (n := n) (rows := rows) fun q m => h q (List.mem_cons_of_mem _ m)
    have := h r List.mem_cons_self
    unfold wtV at *
    rw [List.map_cons, List.sum_cons, List.length_cons, Nat.succ_mul]
    omega
/-- a dot as a value -/
def sngV (c n : Int) : RV := if n = 1 then [(c, 1, [])] else [(c, 0, [n])]
theorem sng_has {c n c' k : Int} (k1 : 1 ≤ k) (n1 : 1 ≤ n) : HasV (sngV c n) c' k ↔ oneS c n c' k := by
  unfold sngV oneS
  by_cases z : n = 1
  · rw [if_pos z]
    constructor
    · rintro ⟨r, m, e, y⟩
      obtain rfl := List.mem_singleton.mp m
      rcases y with y | y
      · have y : k ≤ 1 := y
        exact ⟨e.symm, by omega⟩
      · cases y
    · rintro ⟨rfl, rfl⟩
      exact ⟨_, List.mem_singleton.mpr rfl, rfl, .inl (by show k ≤ 1; omega)⟩
  · rw [if_neg z]
    constructor
    · rintro ⟨r, m, e, y⟩
      obtain rfl := List.mem_singleton.mp m
      rcases y with y | y
      · have y : k ≤ 0 := y
        omega
      · exact ⟨e.symm, List.mem_singleton.mp y⟩
    · rintro ⟨rfl, rfl⟩
      exact ⟨_, List.mem_singleton.mpr rfl, rfl, .inr (List.mem_singleton.mpr rfl)⟩
theorem sng_ok {c n : Int} {cs : List Int} (n1 : 1 ≤ n) (n2 : n ≤ lim12) (m : c ∈ cs) (cb : 0 ≤ c ∧ c ≤ lim12) : CanR (sngV c n) ∧ NumV (sngV c n) ∧ (∀ r ∈ sngV c n, r.1 ∈ cs) ∧ LenV 1 (sngV c n) := by
  have go : ∀ r : Int × Int × List Int, r.1 = c → NF r.2.1 r.2.2 → (0 < r.2.1 ∨ r.2.2 ≠ []) → r.2.1 ≤ lim12 → (∀ k ∈ r.2.2, k ≤ lim12) → r.2.2.length ≤ 1 → CanR [r] ∧ NumV [r] ∧ (∀ q ∈ [r], q.1 ∈ cs) ∧ LenV 1 [r] := fun r e nf sm u l ln =>
    ⟨⟨List.pairwise_singleton .., fun q mq => by rw [List.mem_singleton.mp mq]; exact nf, fun q mq => by rw [List.mem_singleton.mp mq]; exact sm⟩, fun q mq => by rw [List.mem_singleton.mp mq, e]; exact ⟨cb, u, l⟩, fun q mq => by rw [List.mem_singleton.mp mq, e]; exact m, fun q mq => by rw [List.mem_singleton.mp mq]; exact ln⟩
  unfold sngV
  by_cases z : n = 1
  · rw [if_pos z]
    exact go (c, 1, []) rfl ⟨(show (0:Int) ≤ 1 by decide), .nil, (fun _ m => nomatch m)⟩ (.inl (show (0:Int) < 1 by decide)) (show (1:Int) ≤ lim12 by decide) (fun _ m => nomatch m) (Nat.zero_le _)
  · rw [if_neg z]
    refine go (c, 0, [n]) rfl ⟨Int.le_refl 0, List.pairwise_singleton .., fun k mk => ?_⟩ (.inr (by simp)) (show (0:Int) ≤ lim12 by decide) (fun k mk => ?_) (Nat.le_refl 1)
    · rw [List.mem_singleton.mp mk]
      show (0:Int) + 1 < n
      omega
    · rw [List.mem_singleton.mp mk]
      exact n2
theorem val_one {H : Hp} {p t b : Addr} {c u : Int} {l : List Int} (hp : H p = some (.tup [.ref t])) (ht : H t = some (.tup [.int c, .int u, .ref b])) (hb : H b = some (.tup (l.map V.int))) : ValAt H (.ref p) [(c, u, l)] :=
  ⟨p, [.ref t], rfl, hp, rfl, fun i x r h1 h2 => by
    match i, h1, h2 with
    | 0, h1, h2 =>
      obtain rfl := Option.some.inj h1
      obtain rfl := Option.some.inj h2
      exact ⟨t, b, rfl, ht, hb⟩⟩
theorem num_cut (x : Int) : ∃ n : Int, (if (if x > 1 then x else 1) < 10 ^ Int.toNat 12 then if x > 1 then x else 1 else 10 ^ Int.toNat 12) = n ∧ 1 ≤ n ∧ n ≤ lim12 := by
  have e : (10 : Int) ^ Int.toNat 12 = 1000000000000 := by decide
  rw [e]
  obtain ⟨y, ey, y1⟩ : ∃ y : Int, (if x > 1 then x else 1) = y ∧ 1 ≤ y := by
    by_cases z : x > 1
    · exact ⟨x, if_pos z, by omega⟩
    · exact ⟨1, if_neg z, Int.le_refl 1⟩
  rw [ey]
  by_cases z : y < 1000000000000
  · exact ⟨y, if_pos z, y1, by unfold lim12; omega⟩
  · exact ⟨1000000000000, if_neg z, by decide, Int.le_refl _⟩
end RH
namespace RH
open PySem PySem.Spec PyProof.Rows L2
/-! ### errors as things: made and kept, handed to a def while they are handled -/
theorem inst_zc {h : Heap} {a D : Addr} {oe : Obj} (e : h.get? a = some oe) (z : Zc (.ref D) none oe) (f : ∃ vs, oe.data = .fields vs) : PySem.W.InstAt h a oe D none := by
  obtain ⟨vs, f⟩ := f
  obtain ⟨z1, z2⟩ := z
  cases oe with
  | mk oc od oda osl =>
    simp only at z1 z2 f
    subst z1 z2 f
    exact ⟨e, rfl, rfl, trivial⟩
/-- o says that the thing at a is an error of the class D -/
def ExP (D a : Addr) (o : HO) : Prop := ∃ φ : Heap → Prop, o = .ext φ ∧ ∀ h, φ h → ∃ oe, PySem.W.InstAt h a oe D none
theorem exP_O {D a : Addr} : ExP D a (ExO (.ref D) a) :=
  ⟨_, rfl, fun h ⟨oe, vs, e, z, f, _⟩ => ⟨oe, inst_zc e z ⟨vs, f⟩⟩⟩
/-- isinstance of such a thing -/
def rIsX (K : PySem.W.Frag) : List V → Hp → VK → Prop := fun xs H Q => ∃ (a D : Addr) (o : HO) (c : V) (cv : Value) (b : Bool), xs = [.ref a, c] ∧ H a = some o ∧ ExP D a o ∧ ExcC K D ∧ (∀ u, RelV c u → u = cv) ∧ PySem.W.kitOne K (.ref D) cv = some b ∧ Q (.bl b) H
theorem call_isX {X : Cx} : CallR X (.builtin "isinstance") (rIsX X.K) := by
  rintro pins s σ H xs us Q I r ⟨a, D, o, c, cv, b, rfl, ha, ⟨φ, rfl, hφ⟩, C, hcv, e, q⟩
  obtain ⟨u1, u2, rfl, r1, r2⟩ := vals2 r
  cases (show u1 = Value.ref a from r1)
  obtain rfl := hcv _ r2
  obtain ⟨hp, _, _⟩ := (show ObjOk X.prog X.w H s.heap a (.ext φ) from I.hok a _ ha)
  obtain ⟨oe, J⟩ := hφ _ hp
  exact PySem.W.kia_one (PySem.W.handS_kitx_exc C.hg C.hk C.hs C.hd C.ha C.hn C.ht C.hm) I.kIn J e (fun z => nomatch z) fun tk => ⟨.bl b, H, I.tok tk, rfl, q⟩
theorem r_isX {K : PySem.W.Frag} {D a : Addr} {o : HO} {c : V} {cv : Value} {b : Bool} {H : Hp} {Q : VK} (ha : H a = some o) (he : ExP D a o) (C : ExcC K D) (hcv : ∀ u, RelV c u → u = cv) (h : PySem.W.kitOne K (.ref D) cv = some b) (q : Q (.bl b) H) : rIsX K [.ref a, c] H Q :=
  ⟨a, D, o, c, cv, b, rfl, ha, he, C, hcv, h, q⟩
/-- isinstance of the error that is handled, anywhere below -/
theorem call_isP {X : Cx} {a D : Addr} {oe : Obj} (hp : (a, oe) ∈ X.pn) (hz : Zc (.ref D) none oe) (hf : ∃ vs, oe.data = .fields vs) (C : ExcC X.K D) : CallR X (.builtin "isinstance") (rIsE X.K D a) := by
  rintro pins s σ H xs us Q I r ⟨c, cv, b, rfl, hcv, e, q⟩
  obtain ⟨u1, u2, rfl, r1, r2⟩ := vals2 r
  cases (show u1 = Value.ref a from r1)
  obtain rfl := hcv _ r2
  have P1 := (I.pin (a, oe) (List.mem_append_left _ hp)).1
  exact PySem.W.kia_one (PySem.W.handS_kitx_exc C.hg C.hk C.hs C.hd C.ha C.hn C.ht C.hm) I.kIn (inst_zc P1 hz hf) e (fun z => nomatch z) fun tk => ⟨.bl b, H, I.tok tk, rfl, q⟩
/-- X(text), an error as a thing -/
def tExV (C : Addr) (t : TE) : TE := fun σ H Q => t σ H fun _ H1 => ∀ a, H1 a = none → Q (.ref a) (upd H1 a (ExO (.ref C) a))
theorem pe_exV {X : Cx} {x : Str} {C : Addr} {t : TE} {e : Expr} {p pos : Pos} (c : Err X.K X.mg x C) (hg : Gl X x) (he : PE X e t) (hs : starEach [e] X.env = (false, eval e X.env) :: starEach [] X.env := by rfl) (hdb : (x == ("__debug__" : Str)) = false := by decide) :
    PE X (.Call (.Name x p) [e] [] pos) (tExV C t) := pe_exc1 PySem.F.excBase_ValueError c.xF c.gF c.kF hg he hs hdb
theorem r_exV {C : Addr} {t : TE} {σ : L2.St} {H : Hp} {Q : VK} (h : t σ H fun _ H1 => ∀ a, H1 a = none → Q (.ref a) (upd H1 a (ExO (.ref C) a))) : tExV C t σ H Q := h
/-! ### a def that is handed the error while it is handled -/
/-- a promise of a def whose one argument is that error: what it gives -/
structure FnP (P : Program) (w : World) (K : PySem.W.Frag) (mg : Str → Option Value) (base : Heap) (k : Nat) (f : Addr) (fd : FuncData) (x : Str) (sp : Addr → Sp) : Prop where
  run : ∀ (A : Around) (outer : List Env) (s : Shared) (H : Hp) (args : Args) (Q : VK) (D : Addr) (q : Addr × Obj), L2H.RoomH k A → L2H.PinOk outer H s q → Zc (.ref D) none q.2 → (∃ vs, q.2.data = .fields vs) → Env0 P w K mg base A outer s H →
    BindsTo s fd args [(x, .ref q.1)] → sp D [] H Q C8.E0 → codeAny (model P w) A (.call (.ref f) args) (CR CX0 outer P w H s Q C8.E0) s
theorem fnp_of {P : Program} {w : World} {K : PySem.W.Frag} {mg : Str → Option Value} {base : Heap} {k : Nat} {f : Addr} {fd : FuncData} {x nm qual : Str} {st : Stmt} {N : List Str} {sp : Addr → Sp} (F : Fun K nm qual st f fd) (S : FnScope N [x] (defScope st))
    (body : ∀ (cdv : Value) (A : Around) (outer : List Env) (s : Shared) (H : Hp) (Q : VK) (D : Addr) (q : Addr × Obj), Zc (.ref D) none q.2 → (∃ vs, q.2.data = .fields vs) → sp D [] H Q C8.E0 →
      ∃ t, PSs (L2H.cxH CX0 P w K mg base N qual (defScope st) f cdv A outer s H C8.E0 q) (defBody st) t ∧ t { nx := fun _ H' => Q .non H', rt := Q } (L2.start N [.ref q.1]) H) : FnP P w K mg base (k + 1) f fd x sp := by
  obtain ⟨oc, od, kV, doc, pm, an, cdv, ct, osl, rfl, look, code⟩ := F.ex
  constructor
  intro A outer s H args Q D q room pin zc fl e0 bd prom
  have inK : K.In s.heap := e0.mod.kin.keeps fun b o z => (e0.bs b o z).1
  refine codeAny_call_function room.depth (inK _ _ look) rfl S.co S.gen rfl (PySem.W.codeRec_of inK code) (bd _ _ _ _ ?_)
  refine wpAny_newFunctionEnv_cells S.kind (fun y my => ?_) fun env he s1 ic => ?_
  · obtain rfl := List.mem_singleton.mp my
    exact (S.par x List.mem_cons_self).imp id fun z => ⟨z, PySem.W.cellsFrom_some _ _ _ (.inl z)⟩
  subst he
  refine ⟨(e0.mod.nolimit.keeps fun b o z => (e0.bs b o z).1).keeps ic.toInCall.keep, codeAny_func ?_⟩
  obtain ⟨t, ps, go⟩ := body cdv A outer s H Q D q zc fl prom
  have I := L2H.inv_startH (CX := CX0) (K := K) (mg := mg) (base := base) (A := A) (E := C8.E0) (ps := [x]) (us := [.ref q.1]) (vs := [.ref q.1]) S pin e0 rfl (.cons rfl .nil) ic
  refine wpAny_mono (ps.run [] s1 _ H _ I go) ?_ fun _ _ z => z
  intro fl s2 end_
  cases fl with
  | brk => obtain ⟨_, _, _, z⟩ := end_; exact z.elim
  | cont => obtain ⟨_, _, _, z⟩ := end_; exact z.elim
  | next =>
    obtain ⟨_, H2, J, z⟩ := end_
    exact ⟨.non, H2, J.os, J.bare, J.base, J.hok, rfl, z⟩
  | ret u =>
    obtain ⟨v, _, H2, J, rv, z⟩ := end_
    exact ⟨v, H2, J.os, J.bare, J.base, J.hok, rv, z⟩
structure CalP (P : Program) (w : World) (K : PySem.W.Frag) (mg : Str → Option Value) (base : Heap) (k : Nat) (x : Str) (sp : Addr → Sp) : Prop where
  ex : ∃ (f : Addr) (fd : FuncData) (y : Str), FnP P w K mg base k f fd y sp ∧ mg x = some (.ref f) ∧ PySem.W.keepIn K (.ref f) = true ∧ Binds K fd [y] []
/-- f(e), e the error in hand -/
def tCalP (a : Addr) (cls : Value) (d : Option Addr) (sp : Addr → Sp) (t : TA) : TE := fun σ H Q => t σ H fun vs H1 => vs = [.ref a] ∧ ∃ D, cls = .ref D ∧ d = none ∧ sp D [] H1 Q C8.E0
theorem r_calP {a : Addr} {cls : Value} {d : Option Addr} {sp : Addr → Sp} {t : TA} {σ : L2.St} {H : Hp} {Q : VK} (h : t σ H fun vs H1 => vs = [.ref a] ∧ ∃ D, cls = .ref D ∧ d = none ∧ sp D [] H1 Q C8.E0) : tCalP a cls d sp t σ H Q := h
theorem pe_calP {X : Cx} {a : Addr} {oe : Obj} {cls : Value} {d : Option Addr} {pn : List (Addr × Obj)} {x : Str} {sp : Addr → Sp} {k j : Nat} {p pos : Pos} {e : Expr} {t : TA} (c : CalP X.prog X.w X.K X.mg X.base k x sp) (hr : Room j X.A) (hk : k ≤ j) (hg : Gl X x) (hz : Zc cls d oe) (hf : ∃ vs, oe.data = .fields vs)
    (ha : PA (X.suite a ((a, oe) :: pn)) [e] t) (hs : starEach [e] X.env = (false, eval e X.env) :: starEach [] X.env := by rfl) (hpl : (backTo pos (starEach [] X.env)).any (·.1) = false := by rfl) (hdb : (x == ("__debug__" : Str)) = false := by decide) :
    PE (X.suite a ((a, oe) :: pn)) (.Call (.Name x p) [e] [] pos) (tCalP a cls d sp t) := by
  obtain ⟨f, fd, y, F, hm, kp, bd⟩ := c.ex
  constructor
  intro pins s σ H Q I h
  refine wpAny_Call_Name_kw (ld_glob I hg hm ?_ hdb)
  refine PySem.W.callWith_K (h₀ := X.base) I.ok.mod.kin kp (thn (ha.run pos pins s σ H _ I h) ?_) hs hpl
  rintro us s1 ⟨vs, H1, I1, r, rfl, D, rfl, rfl, prom⟩
  obtain ⟨u, rfl, ru⟩ := r.one
  cases (show u = Value.ref a from ru)
  refine ⟨I1.kIn, ?_⟩
  obtain ⟨p1, p2, p3, p4, p5⟩ := I1.pin (a, oe) (List.mem_append_left _ List.mem_cons_self)
  have room : L2H.RoomH k (X.suite a ((a, oe) :: pn)).A := L2H.RoomH.mono ⟨hr.dp, hr.un⟩ hk
  have run := F.run _ _ s1 H1 ⟨[.ref a], []⟩ Q D (a, oe) room ⟨p1, p2, fun z => (List.mem_cons.mp (I1.stkSub a z)).elim p3 p4, p5⟩ hz hf I1.env0 (bd s1 [.ref a] I1.kIn rfl) prom
  refine wpAny_call (codeAny_mono run fun res s2 z => ?_)
  match res, z with
  | .ok (.ret u), z => exact I1.after z
end RH
namespace RH
open PySem L2
/-! ### ascending, as the law looks for it -/
theorem ascB_get : ∀ {l : List Int}, ascB ltI l = true ↔ ∀ (i : Nat) (h : i + 1 < l.length), l[i] < l[i + 1]
  | [] => ⟨fun _ i h => absurd h (by simp), fun _ => rfl⟩
  | [a] => ⟨fun _ i h => absurd h (by simp), fun _ => rfl⟩
  | a :: b :: r => by
    have ih := ascB_get (l := b :: r)
    show (ltI a b && ascB ltI (b :: r)) = true ↔ _
    rw [Bool.and_eq_true, ih]
    unfold ltI
    rw [decide_eq_true_iff]
    constructor
    · rintro ⟨h, p⟩ i hi
      match i, hi with
      | 0, _ => exact h
      | i + 1, hi => exact p i (by simpa using hi)
    · exact fun h => ⟨h 0 (by simp), fun i hi => h (i + 1) (by simpa using hi)⟩
theorem getD_at {l : List Int} {i : Nat} (h : i < l.length) : l.getD i 0 = l[i] := by
  rw [List.getD_eq_getElem?_getD, List.getElem?_eq_getElem h]
  rfl
/-- what the law's comprehension goes through -/
def dnL (l : List Int) : List (Bool × V) := (List.range (l.length - 1)).map fun i => (decide (l.getD (i + 1) 0 ≤ l.getD i 0), V.int (1 + (i : Nat)))
theorem dnL_len (l : List Int) : (dnL l).length = l.length - 1 := by
  unfold dnL
  rw [List.length_map, List.length_range]
theorem dnL_at {l : List Int} {i : Nat} {c : Bool} {y : V} (h : (dnL l)[i]? = some (c, y)) : ∃ hi : i + 1 < l.length, c = decide (l[i + 1] ≤ l[i]) ∧ y = .int (1 + (i : Nat)) := by
  unfold dnL at h
  rw [List.getElem?_map] at h
  obtain ⟨j, hj, e⟩ := Option.map_eq_some_iff.mp h
  obtain ⟨hl, ej⟩ := List.getElem?_eq_some_iff.mp hj
  rw [List.length_range] at hl
  rw [List.getElem_range] at ej
  subst ej
  obtain ⟨e1, e2⟩ := Prod.mk.inj e
  refine ⟨by omega, ?_, e2.symm⟩
  rw [← e1, getD_at (by omega), getD_at (by omega)]
theorem dnL_nil (l : List Int) : decide (V.int ((((dnL l).filter (·.1)).map (·.2)).length : Int) = V.int 0) = ascB ltI l := by
  rw [Bool.eq_iff_iff, decide_eq_true_iff, ascB_get, List.length_map]
  constructor
  · intro h i hi
    have h := V.int.inj h
    have e : (dnL l).filter (·.1) = [] := List.length_eq_zero_iff.mp (by omega)
    have := List.filter_eq_nil_iff.mp e (decide (l.getD (i + 1) 0 ≤ l.getD i 0), V.int (1 + (i : Nat))) (List.mem_map.mpr ⟨i, List.mem_range.mpr (by omega), rfl⟩)
    rw [getD_at (by omega), getD_at (by omega)] at this
    simp only [decide_eq_true_eq] at this
    omega
  · intro h
    have e : (dnL l).filter (·.1) = [] := by
      refine List.filter_eq_nil_iff.mpr fun p m => ?_
      obtain ⟨i, mi, rfl⟩ := List.mem_map.mp m
      have mi := List.mem_range.mp mi
      have := h i (by omega)
      rw [getD_at (by omega), getD_at (by omega)]
      simp only [decide_eq_true_eq]
      omega
    rw [e]
    rfl
/-- later, as the law tests it -/
theorem laterB_of {u : Int} {es : List D} (all : ∀ e ∈ es, isNum e = true ∧ u + 2 ≤ intD e) (ne : ¬ u + (es.length : Int) = 0) (u0 : 0 ≤ u) : laterB u (.tup es) = ascB ltI (es.map intD) := by
  show (es.all isNum && tailB u es) = _
  rw [List.all_eq_true.mpr fun e m => (all e m).1, Bool.true_and]
  cases es with
  | nil => exact decide_eq_true (by simp at ne; omega)
  | cons k r =>
    show (decide (u + 1 < intD k) && _) = _
    have := (all k List.mem_cons_self).2
    rw [decide_eq_true (by omega), Bool.true_and]
theorem laterB_no {u : Int} {es : List D} {e : D} (m : e ∈ es) (h : isNum e = false ∨ intD e < u + 2) : laterB u (.tup es) = false := by
  cases z : laterB u (.tup es) with
  | false => rfl
  | true =>
    have z1 : (es.all isNum && tailB u es) = true := z
    rw [Bool.and_eq_true] at z1
    have n1 := List.all_eq_true.mp z1.1 e m
    rcases h with h | h
    · rw [h] at n1
      cases n1
    · cases es with
      | nil => cases m
      | cons k r =>
        have z2 : (decide (u + 1 < intD k) && ascB ltI ((k :: r).map intD)) = true := z1.2
        rw [Bool.and_eq_true, decide_eq_true_iff, ascB_iff, List.map_cons, List.pairwise_cons] at z2
        rcases List.mem_cons.mp m with rfl | m
        · omega
        · have := z2.2.1 (intD e) (List.mem_map_of_mem m)
          omega
theorem laterB_nil {u : Int} (h : u = 0) : laterB u (.tup []) = false := by
  subst h
  rfl
theorem tailB_len {u : Int} {es : List D} (h : u + (es.length : Int) = 0) (u0 : 0 ≤ u) : laterB u (.tup es) = false := by
  cases es with
  | nil => exact laterB_nil (by simpa using h)
  | cons k r =>
    rw [List.length_cons] at h
    omega
theorem rowB3 {a b c : D} : rowB (.tup [a, b, c]) = (isNum a && (isNum b && laterB (intD b) c)) := rfl
theorem row3_no {ls : List D} (h : ls.length ≠ 3) : rowB (.tup ls) = false := by
  match ls, h with
  | [], _ => rfl
  | [_], _ => rfl
  | [_, _], _ => rfl
  | [_, _, _], z => exact absurd rfl z
  | _ :: _ :: _ :: _ :: _, _ => rfl
theorem later_tup {u : Int} {c : D} (h : (!isD c "tuple") = true) : laterB u c = false := by
  cases c <;> first | rfl | (exfalso; cases h)
theorem row_tup {d : D} (h : (!isD d "tuple") = true) : rowB d = false := by
  cases d <;> first | rfl | (exfalso; cases h)
theorem cv_tup {d : D} (h : (!isD d "tuple") = true) : cvB d = false := by
  cases d <;> first | rfl | (exfalso; cases h)
theorem cv_no {ds : List D} {d : D} (m : d ∈ ds) (h : rowB d = false) : cvB (.tup ds) = false := by
  show (ds.all rowB && _) = false
  cases z : ds.all rowB with
  | false => rfl
  | true =>
    rw [List.all_eq_true.mp z d m] at h
    cases h
theorem cv_yes {ds : List D} (h : ∀ d ∈ ds, rowB d = true) : cvB (.tup ds) = ascB ltI (ds.map cliD) := by
  show (ds.all rowB && _) = _
  rw [List.all_eq_true.mpr h, Bool.true_and]
/-- a row's numbers are numbers -/
theorem cv_num {rows : RV} (h : cvB (cvD rows) = true) : NumV rows := by
  have h : ((rows.map rwD).all rowB && ascB ltI ((rows.map rwD).map cliD)) = true := h
  rw [Bool.and_eq_true, List.all_eq_true] at h
  intro r m
  have z := h.1 _ (List.mem_map_of_mem m)
  have z : (isNum (.int r.1) && (isNum (.int r.2.1) && laterB r.2.1 (.tup (r.2.2.map D.int)))) = true := z
  rw [Bool.and_eq_true, Bool.and_eq_true] at z
  obtain ⟨z1, z2, z3⟩ := z
  have z3 : ((r.2.2.map D.int).all isNum && tailB r.2.1 (r.2.2.map D.int)) = true := z3
  rw [Bool.and_eq_true, List.all_eq_true] at z3
  obtain ⟨_, a0, a1⟩ := num_intD z1
  obtain ⟨_, b0, b1⟩ := num_intD z2
  exact ⟨⟨a0, a1⟩, b1, fun k mk => (num_intD (z3.1 _ (List.mem_map_of_mem mk))).2.2⟩
/-! ### promises -/
def spClsV (K : PySem.W.Frag) (CR CB CY CU CH : Addr) : Sp := fun vs H Q _ => ∃ (a D : Addr) (o : HO) (b1 b2 b3 b4 : Bool), vs = [.ref a] ∧ H a = some o ∧ ExP D a o ∧ ExcC K D ∧ PySem.W.kitOne K (.ref D) (.ref CR) = some true ∧ PySem.W.kitOne K (.ref D) (.type "ValueError") = some true ∧
  PySem.W.kitOne K (.ref D) (.ref CB) = some b1 ∧ PySem.W.kitOne K (.ref D) (.ref CY) = some b2 ∧ PySem.W.kitOne K (.ref D) (.ref CU) = some b3 ∧ PySem.W.kitOne K (.ref D) (.ref CH) = some b4 ∧
  ∀ l H', Same H H' → H l = none → H' l = some (.lst [.bl b1, .bl b2, .bl b3, .bl b4]) → Q (.ref l) H'
def spClsP (K : PySem.W.Frag) (CR CB CY CU CH : Addr) : Addr → Sp := fun D vs H Q _ => ∃ (b1 b2 b3 b4 : Bool), ExcC K D ∧ PySem.W.kitOne K (.ref D) (.ref CR) = some true ∧ PySem.W.kitOne K (.ref D) (.type "ValueError") = some true ∧
  PySem.W.kitOne K (.ref D) (.ref CB) = some b1 ∧ PySem.W.kitOne K (.ref D) (.ref CY) = some b2 ∧ PySem.W.kitOne K (.ref D) (.ref CU) = some b3 ∧ PySem.W.kitOne K (.ref D) (.ref CH) = some b4 ∧
  ∀ l H', Same H H' → H l = none → H' l = some (.lst [.bl b1, .bl b2, .bl b3, .bl b4]) → Q (.ref l) H'
def spRef6 (K : PySem.W.Frag) (CC : Addr → Prop) : Sp := fun vs H Q _ => ∃ (v : V) (d : D), vs = [v] ∧ Rep K CC H v d ∧ cvB d = false ∧ ∀ H', Same H H' → Q (.bl true) H'
def spEdges6 : Sp := fun vs H Q _ => ∃ (l : Addr) (v0 : V) (r0 : RV) (c : Int), vs = [.ref l, .int c] ∧ H l = some (.lst [v0]) ∧ (ValAt H v0 r0 ∧ CanR r0 ∧ LenV 60 r0) ∧
  ∀ (d : Addr) (ns : List Int) (H' : Hp), Same H H' → H d = none → H' d = some (.lst (ns.map V.int)) → ns.length ≤ 1000 → (∀ n ∈ ns, 1 ≤ n) → Q (.ref d) H'
def spHeld6 (C : Addr) : Sp := fun vs H Q _ => ∃ (v : V) (rows : RV), vs = [v] ∧ ValAt H v rows ∧ CanR rows ∧ NumV rows ∧ wtV rows ≤ 500 ∧ LenV 60 rows ∧ ∀ H', Same H H' → Q (.bl true) H'
/-- a row that is not too long -/
def RowS (e : D) : Prop := ∀ r, e = rwD r → r.2.2.length ≤ 10
/-- a value that is not too long -/
def ValS (d : D) : Prop := ∀ rows, d = cvD rows → rows.length ≤ 20 ∧ LenV 10 rows
theorem valS_tup {ds : List D} (l : ds.length ≤ 20) (h : ∀ e ∈ ds, RowS e) : ValS (.tup ds) := by
  rintro rows e
  obtain rfl := D.tup.inj e
  rw [List.length_map] at l
  exact ⟨l, fun r m => h _ (List.mem_map_of_mem m) r rfl⟩
def spOdd6 (K : PySem.W.Frag) (CC : Addr → Prop) : Sp := fun vs H Q _ => ∃ r : Addr, vs = [.ref r] ∧ Row H r ∧ ∀ v d H', Fr r H H' → Row H' r → Rep K CC (Tu H') v d → (∀ i j l, d ≠ .tup [i, j, l]) → Q v H'
def spSpoL6 (K : PySem.W.Frag) (CC : Addr → Prop) : Sp := fun vs H Q _ => ∃ (r b : Addr) (u : Int) (l : List Int), vs = [.ref r, .int u, .ref b] ∧ Row H r ∧ H b = some (.tup (l.map V.int)) ∧ l.length ≤ 6 ∧
  ∀ t xs ds H', Fr r H H' → Row H' r → t ≠ r → H' t = some (.tup xs) → RepAll K CC (Tu H') xs ds → ds.length ≤ 7 → Q (.ref t) H'
def spSpo6 (K : PySem.W.Frag) (CC : Addr → Prop) : Sp := fun vs H Q _ => ∃ (r : Addr) (v : V) (rows : RV), vs = [.ref r, v] ∧ Row H r ∧ ValAt H v rows ∧ LenV 6 rows ∧ rows.length ≤ 14 ∧
  ∀ u d H', Fr r H H' → Row H' r → Rep K CC (wo H' r) u d → ValS d → Q u H'
end RH
namespace RH
open PySem L2
section
variable {K : PySem.W.Frag} {CC : Addr → Prop} {H H' Hn : Hp}
/-! ### what is new: one more object -/
structure New (H Hn Hm : Hp) (p : Addr) (o : HO) : Prop where
  at_ : fresh H Hm p = some o
  keep : Same (fresh H Hn) (fresh H Hm)
  dom : Dom H Hm
theorem new_of {p : Addr} {o : HO} (d : Dom H Hn) (h : Hn p = none) : New H Hn (upd Hn p o) p o :=
  ⟨fresh_of (d p h) upd_same, fresh_step (Dom.refl H) fun b x e q => by rw [upd_ne (ne_of_none q h)]; exact q, d.upd⟩
theorem dot_new {p : Addr} {a b : Int} (d : Dom H Hn) (h : Hn p = none) : DotAt K (fresh H (upd Hn p (.tup [.int a, .int b]))) (.ref p) (a, b) := ⟨p, rfl, SqT.of (new_of d h).at_⟩
theorem dot_rep {a b : Int} {v : V} (h : ∃ p, v = .ref p ∧ H p = some (.tup [.int a, .int b])) : Rep K CC H v (.tup [.int a, .int b]) := by
  obtain ⟨p, rfl, e⟩ := h
  refine .tup e rfl (Nat.le_of_ble_eq_true rfl) fun i x d hx hd => ?_
  match i with
  | 0 => cases hx; cases hd; exact .int a
  | 1 => cases hx; cases hd; exact .int b
  | i + 2 => simp at hx
/-- the promise of _law_dot -/
def sp_dot : Sp := fun vs H Q _ => ∃ (r c : Addr) (ns : List Int), vs = [.ref r, .ref c] ∧ Row H r ∧ c ≠ r ∧ H c = some (.lst (ns.map V.int)) ∧ 0 < ns.length ∧ ns.length ≤ 1000 ∧
  ∀ p a b H', Fr r H H' → Row H' r → fresh H H' p = some (.tup [.int a, .int b]) → Q (.ref p) H'
theorem r_joinD {Q : VK} {p : Addr} {cs : List Nat} (h : H p = some (.lst (cs.map sg))) (hl : cs.length ≤ 1000) (q : Q (.str (SX.S cs)) H) : rJoin K (.str ("" : Str)) [.ref p] H Q := by
  have z := r_join (K := K) (σ := [some (.ref p)]) (j := 0) (Q := Q) rfl h hl q
  obtain ⟨_, v, hv, y⟩ := z
  cases hv
  exact y
theorem items_snoc {xs : List V} {ds : List D} {v : V} {e : D} (hl : xs.length = ds.length) (hi : ∀ (i : Nat) (x : V) (d : D), xs[i]? = some x → ds[i]? = some d → Rep K CC H x d) (h : Rep K CC H v e) :
    ∀ (i : Nat) (x : V) (d : D), (xs ++ [v])[i]? = some x → (ds ++ [e])[i]? = some d → Rep K CC H x d := fun i x d hx hd => by
  by_cases z : i < xs.length
  · rw [List.getElem?_append_left z] at hx
    rw [List.getElem?_append_left (by omega)] at hd
    exact hi i x d hx hd
  · rw [List.getElem?_append_right (by omega)] at hx
    rw [List.getElem?_append_right (by omega)] at hd
    have e1 : i - xs.length = 0 := by
      have := (List.getElem?_eq_some_iff.mp hx).1
      rw [List.length_singleton] at this
      omega
    have e2 : i - ds.length = 0 := by omega
    rw [e1] at hx
    rw [e2] at hd
    cases hx
    cases hd
    exact h
/-- three items -/
theorem rep3 {p : Addr} {x y z : V} {a b c : D} (h : H p = some (.tup [x, y, z])) (h1 : Rep K CC H x a) (h2 : Rep K CC H y b) (h3 : Rep K CC H z c) : Rep K CC H (.ref p) (.tup [a, b, c]) := by
  refine .tup h rfl (Nat.le_of_ble_eq_true rfl) fun i u d hu hd => ?_
  match i with
  | 0 => cases hu; cases hd; exact h1
  | 1 => cases hu; cases hd; exact h2
  | 2 => cases hu; cases hd; exact h3
  | i + 3 => simp at hu
def Three (d : D) : Prop := ∃ a b c, d = .tup [a, b, c]
theorem okS_am : OkS ("amount" : Str) := ⟨by decide +kernel, by decide +kernel⟩
theorem okS_fl : OkS ("flag" : Str) := ⟨by decide +kernel, by decide +kernel⟩
theorem okS_va : OkS ("value" : Str) := ⟨by decide +kernel, by decide +kernel⟩
theorem okS_el : OkS ("element" : Str) := ⟨by decide +kernel, by decide +kernel⟩
/-! ### tables of things -/
def Reps (K : PySem.W.Frag) (CC : Addr → Prop) (H : Hp) (L : List V) : Prop := ∀ v ∈ L, ∃ d, Rep K CC H v d
def okF : V → Bool | .non => true | .bl _ => true | .int _ => true | .str s => okStr s | _ => false
theorem reps_flat {L : List V} (h : L.all okF = true) : Reps K CC H L := fun v hv => by
  have z := List.all_eq_true.mp h v hv
  cases v with
  | non => exact ⟨_, .non⟩
  | bl b => exact ⟨_, .bl b⟩
  | int i => exact ⟨_, .int i⟩
  | str s => exact ⟨_, .str s (okS_of z)⟩
  | _ => cases z
theorem Reps.mono {L : List V} (a : Reps K CC H L) (s : Same H H') : Reps K CC H' L := fun v hv => by
  obtain ⟨d, R⟩ := a v hv
  exact ⟨d, R.mono s⟩
theorem Reps.app {L M : List V} (a : Reps K CC H L) (b : Reps K CC H M) : Reps K CC H (L ++ M) := fun v hv => (List.mem_append.mp hv).elim (a v) (b v)
theorem Reps.sub {L M : List V} (a : Reps K CC H L) (s : ∀ v ∈ M, v ∈ L) : Reps K CC H M := fun v hv => a v (s v hv)
theorem reps_items {L : List V} (a : Reps K CC H L) : ∃ ds : List D, L.length = ds.length ∧ ∀ (i : Nat) (x : V) (d : D), L[i]? = some x → ds[i]? = some d → Rep K CC H x d := by
  induction L with
  | nil => exact ⟨[], rfl, fun i x d h _ => by simp at h⟩
  | cons v L ih =>
    obtain ⟨ds, hl, hi⟩ := ih fun w hw => a w (List.mem_cons_of_mem _ hw)
    obtain ⟨d, R⟩ := a v List.mem_cons_self
    refine ⟨d :: ds, by simp [hl], fun i x e hx he => ?_⟩
    match i with
    | 0 => cases hx; cases he; exact R
    | i + 1 => exact hi i x e hx he
theorem rep_tupE {p : Addr} {xs : List V} (h : H p = some (.tup xs)) (a : Reps K CC H xs) (hs : xs.length ≤ 1000) : ∃ d, Rep K CC H (.ref p) d := by
  obtain ⟨ds, hl, hi⟩ := reps_items a
  exact ⟨_, .tup h hl hs hi⟩
theorem rep_lstE {p : Addr} {xs : List V} (h : H p = some (.lst xs)) (a : Reps K CC H xs) (hs : xs.length ≤ 1000) : ∃ d, Rep K CC H (.ref p) d := by
  obtain ⟨ds, hl, hi⟩ := reps_items a
  exact ⟨_, .lst h hl hs hi⟩
/-- a table under way: what stands in it is new since H, all but the row at r is kept -/
structure Tab (K : PySem.W.Frag) (CC : Addr → Prop) (r : Addr) (H Hn : Hp) (L : List V) : Prop where
  reps : Reps K CC (fresh H Hn) L
  fr : Fr r H Hn
  row : Row Hn r
theorem Tab.nil {r : Addr} (f : Fr r H Hn) (row : Row Hn r) : Tab K CC r H Hn [] := ⟨(fun _ h => nomatch h), f, row⟩
theorem Tab.dom {r : Addr} {L : List V} (t : Tab K CC r H Hn L) : Dom H Hn := t.fr.dom t.row
theorem Tab.tup {r p : Addr} {L xs : List V} (t : Tab K CC r H Hn L) (h : Hn p = none) (a : xs.all okF = true) (hs : Nat.ble xs.length 1000 = true) : Tab K CC r H (upd Hn p (.tup xs)) (.ref p :: L) := by
  have N := new_of (o := .tup xs) t.dom h
  refine ⟨fun v hv => ?_, t.fr.trans (Fr.new h), t.row.upd h⟩
  rcases List.mem_cons.mp hv with rfl | hv
  · exact rep_tupE N.at_ (reps_flat a) (Nat.le_of_ble_eq_true hs)
  · exact t.reps.mono N.keep v hv
theorem Tab.lst {r p : Addr} {L xs : List V} (t : Tab K CC r H Hn L) (h : Hn p = none) (a : xs.all okF = true) (hs : Nat.ble xs.length 1000 = true) : Tab K CC r H (upd Hn p (.lst xs)) (.ref p :: L) := by
  have N := new_of (o := .lst xs) t.dom h
  refine ⟨fun v hv => ?_, t.fr.trans (Fr.new h), t.row.upd h⟩
  rcases List.mem_cons.mp hv with rfl | hv
  · exact rep_lstE N.at_ (reps_flat a) (Nat.le_of_ble_eq_true hs)
  · exact t.reps.mono N.keep v hv
theorem Tab.dct {r p : Addr} {L : List V} {kvs : List (Key × V)} (t : Tab K CC r H Hn L) (h : Hn p = none) : Tab K CC r H (upd Hn p (.dK kvs)) (.ref p :: L) := by
  have N := new_of (o := .dK kvs) t.dom h
  refine ⟨fun v hv => ?_, t.fr.trans (Fr.new h), t.row.upd h⟩
  rcases List.mem_cons.mp hv with rfl | hv
  · exact ⟨_, .dct N.at_⟩
  · exact t.reps.mono N.keep v hv
/-- the table itself -/
theorem Tab.done {r p : Addr} {L : List V} {o : HO} (t : Tab K CC r H Hn L) (h : Hn p = none) : Tab K CC r H (upd Hn p o) L := ⟨t.reps.mono (new_of t.dom h).keep, t.fr.trans (Fr.new h), t.row.upd h⟩
theorem Tab.step {r : Addr} {L : List V} (t : Tab K CC r H Hn L) (rowH : Row H r) (f : Fr r Hn H') (row : Row H' r) : Tab K CC r H H' L := ⟨t.reps.mono (fresh_fr (Dom.refl H) rowH.ne f), t.fr.trans f, row⟩
/-! ### a list that is new since H and is changed: E, its items xs, other things L -/
structure Und (K : PySem.W.Frag) (CC : Addr → Prop) (r : Addr) (H : Hp) (E : Addr) (Hn : Hp) (xs L : List V) : Prop where
  ne : H E = none
  at_ : Hn E = some (.lst xs)
  rx : Reps K CC (fresh (upd H E (.lst [])) Hn) xs
  rl : Reps K CC (fresh (upd H E (.lst [])) Hn) L
  fr : Fr r H Hn
  row : Row Hn r
  dom : Dom (upd H E (.lst [])) Hn
  ner : E ≠ r
theorem fresh_sub {E : Addr} {o : HO} (n : H E = none) : Same (fresh (upd H E o) Hn) (fresh H Hn) := fun b x h => by
  obtain ⟨e, q⟩ := fresh_some h
  have nb : b ≠ E := fun z => by rw [z, upd_same] at e; cases e
  rw [upd_ne nb] at e
  exact fresh_of e q
section
variable {r E p : Addr} {xs L : List V}
theorem und_keep (u : Und K CC r H E Hn xs L) {o : HO} (h : Hn p = none) : Und K CC r H E (upd Hn p o) xs L := by
  have N := new_of (o := o) u.dom h
  exact ⟨u.ne, by rw [upd_ne (ne_of_none u.at_ h)]; exact u.at_, u.rx.mono N.keep, u.rl.mono N.keep, u.fr.trans (Fr.new h), u.row.upd h, N.dom, u.ner⟩
theorem Und.done (u : Und K CC r H E Hn xs L) {o : HO} (h : Hn p = none) : Und K CC r H E (upd Hn p o) xs L := und_keep u h
theorem Und.more (u : Und K CC r H E Hn xs L) {v : V} (h : ∃ d, Rep K CC (fresh (upd H E (.lst [])) Hn) v d) : Und K CC r H E Hn xs (v :: L) :=
  ⟨u.ne, u.at_, u.rx, fun w hw => by
    rcases List.mem_cons.mp hw with rfl | hw
    · exact h
    · exact u.rl w hw, u.fr, u.row, u.dom, u.ner⟩
theorem Und.tup {ys : List V} (u : Und K CC r H E Hn xs L) (h : Hn p = none) (a : ys.all okF = true) (hs : Nat.ble ys.length 1000 = true) : Und K CC r H E (upd Hn p (.tup ys)) xs (.ref p :: L) :=
  (u.done h).more (rep_tupE (new_of u.dom h).at_ (reps_flat a) (Nat.le_of_ble_eq_true hs))
theorem Und.lst {ys : List V} (u : Und K CC r H E Hn xs L) (h : Hn p = none) (a : ys.all okF = true) (hs : Nat.ble ys.length 1000 = true) : Und K CC r H E (upd Hn p (.lst ys)) xs (.ref p :: L) :=
  (u.done h).more (rep_lstE (new_of u.dom h).at_ (reps_flat a) (Nat.le_of_ble_eq_true hs))
theorem Und.dct {kvs : List (Key × V)} (u : Und K CC r H E Hn xs L) (h : Hn p = none) : Und K CC r H E (upd Hn p (.dK kvs)) xs (.ref p :: L) :=
  (u.done h).more ⟨_, .dct (new_of u.dom h).at_⟩
theorem Und.step (u : Und K CC r H E Hn xs L) (rowH : Row H r) (f : Fr r Hn H') (row : Row H' r) : Und K CC r H E H' xs L := by
  have s := fresh_fr (Dom.refl (upd H E (.lst []))) (show (upd H E (.lst [])) r ≠ none by rw [upd_ne u.ner.symm]; exact rowH.ne) f
  exact ⟨u.ne, f E _ u.ner u.at_, u.rx.mono s, u.rl.mono s, u.fr.trans f, row, u.dom.trans (fun b h => by
    cases q : Hn b with
    | none => rfl
    | some o =>
      by_cases z : b = r
      · subst z
        exact absurd h row.ne
      · rw [f b o z q] at h
        cases h), u.ner⟩
/-- the list is written -/
theorem Und.put {ys : List V} (u : Und K CC r H E Hn xs L) (h : ∀ v ∈ ys, v ∈ xs ∨ (∃ d, Rep K CC (fresh (upd H E (.lst [])) Hn) v d)) : Und K CC r H E (upd Hn E (.lst ys)) ys L := by
  have s : Same (fresh (upd H E (.lst [])) Hn) (fresh (upd H E (.lst [])) (upd Hn E (.lst ys))) := fresh_step (Dom.refl _) fun b o e q => by
    have nb : b ≠ E := fun z => by rw [z, upd_same] at e; cases e
    rw [upd_ne nb]
    exact q
  refine ⟨u.ne, upd_same, fun v hv => ?_, u.rl.mono s, u.fr.mut u.ne, u.row.setne u.ner, u.dom.upd, u.ner⟩
  rcases h v hv with z | ⟨d, R⟩
  · obtain ⟨d, R⟩ := u.rx v z
    exact ⟨d, R.mono s⟩
  · exact ⟨d, R.mono s⟩
/-- another list of some of its items takes its place -/
theorem Und.cut {ys : List V} (u : Und K CC r H E Hn xs L) (h : Hn p = none) (hs : ∀ v ∈ ys, v ∈ xs) : Und K CC r H p (upd Hn p (.lst ys)) ys L := by
  have hp : H p = none := by
    have z := u.dom p h
    rw [upd_ne (ne_of_none u.at_ h).symm] at z
    exact z
  have s : Same (fresh (upd H E (.lst [])) Hn) (fresh (upd H p (.lst [])) (upd Hn p (.lst ys))) := fun b o q => by
    obtain ⟨e, w⟩ := fresh_some q
    have n1 : b ≠ E := fun z => by rw [z, upd_same] at e; cases e
    have n2 : b ≠ p := ne_of_none w h
    rw [upd_ne n1] at e
    exact fresh_of (by rw [upd_ne n2]; exact e) (by rw [upd_ne n2]; exact w)
  refine ⟨hp, upd_same, (u.rx.sub hs).mono s, u.rl.mono s, u.fr.trans (Fr.new h), u.row.upd h, fun b z => ?_, u.row.ne_of h⟩
  have nb : b ≠ p := fun w => by rw [w, upd_same] at z; cases z
  rw [upd_ne nb] at z
  have z2 := u.dom b z
  have nE : b ≠ E := fun w => by rw [w, u.at_] at z; cases z
  rw [upd_ne nE] at z2
  rw [upd_ne nb]
  exact z2
theorem Und.drop (u : Und K CC r H E Hn xs L) : Und K CC r H E Hn xs [] := ⟨u.ne, u.at_, u.rx, (fun _ h => nomatch h), u.fr, u.row, u.dom, u.ner⟩
/-- what comes out -/
theorem Und.out (u : Und K CC r H E Hn xs L) {v : V} (h : v ∈ L) : ∃ d, Rep K CC (fresh H Hn) v d := by
  obtain ⟨d, R⟩ := u.rl v h
  exact ⟨d, R.mono (fresh_sub u.ne)⟩
theorem Und.self (u : Und K CC r H E Hn xs L) (hs : xs.length ≤ 1000) : ∃ d, Rep K CC (fresh H Hn) (.ref E) d := rep_lstE (fresh_of u.ne u.at_) (u.rx.mono (fresh_sub u.ne)) hs
theorem Und.asTup (u : Und K CC r H E Hn xs L) (h : Hn p = none) (hs : xs.length ≤ 1000) : ∃ d, Rep K CC (fresh H (upd Hn p (.tup xs))) (.ref p) d := by
  have hp : H p = none := by
    have z := u.dom p h
    rw [upd_ne (ne_of_none u.at_ h).symm] at z
    exact z
  have N := new_of (o := .tup xs) u.dom h
  exact rep_tupE (fresh_of hp upd_same) ((u.rx.mono N.keep).mono (fresh_sub u.ne)) hs
end
theorem Und.grow {r E : Addr} {xs L : List V} (u : Und K CC r H E Hn xs L) (k : ∀ b o, Hn b = some o → H' b = some o) (row : Row H' r) : Und K CC r H E H' xs L := by
  have s : Same (fresh (upd H E (.lst [])) Hn) (fresh (upd H E (.lst [])) H') := fun b o h => by
    obtain ⟨e, q⟩ := fresh_some h
    exact fresh_of e (k b o q)
  exact ⟨u.ne, k _ _ u.at_, u.rx.mono s, u.rl.mono s, u.fr.trans (Fr.of k), row, fun b h => u.dom b (by
    cases q : Hn b with
    | none => rfl
    | some o =>
      rw [k b o q] at h
      cases h), u.ner⟩
/-- Clock([]) -/
theorem r_clk0 {C r : Addr} {σ : St} {Hn : Hp} {Q : VK} {E : XK} (row : Row Hn r) (q : ∀ y dy fs H', (∀ b o, Hn b = some o → H' b = some o) → Row H' r → Hn y = none → H' y = some (.ins C dy fs) → Q (.ref y) H') :
    tMake C (spClk C) [] E (tCons (tLst tNil) tNil) σ Hn Q := by
  refine r_make (r_cons (r_lst (r_nil ⟨szL rfl, fun p hp => r_nil ?_⟩)))
  intro y dy hy hdy nyd
  have ny : p ≠ y := fun z => by rw [← z, upd_same] at hy; cases hy
  have nd : p ≠ dy := fun z => by rw [← z, upd_same] at hdy; cases hdy
  refine ⟨y, dy, p, [], [], rfl, upd_same, by rw [upd_ne ny, upd_ne nd, upd_same]; rfl, .nil, Nat.le_of_ble_eq_true rfl, fun fs H5 k5 hy5 => ⟨rfl, ?_⟩⟩
  have all : ∀ b o, Hn b = some o → H5 b = some o := fun b o e => by
    have h1 : b ≠ p := ne_of_none e hp
    have e1 : (upd Hn p (.lst [])) b = some o := by rw [upd_ne h1]; exact e
    have h3 : b ≠ y := ne_of_none e1 hy
    have h4 : b ≠ dy := ne_of_none e1 hdy
    exact k5 b o h3 (by rw [upd_ne h3, upd_ne h4]; exact e1)
  have hyH : Hn y = none := by
    rw [upd_ne ny.symm] at hy
    exact hy
  exact q y dy fs H5 all (row.keep all) hyH hy5
theorem fresh_same2 {B H1 H2 : Hp} (k : ∀ b o, H1 b = some o → H2 b = some o) : Same (fresh B H1) (fresh B H2) := fun b o h => by
  obtain ⟨e, q⟩ := fresh_some h
  exact fresh_of e (k b o q)
end
end RH
namespace RH
open PySem L2
section
variable {K : PySem.W.Frag} {CC : Addr → Prop} {H H' Hn : Hp}
/-- a dot that is tracked -/
def DotX (H : Hp) (v : V) : Prop := ∃ a i j, v = .ref a ∧ H a = some (.tup [.int i, .int j])
def kOf (H : Hp) : V → Int × Int
  | .ref a => match H a with
    | some (.tup [.int i, .int j]) => (i, j)
    | _ => (0, 0)
  | _ => (0, 0)
theorem DotX.mono {v : V} (h : DotX H v) (s : Same H H') : DotX H' v := by
  obtain ⟨a, i, j, rfl, e⟩ := h
  exact ⟨a, i, j, rfl, s _ _ e⟩
theorem DotX.at_ {v : V} (h : DotX H v) : DotAt K H v (kOf H v) := by
  obtain ⟨a, i, j, rfl, e⟩ := h
  refine ⟨a, rfl, ?_⟩
  simp only [kOf, e]
  exact SqT.of e
theorem DotX.rep {v : V} (h : DotX H v) : ∃ d, Rep K CC H v d := by
  obtain ⟨a, i, j, rfl, e⟩ := h
  exact ⟨_, dot_rep ⟨a, rfl, e⟩⟩
theorem dotsX_at {xs : List V} (h : ∀ v ∈ xs, DotX H v) : DotsAt K H xs (xs.map (kOf H)) := by
  induction xs with
  | nil => exact .nil
  | cons v xs ih => exact .cons (h v List.mem_cons_self).at_ (ih fun w hw => h w (List.mem_cons_of_mem _ hw))
theorem r_sortD {Q : VK} {a : Addr} {xs : List V} (ha : H a = some (.lst xs)) (h : ∀ v ∈ xs, DotX H v) (q : ∀ ys p, (∀ y, y ∈ ys → y ∈ xs) → ys.length = xs.length → H p = none → Q (.ref p) (upd H p (.lst ys))) : rSortedPO K [.ref a] H Q := by
  refine ⟨a, xs, kOf H, rfl, SqL.of ha, fun x hx => ?_, fun ys p _ sb hp => q ys p (fun y hy => sb.perm.mem_iff.mp hy) sb.perm.length_eq hp⟩
  obtain ⟨t, i, j, rfl, e⟩ := h x hx
  refine ⟨t, rfl, ?_⟩
  simp only [kOf, e]
def rInsertG : V → List V → Hp → VK → Prop := fun x vs H Q => ∃ (l : Addr) (xs : List V) (i : Int) (y : V), x = .ref l ∧ vs = [.int i, y] ∧ H l = some (.lst xs) ∧ xs.length < sizeLine ∧ 0 ≤ i ∧ i < 2 ^ 63 ∧
    Q .non (upd H l (.lst (xs.take i.toNat ++ [y] ++ xs.drop i.toNat)))
theorem mt_insertG {X : Cx} : MtR X "list.insert" rInsertG := mt_insert
theorem atI_any {xs : List V} {i : Int} (h0 : -(xs.length : Int) ≤ i) (h1 : i < xs.length) : ∃ m v, ixN xs.length i = some m ∧ m < xs.length ∧ v ∈ xs ∧ atI xs i = some v := by
  have key : ∃ m, ixN xs.length i = some m ∧ m < xs.length := by
    unfold ixN
    by_cases z : 0 ≤ i
    · rw [if_pos z, if_pos h1]
      exact ⟨_, rfl, by omega⟩
    · rw [if_neg z, if_pos h0]
      exact ⟨_, rfl, by omega⟩
  obtain ⟨m, e, hm⟩ := key
  refine ⟨m, xs[m], e, hm, List.getElem_mem hm, ?_⟩
  unfold atI
  rw [e]
  exact List.getElem?_eq_getElem hm
/-- the promise of _law_spoilt_over -/
def sp_spo (K : PySem.W.Frag) (CC : Addr → Prop) : Sp := fun vs H Q _ => ∃ (r E : Addr) (v : V) (xs : List V), vs = [.ref r, .ref E, v] ∧ Row H r ∧ E ≠ r ∧ H E = some (.lst xs) ∧ (∀ y ∈ xs, DotX H y) ∧ DotX H v ∧ xs.length ≤ 500 ∧
  ∀ E' xs' H', E' ≠ r → (∀ b o, b ≠ r → b ≠ E → H b = some o → H' b = some o) → (∃ ys, H' E = some (.lst ys)) → Row H' r → (E' = E ∨ H E' = none) → H' E' = some (.lst xs') → xs'.length ≤ 600 →
    (∀ y ∈ xs', y ∈ xs ∨ y = v ∨ ∃ d, Rep K CC (fresh (upd H E' (.lst [])) H') y d) → Q (.ref E') H'
/-- while the list at E is spoilt -/
structure Spo (K : PySem.W.Frag) (CC : Addr → Prop) (r E : Addr) (H H' : Hp) (xs xs' : List V) : Prop where
  keep : ∀ b o, b ≠ r → b ≠ E → H b = some o → H' b = some o
  row : Row H' r
  at_ : H' E = some (.lst xs')
  mem : ∀ y ∈ xs', y ∈ xs ∨ ∃ d, Rep K CC (fresh H H') y d
theorem fresh_put {E : Addr} {o : HO} (hE : H E ≠ none) : Same (fresh H H') (fresh H (upd H' E o)) := fun b x q => by
  obtain ⟨e, w⟩ := fresh_some q
  have n : b ≠ E := fun z => hE (by rw [← z]; exact e)
  exact fresh_of e (by rw [upd_ne n]; exact w)
theorem fresh_has {E : Addr} {o : HO} (hE : H E ≠ none) : Same (fresh H H') (fresh (upd H E o) H') := fun b x q => by
  obtain ⟨e, w⟩ := fresh_some q
  have n : b ≠ E := fun z => hE (by rw [← z]; exact e)
  exact fresh_of (by rw [upd_ne n]; exact e) w
theorem Spo.put {r E : Addr} {xs xs' ys : List V} (s : Spo K CC r E H H' xs xs') (n : E ≠ r) (hE : H E ≠ none) (h : ∀ y ∈ ys, y ∈ xs' ∨ y ∈ xs ∨ ∃ d, Rep K CC (fresh H H') y d) : Spo K CC r E H (upd H' E (.lst ys)) xs ys := by
  refine ⟨fun b o n1 n2 e => by rw [upd_ne n2]; exact s.keep b o n1 n2 e, s.row.setne n, upd_same, fun y hy => ?_⟩
  have z : y ∈ xs ∨ ∃ d, Rep K CC (fresh H H') y d := by
    rcases h y hy with g | g
    · exact s.mem y g
    · exact g
  rcases z with g | ⟨d, R⟩
  · exact .inl g
  · exact .inr ⟨d, R.mono (fresh_put hE)⟩
theorem Spo.back {r E : Addr} {xs xs' : List V} {H5 : Hp} (s : Spo K CC r E H H' xs xs') (f : Fr r H' H5) (row : Row H5 r) : Same (fresh H' H5) (fresh H H5) :=
  fresh_step (fun b z => by
    cases q : H b with
    | none => rfl
    | some o =>
      by_cases n1 : b = r
      · subst n1
        exact absurd z s.row.ne
      · by_cases n2 : b = E
        · subst n2
          rw [s.at_] at z
          cases z
        · rw [s.keep b o n1 n2 q] at z
          cases z) fun b o _ q => q
theorem Spo.step {r E : Addr} {xs xs' : List V} {H5 : Hp} (s : Spo K CC r E H H' xs xs') (n : E ≠ r) (hE : H E ≠ none) (rowH : Row H r) (f : Fr r H' H5) (row : Row H5 r) : Spo K CC r E H H5 xs xs' :=
  ⟨fun b o n1 n2 e => f b o n1 (s.keep b o n1 n2 e), row, f E _ n s.at_, fun y hy => by
    rcases s.mem y hy with g | ⟨d, R⟩
    · exact .inl g
    · exact .inr ⟨d, R.mono (fresh_fr (Dom.refl H) rowH.ne f)⟩⟩
end
end RH
namespace RH
open PySem L2
/-! ### tuples, and what stands beside the row of draws -/
theorem tu_wo {H : Hp} {r : Addr} (row : Row H r) : Same (Tu H) (wo H r) := fun a o h => by
  obtain ⟨xs, rfl, e⟩ := tu_some h
  obtain ⟨ra, rb, rc, er⟩ := row
  have n : a ≠ r := fun z => by
    rw [z, er] at e
    cases e
  rw [wo_ne n]
  exact e
theorem tuk_row {H H' : Hp} {r : Addr} (row : Row H r) (f : Fr r H H') : TuK H H' := by
  obtain ⟨ra, rb, rc, er⟩ := row
  exact TuK.frL f er
theorem row_tup_ne {H : Hp} {r a : Addr} {xs : List V} (row : Row H r) (e : H a = some (.tup xs)) : a ≠ r := fun z => by
  obtain ⟨ra, rb, rc, er⟩ := row
  rw [z, er] at e
  cases e
/-- [v for .. in ..], the values told by a property that the list itself does not bear upon -/
theorem lc_allP {J : It} {n : Nat} {G : Hp → Prop} {Y : Nat → Hp → V → Hp → Prop} {Y' : Nat → V → Prop} (wk : Walk J n G Y) (hY : ∀ i H x H', Y i H x H' → H' = H ∧ Y' i x) {g : TG} {te : TE} {vs : List Nat} {σ : L2.St} {H1 : Hp} {D : Addr} {Qd : Hp → Prop} (Pr : Nat → Hp → V → Prop) (mono : ∀ i H H' v, Pr i H v → Same H H' → Pr i H' v) (hs : n ≤ 1000) (hD : H1 D = none) (hG : ∀ H, Same H1 H → G H)
    (step : ∀ (i : Nat) x H ys, i < n → Y' i x → Same H1 H → H D = some (.lst ys) → ∀ Q : VK, (∀ v H', Same H H' → Pr i (wo H' D) v → Q v H') → g x (wipe σ vs) H fun σ2 H2 => wipe σ2 vs = wipe σ vs ∧ te σ2 H2 Q)
    (hd : ∀ H xs, Same H1 H → H D = some (.lst xs) → xs.length = n → (∀ i v, xs[i]? = some v → Pr i (wo H D) v) → Qd H) : LcGo J g tYes te vs σ D Qd H1 := by
  refine lc_it wk (g := g) (tt := tYes) (te := te) (fun i H => Same H1 H ∧ ∃ xs, H D = some (.lst xs) ∧ xs.length = i ∧ ∀ j v, xs[j]? = some v → Pr j (wo H D) v) ⟨same_new hD, [], upd_same, rfl, fun j v h => by cases h⟩ (fun _ H _ p => hG H p.1) ?_ ?_
  · rintro i x H H' hi ⟨s, xs, at_, lx, px⟩ y
    obtain ⟨rfl, y'⟩ := hY i H x H' y
    refine step i x H' xs hi y' s at_ _ fun v H4 s4 pv => ⟨xs, s4 _ _ at_, small1000 (by omega), fun b o e => ?_, xs ++ [v], upd_same, by rw [List.length_append, lx]; rfl, fun j u hj => ?_⟩
    · rw [upd_ne (ne_of_none e hD)]
      exact s4 _ _ (s _ _ e)
    · have w1 : Same (wo H' D) (wo H4 D) := (show Fr D H' H4 from fun b o _ e => s4 b o e).wo
      have w2 : Same (wo H4 D) (wo (upd H4 D (.lst (xs ++ [v]))) D) := (Fr.row (r := D)).wo
      rcases Nat.lt_or_ge j xs.length with z | z
      · rw [List.getElem?_append_left z] at hj
        exact mono _ _ _ _ (px j u hj) (w1.trans w2)
      · rw [List.getElem?_append_right z] at hj
        have z0 : j - xs.length = 0 := by
          have := (List.getElem?_eq_some_iff.mp hj).1
          rw [List.length_singleton] at this
          omega
        rw [z0] at hj
        obtain rfl : v = u := Option.some.inj hj
        have : j = i := by omega
        subst this
        exact mono _ _ _ _ pv w2
  · rintro H ⟨s, xs, at_, lx, px⟩
    exact hd H xs s at_ lx px
theorem rep_allE {K : PySem.W.Frag} {CC : Addr → Prop} {H : Hp} {Ok : D → Prop} : ∀ {xs : List V}, (∀ (i : Nat) v, xs[i]? = some v → ∃ e, Rep K CC H v e ∧ Ok e) → ∃ ds, RepAll K CC H xs ds ∧ ∀ e ∈ ds, Ok e
  | [], _ => ⟨[], .nil, (fun _ m => nomatch m)⟩
  | x :: xs, h => by
    obtain ⟨e, R, o⟩ := h 0 x rfl
    obtain ⟨ds, A, oo⟩ := rep_allE (xs := xs) fun i v z => h (i + 1) v z
    exact ⟨e :: ds, .cons R A, fun f m => (List.mem_cons.mp m).elim (fun z => z ▸ o) (oo f)⟩
/-! ### the rows while one of them is spoilt -/
/-- a row as a list of its parts, made since H0 -/
def IniR (H0 H : Hp) (r : Addr) (y : V) (w : Int × Int × List Int) : Prop := ∃ p b, y = .ref p ∧ p ≠ r ∧ H0 p = none ∧ H p = some (.lst [.int w.1, .int w.2.1, .ref b]) ∧ H b = some (.tup (w.2.2.map V.int))
structure Ini (H0 H : Hp) (r L : Addr) (ys : List V) (rows : RV) : Prop where
  row : Row H r
  nlr : L ≠ r
  new : H0 L = none
  at_ : H L = some (.lst ys)
  len : ys.length = rows.length
  few : rows.length ≤ 14
  it : ∀ (i : Nat) y w, ys[i]? = some y → rows[i]? = some w → IniR H0 H r y w ∧ y ≠ .ref L
  short : LenV 6 rows
def FinR (K : PySem.W.Frag) (CC : Addr → Prop) (H : Hp) (r : Addr) (y : V) : Prop := ∃ p xs ds, y = .ref p ∧ p ≠ r ∧ H p = some (.lst xs) ∧ RepAll K CC (wo H r) xs ds ∧ xs.length ≤ 10 ∧ RowS (.tup ds)
structure Fin6 (K : PySem.W.Frag) (CC : Addr → Prop) (H : Hp) (r L : Addr) (ys : List V) : Prop where
  row : Row H r
  nlr : L ≠ r
  at_ : H L = some (.lst ys)
  len : ys.length ≤ 15
  it : ∀ y ∈ ys, FinR K CC H r y
section
variable {K : PySem.W.Frag} {CC : Addr → Prop} {H0 H H5 : Hp} {r L p : Addr} {ys : List V} {rows : RV}
theorem rowS3 {a b : D} {l : List Int} (h : l.length ≤ 10) : RowS (.tup [a, b, .tup (l.map D.int)]) := fun w e => by
  unfold rwD at e
  have e := D.tup.inj e
  simp only [List.cons.injEq, and_true] at e
  have e3 := D.tup.inj e.2.2
  have := congrArg List.length e3
  rw [List.length_map, List.length_map] at this
  omega
theorem rowS_nil {ds : List D} (h : ∀ a b c, ds ≠ [a, b, .tup c]) : RowS (.tup ds) := fun w e => absurd (D.tup.inj e) (h _ _ _)
theorem rowS_not {d : D} (h : ∀ ds, d ≠ .tup ds) : RowS d := fun w e => absurd e (h _)
theorem IniR.fin {y : V} {w : Int × Int × List Int} (row : Row H r) (h : IniR H0 H r y w) (l : w.2.2.length ≤ 6) : FinR K CC H r y := by
  obtain ⟨p, b, rfl, npr, _, hp, hb⟩ := h
  refine ⟨p, _, [.int w.1, .int w.2.1, .tup (w.2.2.map D.int)], rfl, npr, hp, .cons (.int _) (.cons (.int _) (.cons ?_ .nil)), by simp, rowS3 (by omega)⟩
  exact rep_ints (by rw [wo_ne (row_tup_ne row hb)]; exact hb) (by omega)
theorem Ini.mem (I : Ini H0 H r L ys rows) {y : V} (m : y ∈ ys) : ∃ w ∈ rows, IniR H0 H r y w ∧ y ≠ .ref L := by
  obtain ⟨i, hi, rfl⟩ := List.mem_iff_getElem.mp m
  have hi2 : i < rows.length := by rw [← I.len]; exact hi
  exact ⟨rows[i], List.getElem_mem hi2, I.it i _ _ (List.getElem?_eq_getElem hi) (List.getElem?_eq_getElem hi2)⟩
theorem Ini.fin (I : Ini H0 H r L ys rows) : Fin6 K CC H r L ys :=
  ⟨I.row, I.nlr, I.at_, by have := I.len; have := I.few; omega, fun y m => by
    obtain ⟨w, mw, h, _⟩ := I.mem m
    exact h.fin I.row (I.short w mw)⟩
/-- further draws -/
theorem IniR.step {y : V} {w : Int × Int × List Int} (h : IniR H0 H r y w) (row : Row H r) (f : Fr r H H5) : IniR H0 H5 r y w := by
  obtain ⟨p, b, rfl, npr, n0, hp, hb⟩ := h
  exact ⟨p, b, rfl, npr, n0, f _ _ npr hp, f _ _ (row_tup_ne row hb) hb⟩
theorem Ini.step (I : Ini H0 H r L ys rows) (f : Fr r H H5) (row5 : Row H5 r) : Ini H0 H5 r L ys rows :=
  ⟨row5, I.nlr, I.new, f _ _ I.nlr I.at_, I.len, I.few, fun i y w h1 h2 => ⟨(I.it i y w h1 h2).1.step I.row f, (I.it i y w h1 h2).2⟩, I.short⟩
/-- one row's list is written -/
theorem Ini.setp (I : Ini H0 H r L ys rows) (m : V.ref p ∈ ys) {xs : List V} {ds : List D} (R : RepAll K CC (wo (upd H p (.lst xs)) r) xs ds) (hl : xs.length ≤ 10) (hs : RowS (.tup ds)) : Fin6 K CC (upd H p (.lst xs)) r L ys := by
  obtain ⟨wp, _, ⟨p', b', e, npr, n0, hp, hb⟩, nL⟩ := I.mem m
  cases e
  have npL : p ≠ L := fun z => nL (by rw [z])
  refine ⟨I.row.setne npr, I.nlr, by rw [upd_ne npL.symm]; exact I.at_, by have := I.len; have := I.few; omega, fun y my => ?_⟩
  obtain ⟨w, mw, ⟨q, b, rfl, nqr, _, hq, hb2⟩, _⟩ := I.mem my
  by_cases z : q = p
  · subst z
    exact ⟨q, xs, ds, rfl, nqr, upd_same, R, hl, hs⟩
  · have nb : b ≠ p := fun z => by rw [z, hp] at hb2; cases hb2
    have h : IniR H0 (upd H p (.lst xs)) r (.ref q) w := ⟨q, b, rfl, nqr, by assumption, by rw [upd_ne z]; exact hq, by rw [upd_ne nb]; exact hb2⟩
    exact h.fin (I.row.setne npr) (I.short w mw)
/-- the list of the rows is written -/
theorem Ini.setL (I : Ini H0 H r L ys rows) {zs : List V} (hl : zs.length ≤ 15) (hz : ∀ y ∈ zs, y ∈ ys ∨ ∃ w : Int × Int × List Int, w.2.2.length ≤ 6 ∧ IniR H0 H r y w ∧ y ≠ .ref L) : Fin6 K CC (upd H L (.lst zs)) r L zs := by
  refine ⟨I.row.setne I.nlr, I.nlr, upd_same, hl, fun y my => ?_⟩
  have go : ∃ w : Int × Int × List Int, w.2.2.length ≤ 6 ∧ IniR H0 H r y w ∧ y ≠ .ref L := by
    rcases hz y my with h | h
    · obtain ⟨w, mw, h⟩ := I.mem h
      exact ⟨w, I.short w mw, h⟩
    · exact h
  obtain ⟨w, lw, ⟨q, b, rfl, nqr, n0, hq, hb⟩, nL⟩ := go
  have nqL : q ≠ L := fun z => nL (by rw [z])
  have nb : b ≠ L := fun z => by rw [z, I.at_] at hb; cases hb
  have h : IniR H0 (upd H L (.lst zs)) r (.ref q) w := ⟨q, b, rfl, nqr, n0, by rw [upd_ne nqL]; exact hq, by rw [upd_ne nb]; exact hb⟩
  exact h.fin (I.row.setne I.nlr) lw
end
/-- between the spoilings -/
def MSpo (K : PySem.W.Frag) (CC : Addr → Prop) (r L : Addr) (σ0 : L2.St) (H0 : Hp) (rows : RV) (ys : List V) (kd k : Int) (σ' : L2.St) (H' : Hp) : Prop := σ' = σ0 ∧ Fr r H0 H' ∧ ((kd < k ∧ ∃ zs, Fin6 K CC H' r L zs) ∨ (k ≤ kd ∧ Ini H0 H' r L ys rows))
section
variable {K : PySem.W.Frag} {CC : Addr → Prop} {r L : Addr} {σ0 : L2.St} {H0 H : Hp} {rows : RV} {ys zs : List V} {kd k : Int}
theorem mspo_skip (h : MSpo K CC r L σ0 H0 rows ys kd k σ0 H) {j : Int} (lt : k < j) (n : ¬ (k ≤ kd ∧ kd < j)) : MSpo K CC r L σ0 H0 rows ys kd j σ0 H := by
  obtain ⟨_, f, z⟩ := h
  refine ⟨rfl, f, ?_⟩
  rcases z with ⟨a, b⟩ | ⟨a, b⟩
  · exact .inl ⟨by omega, b⟩
  · exact .inr ⟨by omega, b⟩
theorem mspo_hit (h : MSpo K CC r L σ0 H0 rows ys kd k σ0 H) (e : k ≤ kd) : Fr r H0 H ∧ Ini H0 H r L ys rows := by
  obtain ⟨_, f, z⟩ := h
  rcases z with ⟨a, b⟩ | ⟨a, b⟩
  · omega
  · exact ⟨f, b⟩
theorem mspo_fin (f : Fr r H0 H) (F : Fin6 K CC H r L zs) (lt : kd < k) : MSpo K CC r L σ0 H0 rows ys kd k σ0 H := ⟨rfl, f, .inl ⟨lt, zs, F⟩⟩
end
theorem dkI {a b : Int} (h : decide (V.int a = V.int b) = true) : a = b := V.int.inj (of_decide_eq_true h)
theorem dkN {a b : Int} (h : ¬ decide (V.int a = V.int b) = true) : a ≠ b := fun z => h (decide_eq_true (congrArg V.int z))
theorem tuk_lst {H : Hp} {l : Addr} {xs : List V} {o : HO} (h : H l = some (.lst xs)) : TuK H (upd H l o) := TuK.put h
theorem upd2 {H : Hp} {l : Addr} {a b : HO} : upd (upd H l a) l b = upd H l b := by
  funext x
  by_cases z : x = l
  · rw [z, upd_same, upd_same]
  · rw [upd_ne z, upd_ne z, upd_ne z]
theorem rowS3D {a b : D} {ds : List D} (h : ds.length ≤ 10) : RowS (.tup [a, b, .tup ds]) := fun w e => by
  unfold rwD at e
  have e := D.tup.inj e
  simp only [List.cons.injEq, and_true] at e
  have e3 := D.tup.inj e.2.2
  have := congrArg List.length e3
  rw [List.length_map] at this
  omega
theorem rowS3N {a b c : D} (h : ∀ ds, c ≠ .tup ds) : RowS (.tup [a, b, c]) := fun w e => by
  unfold rwD at e
  have e := D.tup.inj e
  simp only [List.cons.injEq, and_true] at e
  exact absurd e.2.2 (h _)
theorem same_wo2 {H H' : Hp} {r D : Addr} (s : Same H H') (hD : H D = none) : Same (wo H r) (wo (wo H' D) r) := fun b o e => by
  obtain ⟨e, n⟩ := wo_some e
  rw [wo_ne n, wo_ne (ne_of_none e hD)]
  exact s _ _ e
theorem same_wo3 {H : Hp} {r D : Addr} {o : HO} : Same (wo (wo H D) r) (wo (upd H D o) r) := fun b x e => by
  obtain ⟨e, n⟩ := wo_some e
  obtain ⟨e, m⟩ := wo_some e
  rw [wo_ne n, upd_ne m]
  exact e
theorem RepAll.erase {K : PySem.W.Frag} {CC : Addr → Prop} {H : Hp} {xs : List V} {ds : List D} (h : RepAll K CC H xs ds) (n : Nat) : RepAll K CC H (xs.eraseIdx n) (ds.eraseIdx n) := by
  rw [List.eraseIdx_eq_take_drop_succ, List.eraseIdx_eq_take_drop_succ]
  exact (h.take n).app (h.drop (n + 1))
/-- the parts of a row while another object is written -/
theorem part_rep {K : PySem.W.Frag} {CC : Addr → Prop} {H : Hp} {r p b : Addr} {xs : List V} {o : HO} {w : Int × Int × List Int} (row : Row H r) (npr : p ≠ r) (hp : H p = some (.lst xs)) (hb : H b = some (.tup (w.2.2.map V.int))) (l : w.2.2.length ≤ 6) :
    RepAll K CC (wo (upd H p o) r) [.int w.1, .int w.2.1, .ref b] [.int w.1, .int w.2.1, .tup (w.2.2.map D.int)] := by
  have nb : b ≠ p := fun z => by rw [z, hp] at hb; cases hb
  refine .cons (.int _) (.cons (.int _) (.cons (rep_ints ?_ (by omega)) .nil))
  rw [wo_ne (row_tup_ne row hb), upd_ne nb]
  exact hb
theorem tu_put {H : Hp} {r p : Addr} {xs : List V} {o : HO} (row : Row H r) (npr : p ≠ r) (hp : H p = some (.lst xs)) : Same (Tu H) (wo (upd H p o) r) :=
  (tuk_lst hp).tu.trans (tu_wo (row.setne npr))
theorem wo_fr {H H' : Hp} {r t : Addr} {o : HO} (f : Fr r H H') (n : t ≠ r) (e : H t = some o) : wo H' r t = some o := by
  rw [wo_ne n]
  exact f _ _ n e
theorem fr_none {H H' : Hp} {r t : Addr} (f : Fr r H H') (n : t ≠ r) (e : H' t = none) : H t = none := by
  cases z : H t with
  | none => rfl
  | some o =>
    rw [f _ _ n z] at e
    cases e
theorem valS_no {d : D} (h : ∀ rows, d ≠ cvD rows) : ValS d := fun rows z => absurd z (h rows)
theorem rowS_len {ds : List D} (h : ds.length ≠ 3) : RowS (.tup ds) := fun w e => by
  obtain rfl := D.tup.inj e
  exact absurd rfl h
theorem repAll_ints {K : PySem.W.Frag} {CC : Addr → Prop} {H : Hp} : ∀ l : List Int, RepAll K CC H (l.map V.int) (l.map D.int)
  | [] => .nil
  | i :: l => .cons (.int i) (repAll_ints l)
theorem r_insG {H : Hp} {Q : VK} {l : Addr} {xs : List V} {i : Int} {y : V} (h : H l = some (.lst xs)) (sz : xs.length ≤ 900) (i0 : 0 ≤ i) (i1 : i < 2 ^ 63) (q : Q .non (upd H l (.lst (xs.take i.toNat ++ [y] ++ xs.drop i.toNat)))) : rInsertG (.ref l) [.int i, y] H Q :=
  ⟨l, xs, i, y, rfl, rfl, h, small1000 (by omega), i0, i1, q⟩
theorem r_catA6 {K : PySem.W.Frag} {H : Hp} {Q : VK} {p q : Addr} {xs ys : List V} (h1 : H p = some (.tup xs)) (h2 : H q = some (.tup ys)) (n2 : ys ≠ []) (sz : xs.length + ys.length ≤ sizeLine)
    (k : ∀ l H', Same H H' → H' l = some (.tup (xs ++ ys)) → Q (.ref l) H') : rCatA K (.ref p) (.ref q) H Q := by
  cases xs with
  | nil => exact ⟨p, q, [], ys, rfl, rfl, SqT.of h1, SqT.of h2, sz, fun _ => k q H (Same.refl H) h2, fun z => absurd rfl z, fun z => absurd rfl z⟩
  | cons x xs => exact ⟨p, q, x :: xs, ys, rfl, rfl, SqT.of h1, SqT.of h2, sz, (fun z => nomatch z), fun _ z => absurd z n2, fun _ _ l hl => k l _ (same_new hl) upd_same⟩
end RH
namespace RH
open PySem L2
/-! ### kept forms -/
abbrev KP := (Int × Int) × D
section
variable (K : PySem.W.Frag) (CC : Addr → Prop) (H : Hp)
/-- a pair (dot, entry) -/
def PrAt (x : V) (p : KP) : Prop := ∃ t dt v, x = .ref t ∧ H t = some (.tup [.ref dt, v]) ∧ H dt = some (.tup [.int p.1.1, .int p.1.2]) ∧ Rep K CC H v p.2
/-- an entry of the dict -/
def KvAt (kv : List Key × V) (p : KP) : Prop := kv.1 = pk2 p.1 ∧ Rep K CC H kv.2 p.2
end
def AscK (ps : List KP) : Prop := ps.Pairwise fun a b => a.1.1 < b.1.1 ∨ (a.1.1 = b.1.1 ∧ a.1.2 < b.1.2)
def KeepS (K : PySem.W.Frag) (CC : Addr → Prop) (CK CL : Addr) (N : Nat) (H : Hp) (x : Addr) (ps : List KP) (S : DotS) : Prop :=
  ∃ (dx d t c : Addr) (kvs : List (List Key × V)) (qs : List KP) (ys : List V), H x = some (.ins CK dx [("_entries", .ref d), ("_pairs", .ref t), ("_clock", .ref c)]) ∧ H d = some (.dT kvs) ∧ Paired (KvAt K CC H) kvs qs ∧ qs.Perm ps ∧
    H t = some (.tup ys) ∧ Paired (PrAt K CC H) ys ps ∧ AscK ps ∧ ClkS CL N H c S ∧ (∀ p ∈ ps, S p.1.1 p.1.2 ∧ 1 ≤ p.1.2) ∧ ps.length ≤ 900
section
variable {K : PySem.W.Frag} {CC : Addr → Prop} {H H' : Hp} {CK CL x : Addr} {N : Nat} {ps qs : List KP} {S : DotS}
theorem PrAt.mono {x : V} {p : KP} (h : PrAt K CC H x p) (s : Same H H') : PrAt K CC H' x p := by
  obtain ⟨t, dt, v, e, a, b, c⟩ := h
  exact ⟨t, dt, v, e, s _ _ a, s _ _ b, c.mono s⟩
theorem KvAt.mono {x : List Key × V} {p : KP} (h : KvAt K CC H x p) (s : Same H H') : KvAt K CC H' x p := ⟨h.1, h.2.mono s⟩
theorem KeepS.mono (h : KeepS K CC CK CL N H x ps S) (s : Same H H') : KeepS K CC CK CL N H' x ps S := by
  obtain ⟨dx, d, t, c, kvs, qs, ys, h1, h2, h3, h4, h5, h6, h7, h8, h9⟩ := h
  exact ⟨dx, d, t, c, kvs, qs, ys, s _ _ h1, s _ _ h2, Paired.mono (fun _ _ z => z.mono s) h3, h4, s _ _ h5, Paired.mono (fun _ _ z => z.mono s) h6, h7, h8.mono s, h9⟩
theorem pk2_inj {a b : Int × Int} (h : pk2 a = pk2 b) : a = b := by
  obtain ⟨h1, h2⟩ := List.cons.inj h
  obtain ⟨h3, _⟩ := List.cons.inj h2
  exact Prod.ext (Sum.inl.inj h1) (Sum.inl.inj h3)
theorem kv_keys {kvs : List (List Key × V)} (h : Paired (KvAt K CC H) kvs ps) : kvs.map (·.1) = (ps.map (·.1)).map pk2 := by
  induction h with
  | nil => rfl
  | cons r _ ih => rw [List.map_cons, List.map_cons, List.map_cons, ih, r.1]
theorem put_new {kvs : List (List Key × V)} {k : List Key} {v : V} (h : ¬ k ∈ kvs.map (·.1)) : putK kvs k v = kvs ++ [(k, v)] := by
  unfold putK
  rw [if_neg]
  intro z
  obtain ⟨kv, m, e⟩ := List.any_eq_true.mp z
  exact h (List.mem_map.mpr ⟨kv, m, of_decide_eq_true e⟩)
theorem put_old {kvs : List (List Key × V)} {k : List Key} {v : V} (h : k ∈ kvs.map (·.1)) : (putK kvs k v).length = kvs.length := by
  obtain ⟨kv, m, e⟩ := List.mem_map.mp h
  unfold putK
  rw [if_pos (List.any_eq_true.mpr ⟨kv, m, decide_eq_true e⟩), List.length_map]
theorem valT_none {kvs : List (List Key × V)} {k : List Key} (h : ¬ k ∈ kvs.map (·.1)) : valV kvs k = none := by
  unfold valV
  rw [Option.map_eq_none_iff, List.find?_eq_none]
  intro kv m z
  exact h (List.mem_map.mpr ⟨kv, m, of_decide_eq_true z⟩)
theorem valT_some {kvs : List (List Key × V)} (h : Paired (KvAt K CC H) kvs ps) (nd : (ps.map (·.1)).Nodup) {p : KP} (m : p ∈ ps) : ∃ v, valV kvs (pk2 p.1) = some v ∧ Rep K CC H v p.2 := by
  induction h with
  | nil => cases m
  | @cons kv q kvs qs r _ ih =>
    rw [List.map_cons, List.nodup_cons] at nd
    rcases List.mem_cons.mp m with rfl | m
    · exact ⟨kv.2, valV_pos r.1, r.2⟩
    · have ne : ¬ kv.1 = pk2 p.1 := fun z => nd.1 (by
        have e := pk2_inj (r.1.symm.trans z)
        rw [e]
        exact List.mem_map.mpr ⟨p, m, rfl⟩)
      rw [valV_neg ne]
      exact ih nd.2 m
/-- the dots of what is there -/
def dotsK (ps : List KP) : List (Int × Int) := ps.map (·.1)
theorem AscK.nodup (h : AscK ps) : (ps.map (·.1)).Nodup := by
  rw [List.nodup_iff_pairwise_ne, List.pairwise_map]
  refine h.imp fun {a b} z e => ?_
  rw [e] at z
  omega
end
/-- the dict of the first i pairs -/
def EntI (K : PySem.W.Frag) (CC : Addr → Prop) (H : Hp) (ps : List KP) (i : Nat) (kvs : List (List Key × V)) : Prop :=
  kvs.length ≤ i ∧ (((ps.take i).map (·.1)).Nodup → Paired (KvAt K CC H) kvs (ps.take i)) ∧ (¬ ((ps.take i).map (·.1)).Nodup → kvs.length < i)
theorem EntI.nil {K : PySem.W.Frag} {CC : Addr → Prop} {H : Hp} {ps : List KP} : EntI K CC H ps 0 [] := ⟨Nat.le_refl _, fun _ => .nil, fun h => absurd List.nodup_nil h⟩
theorem EntI.step {K : PySem.W.Frag} {CC : Addr → Prop} {H : Hp} {ps : List KP} {i : Nat} {kvs : List (List Key × V)} {p : KP} {v : V} (h : EntI K CC H ps i kvs) (hi : ps[i]? = some p) (R : Rep K CC H v p.2) : EntI K CC H ps (i + 1) (putK kvs (pk2 p.1) v) := by
  obtain ⟨h1, h2, h3⟩ := h
  have le1 := length_putK kvs (pk2 p.1) v
  have tk : ps.take (i + 1) = ps.take i ++ [p] := by rw [List.take_add_one, hi]; rfl
  have em : ((ps.take (i + 1)).map (·.1)).Nodup ↔ ((ps.take i).map (·.1)).Nodup ∧ ¬ p.1 ∈ (ps.take i).map (·.1) := by
    rw [tk, List.map_append, List.nodup_append]
    constructor
    · rintro ⟨a, _, c⟩
      exact ⟨a, fun m => (c _ m _ List.mem_cons_self) rfl⟩
    · rintro ⟨a, b⟩
      refine ⟨a, List.nodup_cons.mpr ⟨(fun m => nomatch m), List.nodup_nil⟩, fun x hx y hy e => ?_⟩
      rw [List.map_singleton, List.mem_singleton] at hy
      rw [e, hy] at hx
      exact b hx
  refine ⟨by omega, fun nd => ?_, fun nn => ?_⟩
  · obtain ⟨n1, n2⟩ := em.mp nd
    have P := h2 n1
    have nk : ¬ pk2 p.1 ∈ kvs.map (·.1) := by
      rw [kv_keys P]
      intro m
      obtain ⟨d, m2, e⟩ := List.mem_map.mp m
      rw [pk2_inj e] at m2
      exact n2 m2
    rw [put_new nk, tk]
    exact P.snoc ⟨rfl, R⟩
  · by_cases n1 : ((ps.take i).map (·.1)).Nodup
    · have m : p.1 ∈ (ps.take i).map (·.1) := by
        by_cases m : p.1 ∈ (ps.take i).map (·.1)
        · exact m
        · exact absurd (em.mpr ⟨n1, m⟩) nn
      have P := h2 n1
      rw [put_old (by rw [kv_keys P]; exact List.mem_map.mpr ⟨_, m, rfl⟩)]
      omega
    · have := h3 n1
      omega
theorem bools_of : ∀ {xs : List V} {P : Nat → Prop}, (∀ i v, xs[i]? = some v → ∃ b, v = .bl b ∧ (b = true ↔ P i)) → ∃ bs : List Bool, xs = bs.map V.bl ∧ (bs.all id = true ↔ ∀ i, i < xs.length → P i)
  | [], _, _ => ⟨[], rfl, ⟨fun _ i h => absurd h (Nat.not_lt_zero i), fun _ => rfl⟩⟩
  | x :: xs, P, h => by
    obtain ⟨b, rfl, hb⟩ := h 0 x rfl
    obtain ⟨bs, e, hs⟩ := bools_of (xs := xs) (P := fun i => P (i + 1)) fun i v z => h (i + 1) v z
    refine ⟨b :: bs, by rw [List.map_cons, ← e], ?_⟩
    rw [List.all_cons, Bool.and_eq_true, hs]
    constructor
    · rintro ⟨h0, h1⟩ i hi
      cases i with
      | zero => exact hb.mp h0
      | succ i => exact h1 i (Nat.lt_of_succ_lt_succ hi)
    · intro h1
      exact ⟨hb.mpr (h1 0 (Nat.succ_pos _)), fun i hi => h1 (i + 1) (Nat.succ_lt_succ hi)⟩
/-- a comprehension told by a property, the walk's things known in their heap -/
theorem lc_allH {J : It} {n : Nat} {G : Hp → Prop} {Y : Nat → Hp → V → Hp → Prop} (wk : Walk J n G Y) (Y' : Nat → Hp → V → Prop) (hY : ∀ i H x H', Y i H x H' → H' = H ∧ Y' i H x) {g : TG} {te : TE} {vs : List Nat} {σ : L2.St} {H1 : Hp} {D : Addr} {Qd : Hp → Prop} (Pr : Nat → Hp → V → Prop) (mono : ∀ i H H' v, Pr i H v → Same H H' → Pr i H' v) (few : n ≤ 1000) (hD : H1 D = none) (hG : ∀ H, Same H1 H → G H)
    (step : ∀ (i : Nat) x H ys, i < n → Y' i H x → Same H1 H → H D = some (.lst ys) → ∀ Q : VK, (∀ v H', Same H H' → Pr i (wo H' D) v → Q v H') → g x (wipe σ vs) H fun σ2 H2 => wipe σ2 vs = wipe σ vs ∧ te σ2 H2 Q)
    (hd : ∀ H xs, Same H1 H → H D = some (.lst xs) → xs.length = n → (∀ i v, xs[i]? = some v → Pr i (wo H D) v) → Qd H) : LcGo J g tYes te vs σ D Qd H1 := by
  refine lc_it wk (g := g) (tt := tYes) (te := te) (fun i H => Same H1 H ∧ ∃ xs, H D = some (.lst xs) ∧ xs.length = i ∧ ∀ j v, xs[j]? = some v → Pr j (wo H D) v) ⟨same_new hD, [], upd_same, rfl, fun j v h => by cases h⟩ (fun _ H _ p => hG H p.1) ?_ ?_
  · rintro i x H H' hi ⟨s, xs, at_, lx, px⟩ y
    obtain ⟨rfl, y'⟩ := hY i H x H' y
    refine step i x H' xs hi y' s at_ _ fun v H4 s4 pv => ⟨xs, s4 _ _ at_, small1000 (by omega), fun b o e => ?_, xs ++ [v], upd_same, by rw [List.length_append, lx]; rfl, fun j u hj => ?_⟩
    · rw [upd_ne (ne_of_none e hD)]
      exact s4 _ _ (s _ _ e)
    · have w1 : Same (wo H' D) (wo H4 D) := (show Fr D H' H4 from fun b o _ e => s4 b o e).wo
      have w2 : Same (wo H4 D) (wo (upd H4 D (.lst (xs ++ [v]))) D) := (Fr.row (r := D)).wo
      rcases Nat.lt_or_ge j xs.length with z | z
      · rw [List.getElem?_append_left z] at hj
        exact mono _ _ _ _ (px j u hj) (w1.trans w2)
      · rw [List.getElem?_append_right z] at hj
        have z0 : j - xs.length = 0 := by
          have := (List.getElem?_eq_some_iff.mp hj).1
          rw [List.length_singleton] at this
          omega
        rw [z0] at hj
        obtain rfl : v = u := Option.some.inj hj
        obtain rfl : j = i := by omega
        exact mono _ _ _ _ pv w2
  · rintro H ⟨s, xs, at_, lx, px⟩
    exact hd H xs s at_ lx px
theorem r_lockE {t : TE} {σ : L2.St} {H : Hp} {Q : VK} {d : Addr} {u : HO} (h : H d = some u) (m : Mut (some u)) (k : ∀ od, t σ (upd H d (.frz od u)) fun v H' => H' d = some (.frz od u) ∧ Q v (upd H' d u)) : tLockE t σ H Q := ⟨d, u, h, m, k⟩
theorem same_woK {H0 H' : Hp} {D : Addr} (s : Same H0 H') (n : H0 D = none) : Same H0 (wo H' D) := fun b o e => by
  rw [wo_ne (ne_of_none e n)]
  exact s b o e
/-! a field's store keeps what is told of data -/
section
variable {K : PySem.W.Frag} {CC : Addr → Prop} {H H' : Hp} {x : Addr} {A dx : Addr} {fs gs : List (Str × V)}
theorem ins_ne {a : Addr} {o : HO} (hx : H x = some (.ins A dx fs)) (h : H a = some o) (n : ∀ C d f, o ≠ .ins C d f) : a ≠ x := fun z => by
  rw [z, hx] at h
  exact n _ _ _ (Option.some.inj h).symm
theorem Rep.frI {v : V} {d : D} (h : Rep K CC H v d) (f : Fr x H H') (hx : H x = some (.ins A dx fs)) (hx' : H' x = some (.ins A dx gs)) : Rep K CC H' v d := by
  induction h with
  | non => exact .non
  | bl b => exact .bl b
  | int i => exact .int i
  | str s ok => exact .str s ok
  | tup h hl hs _ ih => exact .tup (f _ _ (ins_ne hx h fun _ _ _ z => nomatch z) h) hl hs ih
  | lst h hl hs _ ih => exact .lst (f _ _ (ins_ne hx h fun _ _ _ z => nomatch z) h) hl hs ih
  | @oth a C dy gs' h hc =>
    by_cases e : a = x
    · subst e
      rw [hx] at h
      cases h
      exact .oth hx' hc
    · exact .oth (f _ _ e h) hc
  | dct h => exact .dct (f _ _ (ins_ne hx h fun _ _ _ z => nomatch z) h)
theorem PrAt.frI {y : V} {p : KP} (h : PrAt K CC H y p) (f : Fr x H H') (hx : H x = some (.ins A dx fs)) (hx' : H' x = some (.ins A dx gs)) : PrAt K CC H' y p := by
  obtain ⟨t, dt, v, e, a, b, c⟩ := h
  exact ⟨t, dt, v, e, f _ _ (ins_ne hx a fun _ _ _ z => nomatch z) a, f _ _ (ins_ne hx b fun _ _ _ z => nomatch z) b, c.frI f hx hx'⟩
theorem KvAt.frI {y : List Key × V} {p : KP} (h : KvAt K CC H y p) (f : Fr x H H') (hx : H x = some (.ins A dx fs)) (hx' : H' x = some (.ins A dx gs)) : KvAt K CC H' y p := ⟨h.1, h.2.frI f hx hx'⟩
theorem ClkS.frI {C : Addr} {N : Nat} {c : Addr} {S : DotS} (h : ClkS C N H c S) (f : Fr x H H') (hx : H x = some (.ins A dx fs)) (n : c ≠ x) : ClkS C N H' c S := by
  obtain ⟨dc, d, ro, h1, ⟨h2, h3⟩, h4⟩ := h
  refine ⟨dc, d, ro, f _ _ n h1, ⟨f _ _ (ins_ne hx h2 fun _ _ _ z => nomatch z) h2, fun r m => ?_⟩, h4⟩
  obtain ⟨b, e1, e2⟩ := h3 r m
  exact ⟨b, f _ _ (ins_ne hx e1 fun _ _ _ z => nomatch z) e1, f _ _ (ins_ne hx e2 fun _ _ _ z => nomatch z) e2⟩
end
/-! the pairs by ascending dot -/
def entK (ps : List KP) (d : Int × Int) : D := ((ps.find? fun p => decide (p.1 = d)).map (·.2)).getD .non
theorem entK_at : ∀ {ps : List KP}, (ps.map (·.1)).Nodup → ∀ p ∈ ps, entK ps p.1 = p.2
  | [], _, _, m => nomatch m
  | q :: ps, nd, p, m => by
    rw [List.map_cons, List.nodup_cons] at nd
    unfold entK
    rcases List.mem_cons.mp m with rfl | m
    · rw [List.find?_cons_of_pos (p := fun x : KP => decide (x.1 = p.1)) (decide_eq_true rfl)]
      rfl
    · have ne : ¬ q.1 = p.1 := fun z => nd.1 (by rw [z]; exact List.mem_map.mpr ⟨p, m, rfl⟩)
      rw [List.find?_cons_of_neg (p := fun x : KP => decide (x.1 = p.1)) (by rw [decide_eq_false ne]; exact Bool.false_ne_true)]
      exact entK_at nd.2 p m
theorem entK_all {ps : List KP} (nd : (ps.map (·.1)).Nodup) : ((ps.map (·.1)).map fun d => (d, entK ps d)) = ps := by
  rw [List.map_map]
  have h : ∀ p ∈ ps, ((fun d => (d, entK ps d)) ∘ fun x : KP => x.1) p = p := fun p m => by
    show (p.1, entK ps p.1) = p
    rw [entK_at nd p m]
  rw [List.map_congr_left h, List.map_id']
theorem srt_all {ps : List KP} {bs : List (Addr × (Int × Int))} (nd : (ps.map (·.1)).Nodup) (pm : (bs.map (·.2)).Perm (ps.map (·.1))) (sd : bs.Pairwise fun a b => SrtO.lexB b.2 a.2 = false) :
    (bs.map fun b => ((b.2, entK ps b.2) : KP)).Perm ps ∧ AscK (bs.map fun b => (b.2, entK ps b.2)) := by
  constructor
  · have h := pm.map fun d => ((d, entK ps d) : KP)
    rw [entK_all nd, List.map_map] at h
    exact h
  · have n2 : (bs.map (·.2)).Nodup := pm.nodup_iff.mpr nd
    rw [List.nodup_iff_pairwise_ne, List.pairwise_map] at n2
    refine List.pairwise_map.mpr ((sd.and n2).imp fun {a b} z => ?_)
    have h := SrtO.lexB_no.mp z.1
    have ne : ¬ (a.2.1 = b.2.1 ∧ a.2.2 = b.2.2) := fun w => z.2 (Prod.ext w.1 w.2)
    show a.2.1 < b.2.1 ∨ (a.2.1 = b.2.1 ∧ a.2.2 < b.2.2)
    omega
theorem paired_of {α β : Type} {F : α → β → Prop} : ∀ {l : List α} {m : List β}, l.length = m.length → (∀ (i : Nat) (a : α) (b : β), l[i]? = some a → m[i]? = some b → F a b) → Paired F l m
  | [], [], _, _ => .nil
  | [], _ :: _, h, _ => nomatch h
  | _ :: _, [], h, _ => nomatch h
  | a :: l, b :: m, h, f => .cons (f 0 a b rfl rfl) (paired_of (Nat.succ.inj h) fun i x y hx hy => f (i + 1) x y hx hy)
/-- what a law draws as an entry -/
def LeafD (d : D) : Prop := (∃ i, d = .int i) ∨ ∃ z, d = .str z
def EntD (d : D) : Prop := ∃ (ss : List Str) (z : Str) (i : D), d = .tup [.tup (ss.map D.str), .str z, i] ∧ LeafD i
/-! ### promises -/
/-- Keep(pairs, clock): good ones make it, others are refused -/
def spKeepI (K : PySem.W.Frag) (CC : Addr → Prop) (CK CL CB : Addr) : Sp := fun vs H Q E => ∃ (x dx l c : Addr) (xs : List V) (ps : List KP) (N : Nat) (S : DotS), vs = [.ref x, .ref l, .ref c] ∧ H x = some (.ins CK dx []) ∧ H l = some (.lst xs) ∧ Paired (PrAt K CC H) xs ps ∧ xs.length ≤ 900 ∧ (∀ p ∈ ps, 1 ≤ p.1.2) ∧ ClkS CL N H c S ∧ N ≤ 1000 ∧
  ((ps.map (·.1)).Nodup → (∀ p ∈ ps, S p.1.1 p.1.2) → ∀ H' qs, (∀ b o, b ≠ x → H b = some o → H' b = some o) → qs.Perm ps → KeepS K CC CK CL N H' x qs S → Q .non H') ∧
  (¬ ((ps.map (·.1)).Nodup ∧ ∀ p ∈ ps, S p.1.1 p.1.2) → ∀ H', Same H H' → E (.ref CB) none H')
def spKeepLen (K : PySem.W.Frag) (CC : Addr → Prop) (CK CL : Addr) : Sp := fun vs H Q _ => ∃ (x : Addr) (N : Nat) (ps : List KP) (S : DotS), vs = [.ref x] ∧ KeepS K CC CK CL N H x ps S ∧ Q (.int ps.length) H
def spKeepClk (K : PySem.W.Frag) (CC : Addr → Prop) (CK CL : Addr) : Sp := fun vs H Q _ => ∃ (x : Addr) (N : Nat) (ps : List KP) (S : DotS), vs = [.ref x] ∧ KeepS K CC CK CL N H x ps S ∧ ∀ c, ClkS CL N H c S → Q (.ref c) H
def spKeepEnt (K : PySem.W.Frag) (CC : Addr → Prop) (CK CL : Addr) : Sp := fun vs H Q _ => ∃ (x t : Addr) (k : Int × Int) (N : Nat) (ps : List KP) (S : DotS), vs = [.ref x, .ref t] ∧ KeepS K CC CK CL N H x ps S ∧ H t = some (.tup [.int k.1, .int k.2]) ∧
  ∀ v, (∀ e, (k, e) ∈ ps → Rep K CC H v e) → ((∀ e, ¬ (k, e) ∈ ps) → v = .non) → Q v H
def spKeepVal (K : PySem.W.Frag) (CC : Addr → Prop) (CK CL : Addr) : Sp := fun vs H Q _ => ∃ (x : Addr) (N : Nat) (ps : List KP) (S : DotS), vs = [.ref x] ∧ KeepS K CC CK CL N H x ps S ∧ N ≤ 1000 ∧
  ∀ v t u ys rows H', Same H H' → H' v = some (.tup [.ref t, .ref u]) → H' t = some (.tup ys) → Paired (PrAt K CC H') ys ps → CanV rows S → wtV rows ≤ N → ValAt H' (.ref u) rows → Q (.ref v) H'
def spKeepLacks (K : PySem.W.Frag) (CC : Addr → Prop) (CK CL : Addr) : Sp := fun vs H Q _ => ∃ (x t : Addr) (k : Int × Int) (N : Nat) (ps : List KP) (S : DotS), vs = [.ref x, .ref t] ∧ KeepS K CC CK CL N H x ps S ∧ H t = some (.tup [.int k.1, .int k.2]) ∧ 1 ≤ k.2 ∧ N ≤ 1000 ∧
  ∀ b H', Same H H' → (b = true ↔ (S k.1 k.2 ∧ ∀ e, ¬ (k, e) ∈ ps)) → Q (.bl b) H'
/-- the empty kept form -/
def spEmptyK (K : PySem.W.Frag) (CC : Addr → Prop) (CK CL : Addr) : Sp := fun vs H Q _ => vs = [] ∧ ∀ z H', Same H H' → H z = none → KeepS K CC CK CL 0 H' z [] (inL []) → Q (.ref z) H'
theorem keep_new {K : PySem.W.Frag} {CC : Addr → Prop} {CK CL CB : Addr} {H : Hp} {Q : Addr → Hp → Prop} {E : XK} {l c : Addr} {xs : List V} {ps : List KP} {N : Nat} {S : DotS} (hl : H l = some (.lst xs)) (hp : Paired (PrAt K CC H) xs ps) (few : xs.length ≤ 900) (one : ∀ p ∈ ps, 1 ≤ p.1.2) (ck : ClkS CL N H c S) (hN : N ≤ 1000) (nd : (ps.map (·.1)).Nodup) (allS : ∀ p ∈ ps, S p.1.1 p.1.2)
    (k : ∀ z H' qs, Same H H' → H z = none → qs.Perm ps → KeepS K CC CK CL N H' z qs S → Q z H') : ∀ x dx, H x = none → H dx = none → dx ≠ x → spKeepI K CC CK CL CB (.ref x :: ([.ref l, .ref c] ++ [])) (upd (upd H dx (.own x)) x (.ins CK dx [])) (fun v H2 => v = .non ∧ Q x H2) E := by
  intro x dx hx hd n
  have s1 : Same H (upd (upd H dx (.own x)) x (.ins CK dx [])) := (same_new hd).trans (same_new (by rw [upd_ne n.symm]; exact hx))
  refine ⟨x, dx, l, c, xs, ps, N, S, rfl, upd_same, s1 _ _ hl, Paired.mono (fun _ _ z => z.mono s1) hp, few, one, ck.mono s1, hN, fun _ _ H' qs f pm ks => ⟨rfl, k x H' qs (fun b o e => f b o (ne_of_none e hx) (s1 _ _ e)) hx pm ks⟩, fun no => absurd ⟨nd, allS⟩ no⟩
end RH
namespace RH
open PySem PySem.Spec PyProof.Rows L2 ItX
/-! ### list(y), y an instance whose __iter__ gives a tuple's iterator and that has a length -/
section
variable {X : Cx} {pins : List (Addr × Obj)} {σ : L2.St} {H : Hp} {s : Shared} {A1 : Around} {C a dx l q it : Addr} {fs : List (Str × V)} {zs : List V} {k kl : Nat}
/-- len(y) at any place below -/
theorem len_at {sq : Sp} {E : Value → Shared → Prop} {R : Value → Shared → Prop} {Qn : Int → Hp → Prop} (sb : Sub X (kl + 1) A1) (M : C8.Met X.prog X.w X.K X.mg X.base kl C "__len__" sq []) (I : Inv X pins σ H s) (ha : H a = some (.ins C dx fs))
    (q : sq [.ref a] H (fun z H' => ∃ n : Int, z = .int n ∧ 0 ≤ n ∧ n < 2 ^ 63 ∧ Qn n H') E0) (go : ∀ n t s' H', Inv X pins σ H' s' → Qn n H' → R (.int n t) s') : wpAny (model X.prog X.w) A1 (call (.builtin "len") [.ref a]) R E s := by
  obtain ⟨f, fd, ps, ds, _, me, F, bs, vs⟩ := M.ex
  cases vs
  obtain ⟨mA, om, _⟩ := ins_get I.hok ha
  obtain ⟨od, J, _⟩ := om.look
  obtain ⟨m, fr⟩ := I.fr
  have hl : ([V.ref a] : List V).length = ps.length := F.len _ _ _ _ q
  have r2 : Vals [V.ref a] [Value.ref a] := .cons rfl .nil
  refine PySem.W.len_K fr I.ok.mod.kin J me.at_ me.fn ?_
  have hb := bs s [.ref a] I.kIn (by simpa using hl)
  rw [List.append_nil] at hb
  have e0 : Env0 X.prog X.w X.K X.mg X.base A1.in1 X.stack s H := by
    have e := I.env0
    exact ⟨by rw [sb.in1.fr]; exact e.frames, e.mod, e.bs, e.bsz, e.funs, e.frf, e.hok, e.bare⟩
  refine wpAny_call (codeAny_mono (F.run A1.in1 X.stack s H ⟨[.ref a], []⟩ [.ref a] [.ref a] _ _ sb.in1.room e0 hb r2 q) fun r s' hq => ?_)
  cases r with
  | error e => exact hq.elim
  | ok fl =>
    cases fl with
    | next => exact False.elim hq
    | brk => exact False.elim hq
    | cont => exact False.elim hq
    | ret u =>
      obtain ⟨v, H2, os, bare, un, hok, rv, n, ev, h0, h1, q2⟩ := hq
      subst ev
      obtain ⟨t, rfl⟩ := rv
      have I2 : Inv X pins σ H2 s' := by
        obtain ⟨hh, g, d, t, os'⟩ := s'
        obtain rfl : os' = s.os := os
        exact I.call (h' := hh) (g' := g) (d' := d) (t' := t) (ch := []) un hok bare (fun b z => absurd z (by simp))
      exact ⟨⟨h0, h1⟩, go n _ _ H2 (I2.tok _) q2⟩
/-- the length is asked -/
theorem hint_at {sq : Sp} {E : Value → Shared → Prop} {R : Bool → Shared → Prop} {n : Nat} (sb : Sub X (kl + 1) A1) (M : C8.Met X.prog X.w X.K X.mg X.base kl C "__len__" sq []) (I : Inv X pins σ H s) (ha : H a = some (.ins C dx fs)) (few : n ≤ sizeLine)
    (q2 : sq [.ref a] H (fun z H' => ∃ j : Int, z = .int j ∧ 0 ≤ j ∧ j < 2 ^ 63 ∧ (j = (n : Int) ∧ H' = H)) E0) (go : ∀ b s', Inv X pins σ H s' → R b s') : wpAny (model X.prog X.w) A1 (Builtin.List.listLengthHint (.ref a)) R E s := by
  have M0 := M
  obtain ⟨f, fd, ps, ds, _, me, F, bs, vs⟩ := M.ex
  obtain ⟨mA, om, _⟩ := ins_get I.hok ha
  obtain ⟨od, J, _⟩ := om.look
  unfold Builtin.List.listLengthHint
  refine wpAny_bind (wpAny_bind (J.type.here ((PySem.W.looks_findIn I.kIn me.at_).here ?_)))
  refine PySem.W.KFB.if_not rfl ?_
  refine PySem.W.KFB.if_so rfl ?_
  refine wpAny_bind (wpAny_rule ?_)
  refine wpAny_bind (wpAny_attempt (len_at sb M0 I ha q2 fun j t s' H' I' e => ?_))
  obtain ⟨rfl, rfl⟩ := e
  have nl : Builtin.List.listTooLong ((n : Int).toNat) = false := by
    unfold Builtin.List.listTooLong
    rw [Int.toNat_natCast]
    exact decide_eq_false (by omega)
  refine wpAny_bind (wpAny_pure ?_)
  refine PySem.W.KFB.if_not nl ?_
  exact wpAny_pure (go _ _ I')
/-- the loop that takes the tuple's things into the list at q -/
theorem tup_loop {Hb : Hp} {Rs : Result → Shared → Prop} (hh : A1.in1.handled = none) (few : zs.length ≤ sizeLine) (hq : SqT X.K Hb l zs) (nq : ∀ ys : List V, SqT X.K (upd Hb q (.lst ys)) l zs) (nit : it ≠ q)
    (done : ∀ s, Inv X pins σ (upd Hb q (.lst zs)) s → Rs (.ok (.ret .none)) s) : ∀ (m i : Nat) (s : Shared), zs.length - i = m → i ≤ zs.length → Inv X pins σ (upd Hb q (.lst (zs.take i))) s → FpOk X pins (upd Hb q (.lst (zs.take i))) it → s.heap.IsTupleIter it l i →
      codeAny (model X.prog X.w) A1 (.builtin "list.extend.loop" ⟨[.ref q, .ref it, .none], []⟩) Rs s := by
  intro m
  induction m with
  | zero =>
    intro i s em le I fp st
    have ei : i = zs.length := by omega
    subst ei
    refine codeAny_builtin PySem.F.entry_extend_loop ?_
    rw [Around.under_plainId PySem.F.plain_extend_loop _]
    show wpAny _ A1.in1 (pyNext (.ref it) >>= _) _ _ s
    obtain ⟨its, rv, p, hz⟩ := I.tuple (nq _)
    have ln := rv.length
    refine wpAny_bind (wpAny_pyNext_tuple_end hh st (show s.heap.IsTuple l its.toArray from p) (by simp; omega) fun h' eb => ?_)
    obtain ⟨f0, f1, f2, f3, f4, f5⟩ := fp
    have I2 := I.turned (t' := s.toks) (fun b o hb e => eb b o hb e) f0 f1 f3 f4 f5
    rw [List.take_length] at I2
    exact wpAny_pure (done _ I2)
  | succ m ih =>
    intro i s em le I fp st
    have lt : i < zs.length := by omega
    refine codeAny_builtin PySem.F.entry_extend_loop ?_
    rw [Around.under_plainId PySem.F.plain_extend_loop _]
    show wpAny _ A1.in1 (pyNext (.ref it) >>= _) _ _ s
    obtain ⟨its, rv, p, hz⟩ := I.tuple (nq _)
    obtain ⟨u, hu, ru⟩ := rv.get (List.getElem?_eq_getElem lt)
    refine wpAny_bind (wpAny_pyNext_tuple_item st (show s.heap.IsTuple l its.toArray from p) (x := u) (by simpa using hu) fun h' st' sb => ?_)
    obtain ⟨f0, f1, f2, f3, f4, f5⟩ := fp
    have I1 := I.turned (t' := s.toks) (fun b o hb e => (sb.2 b hb).trans e) f0 f1 f3 f4 f5
    show wpAny _ A1.in1 (updateSeq q (·.push u) >>= _) _ _ _
    obtain ⟨z, its2, k2, r2, hl2, e2⟩ := I1.lstM upd_same
    have lt2 : its2.length = i := by
      rw [← r2.length, List.length_take]
      omega
    refine wpAny_bind (wpAny_updateSeq e2 rfl (wpAny_pure ⟨plainId_quiet PySem.F.plain_extend_loop _, ?_⟩) (by rw [List.size_toArray]; omega) (by show (its2.toArray.push u).size ≤ sizeLine + 1; rw [Array.size_push, List.size_toArray]; omega))
    have I2 := I1.lset (f := (·.push u)) (its' := its2 ++ [u]) (ys := zs.take i ++ [zs[i]]) (t' := s.toks) upd_same e2 (by simp) (r2.append (.cons ru .nil)) (by rw [List.length_append, List.length_singleton, List.length_take]; omega)
    have tk : zs.take i ++ [zs[i]] = zs.take (i + 1) := by rw [List.take_add_one, List.getElem?_eq_getElem lt]; rfl
    rw [upd_upd, tk] at I2
    refine ih (i + 1) _ (by omega) lt I2 ⟨?_, f1, f2, f3, f4, f5⟩ (st'.at fun o e => ?_)
    · rw [upd_ne nit] at f0 ⊢
      exact f0
    · exact (Heap.get?_update_other _ _ (Ne.symm nit)).trans e
/-- list(y) -/
def rListO (K : PySem.W.Frag) (C : Addr) (sp : Nat → Sp) (sq : Sp) : List V → Hp → VK → Prop := fun xs H Q => ∃ (a dx l : Addr) (fs : List (Str × V)) (zs : List V), xs = [.ref a] ∧ H a = some (.ins C dx fs) ∧ H l = some (.tup zs) ∧ zs.length ≤ sizeLine ∧
  (∀ n H1, (∀ b o, H b = some o → H1 b = some o) → ∀ Q1 : VK, (∀ it, H1 it = none → n ≤ it → Q1 (.ref it) (upd H1 it (ItTO l it))) → sp n [.ref a] H1 Q1 E0) ∧
  (∀ H1, (∀ b o, H b = some o → H1 b = some o) → sq [.ref a] H1 (fun z H' => ∃ j : Int, z = .int j ∧ 0 ≤ j ∧ j < 2 ^ 63 ∧ (j = (zs.length : Int) ∧ H' = H1)) E0) ∧
  ∀ q, H q = none → Q (.ref q) (upd H q (.lst zs))
theorem call_listM {sp : Nat → Sp} {sq : Sp} (M : MetN X.prog X.w X.K X.mg X.base k C "__iter__" sp) (L : C8.Met X.prog X.w X.K X.mg X.base kl C "__len__" sq []) (hr : Room (k + kl + 4) X.A) (calm : X.calm = true) : CallR X (.type "list") (rListO X.K C sp sq) := by
  intro pins s σ H xs us Q I rv h
  obtain ⟨a, dx, l, fs, zs, rfl, ha, hl, few, hsp, hsq, hq⟩ := h
  obtain ⟨u, rfl, ru⟩ := rv.one
  cases ru
  have sb : Sub X (k + kl + 2) X.A.in1.in1 := Sub.in1 (Sub.in1 (⟨hr, rfl⟩ : Sub X (k + kl + 4) X.A))
  refine callType_codes (Q₁ := fun obj s₁ => obj = .ref s.heap.objs.size ∧ s₁ = { s with heap := s.heap.push { cls := .type "list", data := .seq #[] } }) PySem.F.called_list (PySem.F.typeCall_list_1 _) PySem.F.entry_list_init
    (code_list_new _ ⟨rfl, rfl⟩) fun obj s₁ made => ?_
  obtain ⟨rfl, rfl⟩ := made
  have hS : (s.heap.push { cls := .type "list", data := .seq #[] }).get? s.heap.objs.size = some { cls := .type "list", data := .seq #[] } := Heap.get?_push_size _ rfl
  refine ⟨⟨_, hS, rfl⟩, PySem.F.args_list_init_2 _ _, ?_⟩
  have fr : H s.heap.objs.size = none := I.hok.fresh (Nat.le_refl _)
  have I1 : Inv X pins σ (upd H s.heap.objs.size (.lst [])) { s with heap := s.heap.push { cls := .type "list", data := .seq #[] } } := I.lnew (its := []) (t' := s.toks) .nil (Nat.zero_le _)
  have goal := hq _ fr
  have keep0 : ∀ (ys : List V) b o, H b = some o → upd H s.heap.objs.size (.lst ys) b = some o := fun ys b o e => by
    rw [upd_ne (ne_of_none e fr)]
    exact e
  show wpAny _ _ (do let old ← Builtin.List.listItems (.ref s.heap.objs.size); Builtin.List.listUpdate (.ref s.heap.objs.size) (fun _ => #[]); letGo old.toList.reverse; Builtin.List.listExtendWith (.ref s.heap.objs.size) (.ref a) .none) _ _ _
  refine wpAny_bind ?_
  unfold Builtin.List.listItems
  refine wpAny_bind (wpAny_seqItems hS rfl (wpAny_pure ?_))
  show wpAny _ _ (updateSeq s.heap.objs.size (fun _ => #[]) >>= fun _ => letGo (#[] : Array Value).toList.reverse >>= fun _ => Builtin.List.listExtendWith (.ref s.heap.objs.size) (.ref a) .none) _ _ _
  refine wpAny_bind (wpAny_updateSeq hS rfl ?_)
  have I2 := I1.lset (f := fun _ => #[]) (its := []) (its' := []) (ys := []) (t' := s.toks) upd_same hS rfl .nil (Nat.zero_le _)
  rw [upd_upd] at I2
  refine wpAny_bind (wpAny_letGo ?_)
  generalize s.heap.objs.size = q0 at *
  have ha2 := keep0 [] _ _ ha
  have hl2 := keep0 [] _ _ hl
  have hne : q0 ≠ a := fun z => by
    rw [z, ha] at fr
    cases fr
  generalize hs2 : ({ s with heap := (s.heap.push { cls := .type "list", data := .seq #[] }).update q0 (Obj.mapSeq fun _ => #[]), toks := s.toks } : Shared) = s2 at I2
  obtain ⟨mA, om, _⟩ := ins_get I2.hok ha2
  obtain ⟨od, J, _⟩ := om.look
  obtain ⟨m0, hF⟩ := I2.fr
  obtain ⟨f, fd, ps, _, me, F, bs⟩ := M.ex
  suffices main : wpAny (model X.prog X.w) X.A.in1.in1 (Builtin.List.listExtendWith (.ref q0) (.ref a) .none) (fun fin s' => match fin with | .done f => wants (fun r s₂ => r = .none ∧ EP X pins σ Q (.ref q0) s₂) X.xe (.ok f) s' | .again c' => c'.quiet = true ∧ codeAny (model X.prog X.w) X.A.in1 c' (wants (fun r s₂ => r = .none ∧ EP X pins σ Q (.ref q0) s₂) X.xe) s') (fun e s' => wants (fun r s₂ => r = .none ∧ EP X pins σ Q (.ref q0) s₂) X.xe (.error e) s') s2 by
    exact main
  unfold Builtin.List.listExtendWith
  refine wpAny_bind (J.type.here ?_)
  have h1 : Builtin.List.listSameRef (.ref q0) (.ref a) = false := by simp [Builtin.List.listSameRef, hne]
  have h2 : (Value.ref C == Value.type "list") = false := rfl
  have h3 : (Value.ref C == Value.type "tuple") = false := rfl
  simp only [h1, h2, h3, Bool.or_false, Bool.false_eq_true, if_false]
  refine wpAny_bind (PySem.W.owit_iter hF I2.ok.mod.kin J me.at_ me.fn ?_)
  have e0 : Env0 X.prog X.w X.K X.mg X.base X.A.in1.in1 X.stack s2 (upd H q0 (.lst [])) := by
    have e := I2.env0
    exact ⟨by rw [sb.fr]; exact e.frames, e.mod, e.bs, e.bsz, e.funs, e.frf, e.hok, e.bare⟩
  have spI := hsp s2.heap.objs.size (upd H q0 (.lst [])) (keep0 []) (fun v H' => ∃ it, v = .ref it ∧ upd H q0 (.lst []) it = none ∧ s2.heap.objs.size ≤ it ∧ H' = upd (upd H q0 (.lst [])) it (ItTO l it)) fun it n1 n2 => ⟨it, rfl, n1, n2, rfl⟩
  have hlen : ([V.ref a] : List V).length = ps.length := F.leN _ _ _ _ _ spI
  have r2 : Vals [V.ref a] [Value.ref a] := .cons rfl .nil
  have hb := bs s2 [.ref a] I2.kIn (by simpa using hlen)
  rw [List.append_nil] at hb
  refine wpAny_call (codeAny_mono (F.go X.A.in1.in1 X.stack s2 (upd H q0 (.lst [])) ⟨[.ref a], []⟩ [.ref a] [.ref a] _ _ (sb.room.mono (by omega)) e0 hb r2 spI) fun r s' hq' => ?_)
  cases r with
  | error e => exact hq'.elim
  | ok fl =>
    cases fl with
    | next => exact False.elim hq'
    | brk => exact False.elim hq'
    | cont => exact False.elim hq'
    | ret u =>
      obtain ⟨v, H2, os, bare, un, hok, rv2, it, ev, nit, big, eH⟩ := hq'
      subst ev
      cases rv2
      have I3 : Inv X pins σ H2 s' := by
        obtain ⟨hh, g, d, t, os'⟩ := s'
        obtain rfl : os' = s2.os := os
        exact I2.call (h' := hh) (g' := g) (d' := d) (t' := t) (ch := []) un hok bare (fun b z => absurd z (by simp))
      subst eH
      have nq : it ≠ q0 := fun z => by
        rw [z, upd_same] at nit
        cases nit
      have hi : upd (upd H q0 (.lst [])) it (ItTO l it) it = some (ItTO l it) := upd_same
      have eo : s'.heap.get? it = some (tupItObj l 0) := (I3.hok it _ hi).1
      have hT : s'.TypeIs (.ref it) "tuple_iterator" := ⟨_, eo, rfl⟩
      unfold PySem.W.OwitIt
      refine wpAny_specialOf (name := Str.ofString "__next__") hT slot_tupleiter_next.lookup ?_
      have keep3 : ∀ b o, H b = some o → upd (upd H q0 (.lst [])) it (ItTO l it) b = some o := fun b o e => by
        rw [upd_ne (ne_of_none (keep0 [] _ _ e) nit)]
        exact keep0 [] _ _ e
      refine wpAny_bind (wpAny_holding (hint_at (n := zs.length) (sb.mono (by omega)) L I3 (keep3 _ _ ha) few (hsq _ keep3) fun b s4 I4 => ?_))
      have eo4 : s4.heap.get? it = some (tupItObj l 0) := (I4.hok it _ hi).1
      have hi' := hi
      unfold ItTO at hi'
      have I5 := inv_drop I4 hi'
      have fp5 := inv_fp I4 hi (Nat.le_trans I2.sz big)
      have eD : dropH (upd (upd H q0 (.lst [])) it (ItTO l it)) it = upd H q0 (.lst []) := by
        funext c
        by_cases e : c = it
        · rw [e, dropH_same, nit]
        · rw [dropH_ne e, upd_ne e]
      rw [eD] at I5 fp5
      have st4 : s4.heap.IsTupleIter it l 0 := ⟨_, eo4, rfl, rfl⟩
      have lq : l ≠ q0 := fun z => by
        rw [z, fr] at hl
        cases hl
      have nqs : ∀ ys : List V, SqT X.K (upd H q0 (.lst ys)) l zs := fun ys => SqT.of (keep0 ys _ _ hl)
      have fin : ∀ s5 : Shared, L2.Inv X pins σ (upd H q0 (.lst [])) s5 → s5.heap.IsTupleIter it l 0 → codeAny (model X.prog X.w) X.A.in1 (.builtin "list.extend.loop" ⟨[.ref q0, .ref it, .none], []⟩) (wants (fun r s₂ => r = .none ∧ EP X pins σ Q (.ref q0) s₂) X.xe) s5 := fun s5 I6 st => by
        refine tup_loop (A1 := X.A.in1) (Hb := H) (l := l) (zs := zs) (I.ok.hd calm) few (SqT.of hl) nqs nq (fun s6 I7 => ⟨rfl, .ref q0, _, I7, rfl, goal⟩) zs.length 0 s5 (Nat.sub_zero _) (Nat.zero_le _) ?_ ?_ st
        · exact I6
        · exact fp5
      refine wpAny_ite_split (fun _ => ?_) (fun _ => wpAny_pure ⟨plainId_quiet PySem.F.plain_extend_loop _, fin s4 I5 st4⟩)
      refine wpAny_bind (wpAny_rule ?_)
      refine wpAny_bind ?_
      show wpAny _ _ (updateSeq q0 (·.push .none) >>= fun _ => updateSeq q0 (·.pop)) _ _ _
      obtain ⟨z, its, k3, r3, hl3, e3⟩ := I5.lstM upd_same
      cases r3
      refine wpAny_bind (wpAny_updateSeq e3 rfl ?_)
      have I6 := I5.lset (f := (·.push Value.none)) (its' := [Value.none]) (ys := [.non]) (t' := s4.toks) upd_same e3 (by simp) (.cons rfl .nil) (by rw [List.length_singleton, sizeLine_eq]; decide)
      obtain ⟨z4, its4, k4, r4, hl4, e4⟩ := I6.lstM upd_same
      obtain ⟨u4, rfl, ru4⟩ := r4.one
      refine wpAny_updateSeq e4 rfl ?_ (by show 1 ≤ sizeLine; rw [sizeLine_eq]; decide) (by show 0 ≤ sizeLine + 1; exact Nat.zero_le _)
      have I7 := I6.lset (f := (·.pop)) (its := [u4]) (its' := []) (ys := []) (t' := s4.toks) upd_same e4 (by rfl) .nil (Nat.zero_le _)
      rw [upd_upd, upd_upd] at I7
      refine wpAny_pure ⟨plainId_quiet PySem.F.plain_extend_loop _, fin _ I7 (st4.at fun o e => ?_)⟩
      exact (Heap.get?_update_other _ _ (Ne.symm nq)).trans ((Heap.get?_update_other _ _ (Ne.symm nq)).trans e)
end
end RH
namespace RH
open PySem PySem.Spec PySem.SeqAt PyProof.Rows L2
/-! ### sorted of pairs (dot, thing), the dots unlike -/
/-- v is a tuple of a pair of ints d and of something laid -/
def IsKP (h : Heap) (v : Value) (d : Int × Int) : Prop := ∃ a o dt e n, v = .ref a ∧ h.get? a = some o ∧ o.cls = .type "tuple" ∧ o.data = .seq #[.ref dt, .ref e] n ∧ Srt.IsPair h (.ref dt) d.1 d.2
theorem IsKP.keeps {h h' : Heap} {v : Value} {d : Int × Int} (p : IsKP h v d) (k : ∀ b o, h.get? b = some o → o.cls = .type "tuple" → h'.get? b = some o) : IsKP h' v d := by
  obtain ⟨a, o, dt, e, n, e1, ho, hc, hd, pr⟩ := p
  exact ⟨a, o, dt, e, n, e1, k _ _ ho hc, hc, hd, pr.keeps k⟩
theorem lex_two (a b : Int × Int) : HT.lexLt [a.1, a.2] [b.1, b.2] = SrtO.lexB a b := by
  rw [HT.lexLt_cons, HT.lexLt_cons]
  unfold SrtO.lexB
  by_cases h : a.1 = b.1
  · rw [if_pos h, if_pos h]
    by_cases g : a.2 = b.2
    · rw [if_pos g, g, decide_eq_false (Int.lt_irrefl _)]
      rfl
    · rw [if_neg g]
  · rw [if_neg h, if_neg h]
section
variable {prog : Program} {w : World} {A : Around} {s : Shared}
theorem kp_cmp {vs : List Value} {k : Value → Int × Int} (hp : ∀ v ∈ vs, IsKP s.heap v (k v)) (inj : ∀ v ∈ vs, ∀ u ∈ vs, k v = k u → v = u) (hu : A.units < cLine) : SrtO.Cmp prog w A s (tuples' false) (fun p => p.1 ∈ vs) (SrtO.lt2 fun v u => SrtO.lexB (k v) (k u)) := by
  intro p q hm hm'
  show wpAny (model prog w) A (keyLt' (tuples' false) p.1 q.1) (fun r s' => s' = s ∧ r = SrtO.lexB (k p.1) (k q.1)) (fun _ _ => False) s
  have h1 := hp _ hm
  have h2 := hp _ hm'
  by_cases same : k p.1 = k q.1
  · have e := inj _ hm _ hm' same
    rw [← e]
    obtain ⟨a, o, dt, e', n, ea, ho, hc, hd, _⟩ := h1
    have no : SrtO.lexB (k p.1) (k p.1) = false := SrtO.lexB_no.mpr (by omega)
    rw [no, ea]
    refine PySem.W.kat_lt ho hd ho hd ?_
    refine PySem.W.kat_cons (EqAt.same _ prog w _ _ ?_)
    refine PySem.W.kat_yes (PySem.W.kat_cons (EqAt.same _ prog w _ _ ?_))
    exact PySem.W.kat_yes (PySem.W.kat_nil ⟨rfl, rfl⟩)
  · generalize k p.1 = d1 at *
    generalize k q.1 = d2 at *
    obtain ⟨a, o, dt, e1, n, ea, ho, hc, hd, pa, pob, t1, t2, pn, pe, po, pc, pd⟩ := h1
    obtain ⟨b, o', du, e2, n', eb, ho', hc', hd', qa, qob, u1, u2, qn, qe, qo, qc, qd⟩ := h2
    cases pe
    cases qe
    have ne : dt ≠ du := fun z => by
      subst z
      have eo : pob = qob := Option.some.inj (po.symm.trans qo)
      rw [eo] at pd
      have ed := pd.symm.trans qd
      injection ed with ed _
      have el := congrArg Array.toList ed
      simp only [List.cons.injEq, Value.int.injEq, and_true] at el
      exact same (Prod.ext el.1.1 el.2.1)
    rw [ea, eb]
    have tp : s.heap.IsTuple dt #[.int d1.1 t1, .int d1.2 t2] := ⟨pob, po, pc, pn, pd⟩
    have tq : s.heap.IsTuple du #[.int d2.1 u1, .int d2.2 u2] := ⟨qob, qo, qc, qn, qd⟩
    refine PySem.W.kat_lt ho hd ho' hd' ?_
    have rc := RcAt.tuples (e := fun j => if j = 0 then d1.1 == d2.1 else d1.2 == d2.2) tp tq hu fun j h1 h2 => by
      match j, h1 with
      | 0, _ => exact EqAt.int_int d1.1 t1 d2.1 u1
      | 1, _ => exact EqAt.int_int d1.2 t2 d2.2 u2
    refine PySem.W.kat_cons (EqAt.of_refs ne rc prog w _ _ ?_)
    have ef : (((List.range (min (#[Value.int d1.1 t1, .int d1.2 t2] : Array Value).size (#[Value.int d2.1 u1, .int d2.2 u2] : Array Value).size)).all fun j => if j = 0 then d1.1 == d2.1 else d1.2 == d2.2) && (#[Value.int d1.1 t1, .int d1.2 t2] : Array Value).size == (#[Value.int d2.1 u1, .int d2.2 u2] : Array Value).size) = false := by
      refine Bool.eq_false_iff.mpr fun z => same ?_
      rw [Bool.and_eq_true, List.all_eq_true] at z
      have z0 := z.1 0 (List.mem_range.mpr (show 0 < 2 by decide))
      have z1 := z.1 1 (List.mem_range.mpr (show 1 < 2 by decide))
      exact Prod.ext (by simpa using z0) (by simpa using z1)
    rw [ef]
    refine PySem.W.kat_no (PySem.W.kat_one _ _ ?_)
    refine HT.lt_tupInts (ns := [d1.1, d1.2]) (ms := [d2.1, d2.2]) tp tq ?_ ?_ hu ⟨rfl, lex_two d1 d2⟩
    · exact .cons d1.1 t1 (.cons d1.2 t2 .nil)
    · exact .cons d2.1 u1 (.cons d2.2 u2 .nil)
theorem kp_firsts {h : Heap} {k : Value → Int × Int} : ∀ {vs : List Value}, (∀ v ∈ vs, IsKP h v (k v)) → ∃ fs : List Value, PySem.W.KatTups h vs fs ∧ fs.length = vs.length ∧ ∀ f ∈ fs, ∃ dt o, f = .ref dt ∧ h.get? dt = some o ∧ o.cls = .type "tuple"
  | [], _ => ⟨[], PySem.W.KatTups.nil, rfl, fun _ m => nomatch m⟩
  | v :: vs, hp => by
    obtain ⟨fs, t, l, all⟩ := kp_firsts (vs := vs) fun u m => hp u (List.mem_cons_of_mem _ m)
    obtain ⟨a, o, dt, e, n, rfl, ho, hc, hd, pa, pob, t1, t2, pn, pe, po, pc, pd⟩ := hp v List.mem_cons_self
    cases pe
    exact ⟨.ref dt :: fs, PySem.W.KatTups.cons ho hc hd rfl t, by rw [List.length_cons, l]; rfl, fun f m => (List.mem_cons.mp m).elim (fun z => ⟨dt, pob, z, po, pc⟩) (all f)⟩
theorem kp_sortable {a : Addr} {vs : List Value} {k : Value → Int × Int} (h0 : 0 < vs.length) (hp : ∀ v ∈ vs, IsKP s.heap v (k v)) (inj : ∀ v ∈ vs, ∀ u ∈ vs, k v = k u → v = u) (ha : ∀ o, s.heap.get? a = some o → o.cls ≠ .type "tuple") (hu : A.units < cLine) : SrtO.SortableO prog w A s a vs fun v u => SrtO.lexB (k v) (k u) := by
  intro h' keep
  have hp' : ∀ v ∈ vs, IsKP h' v (k v) := fun v hm => (hp v hm).keeps fun b o e c => keep b o (fun z => by subst z; exact ha o e c) e
  obtain ⟨fs, h1, h2, h3⟩ := kp_firsts hp'
  refine ⟨tuples' false, fun Q E hq => ?_, kp_cmp (s := { s with heap := h' }) hp' inj hu⟩
  refine PySem.W.kat_kind (T := .type "tuple") h1 (by omega) (fun f hm => ?_) (by rfl) ?_
  · obtain ⟨dt, o, rfl, ho, hc⟩ := h3 f hm
    intro A2 Q2 E2 s2 stay q2
    exact wpAny_typeOf (T := "tuple") ⟨o, stay _ _ ho, hc⟩ q2
  · have e : (Value.type "tuple" != Value.type "tuple") = false := by first | decide +kernel | rfl | decide
    rw [e]
    exact hq
end
/-- sorted(xs), xs a list of pairs of a dot and something laid, the dots unlike -/
def rSortedKP (K : PySem.W.Frag) : List V → Hp → VK → Prop := fun vs H Q => ∃ (a : Addr) (xs : List V) (k : V → Int × Int), vs = [V.ref a] ∧ SqL K H a xs ∧ (∀ x ∈ xs, ∃ t dt e, x = V.ref t ∧ H t = some (.tup [.ref dt, .ref e]) ∧ H dt = some (.tup [.int (k x).1, .int (k x).2])) ∧
  (∀ x ∈ xs, ∀ y ∈ xs, k x = k y → x = y) ∧ ∀ ys p, ys.Perm xs → ys.Pairwise (fun x y => SrtO.lexB (k y) (k x) = false) → H p = none → Q (.ref p) (upd H p (.lst ys))
theorem cr_sortedKP {X : Cx} (hu : X.A.units + 64 < cLine) : CallR X (.builtin "sorted") (rSortedKP X.K) := by
  intro pins s σ H vs us Q I r h
  obtain ⟨a, xs, k, rfl, hs, hx, inj, q⟩ := h
  obtain ⟨its, rv, hl, hz⟩ := I.list hs
  obtain ⟨u, rfl, ru⟩ := vals1 r
  obtain rfl : u = Value.ref a := ru
  obtain ⟨e1, e2⟩ := refs_back rv fun x m => by
    obtain ⟨t, _, _, e, _⟩ := hx x m
    exact ⟨t, e⟩
  have kp : ∀ v ∈ its, IsKP s.heap v (k (backV v)) := fun v hv => by
    obtain ⟨t, rfl⟩ := e2 v hv
    have hm : V.ref t ∈ xs := by rw [e1]; exact List.mem_map.mpr ⟨_, hv, rfl⟩
    obtain ⟨t', dt, e, et, ht, hdt⟩ := hx _ hm
    cases et
    obtain ⟨_, its2, r2, o, ho, hc, n, hd⟩ := I.hok _ _ ht
    obtain ⟨u1, u2, rfl, ri, rj⟩ := vals2 r2
    cases (show u1 = Value.ref dt from ri)
    cases (show u2 = Value.ref e from rj)
    obtain ⟨_, its3, r3, o3, ho3, hc3, n3, hd3⟩ := I.hok _ _ hdt
    obtain ⟨w1, w2, rfl, qi, qj⟩ := vals2 r3
    obtain ⟨t1, rfl⟩ := qi
    obtain ⟨t2, rfl⟩ := qj
    exact ⟨t, o, dt, e, n, rfl, ho, hc, hd, dt, o3, t1, t2, n3, rfl, ho3, hc3, hd3⟩
  have inj2 : ∀ v ∈ its, ∀ u ∈ its, k (backV v) = k (backV u) → v = u := fun v hv u hu e => by
    obtain ⟨t, rfl⟩ := e2 v hv
    obtain ⟨t2, rfl⟩ := e2 u hu
    have z := inj (V.ref t) (by rw [e1]; exact List.mem_map.mpr ⟨_, hv, rfl⟩) (V.ref t2) (by rw [e1]; exact List.mem_map.mpr ⟨_, hu, rfl⟩) e
    cases z
    rfl
  refine SrtO.sorted_ord (SrtO.swo_lex fun u => k (backV u)) hl.isList (by rw [← rv.length]; exact hz) (fun h2 h₁ b hb kk => ?_) fun out h1 h2 => ?_
  · refine kp_sortable (s := { s with heap := h₁ }) (by omega) (fun v hv => (kp v hv).keeps fun b o e _ => (kk b o e).2) inj2 (fun o e => ?_) (show X.A.units + 2 < cLine by omega)
    have e' : some o = some (seqObj "list" its.toArray 0) := e.symm.trans hb
    cases e'
    intro c
    exact absurd (Value.type.inj c) (by decide)
  · have h3 : ∀ u ∈ out, ∃ a, u = Value.ref a := fun u hu => e2 u (h2.perm.mem_iff.mp hu)
    have pm : (out.map backV).Perm xs := by
      rw [e1]
      exact h2.perm.map backV
    obtain ⟨n, hn⟩ := sortedAll_at s.heap its out.toArray
    have cap : (out.map backV).length ≤ sizeLine := by
      rw [pm.length_eq]
      exact hz
    exact ⟨.ref (s.heap.objs.size + 1), upd H (s.heap.objs.size + 1) (.lst (out.map backV)), I.laid (t' := s.toks) (fun b o e => sortedAll_old e) (Nat.le_succ _) ⟨cap, out, n, vals_back h3, hn⟩, rfl, q _ _ pm (List.pairwise_map.mpr h1) (I.hok.fresh (Nat.le_succ _))⟩
end RH
namespace RH
open PySem L2
/-! ### what the laws of kept forms draw -/
theorem r_dinK {ty td : TE} {σ : L2.St} {H : Hp} {Q : VK} (h : ty σ H fun y H1 => td σ H1 fun x H2 => ∃ a o, x = .ref a ∧ DGet H2 a y o ∧ Q (.bl o.isSome) H2) : tDIn ty td σ H Q := h
theorem r_dninK {ty td : TE} {σ : L2.St} {H : Hp} {Q : VK} (h : ty σ H fun y H1 => td σ H1 fun x H2 => ∃ a o, x = .ref a ∧ DGet H2 a y o ∧ Q (.bl (!o.isSome)) H2) : tDNotIn ty td σ H Q := h
section
variable {K : PySem.W.Frag} {CC : Addr → Prop} {H H' : Hp}
theorem leaf_tu {v : V} {d : D} (R : Rep K CC H v d) (h : LeafV d) (H' : Hp) : Rep K CC H' v d := by
  rcases h with ⟨i, rfl⟩ | ⟨z, rfl⟩ | rfl
  · cases R
    exact .int i
  · cases R with
    | str _ ok => exact .str z ok
  · cases R
    exact .non
theorem tree_tu : ∀ {n : Nat} {v : V} {d : D}, Rep K CC H v d → TreeV n d → Rep K CC (Tu H) v d
  | 0, _, _, R, h => leaf_tu R h _
  | n + 1, _, _, R, h => by
    rcases h with h | ⟨ds, rfl, h⟩
    · exact leaf_tu R h _
    · cases R with
      | @tup a xs _ ha hl hs hi => exact .tup (tu_at ha) hl hs fun i x d hx hd => tree_tu (hi i x d hx hd) (h d (List.mem_of_getElem? hd))
theorem ent_tree {d : D} (h : EntD d) : TreeV 2 d := by
  obtain ⟨ss, z, i, rfl, l⟩ := h
  refine .tup fun e m => ?_
  simp only [List.mem_cons, List.not_mem_nil, or_false] at m
  rcases m with rfl | rfl | rfl
  · refine .tup fun e m => ?_
    obtain ⟨z, _, rfl⟩ := List.mem_map.mp m
    exact .str z
  · exact .str _
  · rcases l with ⟨j, rfl⟩ | ⟨y, rfl⟩
    · exact .int j
    · exact .str y
theorem PrAt.tu {x : V} {p : KP} (h : PrAt K CC H x p) (e : EntD p.2) : PrAt K CC (Tu H) x p := by
  obtain ⟨t, dt, v, e1, a, b, c⟩ := h
  exact ⟨t, dt, v, e1, tu_at a, tu_at b, tree_tu c (ent_tree e)⟩
theorem PrAt.un {x : V} {p : KP} (h : PrAt K CC (Tu H) x p) : PrAt K CC H x p := h.mono (tu_same H)
/-- a list of such pairs, laid so that only tuples matter -/
def PrsT (K : PySem.W.Frag) (CC : Addr → Prop) (H : Hp) (xs : List V) (ps : List KP) : Prop := Paired (PrAt K CC (Tu H)) xs ps
theorem PrsT.keep {xs : List V} {ps : List KP} (h : PrsT K CC H xs ps) (k : TuK H H') : PrsT K CC H' xs ps := Paired.mono (fun _ _ z => PrAt.mono z k.tu) h
theorem PrsT.un {xs : List V} {ps : List KP} (h : PrsT K CC H xs ps) : Paired (PrAt K CC H) xs ps := Paired.mono (fun _ _ z => PrAt.un z) h
end
structure ThOk (ps : List KP) : Prop where
  nd : (ps.map (·.1)).Nodup
  en : ∀ p ∈ ps, EntD p.2
  cl : ∀ p ∈ ps, 0 ≤ p.1.1 ∧ p.1.1 ≤ lim12
  nu : ∀ p ∈ ps, 1 ≤ p.1.2 ∧ p.1.2 ≤ lim12
def spThings (K : PySem.W.Frag) (CC : Addr → Prop) : Sp := fun vs H Q _ => ∃ (a : Addr) (ns : List Int) (n : Int), vs = [.ref a, .int n] ∧ SqL K H a (ns.map V.int) ∧ ns.length ≤ 63 ∧ 0 ≤ n ∧ n ≤ 30 ∧
  ∀ l xs ps H', Same H H' → H l = none → H' l = some (.lst xs) → PrsT K CC H' xs ps → ThOk ps → xs.length ≤ 40 → Q (.ref l) H'
def spRefK (K : PySem.W.Frag) (CC : Addr → Prop) (CL : Addr) : Sp := fun vs H Q _ => ∃ (l c : Addr) (xs : List V) (ps : List KP) (N : Nat) (S : DotS), vs = [.ref l, .ref c] ∧ H l = some (.lst xs) ∧ Paired (PrAt K CC H) xs ps ∧ xs.length ≤ 900 ∧ (∀ p ∈ ps, 1 ≤ p.1.2) ∧ ClkS CL N H c S ∧ N ≤ 1000 ∧
  ¬ ((ps.map (·.1)).Nodup ∧ ∀ p ∈ ps, S p.1.1 p.1.2) ∧ ∀ H', Same H H' → Q (.bl true) H'
def spSameL (K : PySem.W.Frag) (CC : Addr → Prop) (n : Nat) : Sp := fun vs H Q _ => ∃ (a b : Addr) (xs ys : List V) (ds : List D), vs = [.ref a, .ref b] ∧ H a = some (.lst xs) ∧ H b = some (.lst ys) ∧ RepAll K CC H xs ds ∧ RepAll K CC H ys ds ∧ xs.length ≤ 1000 ∧ TreeV n (.tup ds) ∧ ∀ H', Same H H' → Q (.bl true) H'
/-! ### pairs as data; the ascending ones -/
def prD (p : KP) : D := .tup [ptD' p.1, p.2]
section
variable {K : PySem.W.Frag} {CC : Addr → Prop} {H : Hp}
theorem PrAt.rep {x : V} {p : KP} (h : PrAt K CC H x p) : Rep K CC H x (prD p) := by
  obtain ⟨t, dt, v, rfl, a, b, c⟩ := h
  exact rep_tupA a (.cons (rep_tupA b (.cons (.int _) (.cons (.int _) .nil)) (leB rfl)) (.cons c .nil)) (leB rfl)
theorem prs_rep {xs : List V} {ps : List KP} (h : Paired (PrAt K CC H) xs ps) : RepAll K CC H xs (ps.map prD) := by
  induction h with
  | nil => exact .nil
  | cons r _ ih => exact .cons r.rep ih
theorem pr_tree {p : KP} (h : EntD p.2) : TreeV 3 (prD p) := by
  refine .tup fun e m => ?_
  simp only [List.mem_cons, List.not_mem_nil, or_false] at m
  rcases m with rfl | rfl
  · refine .tup fun e m => ?_
    simp only [List.mem_cons, List.not_mem_nil, or_false] at m
    rcases m with rfl | rfl <;> exact .int _
  · exact ent_tree h
theorem TreeV.up {n : Nat} {d : D} : ∀ {m : Nat}, n ≤ m → TreeV n d → TreeV m d := by
  intro m
  induction m generalizing n d with
  | zero =>
    intro l h
    obtain rfl : n = 0 := by omega
    exact h
  | succ m ih =>
    intro l h
    cases n with
    | zero => exact .inl h
    | succ n =>
      rcases h with h | ⟨ds, rfl, h⟩
      · exact .inl h
      · exact .inr ⟨ds, rfl, fun e me => ih (by omega) (h e me)⟩
theorem prs_tree {ps : List KP} (h : ∀ p ∈ ps, EntD p.2) : TreeV 6 (.tup (ps.map prD)) := .tup fun e m => by
  obtain ⟨p, mp, rfl⟩ := List.mem_map.mp m
  exact (pr_tree (h p mp)).up (by decide)
/-- the dot of the pair at v -/
def kpAt (H : Hp) : V → Int × Int
  | .ref t => match H t with
    | some (.tup [d, _]) => kAt H d
    | _ => (0, 0)
  | _ => (0, 0)
theorem PrAt.dot {x : V} {p : KP} (h : PrAt K CC H x p) : kpAt H x = p.1 := by
  obtain ⟨t, dt, v, rfl, a, b, c⟩ := h
  unfold kpAt
  dsimp only
  rw [a]
  exact kAt_at b
theorem Paired.perm {α β : Type} {F : α → β → Prop} {xs ys : List α} (pm : xs.Perm ys) : ∀ {ps : List β}, Paired F xs ps → ∃ qs, Paired F ys qs ∧ qs.Perm ps := by
  induction pm with
  | nil =>
    intro ps h
    exact ⟨ps, h, List.Perm.refl _⟩
  | cons x _ ih =>
    intro ps h
    cases h with
    | @cons _ b _ bs r t =>
      obtain ⟨qs, h2, p2⟩ := ih t
      exact ⟨b :: qs, .cons r h2, p2.cons b⟩
  | swap x y l =>
    intro ps h
    cases h with
    | @cons _ b _ bs r t =>
      cases t with
      | @cons _ c _ cs r2 t2 => exact ⟨c :: b :: cs, .cons r2 (.cons r t2), List.Perm.swap b c cs⟩
  | trans _ _ i1 i2 =>
    intro ps h
    obtain ⟨qs, h2, p2⟩ := i1 h
    obtain ⟨rs, h3, p3⟩ := i2 h2
    exact ⟨rs, h3, p3.trans p2⟩
theorem asck_one : ∀ {a b : List KP}, AscK a → AscK b → a.Perm b → a = b
  | [], b, _, _, pm => (List.Perm.eq_nil pm.symm).symm
  | x :: a, [], _, _, pm => absurd (List.Perm.eq_nil pm) (by simp)
  | x :: a, y :: b, ha, hb, pm => by
    have hx := List.pairwise_cons.mp ha
    have hy := List.pairwise_cons.mp hb
    have e : x = y := by
      rcases List.mem_cons.mp (pm.mem_iff.mp (List.mem_cons_self (a := x) (l := a))) with e | m
      · exact e
      · rcases List.mem_cons.mp (pm.mem_iff.mpr (List.mem_cons_self (a := y) (l := b))) with e | m2
        · exact e.symm
        · have z1 := hy.1 x m
          have z2 := hx.1 y m2
          omega
    subst e
    rw [asck_one hx.2 hy.2 pm.cons_inv]
theorem due_of {xs ys : List V} {ps qs : List KP} (hp : Paired (PrAt K CC H) xs ps) (nd : (ps.map (·.1)).Nodup) (pm : ys.Perm xs) (sd : ys.Pairwise fun x y => SrtO.lexB (kpAt H y) (kpAt H x) = false) (asc : AscK qs) (qp : qs.Perm ps) : Paired (PrAt K CC H) ys qs := by
  obtain ⟨rs, h2, p2⟩ := Paired.perm pm.symm hp
  have nd2 : (rs.map (·.1)).Nodup := (p2.map (·.1)).nodup_iff.mpr nd
  have e : ys.map (kpAt H) = rs.map (·.1) := by
    clear sd pm p2 nd2
    induction h2 with
    | nil => rfl
    | cons r _ ih => rw [List.map_cons, List.map_cons, ih, r.dot]
  have asc2 : AscK rs := by
    have s2 : (ys.map (kpAt H)).Pairwise fun a b => SrtO.lexB b a = false := List.pairwise_map.mpr sd
    rw [e, List.pairwise_map] at s2
    rw [List.nodup_iff_pairwise_ne, List.pairwise_map] at nd2
    refine (s2.and nd2).imp fun {a b} z => ?_
    have h := SrtO.lexB_no.mp z.1
    have ne : ¬ (a.1.1 = b.1.1 ∧ a.1.2 = b.1.2) := fun w => z.2 (Prod.ext w.1 w.2)
    omega
  rw [← asck_one asc2 asc (p2.trans qp.symm)]
  exact h2
theorem r_ownT {C a dx l : Addr} {fs : List (Str × V)} {fld : Str} {xs : List V} {σ : L2.St} {n0 k : Nat} {R : It → Hp → Prop}
    (hs : σ[k]? = some (some (.ref a))) (ha : H a = some (.ins C dx fs)) (hf : fs.lookup fld = some (.ref l)) (hl : SqT K H l xs) (h : R (Itt K l) H) : iOwn K n0 C (spIterT K C fld) (tVar k) σ H R := by
  refine ⟨_, hs, a, dx, fs, rfl, ha, fun n hn => ⟨a, dx, fs, l, xs, rfl, ha, hf, hl, fun it hit hge => ?_⟩⟩
  refine ⟨it, _, rfl, hge, .inr ⟨l, upd_same, rfl⟩, ?_⟩
  rw [ItX.dropH_upd hit]
  exact h
end
def spHold8 (K : PySem.W.Frag) (CC : Addr → Prop) (CK CL : Addr) : Sp := fun vs H Q _ => ∃ (k l th dl : Addr) (xs ts ds : List V) (N : Nat) (S : DotS) (ps qs tps : List KP) (dps : List (Int × Int)), vs = [.ref k, .ref l, .ref th, .ref dl] ∧ KeepS K CC CK CL N H k qs S ∧ N ≤ 1000 ∧ H l = some (.lst xs) ∧ Paired (PrAt K CC H) xs ps ∧ qs.Perm ps ∧ ThOk ps ∧
  H th = some (.lst ts) ∧ Paired (PrAt K CC H) ts tps ∧ ThOk tps ∧ (∀ p ∈ ps, p ∈ tps) ∧ H dl = some (.lst ds) ∧ PtsAt H ds dps ∧ (∀ d ∈ dps, 1 ≤ d.2) ∧ ds.length ≤ 40 ∧ ts.length ≤ 40 ∧ xs.length ≤ 40 ∧ (∀ c k, 1 ≤ k → (S c k ↔ inL dps c k)) ∧ ∀ H', Same H H' → Q (.bl true) H'
theorem nd_idx {α : Type} {l : List α} (nd : l.Nodup) {i j : Nat} {a : α} (hi : l[i]? = some a) (hj : l[j]? = some a) : i = j := by
  obtain ⟨li, ei⟩ := List.getElem?_eq_some_iff.mp hi
  obtain ⟨lj, ej⟩ := List.getElem?_eq_some_iff.mp hj
  have pw := List.pairwise_iff_getElem.mp (List.nodup_iff_pairwise_ne.mp nd)
  rcases Nat.lt_trichotomy i j with h | h | h
  · exact absurd (ei.trans ej.symm) (pw i j li lj h)
  · exact h
  · exact absurd (ej.trans ei.symm) (pw j i lj li h)
end RH
namespace RH
open PySem L2
/-! ### picked by states -/
def pickV {α : Type} (f : Int → Bool) : List Int → List α → List α
  | s :: ss, t :: ts => if f s = true then t :: pickV f ss ts else pickV f ss ts
  | _, _ => []
def bsV (f : Int → Bool) : List Int → List V → List (Bool × V)
  | s :: ss, t :: ts => (f s, t) :: bsV f ss ts
  | _, _ => []
section
variable {f : Int → Bool}
theorem bsV_len : ∀ {ss : List Int} {ts : List V}, ss.length = ts.length → (bsV f ss ts).length = ts.length
  | [], [], _ => rfl
  | [], _ :: _, h => nomatch h
  | _ :: _, [], h => nomatch h
  | s :: ss, t :: ts, h => by
    show (bsV f ss ts).length + 1 = ts.length + 1
    rw [bsV_len (Nat.succ.inj h)]
theorem bsV_at : ∀ {ss : List Int} {ts : List V} {i : Nat} {b : Bool} {y : V}, (bsV f ss ts)[i]? = some (b, y) → ∃ s, ss[i]? = some s ∧ ts[i]? = some y ∧ b = f s
  | [], _, _, _, _, h => by simp [bsV] at h
  | _ :: _, [], _, _, _, h => by simp [bsV] at h
  | s :: ss, t :: ts, 0, _, _, h => by
    have e : (f s, t) = _ := Option.some.inj h
    cases e
    exact ⟨s, rfl, rfl, rfl⟩
  | s :: ss, t :: ts, i + 1, b, y, h => bsV_at (ss := ss) (ts := ts) (i := i) h
theorem bsV_pick : ∀ (ss : List Int) (ts : List V), ((bsV f ss ts).filter (·.1)).map (·.2) = pickV f ss ts
  | [], _ => rfl
  | _ :: _, [] => rfl
  | s :: ss, t :: ts => by
    have ih := bsV_pick ss ts
    show (((f s, t) :: bsV f ss ts).filter (·.1)).map (·.2) = if f s = true then t :: pickV f ss ts else pickV f ss ts
    by_cases h : f s = true
    · rw [if_pos h, List.filter_cons_of_pos (by exact h), List.map_cons, ih]
    · rw [if_neg h, List.filter_cons_of_neg (by exact h), ih]
theorem pick_sub {α : Type} : ∀ (ss : List Int) (ts : List α), (pickV f ss ts).Sublist ts
  | [], ts => List.nil_sublist ts
  | _ :: _, [] => List.Sublist.refl []
  | s :: ss, t :: ts => by
    show (if f s = true then t :: pickV f ss ts else pickV f ss ts).Sublist (t :: ts)
    by_cases h : f s = true
    · rw [if_pos h]
      exact (pick_sub ss ts).cons_cons t
    · rw [if_neg h]
      exact (pick_sub ss ts).cons t
theorem pick_map {α β : Type} (g : α → β) : ∀ (ss : List Int) (ts : List α), (pickV f ss ts).map g = pickV f ss (ts.map g)
  | [], _ => rfl
  | _ :: _, [] => rfl
  | s :: ss, t :: ts => by
    show (if f s = true then t :: pickV f ss ts else pickV f ss ts).map g = if f s = true then g t :: pickV f ss (ts.map g) else pickV f ss (ts.map g)
    by_cases h : f s = true
    · rw [if_pos h, if_pos h, List.map_cons, pick_map g ss ts]
    · rw [if_neg h, if_neg h, pick_map g ss ts]
theorem pick_mem {α : Type} : ∀ {ss : List Int} {ts : List α} {a : α}, a ∈ pickV f ss ts → ∃ (i : Nat) (s : Int), ss[i]? = some s ∧ ts[i]? = some a ∧ f s = true
  | [], _, _, h => nomatch h
  | _ :: _, [], _, h => nomatch h
  | s :: ss, t :: ts, a, h => by
    have h : a ∈ if f s = true then t :: pickV f ss ts else pickV f ss ts := h
    have go : a ∈ pickV f ss ts → ∃ (i : Nat) (s' : Int), (s :: ss)[i]? = some s' ∧ (t :: ts)[i]? = some a ∧ f s' = true := fun m => by
      obtain ⟨i, s', h1, h2, h3⟩ := pick_mem m
      exact ⟨i + 1, s', h1, h2, h3⟩
    by_cases e : f s = true
    · rw [if_pos e] at h
      rcases List.mem_cons.mp h with rfl | m
      · exact ⟨0, s, rfl, rfl, e⟩
      · exact go m
    · rw [if_neg e] at h
      exact go h
theorem pick_in {α : Type} : ∀ {ss : List Int} {ts : List α} {i : Nat} {s : Int} {a : α}, ss[i]? = some s → ts[i]? = some a → f s = true → a ∈ pickV f ss ts
  | [], _, _, _, _, h, _, _ => by simp at h
  | _ :: _, [], _, _, _, _, h, _ => by simp at h
  | s' :: ss, t :: ts, 0, s, a, h1, h2, h3 => by
    cases h1
    cases h2
    show t ∈ if f s' = true then t :: pickV f ss ts else pickV f ss ts
    rw [if_pos h3]
    exact List.mem_cons_self
  | s' :: ss, t :: ts, i + 1, s, a, h1, h2, h3 => by
    have m := pick_in (ss := ss) (ts := ts) h1 h2 h3
    show a ∈ if f s' = true then t :: pickV f ss ts else pickV f ss ts
    split
    · exact List.mem_cons_of_mem _ m
    · exact m
theorem pick_paired {α β : Type} {F : α → β → Prop} {ts : List α} {us : List β} (h : Paired F ts us) : ∀ ss : List Int, Paired F (pickV f ss ts) (pickV f ss us) := by
  induction h with
  | nil =>
    intro ss
    cases ss <;> exact .nil
  | @cons a b l m r _ ih =>
    intro ss
    cases ss with
    | nil => exact .nil
    | cons s ss =>
      show Paired F (if f s = true then a :: pickV f ss l else pickV f ss l) (if f s = true then b :: pickV f ss m else pickV f ss m)
      by_cases e : f s = true
      · rw [if_pos e, if_pos e]
        exact .cons r (ih ss)
      · rw [if_neg e, if_neg e]
        exact ih ss
end
theorem ThOk.sub {ps qs : List KP} (h : ThOk ps) (s : qs.Sublist ps) : ThOk qs := ⟨(s.map (·.1)).nodup h.nd, fun p m => h.en p (s.subset m), fun p m => h.cl p (s.subset m), fun p m => h.nu p (s.subset m)⟩
/-- the dot's place in a pair -/
def dotV (H : Hp) : V → V
  | .ref t => match H t with
    | some (.tup [d, _]) => d
    | _ => .non
  | _ => .non
section
variable {K : PySem.W.Frag} {CC : Addr → Prop} {H H' : Hp}
theorem PrAt.dotAt {x : V} {p : KP} (h : PrAt K CC H x p) : PtAt H (dotV H x) p.1 := by
  obtain ⟨t, dt, v, rfl, a, b, _⟩ := h
  unfold dotV
  dsimp only
  rw [a]
  exact ⟨dt, rfl, b⟩
theorem dots_at {ts : List V} {ps : List KP} (h : Paired (PrAt K CC H) ts ps) : Paired (PtAt H) (ts.map (dotV H)) (ps.map (·.1)) := by
  induction h with
  | nil => exact .nil
  | cons r _ ih => exact .cons r.dotAt ih
theorem pts_paired {xs : List V} {ps : List (Int × Int)} (h : Paired (PtAt H) xs ps) : PtsAt H xs ps := by
  induction h with
  | nil => exact PtsAt.nil
  | @cons a b l m r _ ih =>
    refine ⟨by rw [List.length_cons, List.length_cons, ih.1], fun i x p hx hp => ?_⟩
    cases i with
    | zero => cases hx; cases hp; exact r
    | succ i => exact ih.2 i x p hx hp
theorem okS_strK {z : Str} (h : OkS z) : PyData.strOk z = true := by
  show z.cps.all (· < 0x110000) = true
  rw [← Array.all_toList, List.all_eq_true]
  intro c m
  have e := h.ok c m
  unfold okc at e
  simp only [Bool.or_eq_true, Bool.and_eq_true, decide_eq_true_eq] at e
  exact decide_eq_true (by omega)
theorem leaf_ev {v : V} {d : D} {n : Nat} (R : Rep K CC H v d) (h : LeafV d) : Ev K n H v := by
  rcases h with ⟨i, rfl⟩ | ⟨z, rfl⟩ | rfl
  · cases R
    exact ev_int i
  · cases R with
    | str _ ok => exact ev_str z (okS_strK ok)
  · cases R
    exact ev_non
theorem tree_ev : ∀ {n : Nat} {v : V} {d : D}, Rep K CC H v d → TreeV n d → Ev K n H v
  | 0, _, _, R, h => leaf_ev R h
  | n + 1, _, _, R, h => by
    rcases h with h | ⟨ds, rfl, h⟩
    · exact leaf_ev R h
    · cases R with
      | @tup a xs _ ha hl hs hi =>
        refine ev_tup ha fun x m => ?_
        obtain ⟨i, hi2⟩ := List.mem_iff_getElem?.mp m
        have lt := (List.getElem?_eq_some_iff.mp hi2).1
        obtain ⟨d, hd⟩ : ∃ d, ds[i]? = some d := ⟨_, List.getElem?_eq_getElem (by omega)⟩
        exact tree_ev (hi i x d hi2 hd) (h d (List.mem_of_getElem? hd))
theorem rep_frL {v : V} {d : D} {n : Nat} (R : Rep K CC H v d) (h : TreeV n d) (k : TuK H H') : Rep K CC H' v d := ((tree_tu R h).mono k.tu).mono (tu_same H')
theorem KeepS.frL {CK CL x p : Addr} {N : Nat} {ps : List KP} {S : DotS} {ys : List V} (h : KeepS K CC CK CL N H x ps S) (en : ∀ p ∈ ps, EntD p.2) (f : Fr p H H') (hp : H p = some (.lst ys)) : KeepS K CC CK CL N H' x ps S := by
  obtain ⟨dx, d, t, c, kvs, qs, zs, h1, h2, h3, h4, h5, h6, h7, h8, h9, h10⟩ := h
  have kT : TuK H H' := TuK.frL f hp
  have enq : ∀ p ∈ qs, EntD p.2 := fun p m => en p (h4.mem_iff.mp m)
  refine ⟨dx, d, t, c, kvs, qs, zs, f _ _ (fun z => by rw [z, hp] at h1; cases h1) h1, f _ _ (fun z => by rw [z, hp] at h2; cases h2) h2, ?_, h4, f _ _ (fun z => by rw [z, hp] at h5; cases h5) h5, ?_, h7, h8.fr f hp, h9, h10⟩
  · clear h2 h4
    induction h3 with
    | nil => exact .nil
    | cons r _ ih => exact .cons ⟨r.1, rep_frL r.2 (ent_tree (enq _ List.mem_cons_self)) kT⟩ (ih fun p m => enq p (List.mem_cons_of_mem _ m))
  · clear h5 h4 h7 h9 h10
    induction h6 with
    | nil => exact .nil
    | cons r _ ih =>
      refine .cons ?_ (ih fun p m => en p (List.mem_cons_of_mem _ m))
      obtain ⟨t', dt, v, e, a, b, R⟩ := r
      exact ⟨t', dt, v, e, kT _ _ a, kT _ _ b, rep_frL R (ent_tree (en _ List.mem_cons_self)) kT⟩
end
theorem ins_perm {α : Type} (ps : List α) (x : α) (n : Nat) : (ps.take n ++ [x] ++ ps.drop n).Perm (x :: ps) := by
  have h : (ps.take n ++ x :: ps.drop n).Perm (x :: (ps.take n ++ ps.drop n)) := List.perm_middle
  rw [List.take_append_drop] at h
  rw [List.append_assoc]
  exact h
theorem bad_ins {ps : List KP} {dps : List (Int × Int)} {x : KP} {n : Nat} (h : x.1 ∈ ps.map (·.1) ∨ ¬ x.1 ∈ dps) : ¬ (((ps.take n ++ [x] ++ ps.drop n).map (·.1)).Nodup ∧ ∀ p ∈ ps.take n ++ [x] ++ ps.drop n, inL dps p.1.1 p.1.2) := by
  rintro ⟨nd, all⟩
  have pm := ins_perm ps x n
  rcases h with h | h
  · have nd2 := (pm.map (·.1)).nodup_iff.mp nd
    rw [List.map_cons, List.nodup_cons] at nd2
    exact nd2.1 h
  · exact h (all x (pm.mem_iff.mpr List.mem_cons_self))
theorem paired_take {α β : Type} {F : α → β → Prop} {l : List α} {m : List β} (h : Paired F l m) : ∀ n, Paired F (l.take n) (m.take n) := by
  induction h with
  | nil => intro n; rw [List.take_nil, List.take_nil]; exact .nil
  | cons r _ ih =>
    intro n
    cases n with
    | zero => exact .nil
    | succ n => exact .cons r (ih n)
theorem paired_drop {α β : Type} {F : α → β → Prop} {l : List α} {m : List β} (h : Paired F l m) : ∀ n, Paired F (l.drop n) (m.drop n) := by
  induction h with
  | nil => intro n; rw [List.drop_nil, List.drop_nil]; exact .nil
  | cons r t ih =>
    intro n
    cases n with
    | zero => exact .cons r t
    | succ n => exact ih n
theorem paired_app {α β : Type} {F : α → β → Prop} {l l2 : List α} {m m2 : List β} (h : Paired F l m) (g : Paired F l2 m2) : Paired F (l ++ l2) (m ++ m2) := by
  induction h with
  | nil => exact g
  | cons r _ ih => exact .cons r ih
theorem paired_ins {α β : Type} {F : α → β → Prop} {l : List α} {m : List β} {a : α} {b : β} (h : Paired F l m) (r : F a b) (n : Nat) : Paired F (l.take n ++ [a] ++ l.drop n) (m.take n ++ [b] ++ m.drop n) := paired_app (paired_app (paired_take h n) (.cons r .nil)) (paired_drop h n)
theorem ClkS.nl {C : Addr} {N : Nat} {H H' : Hp} {x : Addr} {S : DotS} (h : ClkS C N H x S) (f : ∀ b o, (∀ ys, o ≠ .lst ys) → H b = some o → H' b = some o) : ClkS C N H' x S := by
  obtain ⟨dx, d, ro, a, ⟨b, c⟩, e, g⟩ := h
  refine ⟨dx, d, ro, f _ _ (fun _ z => nomatch z) a, ⟨f _ _ (fun _ z => nomatch z) b, fun r m => ?_⟩, e, g⟩
  obtain ⟨q, e1, e2⟩ := c r m
  exact ⟨q, f _ _ (fun _ z => nomatch z) e1, f _ _ (fun _ z => nomatch z) e2⟩
theorem PtsAt.k {H H' : Hp} {xs : List V} {ps : List (Int × Int)} (h : PtsAt H xs ps) (k : TuK H H') : PtsAt H' xs ps := ⟨h.1, fun i x p a b => by
  obtain ⟨t, e, z⟩ := h.2 i x p a b
  exact ⟨t, e, k _ _ z⟩⟩
theorem prs_ev {K : PySem.W.Frag} {CC : Addr → Prop} {H : Hp} {xs : List V} {ps : List KP} (h : Paired (PrAt K CC H) xs ps) (en : ∀ p ∈ ps, EntD p.2) : ∀ x ∈ xs, Ev K 60 H x := by
  intro x m
  obtain ⟨i, hi⟩ := List.mem_iff_getElem?.mp m
  obtain ⟨p, hp, r⟩ := paired_at h hi
  exact (tree_ev r.rep (pr_tree (en p (List.mem_of_getElem? hp)))).up (by decide)
theorem seq0 {n : Nat} (h : 0 < n) : seqIndex? 0 n = some 0 := by
  have h2 : (0 : Int) < (n : Int) := by omega
  unfold seqIndex?
  simp [h2]
  omega
end RH
namespace RH
open PySem L2
def top (i : Nat) : Stmt := PySem.Challenge.pw_ringheld_k08_kept_forms_of_pairs.main.body.getD i (.Pass ⟨0, 0, 0, 0⟩)
abbrev s_law : Stmt := top 29
theorem sc_law : FnScope ["script", "things", "row", "states", "pairs", "dots", "absent", "clock", "bad", "kind", "at", "twice", "passed", "keep", "empty", "k"] ["script"] (defScope s_law) := ⟨rfl, rfl, rfl, by decide +kernel, rfl, by decide +kernel, by decide +kernel⟩
abbrev s_Keep___or__ : Stmt := inClass (top 14) 5
theorem sc_Keep___or__ : FnScope ["self", "other", "own", "more", "dot", "entry"] ["self", "other"] (defScope s_Keep___or__) := ⟨rfl, rfl, rfl, by decide +kernel, rfl, by decide +kernel, by decide +kernel⟩
abbrev s_Keep__lacks : Stmt := inClass (top 14) 9
theorem sc_Keep__lacks : FnScope ["self", "dot"] ["self", "dot"] (defScope s_Keep__lacks) := ⟨rfl, rfl, rfl, by decide +kernel, rfl, by decide +kernel, by decide +kernel⟩
abbrev s_Keep___iter__ : Stmt := inClass (top 14) 2
theorem sc_Keep___iter__ : FnScope ["self"] ["self"] (defScope s_Keep___iter__) := ⟨rfl, rfl, rfl, by decide +kernel, rfl, by decide +kernel, by decide +kernel⟩
abbrev s_Keep___len__ : Stmt := inClass (top 14) 1
theorem sc_Keep___len__ : FnScope ["self"] ["self"] (defScope s_Keep___len__) := ⟨rfl, rfl, rfl, by decide +kernel, rfl, by decide +kernel, by decide +kernel⟩
abbrev s_Keep___init__ : Stmt := inClass (top 14) 0
theorem sc_Keep___init__ : FnScope ["self", "pairs", "clock", "entries", "dot", "entry"] ["self", "pairs", "clock"] (defScope s_Keep___init__) := ⟨rfl, rfl, rfl, by decide +kernel, rfl, by decide +kernel, by decide +kernel⟩
abbrev s_Clock___or__ : Stmt := inClass (top 9) 2
theorem sc_Clock___or__ : FnScope ["self", "other", "rows", "client", "union"] ["self", "other"] (defScope s_Clock___or__) := ⟨rfl, rfl, rfl, by decide +kernel, rfl, by decide +kernel, by decide +kernel⟩
abbrev s_Clock___contains__ : Stmt := inClass (top 9) 1
theorem sc_Clock___contains__ : FnScope ["self", "dot", "client", "number", "upto", "later"] ["self", "dot"] (defScope s_Clock___contains__) := ⟨rfl, rfl, rfl, by decide +kernel, rfl, by decide +kernel, by decide +kernel⟩
abbrev s_Clock___init__ : Stmt := inClass (top 9) 0
theorem sc_Clock___init__ : FnScope ["self", "dots"] ["self", "dots"] (defScope s_Clock___init__) := ⟨rfl, rfl, rfl, by decide +kernel, rfl, by decide +kernel, by decide +kernel⟩
abbrev s__rows_of : Stmt := top 10
theorem sc__rows_of : FnScope ["dots", "ordered", "starts", "ends", "at", "start", "end", "client", "number"] ["dots"] (defScope s__rows_of) := ⟨rfl, rfl, rfl, by decide +kernel, rfl, by decide +kernel, by decide +kernel⟩
abbrev s__packed : Stmt := top 11
theorem sc__packed : FnScope ["upto", "numbers", "later", "number"] ["upto", "numbers"] (defScope s__packed) := ⟨rfl, rfl, rfl, by decide +kernel, rfl, by decide +kernel, by decide +kernel⟩
abbrev s__joined : Stmt := top 12
theorem sc__joined : FnScope ["row", "other", "upto", "later", "other_upto", "other_later"] ["row", "other"] (defScope s__joined) := ⟨rfl, rfl, rfl, by decide +kernel, rfl, by decide +kernel, by decide +kernel⟩
abbrev s__law_things : Stmt := top 23
theorem sc__law_things : FnScope ["script", "most", "row", "clients", "things", "dots", "place", "spot", "dot", "k"] ["script", "most"] (defScope s__law_things) := ⟨rfl, rfl, rfl, by decide +kernel, rfl, by decide +kernel, by decide +kernel⟩
abbrev s__law_open : Stmt := top 16
theorem sc__law_open : FnScope ["script", "place", "cell"] ["script", "place"] (defScope s__law_open) := ⟨rfl, rfl, rfl, by decide +kernel, rfl, by decide +kernel, by decide +kernel⟩
abbrev s__law_number : Stmt := top 19
theorem sc__law_number : FnScope ["row", "kind"] ["row"] (defScope s__law_number) := ⟨rfl, rfl, rfl, by decide +kernel, rfl, by decide +kernel, by decide +kernel⟩
abbrev s__law_draw : Stmt := top 17
theorem sc__law_draw : FnScope ["row", "bound", "digit", "first", "second"] ["row", "bound"] (defScope s__law_draw) := ⟨rfl, rfl, rfl, by decide +kernel, rfl, by decide +kernel, by decide +kernel⟩
abbrev s__law_entry : Stmt := top 22
theorem sc__law_entry : FnScope ["row", "letters", "path", "k", "size", "kind", "j"] ["row"] (defScope s__law_entry) := ⟨rfl, rfl, rfl, by decide +kernel, rfl, by decide +kernel, by decide +kernel⟩
abbrev s__law_item : Stmt := top 21
theorem sc__law_item : FnScope ["row", "size", "k"] ["row"] (defScope s__law_item) := ⟨rfl, rfl, rfl, by decide +kernel, rfl, by decide +kernel, by decide +kernel⟩
abbrev s__law_char : Stmt := top 18
theorem sc__law_char : FnScope ["draw", "chars"] ["draw"] (defScope s__law_char) := ⟨rfl, rfl, rfl, by decide +kernel, rfl, by decide +kernel, by decide +kernel⟩
abbrev s__law_dot : Stmt := top 20
theorem sc__law_dot : FnScope ["row", "clients", "client", "kind"] ["row", "clients"] (defScope s__law_dot) := ⟨rfl, rfl, rfl, by decide +kernel, rfl, by decide +kernel, by decide +kernel⟩
abbrev s__law_refused : Stmt := top 27
theorem sc__law_refused : FnScope ["pairs", "clock", "e"] ["pairs", "clock"] (defScope s__law_refused) := ⟨rfl, rfl, rfl, by decide +kernel, rfl, by decide +kernel, by decide +kernel⟩
abbrev s__law_holds : Stmt := top 28
theorem sc__law_holds : FnScope ["keep", "pairs", "things", "dots", "due", "rows", "walked", "dot", "entry", "pair", "other", "live"] ["keep", "pairs", "things", "dots"] (defScope s__law_holds) := ⟨rfl, rfl, rfl, by decide +kernel, rfl, by decide +kernel, by decide +kernel⟩
abbrev s_Keep_clock : Stmt := inClass (top 14) 3
theorem sc_Keep_clock : FnScope ["self"] ["self"] (defScope s_Keep_clock) := ⟨rfl, rfl, rfl, by decide +kernel, rfl, by decide +kernel, by decide +kernel⟩
abbrev s_Keep_entry : Stmt := inClass (top 14) 4
theorem sc_Keep_entry : FnScope ["self", "dot"] ["self", "dot"] (defScope s_Keep_entry) := ⟨rfl, rfl, rfl, by decide +kernel, rfl, by decide +kernel, by decide +kernel⟩
abbrev s_Keep_value : Stmt := inClass (top 14) 7
theorem sc_Keep_value : FnScope ["self"] ["self"] (defScope s_Keep_value) := ⟨rfl, rfl, rfl, by decide +kernel, rfl, by decide +kernel, by decide +kernel⟩
abbrev s_Clock_value : Stmt := inClass (top 9) 7
theorem sc_Clock_value : FnScope ["self", "client", "upto", "later"] ["self"] (defScope s_Clock_value) := ⟨rfl, rfl, rfl, by decide +kernel, rfl, by decide +kernel, by decide +kernel⟩
abbrev s__law_same_list : Stmt := top 25
theorem sc__law_same_list : FnScope ["actual", "due"] ["actual", "due"] (defScope s__law_same_list) := ⟨rfl, rfl, rfl, by decide +kernel, rfl, by decide +kernel, by decide +kernel⟩
abbrev s__law_same : Stmt := top 24
theorem sc__law_same : FnScope ["actual", "due", "k"] ["actual", "due"] (defScope s__law_same) := ⟨rfl, rfl, rfl, by decide +kernel, rfl, by decide +kernel, by decide +kernel⟩
abbrev s__law_clock_value : Stmt := top 26
theorem sc__law_clock_value : FnScope ["dots", "bases", "clients", "client", "dot", "numbers", "rows", "upto", "k", "later", "number"] ["dots", "bases"] (defScope s__law_clock_value) := ⟨rfl, rfl, rfl, by decide +kernel, rfl, by decide +kernel, by decide +kernel⟩
structure Txt (K : PySem.W.Frag) (mg : Str → Option Value) : Prop where
  z_ValueError : mg "ValueError" = none
  z_abs : mg "abs" = none
  z_all : mg "all" = none
  z_bool : mg "bool" = none
  z_dict : mg "dict" = none
  z_int : mg "int" = none
  z_isinstance : mg "isinstance" = none
  z_iter : mg "iter" = none
  z_len : mg "len" = none
  z_list : mg "list" = none
  z_max : mg "max" = none
  z_min : mg "min" = none
  z_property : mg "property" = none
  z_range : mg "range" = none
  z_set : mg "set" = none
  z_sorted : mg "sorted" = none
  z_str : mg "str" = none
  z_tuple : mg "tuple" = none
  z_zip : mg "zip" = none
end RH
namespace RH
open PySem L2
local macro_rules | `(tactic| walk_at "rdh") => `(tactic| first | assumption | exact upd_same | (rw [upd_ne (by assumption)]; assumption) | (rw [upd_ne (Ne.symm (by assumption))]; assumption))
local macro_rules | `(tactic| walk_at "rdc") => `(tactic| first | assumption | decide | omega | exact cmul_r (by decide) (by decide) | exact cmul_l (by decide) (by decide) | exact cpow (by decide) (by decide) (by decide) | exact cdiv (by decide) (by decide) | exact wide_div (b := 200) (by assumption) (by omega) (by decide) (by decide) | exact cmul_r (by omega) (by omega) | exact cmul_l (by omega) (by omega))
local macro_rules | `(tactic| walk_at "rd1") => `(tactic| first
  | with_reducible apply r_op | ((with_reducible apply r_var); exact rfl) | with_reducible apply r_c | with_reducible apply r_cons | with_reducible apply r_nil | with_reducible apply r_I0
  | with_reducible apply r_seq | with_reducible apply r_asg | with_reducible apply r_name | with_reducible apply r_cb | with_reducible apply r_test | with_reducible apply r_k
  | with_reducible apply r_ifS | with_reducible apply r_call | with_reducible apply r_ret | ((with_reducible apply r_I); walk_at "rdc") | ((with_reducible apply r_eq); exact rfl) | ((with_reducible apply r_ne); exact rfl)
  | ((with_reducible apply r_ixL); walk_at "rdh"; exact rfl) | ((with_reducible apply r_ixT); walk_at "rdh"; exact rfl) | with_reducible apply r_sub | ((with_reducible apply r_setL); walk_at "rdh"; exact rfl)
  | with_reducible apply r_un | with_reducible apply r_U | with_reducible apply r_B | with_reducible apply r_and | with_reducible apply r_or | with_reducible apply r_not
  | with_reducible apply r_andV | with_reducible apply r_orV | with_reducible apply r_notV | with_reducible apply r_if | with_reducible apply r_tup | with_reducible apply r_lst
  | ((with_reducible apply r_ixgT); walk_at "rdh"; exact rfl) | ((with_reducible apply r_ixgL); walk_at "rdh"; exact rfl)
  | with_reducible apply r_next | with_reducible apply r_drop | with_reducible apply r_int1 | with_reducible apply r_chain | with_reducible apply r_ord | with_reducible apply r_abs | with_reducible apply r_min2 | with_reducible apply r_max2
  | with_reducible apply r_leStr | with_reducible apply r_inSign | with_reducible apply r_notInSign | ((with_reducible apply r_isTy); assumption)
  | ((with_reducible apply r_lenL); walk_at "rdh") | ((with_reducible apply r_lenT); walk_at "rdh")
  | refine Rep.typ (by assumption) (fun _ _ => ?_) | refine r_isi (by assumption) (by assumption) (by decide) ?_)
local macro_rules | `(tactic| walk_at "rd") => `(tactic| repeat walk_at "rd1")

section
variable {P : Program} {w : World} {K : PySem.W.Frag} {mg : Str → Option Value} {base : Heap} {CC : Addr → Prop}
theorem ok__law_draw {f : Addr} {fd : FuncData} (F : Fun K "_law_draw" "_law_draw" s__law_draw f fd) (T : Txt K mg) : FnOk P w K mg base CX0 1 f fd ["row", "bound"] sp_draw := by
  refine F.ok sc__law_draw (fun vs H Q E h => ?_) (fun cdv A outer s H vs Q E hr h => ?_)
  · obtain ⟨r, n, rfl, _⟩ := h
    rfl
  · obtain ⟨r, n, rfl, hn, hb, ⟨a, b, c, e⟩, q⟩ := h
    refine ⟨_, (pss_cons (ps_if (pt_cmpR op_gt (pe_ix ix_list (pv 0) pe_int (fun _ _ => rfl)) pe_int (nomark _))
 (pss_cons (ps_set (i := 2) sc__law_draw.nd rfl (Or.inl rfl) (pe_op op_mod (pe_callTy call_int1G rfl T.z_int (by decide +kernel) (pa_cons (pe_ix ix_list (pv 0) pe_int (fun _ _ => rfl)) pa_nil)) (pv 1)))
 (pss_cons (ps_asg (pe_op op_fdivW (pe_ix ix_list (pv 0) pe_int (fun _ _ => rfl)) (pv 1)) (pg_sub (pv 0) pe_int set_list))
 (pss_one (ps_ret (pv 2)))))
 pss_nil)
 (pss_cons (ps_asg (pe_op op_add (pe_ix ix_list (pv 0) pe_int (fun _ _ => rfl)) pe_int) (pg_sub (pv 0) pe_int set_list))
 (pss_cons (ps_set (i := 3) sc__law_draw.nd rfl (Or.inl rfl) (pe_op op_mod (pe_callTy call_int1G rfl T.z_int (by decide +kernel) (pa_cons (pe_op op_add (pe_op op_add (pe_op op_mul (pe_ix ix_list (pv 0) pe_int (fun _ _ => rfl)) pe_int) (pe_op op_mul (pe_ix ix_list (pv 0) pe_int (fun _ _ => rfl)) pe_int)) pe_int) pa_nil)) pe_int))
 (pss_cons (ps_set (i := 4) sc__law_draw.nd rfl (Or.inl rfl) (pe_op op_mod (pe_callTy call_int1G rfl T.z_int (by decide +kernel) (pa_cons (pe_op op_add (pe_op op_mul (pv 3) (pv 3)) (pe_op op_mul (pe_ix ix_list (pv 0) pe_int (fun _ _ => rfl)) pe_int)) pa_nil)) pe_int))
 (pss_cons (ps_set (i := 3) sc__law_draw.nd rfl (Or.inl rfl) (pe_op op_mod (pe_callTy call_int1G rfl T.z_int (by decide +kernel) (pa_cons (pe_op op_add (pe_op op_mul (pv 4) pe_int) (pv 3)) pa_nil)) pe_int))
 (pss_one (ps_ret (pe_op op_mod (pe_callTy call_int1G rfl T.z_int (by decide +kernel) (pa_cons (pe_op op_fdiv (pe_op op_add (pe_op op_mul (pv 3) pe_int) (pv 4)) pe_int) pa_nil)) (pv 1))))))))), ?_⟩
    walk_at "rd"
    refine ite2 (fun h => ?_) (fun h => ?_)
    · have hb2 : n.natAbs < 2 ^ 200 := by omega
      walk_at "rd"
      exact q _ _ (Int.emod_nonneg _ (by omega)) (Int.emod_lt_of_pos _ hn) Fr.row ⟨_, _, _, upd_same⟩
    · walk_at "rd"
      exact q _ _ (Int.emod_nonneg _ (by omega)) (Int.emod_lt_of_pos _ hn) Fr.row ⟨_, _, _, upd_same⟩
theorem ok__law_open {f : Addr} {fd : FuncData} (F : Fun K "_law_open" "_law_open" s__law_open f fd) (T : Txt K mg) : FnOk P w K mg base CX0 1 f fd ["script", "place"] (sp_open K) := by
  refine F.ok sc__law_open (fun vs H Q E h => ?_) (fun cdv A outer s H vs Q E hr h => ?_)
  · obtain ⟨a, ns, i, rfl, _⟩ := h
    rfl
  · obtain ⟨a, ns, i, rfl, hS, hl, q⟩ := h
    refine ⟨_, (pss_cons (ps_set (i := 2) sc__law_open.nd rfl (Or.inl rfl) pe_int)
 (C8.pss_cut (ps_if (pt_cmpR op_gt (pe_callB call_lenG rfl T.z_len (by decide +kernel) (pa_cons (pv 0) pa_nil)) pe_int (nomark _))
 (pss_one (ps_set (i := 2) sc__law_open.nd rfl (Or.inl rfl) (pe_callB call_absG rfl T.z_abs (by decide +kernel) (pa_cons (pe_ix ix_list (pv 0) (pe_op op_mod (pe_callTy call_int1G rfl T.z_int (by decide +kernel) (pa_cons (pv 1) pa_nil)) (pe_callB call_lenG rfl T.z_len (by decide +kernel) (pa_cons (pv 0) pa_nil))) (fun _ _ => rfl)) pa_nil))))
 pss_nil)
 (pss_cons (ps_if (PW.pt (pw_and (pt_cmpR op_lt (pv 1) (pe_callB call_lenG rfl T.z_len (by decide +kernel) (pa_cons (pv 0) pa_nil)) (nomark _)) (pw_and1 (pt_cmpR op_ge (pv 2) (pe_op op_pow pe_int pe_int) (nomark _)))))
 (pss_one (ps_ret (pe_lst (pa_cons (pe_op op_sub (pv 2) (pe_op op_pow pe_int pe_int)) (pa_cons (pv 2) (pa_cons pe_int pa_nil))))))
 pss_nil)
 (pss_one (ps_ret (pe_lst (pa_cons pe_int (pa_cons (pe_op op_add (pv 2) (pe_op op_mul pe_int (pv 1))) (pa_cons pe_int pa_nil))))))))), ?_⟩
    walk_at "rd"
    refine r_cut (fun σ' H' => ∃ c : Int, σ' = [some (.ref a), some (.int i), some (.int c)] ∧ H' = H) ?_ ?_
    · walk_at "rd"
      refine r_lenQ hS ?_
      walk_at "rd"
      rw [List.length_map]
      refine ite2 (fun h => ?_) (fun h => ?_)
      · have h0 : (0 : Int) < ns.length := by have := of_decide_eq_true h; omega
        walk_at "rd"
        refine r_lenQ hS ?_
        rw [List.length_map]
        walk_at "rd"
        have h1 := Int.emod_nonneg i (show (ns.length : Int) ≠ 0 by omega)
        have h2 := Int.emod_lt_of_pos i h0
        obtain ⟨m, hm⟩ : ∃ m : Nat, i % (ns.length : Int) = (m : Int) := ⟨(i % (ns.length : Int)).toNat, by omega⟩
        rw [hm]
        have hlt : m < ns.length := by omega
        have hget : (ns.map V.int)[m]? = some (V.int ns[m]) := by
          rw [List.getElem?_map, List.getElem?_eq_getElem hlt]
          rfl
        refine r_ixQ hS (atI_nat hget) ?_
        walk_at "rd"
        exact ⟨_, rfl, rfl⟩
      · walk_at "rd"
        exact ⟨5, rfl, rfl⟩
    · rintro σ' H' ⟨c, rfl, rfl⟩
      walk_at "rd"
      refine r_lenQ hS ?_
      walk_at "rd"
      have fin : ∀ u v : Int, ∀ r, H' r = none → Q (.ref r) (upd H' r (.lst [.int u, .int v, .int 0])) := fun u v r hr => q r _ hr (same_new hr) ⟨_, _, _, upd_same⟩
      refine ite2 (fun h => ?_) (fun h => ?_)
      · walk_at "rd"
        refine ite2 (fun h => ?_) (fun h => ?_)
        · walk_at "rd"
          exact ⟨sz3, fin _ _⟩
        · walk_at "rd"
          exact ⟨sz3, fin _ _⟩
      · refine iteF ?_
        walk_at "rd"
        exact ⟨sz3, fin _ _⟩
theorem ok__law_char {f : Addr} {fd : FuncData} (F : Fun K "_law_char" "_law_char" s__law_char f fd) (T : Txt K mg) : FnOk P w K mg base CX0 1 f fd ["draw"] sp_char := by
  refine F.ok sc__law_char (fun vs H Q E h => ?_) (fun cdv A outer s H vs Q E hr h => ?_)
  · obtain ⟨i, rfl, _⟩ := h
    rfl
  · obtain ⟨i, rfl, q⟩ := h
    refine ⟨_, (pss_cons (ps_set (i := 1) sc__law_char.nd rfl (Or.inl rfl) pe_str)
 (pss_cons (ps_set (i := 1) sc__law_char.nd rfl (Or.inl rfl) (pe_op op_addStrG (pv 1) pe_str))
 (pss_one (ps_ret (pe_ix ix_str (pv 1) (pe_op op_mod (pe_callTy call_int1G rfl T.z_int (by decide +kernel) (pa_cons (pv 0) pa_nil)) pe_int) (fun _ _ => rfl)))))), ?_⟩
    walk_at "rd"
    refine r_addStr (by decide +kernel) ?_
    walk_at "rd"
    refine r_char i q
end
end RH
namespace RH
open PySem L2
local macro_rules | `(tactic| walk_at "rdh") => `(tactic| first | assumption | exact upd_same | (rw [upd_ne (by assumption)]; assumption) | (rw [upd_ne (Ne.symm (by assumption))]; assumption))
local macro_rules | `(tactic| walk_at "rdc") => `(tactic| first | assumption | decide | omega | exact cmul_r (by decide) (by decide) | exact cmul_l (by decide) (by decide) | exact cpow (by decide) (by decide) (by decide) | exact cdiv (by decide) (by decide) | exact wide_div (b := 200) (by assumption) (by omega) (by decide) (by decide) | exact cmul_r (by omega) (by omega) | exact cmul_l (by omega) (by omega))
local macro_rules | `(tactic| walk_at "rd1") => `(tactic| first
  | with_reducible apply r_op | ((with_reducible apply r_var); exact rfl) | with_reducible apply r_c | with_reducible apply r_cons | with_reducible apply r_nil | with_reducible apply r_I0
  | with_reducible apply r_seq | with_reducible apply r_asg | with_reducible apply r_name | with_reducible apply r_cb | with_reducible apply r_test | with_reducible apply r_k
  | with_reducible apply r_ifS | with_reducible apply r_call | with_reducible apply r_ret | ((with_reducible apply r_I); walk_at "rdc") | ((with_reducible apply r_eq); exact rfl) | ((with_reducible apply r_ne); exact rfl)
  | ((with_reducible apply r_ixL); walk_at "rdh"; exact rfl) | ((with_reducible apply r_ixT); walk_at "rdh"; exact rfl) | with_reducible apply r_sub | ((with_reducible apply r_setL); walk_at "rdh"; exact rfl)
  | with_reducible apply r_un | with_reducible apply r_U | with_reducible apply r_B | with_reducible apply r_and | with_reducible apply r_or | with_reducible apply r_not
  | with_reducible apply r_andV | with_reducible apply r_orV | with_reducible apply r_notV | with_reducible apply r_if | with_reducible apply r_tup | with_reducible apply r_lst
  | ((with_reducible apply r_ixgT); walk_at "rdh"; exact rfl) | ((with_reducible apply r_ixgL); walk_at "rdh"; exact rfl)
  | with_reducible apply r_next | with_reducible apply r_drop | with_reducible apply r_int1 | with_reducible apply r_chain | with_reducible apply r_ord | with_reducible apply r_abs | with_reducible apply r_min2 | with_reducible apply r_max2
  | with_reducible apply r_leStr | with_reducible apply r_inSign | with_reducible apply r_notInSign | ((with_reducible apply r_isTy); assumption)
  | ((with_reducible apply r_lenL); walk_at "rdh") | ((with_reducible apply r_lenT); walk_at "rdh")
  | refine Rep.typ (by assumption) (fun _ _ => ?_) | refine r_isi (by assumption) (by assumption) (by decide) ?_)
local macro_rules | `(tactic| walk_at "rd") => `(tactic| repeat walk_at "rd1")

/-- _packed(upto, numbers) -/
def spPacked (K : PySem.W.Frag) : Sp := fun vs H Q _ => ∃ (u : Int) (p : Addr) (ns : List Int), vs = [.int u, .ref p] ∧ (SqL K H p (ns.map V.int) ∨ SqT K H p (ns.map V.int)) ∧ ns.length ≤ 1000 ∧
  ∀ (so : List Int) q l H', so.Pairwise (· < ·) → (∀ k, k ∈ so ↔ k ∈ ns) → Same H H' → H q = none → H' q = some (.tup [.int (pk u so).1, .ref l]) → H l = none → H' l = some (.tup ((pk u so).2.map V.int)) → Q (.ref q) H'
section
variable {P : Program} {w : World} {K : PySem.W.Frag} {mg : Str → Option Value} {base : Heap} {CC : Addr → Prop}
theorem ok__packed {f : Addr} {fd : FuncData} (F : Fun K "_packed" "_packed" s__packed f fd) (T : Txt K mg) : FnOk P w K mg base CX0 1 f fd ["upto", "numbers"] (spPacked K) := by
  refine F.ok sc__packed (fun vs H Q E h => ?_) (fun cdv A outer s H vs Q E hr h => ?_)
  · obtain ⟨u, p, ns, rfl, _⟩ := h
    rfl
  · obtain ⟨u, p, ns, rfl, hsq, hl, q⟩ := h
    refine ⟨_, (pss_cons (ps_set (i := 2) sc__packed.nd rfl (Or.inl rfl) (pe_lst pa_nil))
 (pss_cons (ps_for PassesOwn.never rfl (pi_list (pe_callB (call_sortSI rfl) rfl T.z_sorted (by decide +kernel) (pa_cons (pe_callTy (call_setI rfl) rfl T.z_set (by decide +kernel) (pa_cons (pv 1) pa_nil)) pa_nil))) (pg_name (i := 3) sc__packed.nd rfl (Or.inl rfl))
 (pss_one (ps_if (pt_cmpR op_eq (pv 3) (pe_op op_add (pv 0) pe_int) (nomark _))
 (pss_one (ps_set (i := 0) sc__packed.nd rfl (Or.inl rfl) (pv 3)))
 (pss_one (ps_if (pt_cmpR op_gt (pv 3) (pv 0) (nomark _))
 (pss_one (ps_expr (pe_bm PySem.F.plainAttrs_list PySem.F.slot_list_append PySem.F.type_list_append mt_append (pv 2) (pa_cons (pv 3) pa_nil))))
 pss_nil)))))
 (pss_one (ps_ret (pe_tup (pa_cons (pv 0) (pa_cons (pe_callTy call_tupleG rfl T.z_tuple (by decide +kernel) (pa_cons (pv 2) pa_nil)) pa_nil))))))), ?_⟩
    walk_at "rd"
    refine ⟨szL rfl, fun l0 hl0 => ?_⟩
    walk_at "rd"
    have s0 : Same H (upd H l0 (.lst [])) := same_new hl0
    have hsq0 : SqL K (upd H l0 (.lst [])) p (ns.map V.int) ∨ SqT K (upd H l0 (.lst [])) p (ns.map V.int) := hsq.imp s0.seq (same_t s0)
    refine r_for ?_
    walk_at "rd"
    show tCB _ _ _ _ _
    walk_at "rd"
    refine ⟨p, ns, rfl, hsq0, hl, fun q1 c hc hq1 => ?_⟩
    walk_at "rd"
    refine ⟨q1, _, c, rfl, upd_same, Nat.le_trans hc hl, fun so p1 asc mem len hp1 => ?_⟩
    have n1 : q1 ≠ l0 := fun z => by rw [z, upd_same] at hq1; cases hq1
    have n2 : p1 ≠ q1 := fun z => by rw [z, upd_same] at hp1; cases hp1
    have n3 : p1 ≠ l0 := fun z => by rw [z, upd_ne n1.symm, upd_same] at hp1; cases hp1
    refine ⟨p1, rfl, ⟨_, SqL.of upd_same⟩, ?_⟩
    have mem2 : ∀ k, k ∈ so ↔ k ∈ ns := fun k => (mem k).trans decide_eq_true_iff
    generalize hH3 : upd (upd (upd H l0 (.lst [])) q1 (SetO _ q1 (fun j => decide (j ∈ ns)) c)) p1 (.lst (so.map V.int)) = H3
    have at1 : H3 p1 = some (.lst (so.map V.int)) := by rw [← hH3]; exact upd_same
    have at0 : H3 l0 = some (.lst []) := by rw [← hH3, upd_ne n3.symm, upd_ne n1.symm]; exact upd_same
    have keep3 : Same H H3 := by
      rw [← hH3]
      exact (s0.trans (same_new hq1)).trans (same_new hp1)
    clear hH3 hp1 hq1 n1 n2
    have go : Walk (Itl K p1) (so.map V.int).length (fun H => SqL K H p1 (so.map V.int)) (YAt (so.map V.int)) := walk_list
    rw [List.length_map] at go
    refine go_it go (fun i σ' H' => ∃ w st, st = (so.take i).foldl pkS (u, []) ∧ σ' = [some (.int st.1), some (.ref p), some (.ref l0), w] ∧ (∀ b o, b ≠ l0 → H3 b = some o → H' b = some o) ∧ H' l0 = some (.lst (st.2.map V.int)))
      ⟨_, _, rfl, rfl, fun _ _ _ e => e, at0⟩ ?_ ?_ ?_
    · rintro i σ' H' hi ⟨w, st, _, _, k, _⟩
      exact SqL.of (k _ _ n3 at1)
    · rintro i x σ' H' H4 hi ⟨w, st, est, rfl, k, hl4⟩ ⟨rfl, hx⟩
      obtain ⟨n, hn, rfl⟩ : ∃ n, so[i]? = some n ∧ x = .int n := by
        rw [List.getElem?_map] at hx
        cases z : so[i]? with
        | none => rw [z] at hx; cases hx
        | some n => rw [z] at hx; exact ⟨n, rfl, (Option.some.inj hx).symm⟩
      have est2 : pkS st n = (so.take (i + 1)).foldl pkS (u, []) := by
        rw [List.take_add_one, hn, Option.toList_some, List.foldl_append, ← est]
        rfl
      walk_at "rd"
      refine ite2 (fun e => ?_) (fun e => ?_)
      · have e1 : n = st.1 + 1 := V.int.inj (of_decide_eq_true e)
        walk_at "rd"
        refine ⟨some (.int n), pkS st n, est2, ?_, k, ?_⟩
        · unfold pkS
          rw [if_pos e1]
          rfl
        · unfold pkS
          rw [if_pos e1]
          exact hl4
      · have e1 : ¬ n = st.1 + 1 := fun z => e (decide_eq_true (congrArg V.int z))
        walk_at "rd"
        refine ite2 (fun g => ?_) (fun g => ?_)
        · have g1 : st.1 < n := of_decide_eq_true g
          have lim : st.2.length ≤ 1000 := by
            have h1 := pk_len (so.take i) (u, [])
            have h2 : (so.take i).length ≤ so.length := by rw [List.length_take]; exact Nat.min_le_right _ _
            rw [← est] at h1
            dsimp only [List.length_nil] at h1
            omega
          walk_at "rd"
          refine r_bmL rfl hl4 ?_
          walk_at "rd"
          refine r_append hl4 (by rw [List.length_map]; exact small1000 lim) ?_
          refine ⟨some (.int n), pkS st n, est2, ?_, fun b o hb e => by rw [upd_ne hb]; exact k b o hb e, ?_⟩
          · unfold pkS
            rw [if_neg e1, if_pos g1]
            rfl
          · unfold pkS
            rw [if_neg e1, if_pos g1, upd_same]
            simp
        · have g1 : ¬ st.1 < n := fun z => g (decide_eq_true z)
          walk_at "rd"
          refine ⟨some (.int n), pkS st n, est2, ?_, k, ?_⟩
          · unfold pkS
            rw [if_neg e1, if_neg g1]
            rfl
          · unfold pkS
            rw [if_neg e1, if_neg g1]
            exact hl4
    · rintro σ' H4 ⟨w, st, est, rfl, k, hl4⟩
      rw [List.take_length] at est
      walk_at "rd"
      refine r_tupL hl4 fun l1 hl1 => ?_
      walk_at "rd"
      refine ⟨szL rfl, fun q2 hq2 => ?_⟩
      have n4 : l1 ≠ q2 := fun z => by rw [← z, upd_same] at hq2; cases hq2
      have keep4 : Same H H4 := fun b o e => k b o (ne_of_none e hl0) (keep3 b o e)
      have keep5 := keep4.trans (same_new (o := .tup (st.2.map V.int)) hl1)
      have keep6 := keep5.trans (same_new (o := .tup [.int st.1, .ref l1]) hq2)
      refine q so q2 l1 _ asc mem2 keep6 (keep5.free hq2) ?_ (keep4.free hl1) ?_
      · rw [upd_same, est]
        rfl
      · rw [upd_ne n4, upd_same, est]
        rfl
end
end RH
namespace RH
open PySem L2
local macro_rules | `(tactic| walk_at "rdh") => `(tactic| first | assumption | exact upd_same | (rw [upd_ne (by assumption)]; assumption) | (rw [upd_ne (Ne.symm (by assumption))]; assumption))
local macro_rules | `(tactic| walk_at "rdc") => `(tactic| first | assumption | decide | omega | exact cmul_r (by decide) (by decide) | exact cmul_l (by decide) (by decide) | exact cpow (by decide) (by decide) (by decide) | exact cdiv (by decide) (by decide) | exact wide_div (b := 200) (by assumption) (by omega) (by decide) (by decide) | exact cmul_r (by omega) (by omega) | exact cmul_l (by omega) (by omega))
local macro_rules | `(tactic| walk_at "rd1") => `(tactic| first
  | with_reducible apply r_op | ((with_reducible apply r_var); exact rfl) | with_reducible apply r_c | with_reducible apply r_cons | with_reducible apply r_nil | with_reducible apply r_I0
  | with_reducible apply r_seq | with_reducible apply r_asg | with_reducible apply r_name | with_reducible apply r_cb | with_reducible apply r_test | with_reducible apply r_k
  | with_reducible apply r_ifS | with_reducible apply r_call | with_reducible apply r_ret | ((with_reducible apply r_I); walk_at "rdc") | ((with_reducible apply r_eq); exact rfl) | ((with_reducible apply r_ne); exact rfl)
  | ((with_reducible apply r_ixL); walk_at "rdh"; exact rfl) | ((with_reducible apply r_ixT); walk_at "rdh"; exact rfl) | with_reducible apply r_sub | ((with_reducible apply r_setL); walk_at "rdh"; exact rfl)
  | with_reducible apply r_un | with_reducible apply r_U | with_reducible apply r_B | with_reducible apply r_and | with_reducible apply r_or | with_reducible apply r_not
  | with_reducible apply r_andV | with_reducible apply r_orV | with_reducible apply r_notV | with_reducible apply r_if | with_reducible apply r_tup | with_reducible apply r_lst
  | ((with_reducible apply r_ixgT); walk_at "rdh"; exact rfl) | ((with_reducible apply r_ixgL); walk_at "rdh"; exact rfl)
  | with_reducible apply r_next | with_reducible apply r_drop | with_reducible apply r_int1 | with_reducible apply r_chain | with_reducible apply r_ord | with_reducible apply r_abs | with_reducible apply r_min2 | with_reducible apply r_max2
  | with_reducible apply r_leStr | with_reducible apply r_inSign | with_reducible apply r_notInSign | ((with_reducible apply r_isTy); assumption)
  | ((with_reducible apply r_lenL); walk_at "rdh") | ((with_reducible apply r_lenT); walk_at "rdh")
  | refine Rep.typ (by assumption) (fun _ _ => ?_) | refine r_isi (by assumption) (by assumption) (by decide) ?_)
local macro_rules | `(tactic| walk_at "rd") => `(tactic| repeat walk_at "rd1")

section
variable {P : Program} {w : World} {K : PySem.W.Frag} {mg : Str → Option Value} {base : Heap} {CC : Addr → Prop}
theorem ok__joined {f : Addr} {fd : FuncData} (F : Fun K "_joined" "_joined" s__joined f fd) (T : Txt K mg) (c__packed : C8.Cal P w K mg base 1 "_packed" (spPacked K) []) : FnOk P w K mg base CX0 2 f fd ["row", "other"] (spJoined K) := by
  refine F.ok sc__joined (fun vs H Q E h => ?_) (fun cdv A outer s H vs Q E hr h => ?_)
  · obtain ⟨x, y, u, v, l, m, rfl, _⟩ := h
    rfl
  · obtain ⟨x, y, u, v, l, m, rfl, ⟨a, b, rfl, ha, hb⟩, ⟨c, d, rfl, hc, hd⟩, lim, q⟩ := h
    refine ⟨_, (pss_cons (ps_asg (pv 0) (pg_tup rfl (pgs_cons (pg_name (i := 2) sc__joined.nd rfl (Or.inl rfl)) (pgs_cons (pg_name (i := 3) sc__joined.nd rfl (Or.inl rfl)) pgs_nil))))
 (pss_cons (ps_asg (pv 1) (pg_tup rfl (pgs_cons (pg_name (i := 4) sc__joined.nd rfl (Or.inl rfl)) (pgs_cons (pg_name (i := 5) sc__joined.nd rfl (Or.inl rfl)) pgs_nil))))
 (pss_one (ps_ret (C8.pe_c c__packed hr (by decide) rfl (pa_cons (pe_callB (call_max2G rfl) rfl T.z_max (by decide +kernel) (pa_cons (pv 2) (pa_cons (pv 4) pa_nil))) (pa_cons (pe_op op_catA (pv 3) (pv 5)) pa_nil))))))), ?_⟩
    refine r_seq (r_asg (r_var rfl (r_gtup ha rfl (r_gcons (r_name (r_gcons (r_name (r_gnil ?_))))))))
    refine r_seq (r_asg (r_var rfl (r_gtup hc rfl (r_gcons (r_name (r_gcons (r_name (r_gnil ?_))))))))
    walk_at "rd"
    have mx : (if v > u then v else u) = max u v := by split <;> omega
    refine ⟨b, d, _, _, rfl, rfl, hb, hd, ?_, ?_, ?_, ?_⟩
    · rw [List.length_map, List.length_map]
      exact sz1000 lim
    · intro z
      have l0 : l = [] := List.map_eq_nil_iff.mp z
      subst l0
      walk_at "rd"
      rw [mx]
      exact ⟨_, d, m, rfl, .inr hd, by simpa using lim, fun so q1 w1 H1 asc mem s1 n1 a1 n2 a2 => q so q1 w1 H1 asc (fun k => by rw [mem k, List.nil_append]) s1 n1 a1 n2 a2⟩
    · intro _ z
      have m0 : m = [] := List.map_eq_nil_iff.mp z
      subst m0
      walk_at "rd"
      rw [mx]
      exact ⟨_, b, l, rfl, .inr hb, by simpa using lim, fun so q1 w1 H1 asc mem s1 n1 a1 n2 a2 => q so q1 w1 H1 asc (fun k => by rw [mem k, List.append_nil]) s1 n1 a1 n2 a2⟩
    · intro _ _ p hp
      walk_at "rd"
      rw [mx]
      have s0 : Same H (upd H p (.tup (l.map V.int ++ m.map V.int))) := same_new hp
      refine ⟨_, p, l ++ m, rfl, .inr ?_, by rw [List.length_append]; exact lim, fun so q1 w1 H1 asc mem s1 n1 a1 n2 a2 => q so q1 w1 H1 asc mem (s0.trans s1) (s0.free n1) a1 (s0.free n2) a2⟩
      rw [List.map_append]
      exact SqT.of upd_same
end
end RH
namespace RH
open PySem L2
local macro_rules | `(tactic| walk_at "rdh") => `(tactic| first | assumption | exact upd_same | (rw [upd_ne (by assumption)]; assumption) | (rw [upd_ne (Ne.symm (by assumption))]; assumption))
local macro_rules | `(tactic| walk_at "rdc") => `(tactic| first | assumption | decide | omega | exact cmul_r (by decide) (by decide) | exact cmul_l (by decide) (by decide) | exact cpow (by decide) (by decide) (by decide) | exact cdiv (by decide) (by decide) | exact wide_div (b := 200) (by assumption) (by omega) (by decide) (by decide) | exact cmul_r (by omega) (by omega) | exact cmul_l (by omega) (by omega))
local macro_rules | `(tactic| walk_at "rd1") => `(tactic| first
  | with_reducible apply r_op | ((with_reducible apply r_var); exact rfl) | with_reducible apply r_c | with_reducible apply r_cons | with_reducible apply r_nil | with_reducible apply r_I0
  | with_reducible apply r_seq | with_reducible apply r_asg | with_reducible apply r_name | with_reducible apply r_cb | with_reducible apply r_test | with_reducible apply r_k
  | with_reducible apply r_ifS | with_reducible apply r_call | with_reducible apply r_ret | ((with_reducible apply r_I); walk_at "rdc") | ((with_reducible apply r_eq); exact rfl) | ((with_reducible apply r_ne); exact rfl)
  | ((with_reducible apply r_ixL); walk_at "rdh"; exact rfl) | ((with_reducible apply r_ixT); walk_at "rdh"; exact rfl) | with_reducible apply r_sub | ((with_reducible apply r_setL); walk_at "rdh"; exact rfl)
  | with_reducible apply r_un | with_reducible apply r_U | with_reducible apply r_B | with_reducible apply r_and | with_reducible apply r_or | with_reducible apply r_not
  | with_reducible apply r_andV | with_reducible apply r_orV | with_reducible apply r_notV | with_reducible apply r_if | with_reducible apply r_tup | with_reducible apply r_lst
  | ((with_reducible apply r_ixgT); walk_at "rdh"; exact rfl) | ((with_reducible apply r_ixgL); walk_at "rdh"; exact rfl)
  | with_reducible apply r_next | with_reducible apply r_drop | with_reducible apply r_int1 | with_reducible apply r_chain | with_reducible apply r_ord | with_reducible apply r_abs | with_reducible apply r_min2 | with_reducible apply r_max2
  | with_reducible apply r_leStr | with_reducible apply r_inSign | with_reducible apply r_notInSign | ((with_reducible apply r_isTy); assumption)
  | ((with_reducible apply r_lenL); walk_at "rdh") | ((with_reducible apply r_lenT); walk_at "rdh")
  | refine Rep.typ (by assumption) (fun _ _ => ?_) | refine r_isi (by assumption) (by assumption) (by decide) ?_)
local macro_rules | `(tactic| walk_at "rd") => `(tactic| repeat walk_at "rd1")

section
variable {P : Program} {w : World} {K : PySem.W.Frag} {mg : Str → Option Value} {base : Heap} {CC : Addr → Prop}
theorem ok__rows_of {f : Addr} {fd : FuncData} (F : Fun K "_rows_of" "_rows_of" s__rows_of f fd) (T : Txt K mg) (c__packed : C8.Cal P w K mg base 1 "_packed" (spPacked K) []) : FnOk P w K mg base CX0 2 f fd ["dots"] (spRowsC K) := by
  refine F.ok sc__rows_of (fun vs H Q E h => ?_) (fun cdv A outer s H vs Q E hr h => ?_)
  · obtain ⟨p, xs, ps, rfl, _⟩ := h
    rfl
  · obtain ⟨p, xs, ps, rfl, hp, hP, hl, pos, q⟩ := h
    have htw : ∀ x ∈ xs, ∃ t, x = V.ref t ∧ H t = some (.tup [.int (kAt H x).1, .int (kAt H x).2]) := fun x hx => by
      obtain ⟨i, hi, e⟩ := List.mem_iff_getElem.mp hx
      obtain ⟨t, e1, e2⟩ := hP.at_ (i := i) (by rw [← hP.1]; exact hi)
      rw [List.getElem?_eq_getElem hi, e] at e1
      obtain rfl := Option.some.inj e1
      exact ⟨t, rfl, by rw [kAt_at e2]; exact e2⟩
    have psE : xs.map (kAt H) = ps := by
      refine List.ext_getElem? fun i => ?_
      rw [List.getElem?_map]
      rcases Nat.lt_or_ge i xs.length with z | z
      · obtain ⟨t, e1, e2⟩ := hP.at_ (i := i) (by rw [← hP.1]; exact z)
        rw [e1, List.getElem?_eq_getElem (by rw [← hP.1]; exact z), Option.map_some, kAt_at e2]
      · rw [List.getElem?_eq_none z, List.getElem?_eq_none (by rw [← hP.1]; exact z)]
        rfl
    refine ⟨_, (pss_cons (ps_set (i := 1) sc__rows_of.nd rfl (Or.inr rfl) (pe_callB cr_sortedPO rfl T.z_sorted (by decide +kernel) (pa_cons (pv 0) pa_nil)))
 (pss_cons (ps_setLc (i := 2) (own := [("at", 4)]) rfl sc__rows_of.nd rfl rfl (sw_true rfl rfl rfl (by decide +kernel)) (pi_range1 rfl T.z_range (pa_cons (pe_callB call_lenG rfl T.z_len (by decide +kernel) (pa_cons (pv 1) pa_nil)) pa_nil)) (blkOk_by (sc := defScope s__rows_of) (N := ["dots", "ordered", "starts", "ends", "at", "start", "end", "client", "number"]) (by decide +kernel)) (fun _ _ _ _ _ => (pg_name (i := 4) sc__rows_of.nd rfl (Or.inl rfl))) (fun _ _ _ _ _ => (pts_one (PW.pt (pw_or (pt_cmpR op_eq (pv 4) pe_int (nomark _)) (pw_or1 (pt_cmpR op_ne (pe_ix (r := rIx K) ix_seq (pe_ix (r := rIxL K) ix_list (pv 1) (pe_op op_sub (pv 4) pe_int) (fun _ _ => rfl)) pe_int (fun _ _ => rfl)) (pe_ix (r := rIx K) ix_seq (pe_ix (r := rIxL K) ix_list (pv 1) (pv 4) (fun _ _ => rfl)) pe_int (fun _ _ => rfl)) (nomark _))))))) (fun _ _ _ _ _ => (pv 4)))
 (pss_cons (ps_set (i := 3) sc__rows_of.nd rfl (Or.inl rfl) (pe_op op_cat (pe_slice sl_list (pv 2) (po_some pe_int) po_none) (pe_lst (pa_cons (pe_callB call_lenG rfl T.z_len (by decide +kernel) (pa_cons (pv 1) pa_nil)) pa_nil))))
 (pss_one (ps_ret (pe_dc (own := [("start", 5), ("end", 6)]) rfl sc__rows_of.nd (pi_zip rfl T.z_zip (pa_cons (pv 2) (pa_cons (pv 3) pa_nil))) (blkOk_by (sc := defScope s__rows_of) (N := ["dots", "ordered", "starts", "ends", "at", "start", "end", "client", "number"]) (by decide +kernel)) (fun _ _ _ _ _ => by exact (pg_tupB (K := K) (n := 2) rfl rfl (pgs_cons (pg_name (i := 5) sc__rows_of.nd rfl (Or.inl rfl)) (pgs_cons (pg_name (i := 6) sc__rows_of.nd rfl (Or.inl rfl)) pgs_nil)))) (fun _ _ _ _ _ => pts_nil) (fun _ _ _ _ _ => by exact (pe_ix (r := rIx K) ix_seq (pe_ix (r := rIxL K) ix_list (pv 1) (pv 5) (fun _ _ => rfl)) pe_int (fun _ _ => rfl))) (fun _ _ _ _ _ => by exact (C8.pe_c c__packed hr (by decide) rfl (pa_cons pe_int (pa_cons (pe_lc (own := [("client", 7), ("number", 8)]) rfl sc__rows_of.nd (pi_listB (K := K) rfl (pe_slice (r := rSlL K) sl_list (pv 1) (po_some (pv 5)) (po_some (pv 6)))) (blkOk_nf (N := ["dots", "ordered", "starts", "ends", "at", "start", "end", "client", "number"]) (by decide +kernel)) (fun _ _ _ _ _ => by exact (pg_tupB (K := K) (n := 2) rfl rfl (pgs_cons (pg_name (i := 7) sc__rows_of.nd rfl (Or.inl rfl)) (pgs_cons (pg_name (i := 8) sc__rows_of.nd rfl (Or.inl rfl)) pgs_nil)))) (fun _ _ _ _ _ => pts_nil) (fun _ _ _ _ _ => by exact (pv 8))) pa_nil)))))))))), ?_⟩
    walk_at "rd"
    refine ⟨p, xs, kAt H, rfl, SqL.of hp, htw, fun ys o srt0 stb ho => ?_⟩
    have hn : ys.length = xs.length := stb.perm.length_eq
    have htw2 : ∀ y ∈ ys, ∃ t, y = V.ref t ∧ H t = some (.tup [.int (kAt H y).1, .int (kAt H y).2]) := fun y hy => htw y (stb.perm.mem_iff.mp hy)
    obtain ⟨os, hos⟩ : ∃ os, os = ys.map (kAt H) := ⟨_, rfl⟩
    have lenO : os.length = ys.length := by rw [hos, List.length_map]
    have permO : os.Perm ps := by rw [hos, ← psE]; exact stb.perm.map _
    have srt : DSrt os := by
      intro i j hj h
      have hj2 : j < ys.length := by rw [← lenO]; exact hj
      have z := List.pairwise_iff_getElem.mp srt0 i j (by omega) hj2 h
      have z2 : ¬ SrtO.lexB (kAt H ys[j]) (kAt H ys[i]) = true := by rw [show SrtO.lexB (kAt H ys[j]) (kAt H ys[i]) = false from z]; decide
      rw [SrtO.lexB_iff] at z2
      subst hos
      rw [List.getElem_map, List.getElem_map]
      omega
    have posO : ∀ d ∈ os, 1 ≤ d.2 := fun d hd => pos d (permO.mem_iff.mp hd)
    have osAt : ∀ i : Nat, i < ys.length → os[i]? = some (kAt H (ys.getD i .non)) := fun i hi => by
      rw [hos, List.getElem?_map, List.getD_eq_getElem?_getD, List.getElem?_eq_getElem hi]
      rfl
    clear stb htw srt0
    have s1 : Same H (upd H o (.lst ys)) := same_new ho
    generalize hH1 : upd H o (.lst ys) = H1 at s1
    have ho1 : H1 o = some (.lst ys) := by rw [← hH1]; exact upd_same
    clear hH1
    have get : ∀ (i : Nat) (hi : i < os.length), ∃ t, ys[i]? = some (V.ref t) ∧ H1 t = some (.tup [.int os[i].1, .int os[i].2]) := fun i hi => by
      have hi2 : i < ys.length := by rw [← lenO]; exact hi
      obtain ⟨t, e, h⟩ := htw2 ys[i] (List.getElem_mem hi2)
      have ei := osAt i hi2
      rw [List.getElem?_eq_getElem hi, List.getD_eq_getElem?_getD, List.getElem?_eq_getElem hi2] at ei
      have ei2 : os[i] = kAt H ys[i] := Option.some.inj ei
      exact ⟨t, by rw [List.getElem?_eq_getElem hi2, e], by rw [ei2]; exact s1 _ _ h⟩
    clear htw2 osAt hos
    walk_at "rd"
    refine r_lc ?_
    refine r_rng1 ?_
    walk_at "rd"
    refine ⟨_, rfl, by omega, by omega, fun D1 hD1 => ?_⟩
    rw [show ((ys.length : Nat) : Int).toNat = ys.length from Int.toNat_natCast _]
    have hmap : ∀ {i : Nat} {z : Bool × V}, ((List.range ys.length).map fun i => (btD os i, V.int (i : Int)))[i]? = some z → i < ys.length ∧ z = (btD os i, V.int (i : Int)) := fun {i z} h => by
      rw [List.getElem?_map, Option.map_eq_some_iff] at h
      obtain ⟨a, h1, h2⟩ := h
      obtain ⟨h3, h4⟩ := List.getElem?_eq_some_iff.mp h1
      rw [List.getElem_range] at h4
      subst h4
      exact ⟨by simpa using h3, h2.symm⟩
    have key : ∀ i (hi : i < os.length), ∃ t, atI ys (i : Int) = some (V.ref t) ∧ H1 t = some (.tup [.int os[i].1, .int os[i].2]) := fun i hi => by
      obtain ⟨t, e, h⟩ := get i hi
      exact ⟨t, atI_nat e, h⟩
    have btE : ∀ (i : Nat) (h0 : 0 < i) (hi : i < os.length), btD os i = !decide (V.int os[i - 1].1 = V.int os[i].1) := fun i h0 hi => by
      unfold btD
      rw [decide_eq_false (by omega), Bool.false_or, List.getD_eq_getElem?_getD, List.getD_eq_getElem?_getD, List.getElem?_eq_getElem (by omega), List.getElem?_eq_getElem hi]
      show (!decide (os[i - 1].1 = os[i].1)) = _
      congr 1
      by_cases z : os[i - 1].1 = os[i].1
      · rw [decide_eq_true z, decide_eq_true (congrArg V.int z)]
      · rw [decide_eq_false z, decide_eq_false fun y => z (V.int.inj y)]
    refine lc_filter (walk_range (lo := 0) (n := ys.length)) (Y' := fun i x => x = .int (0 + i)) (fun i H x H' y => y) ((List.range ys.length).map fun i => (btD os i, V.int (i : Int))) (by simp) (by omega) hD1 (fun _ _ => trivial) (fun _ => rfl) ?_ ?_ ?_
    · rintro i x b y H2 rfl hy s2 Q2 q2
      obtain ⟨hi, ez⟩ := hmap hy
      obtain ⟨rfl, rfl⟩ := Prod.mk.inj ez
      rw [Int.zero_add]
      walk_at "rd"
      refine ite2 (fun e => ?_) (fun e => ?_)
      · have i0 : i = 0 := by
          have := V.int.inj (of_decide_eq_true e)
          omega
        subst i0
        exact q2 H2 (Same.refl H2)
      · have i0 : 0 < i := by
          rcases Nat.eq_zero_or_pos i with z | z
          · exact absurd (by rw [z]; exact decide_eq_true rfl) e
          · exact z
        rw [btE i i0 (by omega)] at q2
        obtain ⟨t1, g1, h1⟩ := key (i - 1) (by omega)
        obtain ⟨t2, g2, h2⟩ := key i (by omega)
        have ho2 := s2 _ _ ho1
        have h12 := s2 _ _ h1
        have h22 := s2 _ _ h2
        rw [show ((i - 1 : Nat) : Int) = (i : Int) - 1 by omega] at g1
        walk_at "rd"
        refine r_ixL ho2 g1 ?_
        walk_at "rd"
        refine r_ixL ho2 g2 ?_
        walk_at "rd"
        exact q2 H2 (Same.refl H2)
    · rintro i x y H2 rfl hy s2 Q2 q2
      obtain ⟨hi, ez⟩ := hmap hy
      obtain ⟨_, rfl⟩ := Prod.mk.inj ez
      rw [Int.zero_add]
      walk_at "rd"
      exact q2 H2 (Same.refl H2)
    · intro H2 s2 hL2
      rw [starts_eq, ← lenO] at hL2
      have lenS : ((stl os.length (btD os)).map fun i : Nat => V.int (i : Int)).length = gM os := by rw [List.length_map]; rfl
      have gMle : gM os ≤ os.length := by
        unfold gM stl
        exact Nat.le_trans (List.length_filter_le ..) (by simp)
      have atS : ∀ j, j < gM os → ((stl os.length (btD os)).map fun i : Nat => V.int (i : Int))[j]? = some (V.int (gS os j : Nat)) := fun j hj => by
        rw [List.getElem?_map, gS_at hj]
        rfl
      generalize ((stl os.length (btD os)).map fun i : Nat => V.int (i : Int)) = S at hL2 lenS atS
      clear hmap btE
      have ho2 := s2 _ _ ho1
      walk_at "rd"
      refine r_slice ?_
      walk_at "rd"
      refine r_part (r_c ⟨1, rfl, r_nopart (r_slL hL2 fun D2 hD2 => ?_)⟩)
      rw [cutV_tail]
      obtain ⟨S1, eS1⟩ : ∃ S1, S1 = S.drop 1 := ⟨_, rfl⟩
      have lenS1 : S1.length = gM os - 1 := by rw [eS1, List.length_drop, lenS]
      rw [← eS1]
      have s3 : Same H2 (upd H2 D2 (.lst S1)) := same_new hD2
      have at3 : (upd H2 D2 (.lst S1)) D2 = some (.lst S1) := upd_same
      generalize upd H2 D2 (.lst S1) = H3 at s3 at3
      have ho3 := s3 _ _ ho2
      walk_at "rd"
      rw [← lenO]
      refine ⟨szL rfl, fun D3 hD3 => ?_⟩
      have n23 : D2 ≠ D3 := fun z => by rw [z, hD3] at at3; cases at3
      refine r_cat (by rw [upd_ne n23]; exact at3) upd_same (sz1000 (by rw [List.length_singleton]; omega)) fun D4 hD4 => ?_
      have s5 : Same H1 (upd (upd H3 D3 (.lst [V.int (os.length : Int)])) D4 (.lst (S1 ++ [V.int (os.length : Int)]))) := ((s2.trans s3).trans (same_new hD3)).trans (same_new hD4)
      have at5 : (upd (upd H3 D3 (.lst [V.int (os.length : Int)])) D4 (.lst (S1 ++ [V.int (os.length : Int)]))) D4 = some (.lst (S1 ++ [V.int (os.length : Int)])) := upd_same
      have at5S : (upd (upd H3 D3 (.lst [V.int (os.length : Int)])) D4 (.lst (S1 ++ [V.int (os.length : Int)]))) D1 = some (.lst S) := (same_new hD4) _ _ ((same_new hD3) _ _ (s3 _ _ hL2))
      generalize hE : S1 ++ [V.int (os.length : Int)] = E1 at at5 at5S s5
      have lenE : gM os = min S.length E1.length := by
        rw [← hE, List.length_append, List.length_singleton, lenS1, lenS]
        omega
      have atE : ∀ j, j < gM os → E1[j]? = some (V.int (gS os (j + 1) : Nat)) := fun j hj => by
        rw [← hE]
        rcases Nat.lt_or_ge j S1.length with z | z
        · rw [List.getElem?_append_left z, eS1, List.getElem?_drop, Nat.add_comm, atS (j + 1) (by omega)]
        · rw [List.getElem?_append_right z, show j - S1.length = 0 by omega, show j + 1 = gM os by omega, gS_end]
          rfl
      generalize upd (upd H3 D3 (.lst [V.int (os.length : Int)])) D4 (.lst E1) = H5 at s5 at5 at5S
      clear hE s3 at3 ho3 hD3 hD4 n23 hD2 hL2 s2 ho2
      walk_at "rd"
      refine r_dc ?_
      refine r_zip ?_
      walk_at "rd"
      refine ⟨D1, D4, S, E1, rfl, SqL.of at5S, SqL.of at5, fun D hD => ?_⟩
      have nD1 : D1 ≠ D := ne_of_none at5S hD
      have nD4 : D4 ≠ D := ne_of_none at5 hD
      refine dc_it (walk_zip lenE) (fun i H' => Same H5 H' ∧ ∃ ro : List RowA, H' D = some (.dK (kvR ro)) ∧ GRow os ro i ∧ ∀ r ∈ ro, RowH (wo H' D) r.2.1 r.2.2.1 r.2.2.2) ⟨same_new hD, [], upd_same, GRow.zero, fun _ m => nomatch m⟩ (fun i H' _ h => ⟨SqL.of (h.1 _ _ at5S), SqL.of (h.1 _ _ at5)⟩) ?_ ?_
      · rintro i x H6 H7 hi ⟨s6, ro, hkv, gr, rat⟩ ⟨t, xa, xb, rfl, ht, rfl, ea, eb⟩
        obtain rfl := Option.some.inj ((atS i hi).symm.trans ea)
        obtain rfl := Option.some.inj ((atE i hi).symm.trans eb)
        obtain ⟨lt1, lt2⟩ := g_lt hi
        refine r_gtup (SqT.of upd_same) rfl (r_gcons (r_name (r_gcons (r_name (r_gnil ?_)))))
        refine ⟨rfl, ?_⟩
        have ntD : t ≠ D := (ne_of_none hkv ht).symm
        have s7 : Same H5 (upd H6 t (.tup [V.int (gS os i : Nat), V.int (gS os (i + 1) : Nat)])) := s6.trans (same_new ht)
        have s67 : Same H6 (upd H6 t (.tup [V.int (gS os i : Nat), V.int (gS os (i + 1) : Nat)])) := same_new ht
        have kv7 : (upd H6 t (.tup [V.int (gS os i : Nat), V.int (gS os (i + 1) : Nat)])) D = some (.dK (kvR ro)) := same_new ht _ _ hkv
        generalize upd H6 t (.tup [V.int (gS os i : Nat), V.int (gS os (i + 1) : Nat)]) = H7 at s7 kv7 s67
        obtain ⟨t1, g1, h1⟩ := key (gS os i) (by omega)
        have ho7 := s7 _ _ (s5 _ _ ho1)
        have h17 := s7 _ _ (s5 _ _ h1)
        refine r_yes ?_
        rw [if_pos rfl]
        walk_at "rd"
        refine r_ixL ho7 g1 ?_
        walk_at "rd"
        refine r_lc (r_list (r_slice ?_))
        walk_at "rd"
        refine r_part ?_
        walk_at "rd"
        refine ⟨_, rfl, r_part ?_⟩
        walk_at "rd"
        refine ⟨_, rfl, r_slL ho7 fun D5 hD5 => ?_⟩
        rw [cutV_mid (Nat.le_of_lt lt1) (by omega)]
        have atC : ∀ j, j < gS os (i + 1) - gS os i → ∃ (hj : gS os i + j < os.length) (t2 : Addr), ((ys.drop (gS os i)).take (gS os (i + 1) - gS os i))[j]? = some (V.ref t2) ∧ H1 t2 = some (.tup [.int (os[gS os i + j]'hj).1, .int (os[gS os i + j]'hj).2]) := fun j hj => by
          have hj2 : gS os i + j < os.length := by omega
          obtain ⟨t2, e, h⟩ := get (gS os i + j) hj2
          exact ⟨hj2, t2, by rw [List.getElem?_take_of_lt hj, List.getElem?_drop]; exact e, h⟩
        have lenC : ((ys.drop (gS os i)).take (gS os (i + 1) - gS os i)).length = gS os (i + 1) - gS os i := by
          rw [List.length_take, List.length_drop]
          omega
        generalize (ys.drop (gS os i)).take (gS os (i + 1) - gS os i) = C at atC lenC
        have s8 : Same H7 (upd H7 D5 (.lst C)) := same_new hD5
        have at8 : (upd H7 D5 (.lst C)) D5 = some (.lst C) := upd_same
        generalize upd H7 D5 (.lst C) = H8 at s8 at8
        refine ⟨D5, rfl, ⟨_, SqL.of at8⟩, fun D6 hD6 => ?_⟩
        have n56 : D5 ≠ D6 := ne_of_none at8 hD6
        refine lc_it walk_list (fun j H' => Same H8 H' ∧ H' D6 = some (.lst (((gN os i).take j).map V.int))) ⟨same_new hD6, upd_same⟩ (fun j H' _ h => SqL.of (h.1 _ _ at8)) ?_ ?_
        · rintro j x H9 H10 hj ⟨s9, hns⟩ ⟨rfl, ex⟩
          rw [lenC] at hj
          obtain ⟨hj2, t2, e2, h2⟩ := atC j hj
          rw [ex] at e2
          obtain rfl := Option.some.inj e2
          have h29 := s9 _ _ (s8 _ _ (s7 _ _ (s5 _ _ h2)))
          refine r_gtup (SqT.of h29) rfl (r_gcons (r_name (r_gcons (r_name (r_gnil ?_)))))
          refine ⟨rfl, ?_⟩
          refine r_yes ?_
          rw [if_pos rfl]
          walk_at "rd"
          have gj : (gN os i)[j]? = some (os[gS os i + j]'hj2).2 := by
            unfold gN
            rw [List.getElem?_map, List.getElem?_take_of_lt hj, List.getElem?_drop, List.getElem?_eq_getElem hj2]
            rfl
          refine ⟨((gN os i).take j).map V.int, hns, by rw [List.length_map, List.length_take]; exact small1000 (by omega), fun b o e => ?_, ?_⟩
          · rw [upd_ne (ne_of_none e hD6)]
            exact s9 _ _ e
          · rw [upd_same, List.take_add_one, gj, List.map_append]
            rfl
        · rintro H9 ⟨s9, hns⟩
          rw [lenC, ← gN_len hi, List.take_length] at hns
          walk_at "rd"
          refine ⟨0, D6, gN os i, rfl, .inl (SqL.of hns), by rw [gN_len hi]; omega, fun so q1 l1 H10 asc mem s10 hq1 aq hl1 al => ?_⟩
          have s710 : Same H7 H10 := (s8.trans s9).trans s10
          have kv10 := s710 _ _ kv7
          have nq : q1 ≠ D := fun z => by
            rw [z, s9 _ _ (s8 _ _ kv7)] at hq1
            cases hq1
          have nl : l1 ≠ D := fun z => by
            rw [z, s9 _ _ (s8 _ _ kv7)] at hl1
            cases hl1
          have ec : os[gS os i].1 = gC os i := (gC_at hi).symm
          have nw := gr.new hi srt
          refine ⟨kvR ro, .inl (gC os i), by rw [← ec]; rfl, kv10, ?_, fun b o e => ?_, ro ++ [(gC os i, q1, (pk 0 so).1, (pk 0 so).2)], ?_, gr.snoc hi asc mem, fun r hr => ?_⟩
          · unfold kvR
            rw [List.length_map, gr.len]
            exact small1000 (by omega)
          · rw [upd_ne (ne_of_none e hD)]
            exact s710 _ _ (s7 _ _ e)
          · rw [upd_same, put_kvR nw]
          · have w1 : Same (wo H6 D) (wo H10 D) := (show Fr D H6 H10 from fun b o _ e => s710 b o (s67 b o e)).wo
            have w2 : ∀ o', Same (wo H10 D) (wo (upd H10 D o') D) := fun o' => (Fr.row (r := D)).wo
            rcases List.mem_append.mp hr with z | z
            · exact ((rat r z).mono w1).mono (w2 _)
            · obtain rfl := List.mem_singleton.mp z
              refine RowH.mono ?_ (w2 _)
              exact ⟨l1, by rw [wo_ne nq]; exact aq, by rw [wo_ne nl]; exact al⟩
      · rintro H6 ⟨s6, ro, hkv, gr, rat⟩
        obtain ⟨ok, wt, has⟩ := gr.done srt posO
        refine q D ro H6 (fun b o e => s6 _ _ (s5 _ _ (s1 _ _ e))) ?_ ⟨hkv, fun r hr => (rat r hr).mono (same_wo H6 D)⟩ ok (by rw [← permO.length_eq]; exact wt) fun c k k1 => (has c k k1).trans permO.mem_iff
        exact s1.free (s5.free hD)
end
end RH
namespace RH
open PySem L2
local macro_rules | `(tactic| walk_at "tdc") => `(tactic| first | assumption | decide | omega | exact cmul_r (by decide) (by decide) | exact cmul_l (by decide) (by decide) | exact cpow (by decide) (by decide) (by decide) | exact cdiv (by decide) (by decide) | exact wide_div (b := 200) (by assumption) (by omega) (by decide) (by decide) | exact cmul_r (by omega) (by omega) | exact cmul_l (by omega) (by omega))
local macro_rules | `(tactic| walk_at "td1") => `(tactic| first
  | with_reducible apply r_op | ((with_reducible apply r_var); exact rfl) | with_reducible apply r_c | with_reducible apply r_cons | with_reducible apply r_nil | with_reducible apply r_I0
  | with_reducible apply r_seq | with_reducible apply r_asg | with_reducible apply r_name | with_reducible apply r_cb | with_reducible apply r_test | with_reducible apply r_k
  | with_reducible apply r_ifS | with_reducible apply r_call | with_reducible apply r_ret | ((with_reducible apply r_I); walk_at "tdc") | ((with_reducible apply r_eq); exact rfl) | ((with_reducible apply r_ne); exact rfl)
  | ((with_reducible apply r_ixL); walk_at "tdh"; exact rfl) | ((with_reducible apply r_ixT); walk_at "tdh"; exact rfl) | with_reducible apply r_sub | ((with_reducible apply r_setL); walk_at "tdh"; exact rfl)
  | with_reducible apply r_un | with_reducible apply r_U | with_reducible apply r_B | with_reducible apply r_and | with_reducible apply r_or | with_reducible apply r_not
  | with_reducible apply r_andV | with_reducible apply r_orV | with_reducible apply r_notV | with_reducible apply r_if | with_reducible apply r_tup | with_reducible apply r_lst
  | ((with_reducible apply r_ixgT); walk_at "tdh"; exact rfl) | ((with_reducible apply r_ixgL); walk_at "tdh"; exact rfl)
  | with_reducible apply r_next | with_reducible apply r_drop | with_reducible apply r_int1 | with_reducible apply r_chain | with_reducible apply r_ord | with_reducible apply r_abs | with_reducible apply r_min2 | with_reducible apply r_max2
  | with_reducible apply r_leStr | with_reducible apply r_inSign | with_reducible apply r_notInSign | ((with_reducible apply r_isTy); assumption) | ((with_reducible apply r_notTy); assumption)
  | ((with_reducible apply r_lenL); walk_at "tdh") | ((with_reducible apply r_lenT); walk_at "tdh")
  | ((with_reducible apply r_fldV); exact rfl; walk_at "tdh"; assumption; assumption; exact rfl) | with_reducible apply r_bmG | with_reducible apply r_bm0G | with_reducible apply r_isN | with_reducible apply r_notN | with_reducible apply r_prop | ((with_reducible apply r_prX); walk_at "tdh") | with_reducible apply r_fld | ((apply r_fldX); walk_at "tdh"; assumption; assumption; exact rfl; walk_at "tdi") | with_reducible apply r_mtE | with_reducible apply r_cS | (refine r_gtup (SqT.of (by walk_at "tdh")) rfl ?_) | with_reducible apply r_gcons | with_reducible apply r_gnil | with_reducible apply r_sta | with_reducible apply r_staX | with_reducible apply r_mtG | ((with_reducible apply r_mtX); walk_at "tdh"; exact rfl) | with_reducible apply r_par2 | with_reducible apply r_par3 | ((with_reducible apply r_tyL); walk_at "tdh")
  | refine Rep.typ (by assumption) (fun _ _ => ?_) | refine r_isi (by assumption) (by assumption) (by decide) ?_)
local macro_rules | `(tactic| walk_at "td") => `(tactic| repeat walk_at "td1")
local macro_rules | `(tactic| walk_at "tdf") => `(tactic| (generalize hu : upd _ _ (.lst (_ ++ [_])) = H2; have f := fr_gen hu; have a := at_gen hu; clear hu))
local macro_rules | `(tactic| walk_at "tds") => `(tactic| (generalize hu : upd _ _ (.lst (List.set _ _ _)) = H2; have f := fr_gen hu; have a := at_gen hu; clear hu))
local macro_rules | `(tactic| walk_at "tdev") => `(tactic| first | exact ev_int _ | exact ev_bl _ | exact ev_non | exact ev_str _ (by decide +kernel) | assumption | (refine ev_tup (by walk_at "tdh") ?_; walk_at "tdall") | (refine Ev.mono (by assumption) ?_; walk_at "tdtk"))
local macro_rules | `(tactic| walk_at "tdall") => `(tactic| first | exact allN | (refine List.forall_mem_cons.mpr ⟨?_, ?_⟩; walk_at "tdev"; walk_at "tdall"))
local macro_rules | `(tactic| walk_at "tdn") => `(tactic| (refine ⟨szL rfl, fun p hp => ?_⟩; generalize hu : upd _ p _ = H2; have s := same_gen hu hp; have a := at_gen hu; clear hu))
local macro_rules | `(tactic| walk_at "tdt") => `(tactic| repeat (first | walk_at "td1" | walk_at "tdn" | walk_at "tdm"))
local macro_rules | `(tactic| walk_at "tdg") => `(tactic| (intro p hp; generalize hu : upd _ p _ = H2; have s := same_gen hu hp; have a := at_gen hu; clear hu))
local macro_rules | `(tactic| walk_at "tdh") => `(tactic| first | assumption | exact upd_same | (rw [upd_ne (by assumption)]; assumption) | (rw [upd_ne (Ne.symm (by assumption))]; assumption) | (apply same_step; assumption; walk_at "tdh") | (apply fr_step; assumption; walk_at "tdne"; walk_at "tdh") | (apply fr_stepK; assumption; walk_at "tdh"; walk_at "tdh"; (intro z; cases z)))
local macro_rules | `(tactic| walk_at "tdne") => `(tactic| first | assumption | exact Ne.symm (by assumption) | (apply ne_noneX; assumption; walk_at "tdh") | (apply Ne.symm; apply ne_noneX; assumption; walk_at "tdh"))
local macro_rules | `(tactic| walk_at "tdsm") => `(tactic| first | assumption | exact Same.refl _ | (apply same_chain; assumption; walk_at "tdsm") | (apply same_frX; assumption; walk_at "tdsm"; walk_at "tdno"))
local macro_rules | `(tactic| walk_at "tdno") => `(tactic| first | assumption | (apply none_backX; assumption; walk_at "tdsm"))
local macro_rules | `(tactic| walk_at "tdtk") => `(tactic| first | assumption | exact TuK.refl _ | (apply tuk_same; assumption; walk_at "tdtk") | (apply tuk_fr; assumption; walk_at "tdh"; walk_at "tdtk") | (apply tuk_frI; assumption; walk_at "tdh"; walk_at "tdtk"))
local macro_rules | `(tactic| walk_at "tdi") => `(tactic| (generalize hu : upd _ _ (.ins _ _ (putF _ _ _)) = H2; have f := fr_gen hu; have a := at_gen hu; clear hu))
local macro_rules | `(tactic| walk_at "tdrp") => `(tactic| first | exact .int _ | exact .bl _ | exact .non | exact .str _ (by assumption) | exact .str _ (okS_of (by decide +kernel)) | assumption | (apply rep_monoX; assumption; walk_at "tdsm") | (apply rep_tupA; walk_at "tdh"; walk_at "tdrpa"; first | exact leB rfl | assumption) | (apply rep_lstA; walk_at "tdh"; walk_at "tdrpa"; first | exact leB rfl | assumption) | exact .dct (by walk_at "tdh"))
local macro_rules | `(tactic| walk_at "tdrpa") => `(tactic| first | exact .nil | (apply RepAll.mono; assumption; walk_at "tdsm") | (apply RepAll.cons; walk_at "tdrp"; walk_at "tdrpa"))
local macro_rules | `(tactic| walk_at "tdm") => `(tactic| first | ((with_reducible apply r_catT); walk_at "tdh"; walk_at "tdh"; exact List.cons_ne_nil _ _; exact List.cons_ne_nil _ _; exact szL rfl; walk_at "tdg") | ((with_reducible apply r_listTU); walk_at "tdh"; walk_at "tdg") | ((with_reducible apply r_listL); walk_at "tdh"; walk_at "tdg") | ((with_reducible apply r_dnew); walk_at "tdg") | with_reducible apply r_slice | with_reducible apply r_nopart | with_reducible apply r_part | with_reducible apply r_pI | ((with_reducible apply r_slT); walk_at "tdh"; exact of_decide_eq_false rfl; walk_at "tdg") | ((with_reducible apply r_slL); walk_at "tdh"; walk_at "tdg"))
local macro_rules | `(tactic| walk_at "tdd") => `(tactic| (generalize hu : upd _ _ (.dK _) = H2; have f := fr_gen hu; have a := at_gen hu; clear hu))
local macro_rules | `(tactic| walk_at "tdk") => `(tactic| repeat (first | walk_at "td1" | walk_at "tdn" | walk_at "tdm" | ((with_reducible apply r_disp); walk_at "tdg") | with_reducible apply r_pcons | with_reducible apply r_pnil | with_reducible apply r_dputW | (apply r_dputZ; walk_at "tdh"; exact rfl; decide; decide +kernel; walk_at "tdd") | with_reducible apply r_dget))

section
variable {P : Program} {w : World} {K : PySem.W.Frag} {mg : Str → Option Value} {base : Heap} {CC : Addr → Prop}
theorem ok_Clock___init__ {f C : Addr} {fd : FuncData} (F : Fun K "__init__" "Clock.__init__" s_Clock___init__ f fd) (T : Txt K mg) (cl_Clock : Cls K C) (na_Clock__rows : NoAttr K C "_rows") (c__rows_of : C8.Cal P w K mg base 2 "_rows_of" (spRowsC K) []) : FnOk P w K mg base CX0 3 f fd ["self", "dots"] (spClkI C) := by
  refine F.ok sc_Clock___init__ (fun vs H Q E h => ?_) (fun cdv A outer s H vs Q E hr h => ?_)
  · obtain ⟨x, dx, p, xs, ps, rfl, _⟩ := h
    rfl
  · obtain ⟨x, dx, p, xs, ps, rfl, hx, hp, hP, hl, pos, q⟩ := h
    refine ⟨_, (pss_one (ps_fld (pv 0) (C8.pe_c c__rows_of hr (by decide) rfl (pa_cons (pv 1) pa_nil)) rfl)), ?_⟩
    walk_at "td"
    refine ⟨p, xs, ps, rfl, hp, hP, by omega, pos, fun d ro H1 s1 nd ra ok wt has => ?_⟩
    refine r_var rfl ?_
    refine ⟨x, C, dx, [], rfl, s1 _ _ hx, cl_Clock, na_Clock__rows, by decide, ?_⟩
    have nx : d ≠ x := (ne_of_none hx nd).symm
    refine q _ (fun b o n e => ?_) ⟨dx, d, ro, upd_same, ⟨by rw [upd_ne nx]; exact ra.1, fun r hr => ?_⟩, ok, wt, has⟩
    · rw [upd_ne n]
      exact s1 _ _ e
    · obtain ⟨b, h1, h2⟩ := ra.2 r hr
      have hx1 := s1 _ _ hx
      refine ⟨b, ?_, ?_⟩
      · rw [upd_ne (fun z => by rw [z, hx1] at h1; cases h1)]
        exact h1
      · rw [upd_ne (fun z => by rw [z, hx1] at h2; cases h2)]
        exact h2
theorem ok_Clock___contains__ {f C : Addr} {fd : FuncData} (F : Fun K "__contains__" "Clock.__contains__" s_Clock___contains__ f fd) (T : Txt K mg) (cl_Clock : Cls K C) (na_Clock__rows : NoAttr K C "_rows") (nd_NO_DOTS : NoDots K mg) : FnOk P w K mg base CX0 1 f fd ["self", "dot"] (spClkIn C) := by
  refine F.ok sc_Clock___contains__ (fun vs H Q E h => ?_) (fun cdv A outer s H vs Q E hr h => ?_)
  · obtain ⟨x, t, c, k, N, S, rfl, _⟩ := h
    rfl
  · obtain ⟨x, t, c, k, N, S, rfl, cx, ht, k1, hN, q⟩ := h
    obtain ⟨nD, nE, mN, hD, hE⟩ := nd_NO_DOTS.ex
    refine ⟨_, (pss_cons (ps_asg (pv 1) (pg_tup rfl (pgs_cons (pg_name (i := 2) sc_Clock___contains__.nd rfl (Or.inl rfl)) (pgs_cons (pg_name (i := 3) sc_Clock___contains__.nd rfl (Or.inl rfl)) pgs_nil))))
 (pss_cons (ps_asg (pe_dget2 (hu1 hr) (pe_fld (pv 0) rfl) (pv 2) (C8.pe_gc (v := .ref nD) rfl ⟨_, mN, rfl⟩) ⟨rfl, rfl, rfl, rfl⟩) (pg_tup rfl (pgs_cons (pg_name (i := 4) sc_Clock___contains__.nd rfl (Or.inl rfl)) (pgs_cons (pg_name (i := 5) sc_Clock___contains__.nd rfl (Or.inl rfl)) pgs_nil))))
 (pss_one (ps_ret (pe_or (pe_cmpR op_le (pv 3) (pv 4) (nomark _)) (pe_one (pe_cmpR op_in_seq (pv 3) (pv 5) rfl))))))), ?_⟩
    obtain ⟨dx, d, ro, hx, ⟨hd, ra⟩, ok, wt, has⟩ := cx
    walk_at "td"
    refine r_dget2 ?_
    walk_at "td"
    refine ⟨d, rfl, isD_rd (.inl hd), ?_⟩
    walk_at "td"
    obtain ⟨o, v, u, l, dg, ov, ⟨a, b, rfl, ha, hb⟩, nf, inp, len, _⟩ := row_get (.inl hd) ra ok (hD H) (hE H) c
    refine ⟨o, dg, ?_⟩
    rw [ov]
    refine r_gtup ha rfl (r_gcons (r_name (r_gcons (r_name (r_gnil ?_)))))
    walk_at "td"
    have fin : ∀ bb, (bb = true ↔ InP u l k) → Q (.bl bb) H := fun bb e => q bb H (Same.refl H) (by rw [e, inp k k1, has c k k1])
    refine ite2 (fun e => ?_) (fun e => ?_)
    · exact fin _ ⟨fun _ => .inl (of_decide_eq_true e), fun _ => rfl⟩
    · walk_at "td"
      refine ⟨b, l.map V.int, rfl, .inr hb, rfl, by simp [List.all_map, flatV], ?_⟩
      refine fin _ ⟨fun z => .inr ?_, fun z => z.elim (fun y => absurd (decide_eq_true y) e) fun y => ?_⟩
      · obtain ⟨y, hy, e2⟩ := List.any_eq_true.mp (show (l.map V.int).any (fun y => eqV y (.int k)) = true from z)
        obtain ⟨n, hn, rfl⟩ := List.mem_map.mp hy
        have : n = k := by simpa [eqV] using e2
        exact this ▸ hn
      · show (l.map V.int).any (fun y => eqV y (.int k)) = true
        exact List.any_eq_true.mpr ⟨.int k, List.mem_map.mpr ⟨k, y, rfl⟩, by simp [eqV]⟩
theorem ok_Clock___or__ {f C : Addr} {fd : FuncData} (F : Fun K "__or__" "Clock.__or__" s_Clock___or__ f fd) (T : Txt K mg) (cl_Clock : Cls K C) (na_Clock__rows : NoAttr K C "_rows") (nd_NO_DOTS : NoDots K mg) (c__joined : C8.Cal P w K mg base 2 "_joined" (spJoined K) []) (m_Clock : C8.Mak P w K mg base 3 "Clock" C (spClkI C) []) :
    FnOk P w K mg base CX0 5 f fd ["self", "other"] (spClkOr C) := by
  refine F.ok sc_Clock___or__ (fun vs H Q E h => ?_) (fun cdv A outer s H vs Q E hr h => ?_)
  · obtain ⟨x, y, N, M, S, U, rfl, _⟩ := h
    rfl
  · obtain ⟨x, y, N, M, S, U, rfl, cx, cy, hNM, q⟩ := h
    obtain ⟨nD, nE, mN, hD, hE⟩ := nd_NO_DOTS.ex
    obtain ⟨dx, d, ro, hx, ⟨hd, ra⟩, ok, wt, has⟩ := cx
    obtain ⟨dy, e, rp, hy, ⟨he, rb⟩, okp, wtp, hasp⟩ := cy
    refine ⟨_, (pss_cons (ps_set (i := 2) sc_Clock___or__.nd rfl (Or.inl rfl) (pe_callTy call_dictD rfl T.z_dict (by decide +kernel) (pa_cons (pe_fld (pv 0) rfl) pa_nil)))
 (pss_cons (ps_lock (ps_for PassesOwn.never rfl (pi_keys (pe_fld (pv 1) rfl)) (pg_name (i := 3) sc_Clock___or__.nd rfl (Or.inl rfl))
 (pss_one (ps_dput (hu1 hr) (pv 2) (pv 3) (C8.pe_c c__joined hr (by decide) rfl (pa_cons (pe_dget2 (hu1 hr) (pv 2) (pv 3) (C8.pe_gc (v := .ref nD) rfl ⟨_, mN, rfl⟩) ⟨rfl, rfl, rfl, rfl⟩) (pa_cons (pe_dget (hu1 hr) (pe_fld (pv 1) rfl) (pv 3) (fun _ _ => rfl)) pa_nil))) rfl))))
 (pss_cons (ps_set (i := 4) sc_Clock___or__.nd rfl (Or.inl rfl) (C8.pe_mk m_Clock hr (by decide) rfl (pa_cons (pe_lst pa_nil) pa_nil)))
 (pss_cons (ps_fld (pv 4) (pv 2) rfl)
 (pss_one (ps_ret (pv 4))))))), ?_⟩
    walk_at "td"
    refine ⟨d, kvR ro, rfl, .inl hd, fun r0 hr0 => ?_⟩
    generalize hu : upd H r0 _ = H1
    have s1 := same_gen hu hr0
    have ar0 : H1 r0 = some (.dK (kvR ro)) := at_gen hu
    clear hu
    walk_at "td"
    have he1 := s1 _ _ he
    have nr : r0 ≠ e := (ne_of_none he hr0).symm
    have ra1 : ∀ r ∈ ro, RowH H1 r.2.1 r.2.2.1 r.2.2.2 := fun r m => (ra r m).mono s1
    have rb1 : ∀ r ∈ rp, RowH H1 r.2.1 r.2.2.1 r.2.2.2 := fun r m => (rb r m).mono s1
    have hy1 := s1 _ _ hy
    refine ⟨e, _, he1, by trivial, fun od => ?_⟩
    generalize hu : upd H1 e _ = H2
    have f2 := fr_gen hu
    have ae2 : H2 e = some (.frz od (.dK (kvR rp))) := at_gen hu
    clear hu
    have nxr : ∀ {b : Addr} {o : HO}, H b = some o → b ≠ r0 := fun z => ne_of_none z hr0
    have ny : y ≠ e := fun z => by rw [z, he] at hy; cases hy
    refine r_for (r_keys ?_)
    walk_at "td"
    refine ⟨e, od, rfl, .inl ⟨kvR rp, ae2, ?_⟩⟩
    have inW : ∀ {b : Addr} {o : HO}, H b = some o → b ≠ e → W2 H2 r0 e b = some o := fun z n => w2_of (f2 _ _ n (s1 _ _ z)) (nxr z) n
    have rowE : ∀ {r : RowA}, RowH H r.2.1 r.2.2.1 r.2.2.2 → RowH (W2 H2 r0 e) r.2.1 r.2.2.1 r.2.2.2 := fun ⟨b, h1, h2⟩ => ⟨b, inW h1 (fun z => by rw [z, he] at h1; cases h1), inW h2 (fun z => by rw [z, he] at h2; cases h2)⟩
    have lenp : (kvR rp).length = rp.length := by unfold kvR; rw [List.length_map]
    refine go_it (walk_keys (d := e) (o := od) (kvs := kvR rp)) (fun i σ' H' => ∃ u3 roi, σ' = [some (.ref x), some (.ref y), some (.ref r0), u3, none] ∧ Same (W2 H2 r0 e) (W2 H' r0 e) ∧ H' e = some (.frz od (.dK (kvR rp))) ∧ H' r0 = some (.dK (kvR roi)) ∧
      (∀ r ∈ roi, RowH (W2 H' r0 e) r.2.1 r.2.2.1 r.2.2.2) ∧ RowsOk roi ∧ wtR roi ≤ wtR ro + wtR (rp.take i) ∧ ∀ c k, 1 ≤ k → (HasR roi c k ↔ HasR ro c k ∨ HasR (rp.take i) c k))
      ⟨none, ro, rfl, Same.refl _, ae2, f2 _ _ nr ar0, fun r m => rowE (ra r m), ok, Nat.le_add_right _ _, fun c k k1 => ⟨.inl, fun z => z.elim id fun ⟨_, m, _⟩ => nomatch m⟩⟩ (fun i σ' H' _ z => ?_) ?_ ?_
    · obtain ⟨_, _, _, _, z, _⟩ := z
      exact z
    · rintro i v σ' _ H3 hi ⟨u3, roi, rfl, sW, ae3, ar3, rai, oki, wti, hasi⟩ ⟨rfl, kk, vv, hkv, rfl⟩
      rw [lenp] at hi
      obtain ⟨r, hr0r⟩ : ∃ r, rp[i]? = some r := ⟨_, List.getElem?_eq_getElem hi⟩
      have mr := List.mem_of_getElem? hr0r
      have e1 : (kk, vv) = ((Sum.inl r.1 : Key), V.ref r.2.1) := by
        unfold kvR at hkv
        rw [List.getElem?_map, hr0r] at hkv
        exact (Option.some.inj hkv).symm
      obtain ⟨rfl, rfl⟩ := Prod.mk.inj e1
      have hy3 : H3 y = some (.ins C dy [("_rows", .ref e)]) := w2_in _ _ (sW _ _ (inW hy ny))
      obtain ⟨o, v, u, l, dg, ov, rv, nf, inp, len, wset⟩ := row_get (K := K) (.inl ar3) (fun r m => (rai r m).mono w2_in) oki (hD _) (hE _) r.1
      have wt1 := wtR_take_succ hr0r
      have wt2 := wtR_take rp (i + 1)
      walk_at "td"
      refine r_dputW ?_
      walk_at "td"
      refine r_dget2 ?_
      walk_at "td"
      refine ⟨r0, rfl, isD_rd (.inl ar3), ?_⟩
      walk_at "td"
      refine ⟨o, dg, ?_⟩
      rw [ov]
      walk_at "td"
      refine r_dget ?_
      walk_at "td"
      refine ⟨e, .ref r.2.1, rfl, .inl ⟨kvR rp, .inl r.1, .inr ⟨od, ae3⟩, rfl, (val_kvR okp.nd mr).symm⟩, ?_⟩
      walk_at "td"
      have rm : RowAt K H3 (.ref r.2.1) r.2.2.1 r.2.2.2 := ((rowE (rb r mr)).mono sW).mono w2_in |>.at_
      refine ⟨v, .ref r.2.1, u, r.2.2.1, l, r.2.2.2, rfl, rv, rm, by omega, fun so qq ww H4 asc mem s4 nq aq nw aw => ?_⟩
      obtain ⟨nf2, len2, inp2⟩ := join_row nf (okp.nf r mr) asc mem
      generalize (pk (max u r.2.2.1) so).1 = u' at aq nf2 inp2
      generalize (pk (max u r.2.2.1) so).2 = l' at aw nf2 len2 inp2
      have ar4 := s4 _ _ ar3
      have ae4 := s4 _ _ ae3
      walk_at "td"
      refine ⟨r0, _, rfl, .inl ⟨kvR roi, .inl r.1, ar4, rfl, ?_, rfl⟩, ?_⟩
      · unfold kvR
        rw [List.length_map]
        have := wtR_len roi
        exact small1000 (by omega)
      rw [put_setR (u := u') (l := l')]
      generalize hu : upd H4 r0 _ = H5
      have f5 := fr_gen hu
      have ar5 : H5 r0 = some (.dK (kvR (setR roi r.1 qq u' l'))) := at_gen hu
      clear hu
      have w45 : Same (W2 H4 r0 e) (W2 H5 r0 e) := w2_mono fun b o n _ z => f5 b o n z
      have w34 : Same (W2 H3 r0 e) (W2 H4 r0 e) := w2_mono fun b o _ _ z => s4 b o z
      have nq0 : ∀ {b : Addr}, H3 b = none → b ≠ r0 ∧ b ≠ e := fun z => ⟨fun y => (by rw [y, ar3] at z; cases z), fun y => (by rw [y, ae3] at z; cases z)⟩
      refine ⟨_, setR roi r.1 qq u' l', rfl, (sW.trans w34).trans w45, f5 _ _ nr.symm ae4, ar5, fun r' m' => ?_, oki.set nf2 ?_, ?_, fun c k k1 => ?_⟩
      · rcases mem_setR.mp m' with rfl | ⟨m', _⟩
        · exact RowH.mono ⟨ww, w2_of aq (nq0 nq).1 (nq0 nq).2, w2_of aw (nq0 nw).1 (nq0 nw).2⟩ w45
        · exact (rai r' m').mono (w34.trans w45)
      · obtain ⟨k, k1, hk⟩ := row_has (okp.nf r mr) (okp.some r mr)
        exact some_of_in ⟨k, k1, (inp2 k).mpr (.inr hk)⟩
      · have := wset qq u' l'
        omega
      · rw [hasR_set, hasR_take_succ hr0r, inp2, hasi c k k1]
        by_cases z : c = r.1
        · subst z
          have := inp k k1
          rw [hasi r.1 k k1] at this
          constructor
          · rintro (⟨_, z | z⟩ | ⟨z, _⟩)
            · exact (this.mp z).elim .inl fun y => .inr (.inl y)
            · exact .inr (.inr ⟨rfl, z⟩)
            · exact absurd rfl z
          · rintro (z | z | ⟨_, z⟩)
            · exact .inl ⟨rfl, .inl (this.mpr (.inl z))⟩
            · exact .inl ⟨rfl, .inl (this.mpr (.inr z))⟩
            · exact .inl ⟨rfl, .inr z⟩
        · constructor
          · rintro (⟨y, _⟩ | ⟨_, y⟩)
            · exact absurd y z
            · exact y.elim .inl fun y => .inr (.inl y)
          · rintro (y | y | ⟨y, _⟩)
            · exact .inr ⟨z, .inl y⟩
            · exact .inr ⟨z, .inr y⟩
            · exact absurd y.symm z
    · rintro σ' H3 ⟨u3, roi, rfl, sW, ae3, ar3, rai, oki, wti, hasi⟩
      rw [lenp, List.take_length] at wti hasi
      refine ⟨ae3, ?_⟩
      generalize hu : upd H3 e _ = H4
      have f4 := fr_gen hu
      have ae4 : H4 e = some (.dK (kvR rp)) := at_gen hu
      clear hu
      have w34 : Same (W2 H3 r0 e) (W2 H4 r0 e) := w2_mono fun b o _ n z => f4 b o n z
      have s4 : Same H H4 := fun b o z => by
        by_cases n : b = e
        · rw [n] at z ⊢
          rw [he] at z
          rw [← z]
          exact ae4
        · exact w2_in _ _ (w34 _ _ (sW _ _ (inW z n)))
      have ar4 := f4 _ _ nr ar3
      walk_at "td"
      refine r_make ?_
      walk_at "td"
      refine ⟨szL rfl, fun pl hpl => ?_⟩
      generalize hu : upd H4 pl _ = H5
      have s5 := same_gen hu hpl
      have apl : H5 pl = some (.lst []) := at_gen hu
      clear hu
      walk_at "td"
      refine clk_new (ps := []) apl PtsAt.nil (by decide) (fun _ m => nomatch m) fun z H6 s6 nz cz => ?_
      obtain ⟨dz, d2, rz, hz, _, _, _, _⟩ := cz
      refine r_name (r_seq (r_fld ?_))
      refine r_var rfl ?_
      refine r_var rfl ?_
      refine ⟨z, C, dz, _, rfl, hz, cl_Clock, na_Clock__rows, Nat.lt_of_succ_le (Nat.le_of_ble_eq_true rfl), ?_⟩
      rw [putF_rows]
      generalize hu : upd H6 z _ = H7
      have f7 := fr_gen hu
      have az7 := at_gen hu
      clear hu
      have s46 := s5.trans s6
      have nz4 : H4 z = none := s5.free nz
      have nrz : r0 ≠ z := ne_of_none ar4 nz4
      have s7 : Same H H7 := fun b o y => f7 b o (fun w => by rw [w] at y; rw [s4 _ _ y] at nz4; cases nz4) (s46 _ _ (s4 _ _ y))
      have s47 : ∀ {b : Addr} {o : HO}, H4 b = some o → H7 b = some o := fun y => f7 _ _ (ne_of_none y nz4) (s46 _ _ y)
      walk_at "td"
      refine q z H7 s7 (s4.free nz4) ⟨dz, r0, roi, az7, ⟨s47 ar4, fun r m => ?_⟩, oki, by omega, fun c k k1 => ?_⟩
      · obtain ⟨b, h1, h2⟩ := (rai r m).mono (w34.trans w2_in)
        exact ⟨b, s47 h1, s47 h2⟩
      · rw [hasi c k k1, has c k k1, hasp c k k1]
        exact Iff.rfl
end
end RH
namespace RH
open PySem L2
local macro_rules | `(tactic| walk_at "tdc") => `(tactic| first | assumption | decide | omega | exact cmul_r (by decide) (by decide) | exact cmul_l (by decide) (by decide) | exact cpow (by decide) (by decide) (by decide) | exact cdiv (by decide) (by decide) | exact wide_div (b := 200) (by assumption) (by omega) (by decide) (by decide) | exact cmul_r (by omega) (by omega) | exact cmul_l (by omega) (by omega))
local macro_rules | `(tactic| walk_at "td1") => `(tactic| first
  | with_reducible apply r_op | ((with_reducible apply r_var); exact rfl) | with_reducible apply r_c | with_reducible apply r_cons | with_reducible apply r_nil | with_reducible apply r_I0
  | with_reducible apply r_seq | with_reducible apply r_asg | with_reducible apply r_name | with_reducible apply r_cb | with_reducible apply r_test | with_reducible apply r_k
  | with_reducible apply r_ifS | with_reducible apply r_call | with_reducible apply r_ret | ((with_reducible apply r_I); walk_at "tdc") | ((with_reducible apply r_eq); exact rfl) | ((with_reducible apply r_ne); exact rfl)
  | ((with_reducible apply r_ixL); walk_at "tdh"; exact rfl) | ((with_reducible apply r_ixT); walk_at "tdh"; exact rfl) | with_reducible apply r_sub | ((with_reducible apply r_setL); walk_at "tdh"; exact rfl)
  | with_reducible apply r_un | with_reducible apply r_U | with_reducible apply r_B | with_reducible apply r_and | with_reducible apply r_or | with_reducible apply r_not
  | with_reducible apply r_andV | with_reducible apply r_orV | with_reducible apply r_notV | with_reducible apply r_if | with_reducible apply r_tup | with_reducible apply r_lst
  | ((with_reducible apply r_ixgT); walk_at "tdh"; exact rfl) | ((with_reducible apply r_ixgL); walk_at "tdh"; exact rfl)
  | with_reducible apply r_next | with_reducible apply r_drop | with_reducible apply r_int1 | with_reducible apply r_chain | with_reducible apply r_ord | with_reducible apply r_abs | with_reducible apply r_min2 | with_reducible apply r_max2
  | with_reducible apply r_leStr | with_reducible apply r_inSign | with_reducible apply r_notInSign | ((with_reducible apply r_isTy); assumption) | ((with_reducible apply r_notTy); assumption)
  | ((with_reducible apply r_lenL); walk_at "tdh") | ((with_reducible apply r_lenT); walk_at "tdh")
  | ((with_reducible apply r_fldV); exact rfl; walk_at "tdh"; assumption; assumption; exact rfl) | with_reducible apply r_bmG | with_reducible apply r_bm0G | with_reducible apply r_isN | with_reducible apply r_notN | with_reducible apply r_prop | ((with_reducible apply r_prX); walk_at "tdh") | with_reducible apply r_fld | ((apply r_fldX); walk_at "tdh"; assumption; assumption; exact rfl; walk_at "tdi") | with_reducible apply r_mtE | with_reducible apply r_cS | (refine r_gtup (SqT.of (by walk_at "tdh")) rfl ?_) | with_reducible apply r_gcons | with_reducible apply r_gnil | with_reducible apply r_sta | with_reducible apply r_staX | with_reducible apply r_mtG | ((with_reducible apply r_mtX); walk_at "tdh"; exact rfl) | with_reducible apply r_par2 | with_reducible apply r_par3 | ((with_reducible apply r_tyL); walk_at "tdh")
  | refine Rep.typ (by assumption) (fun _ _ => ?_) | refine r_isi (by assumption) (by assumption) (by decide) ?_)
local macro_rules | `(tactic| walk_at "td") => `(tactic| repeat walk_at "td1")
local macro_rules | `(tactic| walk_at "tdf") => `(tactic| (generalize hu : upd _ _ (.lst (_ ++ [_])) = H2; have f := fr_gen hu; have a := at_gen hu; clear hu))
local macro_rules | `(tactic| walk_at "tds") => `(tactic| (generalize hu : upd _ _ (.lst (List.set _ _ _)) = H2; have f := fr_gen hu; have a := at_gen hu; clear hu))
local macro_rules | `(tactic| walk_at "tdev") => `(tactic| first | exact ev_int _ | exact ev_bl _ | exact ev_non | exact ev_str _ (by decide +kernel) | assumption | (refine ev_tup (by walk_at "tdh") ?_; walk_at "tdall") | (refine Ev.mono (by assumption) ?_; walk_at "tdtk"))
local macro_rules | `(tactic| walk_at "tdall") => `(tactic| first | exact allN | (refine List.forall_mem_cons.mpr ⟨?_, ?_⟩; walk_at "tdev"; walk_at "tdall"))
local macro_rules | `(tactic| walk_at "tdn") => `(tactic| (refine ⟨szL rfl, fun p hp => ?_⟩; generalize hu : upd _ p _ = H2; have s := same_gen hu hp; have a := at_gen hu; clear hu))
local macro_rules | `(tactic| walk_at "tdt") => `(tactic| repeat (first | walk_at "td1" | walk_at "tdn" | walk_at "tdm"))
local macro_rules | `(tactic| walk_at "tdg") => `(tactic| (intro p hp; generalize hu : upd _ p _ = H2; have s := same_gen hu hp; have a := at_gen hu; clear hu))
local macro_rules | `(tactic| walk_at "tdh") => `(tactic| first | assumption | exact upd_same | (rw [upd_ne (by assumption)]; assumption) | (rw [upd_ne (Ne.symm (by assumption))]; assumption) | (apply same_step; assumption; walk_at "tdh") | (apply fr_step; assumption; walk_at "tdne"; walk_at "tdh") | (apply fr_stepK; assumption; walk_at "tdh"; walk_at "tdh"; (intro z; cases z)))
local macro_rules | `(tactic| walk_at "tdne") => `(tactic| first | assumption | exact Ne.symm (by assumption) | (apply ne_noneX; assumption; walk_at "tdh") | (apply Ne.symm; apply ne_noneX; assumption; walk_at "tdh"))
local macro_rules | `(tactic| walk_at "tdsm") => `(tactic| first | assumption | exact Same.refl _ | (apply same_chain; assumption; walk_at "tdsm") | (apply same_frX; assumption; walk_at "tdsm"; walk_at "tdno"))
local macro_rules | `(tactic| walk_at "tdno") => `(tactic| first | assumption | (apply none_backX; assumption; walk_at "tdsm"))
local macro_rules | `(tactic| walk_at "tdtk") => `(tactic| first | assumption | exact TuK.refl _ | (apply tuk_same; assumption; walk_at "tdtk") | (apply tuk_fr; assumption; walk_at "tdh"; walk_at "tdtk") | (apply tuk_frI; assumption; walk_at "tdh"; walk_at "tdtk"))
local macro_rules | `(tactic| walk_at "tdi") => `(tactic| (generalize hu : upd _ _ (.ins _ _ (putF _ _ _)) = H2; have f := fr_gen hu; have a := at_gen hu; clear hu))
local macro_rules | `(tactic| walk_at "tdrp") => `(tactic| first | exact .int _ | exact .bl _ | exact .non | exact .str _ (by assumption) | exact .str _ (okS_of (by decide +kernel)) | assumption | (apply rep_monoX; assumption; walk_at "tdsm") | (apply rep_tupA; walk_at "tdh"; walk_at "tdrpa"; first | exact leB rfl | assumption) | (apply rep_lstA; walk_at "tdh"; walk_at "tdrpa"; first | exact leB rfl | assumption) | exact .dct (by walk_at "tdh"))
local macro_rules | `(tactic| walk_at "tdrpa") => `(tactic| first | exact .nil | (apply RepAll.mono; assumption; walk_at "tdsm") | (apply RepAll.cons; walk_at "tdrp"; walk_at "tdrpa"))
local macro_rules | `(tactic| walk_at "tdm") => `(tactic| first | ((with_reducible apply r_catT); walk_at "tdh"; walk_at "tdh"; exact List.cons_ne_nil _ _; exact List.cons_ne_nil _ _; exact szL rfl; walk_at "tdg") | ((with_reducible apply r_listTU); walk_at "tdh"; walk_at "tdg") | ((with_reducible apply r_listL); walk_at "tdh"; walk_at "tdg") | ((with_reducible apply r_dnew); walk_at "tdg") | with_reducible apply r_slice | with_reducible apply r_nopart | with_reducible apply r_part | with_reducible apply r_pI | ((with_reducible apply r_slT); walk_at "tdh"; exact of_decide_eq_false rfl; walk_at "tdg") | ((with_reducible apply r_slL); walk_at "tdh"; walk_at "tdg"))
local macro_rules | `(tactic| walk_at "tdd") => `(tactic| (generalize hu : upd _ _ (.dK _) = H2; have f := fr_gen hu; have a := at_gen hu; clear hu))
local macro_rules | `(tactic| walk_at "tdk") => `(tactic| repeat (first | walk_at "td1" | walk_at "tdn" | walk_at "tdm" | ((with_reducible apply r_disp); walk_at "tdg") | with_reducible apply r_pcons | with_reducible apply r_pnil | with_reducible apply r_dputW | (apply r_dputZ; walk_at "tdh"; exact rfl; decide; decide +kernel; walk_at "tdd") | with_reducible apply r_dget))

section
variable {P : Program} {w : World} {K : PySem.W.Frag} {mg : Str → Option Value} {base : Heap} {CC : Addr → Prop}
theorem ok_Clock_value {f C : Addr} {fd : FuncData} (F : Fun K "value" "Clock.value" s_Clock_value f fd) (T : Txt K mg) (cl_Clock : Cls K C) (na_Clock__rows : NoAttr K C "_rows") : FnOk P w K mg base CX0 1 f fd ["self"] (spClkVal C) := by
  refine F.ok sc_Clock_value (fun vs H Q E h => ?_) (fun cdv A outer s H vs Q E hr h => ?_)
  · obtain ⟨x, N, S, rfl, _⟩ := h
    rfl
  · obtain ⟨x, N, S, rfl, ⟨dx, d, ro, hx, ⟨hd, ra⟩, ok, wt, has⟩, hN, q⟩ := h
    refine ⟨_, (pss_one (ps_ret (pe_callTy call_tupleG rfl T.z_tuple (by decide +kernel) (pa_cons (pe_lc (own := [("client", 1), ("upto", 2), ("later", 3)]) rfl sc_Clock_value.nd (pi_list (pe_callB (cr_sortItK rfl) rfl T.z_sorted (by decide +kernel) (pa_cons (pe_bm0 PySem.F.plainAttrs_dict PySem.F.slot_dict_items PySem.F.type_dict_items mt_itemsK (pe_fld (pv 0) rfl)) pa_nil))) (blkOk_by (sc := defScope s_Clock_value) (N := ["self", "client", "upto", "later"]) (by decide +kernel)) (fun _ _ _ _ _ => by exact (pg_tupB (K := K) (n := 2) rfl rfl (pgs_cons (pg_name (i := 1) sc_Clock_value.nd rfl (Or.inl rfl)) (pgs_cons (pg_tupB (K := K) (n := 2) rfl rfl (pgs_cons (pg_name (i := 2) sc_Clock_value.nd rfl (Or.inl rfl)) (pgs_cons (pg_name (i := 3) sc_Clock_value.nd rfl (Or.inl rfl)) pgs_nil))) pgs_nil)))) (fun _ _ _ _ _ => pts_nil) (fun _ _ _ _ _ => by exact (pe_tup (pa_cons (pv 1) (pa_cons (pv 2) (pa_cons (pv 3) pa_nil)))))) pa_nil)))), ?_⟩
    walk_at "td"
    refine r_lc (r_list ?_)
    walk_at "td"
    refine ⟨.inr (.inr (.inl ⟨rfl, .inl ⟨_, hd⟩⟩)), d, kvR ro, rfl, rfl, hd, fun ip hip => ?_⟩
    generalize hu : upd H ip _ = H1
    have s1 := same_gen hu hip
    have aip := at_gen hu
    clear hu
    walk_at "td"
    have lenro := wtR_len ro
    refine ⟨ip, d, ro.map fun r => (r.1, r.2.1), rfl, aip, ?_, ?_, by rw [List.length_map]; omega, fun H2 l ps s2 perm asc al at_ => ?_⟩
    · rw [List.map_map]
      exact s1 _ _ hd
    · rw [List.map_map]
      exact ok.nd
    obtain ⟨zs, pz, ez⟩ := lift_perm perm
    refine ⟨l, rfl, ⟨_, SqL.of al⟩, fun D hD => ?_⟩
    have lenz : zs.length = ps.length := by
      have := congrArg List.length ez
      rw [List.length_map, List.length_map] at this
      exact this
    have wtz : wtV (zs.map rwOf) = wtR ro := (wtV_rw zs).trans (wtR_perm pz)
    have lenz2 := wtV_len (zs.map rwOf)
    rw [List.length_map] at lenz2
    have ascz : (zs.map (·.1)).Pairwise (· < ·) := by
      have e : zs.map (·.1) = ps.map (·.2.1) := by
        have := congrArg (List.map Prod.fst) ez
        rw [List.map_map, List.map_map] at this
        exact this
      rw [e]
      exact asc
    have can := can_of pz ascz ok has
    refine lc_P walk_list (Y' := fun i x => (ps.map fun z => V.ref z.1)[i]? = some x) (fun i H x H' y => y) (fun i H v => ∃ r, (zs.map rwOf)[i]? = some r ∧ RvAt H v r) (fun i H H' v h s => by
      obtain ⟨r, a, b⟩ := h
      exact ⟨r, a, b.mono s⟩) (by rw [List.length_map]; omega) hD (fun H s => SqL.of (s _ _ al)) ?_ ?_
    · intro i v H3 ys hi hx s3 aD Q3 q3
      rw [List.length_map] at hi
      obtain ⟨z, hz⟩ : ∃ z, ps[i]? = some z := ⟨_, List.getElem?_eq_getElem hi⟩
      obtain ⟨r, hr0⟩ : ∃ r, zs[i]? = some r := ⟨_, List.getElem?_eq_getElem (by omega)⟩
      rw [List.getElem?_map, hz] at hx
      obtain rfl := Option.some.inj hx
      have ezr : (r.1, r.2.1) = z.2 := by
        have := congrArg (fun l => l[i]?) ez
        rw [List.getElem?_map, List.getElem?_map, hr0, hz] at this
        exact Option.some.inj this
      have hz3 := s3 _ _ (at_ z (List.mem_of_getElem? hz))
      rw [← ezr] at hz3
      have rr := (((ra r (pz.mem_iff.mp (List.mem_of_getElem? hr0))).mono s1).mono s2).mono s3
      obtain ⟨b, h1, h2⟩ := rr
      refine r_gtup (SqT.of hz3) rfl (r_gcons (r_name (r_gcons (r_gtup (SqT.of h1) rfl (r_gcons (r_name (r_gcons (r_name (r_gnil (r_gnil ?_))))))))))
      refine ⟨rfl, ?_⟩
      walk_at "td"
      refine ⟨szL rfl, fun p hp => ?_⟩
      have np : p ≠ D := fun y => by rw [y, aD] at hp; cases hp
      have nb : b ≠ D := fun y => by rw [y, aD] at h2; cases h2
      refine q3 _ _ (same_new hp) ⟨rwOf r, by rw [List.getElem?_map, hr0]; rfl, p, b, rfl, by rw [wo_ne np]; exact upd_same, by rw [wo_ne nb]; exact same_new hp _ _ h2⟩
    · intro H3 xs s3 aD lx px
      walk_at "td"
      refine r_tupL aD fun p hp => ?_
      have s4 := same_new (o := .tup xs) hp
      rw [List.length_map] at lx
      refine q p _ _ (((s1.trans s2).trans s3).trans s4) can (by omega) ⟨p, xs, rfl, upd_same, by rw [List.length_map]; omega, fun i y r a b => ?_⟩
      obtain ⟨r', e, g⟩ := px i y a
      rw [b] at e
      obtain rfl := Option.some.inj e
      exact g.mono s4
end
end RH
-- tail: CL=Clock CK=Keep
namespace RH
open PySem L2
local macro_rules | `(tactic| walk_at "tdc") => `(tactic| first | assumption | decide | omega | exact cmul_r (by decide) (by decide) | exact cmul_l (by decide) (by decide) | exact cpow (by decide) (by decide) (by decide) | exact cdiv (by decide) (by decide) | exact wide_div (b := 200) (by assumption) (by omega) (by decide) (by decide) | exact cmul_r (by omega) (by omega) | exact cmul_l (by omega) (by omega))
local macro_rules | `(tactic| walk_at "td1") => `(tactic| first
  | with_reducible apply r_op | ((with_reducible apply r_var); exact rfl) | with_reducible apply r_c | with_reducible apply r_cons | with_reducible apply r_nil | with_reducible apply r_I0
  | with_reducible apply r_seq | with_reducible apply r_asg | with_reducible apply r_name | with_reducible apply r_cb | with_reducible apply r_test | with_reducible apply r_k
  | with_reducible apply r_ifS | with_reducible apply r_call | with_reducible apply r_ret | ((with_reducible apply r_I); walk_at "tdc") | ((with_reducible apply r_eq); exact rfl) | ((with_reducible apply r_ne); exact rfl)
  | ((with_reducible apply r_ixL); walk_at "tdh"; exact rfl) | ((with_reducible apply r_ixT); walk_at "tdh"; exact rfl) | with_reducible apply r_sub | ((with_reducible apply r_setL); walk_at "tdh"; exact rfl)
  | with_reducible apply r_un | with_reducible apply r_U | with_reducible apply r_B | with_reducible apply r_and | with_reducible apply r_or | with_reducible apply r_not
  | with_reducible apply r_andV | with_reducible apply r_orV | with_reducible apply r_notV | with_reducible apply r_if | with_reducible apply r_tup | with_reducible apply r_lst
  | ((with_reducible apply r_ixgT); walk_at "tdh"; exact rfl) | ((with_reducible apply r_ixgL); walk_at "tdh"; exact rfl)
  | with_reducible apply r_next | with_reducible apply r_drop | with_reducible apply r_int1 | with_reducible apply r_chain | with_reducible apply r_ord | with_reducible apply r_abs | with_reducible apply r_min2 | with_reducible apply r_max2
  | with_reducible apply r_leStr | with_reducible apply r_inSign | with_reducible apply r_notInSign | ((with_reducible apply r_isTy); assumption) | ((with_reducible apply r_notTy); assumption)
  | ((with_reducible apply r_lenL); walk_at "tdh") | ((with_reducible apply r_lenT); walk_at "tdh")
  | ((with_reducible apply r_fldV); exact rfl; walk_at "tdh"; assumption; assumption; exact rfl) | with_reducible apply r_bmG | with_reducible apply r_bm0G | with_reducible apply r_isN | with_reducible apply r_notN | with_reducible apply r_prop | ((with_reducible apply r_prX); walk_at "tdh") | with_reducible apply r_fld | ((apply r_fldX); walk_at "tdh"; assumption; assumption; exact rfl; walk_at "tdi") | with_reducible apply r_mtE | with_reducible apply r_cS | (refine r_gtup (SqT.of (by walk_at "tdh")) rfl ?_) | with_reducible apply r_gcons | with_reducible apply r_gnil | with_reducible apply r_sta | with_reducible apply r_staX | with_reducible apply r_mtG | ((with_reducible apply r_mtX); walk_at "tdh"; exact rfl) | with_reducible apply r_par2 | with_reducible apply r_par3 | ((with_reducible apply r_tyL); walk_at "tdh")
  | refine Rep.typ (by assumption) (fun _ _ => ?_) | refine r_isi (by assumption) (by assumption) (by decide) ?_)
local macro_rules | `(tactic| walk_at "td") => `(tactic| repeat walk_at "td1")
local macro_rules | `(tactic| walk_at "tdf") => `(tactic| (generalize hu : upd _ _ (.lst (_ ++ [_])) = H2; have f := fr_gen hu; have a := at_gen hu; clear hu))
local macro_rules | `(tactic| walk_at "tds") => `(tactic| (generalize hu : upd _ _ (.lst (List.set _ _ _)) = H2; have f := fr_gen hu; have a := at_gen hu; clear hu))
local macro_rules | `(tactic| walk_at "tdev") => `(tactic| first | exact ev_int _ | exact ev_bl _ | exact ev_non | exact ev_str _ (by decide +kernel) | assumption | (refine ev_tup (by walk_at "tdh") ?_; walk_at "tdall") | (refine Ev.mono (by assumption) ?_; walk_at "tdtk"))
local macro_rules | `(tactic| walk_at "tdall") => `(tactic| first | exact allN | (refine List.forall_mem_cons.mpr ⟨?_, ?_⟩; walk_at "tdev"; walk_at "tdall"))
local macro_rules | `(tactic| walk_at "tdn") => `(tactic| (refine ⟨szL rfl, fun p hp => ?_⟩; generalize hu : upd _ p _ = H2; have s := same_gen hu hp; have a := at_gen hu; clear hu))
local macro_rules | `(tactic| walk_at "tdt") => `(tactic| repeat (first | walk_at "td1" | walk_at "tdn" | walk_at "tdm"))
local macro_rules | `(tactic| walk_at "tdg") => `(tactic| (intro p hp; generalize hu : upd _ p _ = H2; have s := same_gen hu hp; have a := at_gen hu; clear hu))
local macro_rules | `(tactic| walk_at "tdh") => `(tactic| first | assumption | exact upd_same | (rw [upd_ne (by assumption)]; assumption) | (rw [upd_ne (Ne.symm (by assumption))]; assumption) | (apply same_step; assumption; walk_at "tdh") | (apply fr_step; assumption; walk_at "tdne"; walk_at "tdh") | (apply fr_stepK; assumption; walk_at "tdh"; walk_at "tdh"; (intro z; cases z)))
local macro_rules | `(tactic| walk_at "tdne") => `(tactic| first | assumption | exact Ne.symm (by assumption) | (apply ne_noneX; assumption; walk_at "tdh") | (apply Ne.symm; apply ne_noneX; assumption; walk_at "tdh"))
local macro_rules | `(tactic| walk_at "tdsm") => `(tactic| first | assumption | exact Same.refl _ | (apply same_chain; assumption; walk_at "tdsm") | (apply same_frX; assumption; walk_at "tdsm"; walk_at "tdno"))
local macro_rules | `(tactic| walk_at "tdno") => `(tactic| first | assumption | (apply none_backX; assumption; walk_at "tdsm"))
local macro_rules | `(tactic| walk_at "tdtk") => `(tactic| first | assumption | exact TuK.refl _ | (apply tuk_same; assumption; walk_at "tdtk") | (apply tuk_fr; assumption; walk_at "tdh"; walk_at "tdtk") | (apply tuk_frI; assumption; walk_at "tdh"; walk_at "tdtk"))
local macro_rules | `(tactic| walk_at "tdi") => `(tactic| (generalize hu : upd _ _ (.ins _ _ (putF _ _ _)) = H2; have f := fr_gen hu; have a := at_gen hu; clear hu))
local macro_rules | `(tactic| walk_at "tdrp") => `(tactic| first | exact .int _ | exact .bl _ | exact .non | exact .str _ (by assumption) | exact .str _ (okS_of (by decide +kernel)) | assumption | (apply rep_monoX; assumption; walk_at "tdsm") | (apply rep_tupA; walk_at "tdh"; walk_at "tdrpa"; first | exact leB rfl | assumption) | (apply rep_lstA; walk_at "tdh"; walk_at "tdrpa"; first | exact leB rfl | assumption) | exact .dct (by walk_at "tdh"))
local macro_rules | `(tactic| walk_at "tdrpa") => `(tactic| first | exact .nil | (apply RepAll.mono; assumption; walk_at "tdsm") | (apply RepAll.cons; walk_at "tdrp"; walk_at "tdrpa"))
local macro_rules | `(tactic| walk_at "tdm") => `(tactic| first | ((with_reducible apply r_catT); walk_at "tdh"; walk_at "tdh"; exact List.cons_ne_nil _ _; exact List.cons_ne_nil _ _; exact szL rfl; walk_at "tdg") | ((with_reducible apply r_listTU); walk_at "tdh"; walk_at "tdg") | ((with_reducible apply r_listL); walk_at "tdh"; walk_at "tdg") | ((with_reducible apply r_dnew); walk_at "tdg") | with_reducible apply r_slice | with_reducible apply r_nopart | with_reducible apply r_part | with_reducible apply r_pI | ((with_reducible apply r_slT); walk_at "tdh"; exact of_decide_eq_false rfl; walk_at "tdg") | ((with_reducible apply r_slL); walk_at "tdh"; walk_at "tdg"))
local macro_rules | `(tactic| walk_at "tdd") => `(tactic| (generalize hu : upd _ _ (.dK _) = H2; have f := fr_gen hu; have a := at_gen hu; clear hu))
local macro_rules | `(tactic| walk_at "tdk") => `(tactic| repeat (first | walk_at "td1" | walk_at "tdn" | walk_at "tdm" | ((with_reducible apply r_disp); walk_at "tdg") | with_reducible apply r_pcons | with_reducible apply r_pnil | with_reducible apply r_dputW | (apply r_dputZ; walk_at "tdh"; exact rfl; decide; decide +kernel; walk_at "tdd") | with_reducible apply r_dget))

section
variable {P : Program} {w : World} {K : PySem.W.Frag} {mg : Str → Option Value} {base : Heap} {CC : Addr → Prop}
theorem ok_Keep___init__ {f C CL CB : Addr} {fd : FuncData} (F : Fun K "__init__" "Keep.__init__" s_Keep___init__ f fd) (T : Txt K mg) (cl_Keep : Cls K C) (na_Keep__entries : NoAttr K C "_entries") (na_Keep__pairs : NoAttr K C "_pairs") (na_Keep__clock : NoAttr K C "_clock") (e_BadValue : Err K mg "BadValue" CB)
    (c_Clock___contains__ : C8.Met P w K mg base 1 CL "__contains__" (spClkIn CL) []) : FnOk P w K mg base (L2.CX P w) 2 f fd ["self", "pairs", "clock"] (spKeepI K CC C CL CB) := by
  refine F.okX sc_Keep___init__ (fun vs H Q E h => ?_) (fun cdv A outer s H vs Q E hr h => ?_)
  · obtain ⟨x, dx, l, c, xs, ps, N, S, rfl, _⟩ := h
    rfl
  · obtain ⟨x, dx, l, c, xs, ps, N, S, rfl, hx, hl, hp, few, one, ck, hN, q, no⟩ := h
    refine ⟨_, (pss_cons (ps_set (i := 3) sc_Keep___init__.nd rfl (Or.inr rfl) (pe_dcT (hu1 hr) (own := [("dot", 4), ("entry", 5)]) rfl sc_Keep___init__.nd (pi_list (pv 1)) (blkOk_by (sc := defScope s_Keep___init__) (N := ["self", "pairs", "clock", "entries", "dot", "entry"]) (by decide +kernel)) (fun _ _ _ _ _ => by exact (pg_tupB (K := K) (n := 2) rfl rfl (pgs_cons (pg_name (i := 4) sc_Keep___init__.nd rfl (Or.inl rfl)) (pgs_cons (pg_name (i := 5) sc_Keep___init__.nd rfl (Or.inl rfl)) pgs_nil)))) (fun _ _ _ _ _ => pts_nil) (fun _ _ _ _ _ => by exact (pv 4)) (fun _ _ _ _ _ => by exact (pv 5))))
 (pss_cons (ps_if (pt_cmpR op_ne (pe_callB call_len_dT rfl T.z_len (by decide +kernel) (pa_cons (pv 3) pa_nil)) (pe_callB call_lenG rfl T.z_len (by decide +kernel) (pa_cons (pv 1) pa_nil)) (nomark _))
 (pss_one (ps_rai e_BadValue rfl (takes_of rfl rfl rfl rfl) rfl))
 pss_nil)
 (pss_cons (ps_if (pt_not (pt_val (pe_callB (cr_all rfl) rfl T.z_all (by decide +kernel) (pa_cons (pe_lock (pe_lc (own := [("dot", 4)]) rfl sc_Keep___init__.nd (pi_keys (pv 3)) (blkOk_by (sc := defScope s_Keep___init__) (N := ["self", "pairs", "clock", "entries", "dot", "entry"]) (by decide +kernel)) (fun _ _ _ _ _ => (pg_name (i := 4) sc_Keep___init__.nd rfl (Or.inl rfl))) (fun _ _ _ _ _ => pts_nil) (fun _ _ _ _ _ => (pe_cmpR (op_inM c_Clock___contains__ (hr.mono (by decide))) (pv 4) (pv 2) rfl)))) pa_nil))))
 (pss_one (ps_rai e_BadValue rfl (takes_of rfl rfl rfl rfl) rfl))
 pss_nil)
 (pss_cons (ps_fld (pv 0) (pv 3) rfl)
 (pss_cons (ps_fld (pv 0) (pe_callTy call_tupleG rfl T.z_tuple (by decide +kernel) (pa_cons (pe_lc (own := [("dot", 4)]) rfl sc_Keep___init__.nd (pi_list (pe_callB (cr_sortedDT rfl) rfl T.z_sorted (by decide +kernel) (pa_cons (pv 3) pa_nil))) (blkOk_by (sc := defScope s_Keep___init__) (N := ["self", "pairs", "clock", "entries", "dot", "entry"]) (by decide +kernel)) (fun _ _ _ _ _ => (pg_name (i := 4) sc_Keep___init__.nd rfl (Or.inl rfl))) (fun _ _ _ _ _ => pts_nil) (fun _ _ _ _ _ => (pe_tup (pa_cons (pv 4) (pa_cons (pe_dget (hu1 hr) (pv 3) (pv 4) (fun _ _ => rfl)) pa_nil))))) pa_nil)) rfl)
 (pss_one (ps_fld (pv 0) (pv 2) rfl))))))), ?_⟩
    have lp := Paired.length hp
    walk_at "td"
    refine r_dcT ?_
    refine r_list ?_
    walk_at "td"
    refine ⟨l, rfl, ⟨xs, SqL.of hl⟩, fun D hD => ?_⟩
    refine dt_it (walk_list (xs := xs)) (fun i H' => Same H H' ∧ ∃ kvs, H' D = some (.dT kvs) ∧ EntI K CC H ps i kvs) ⟨same_new hD, [], upd_same, EntI.nil⟩ (fun i H' _ h => SqL.of (h.1 _ _ hl)) ?_ ?_
    · rintro i y H1 H2 hi ⟨s1, kvs, aD, eI⟩ ⟨rfl, hy⟩
      obtain ⟨p, hpi, t, dt, v, rfl, ht, hdt, Rv⟩ := paired_at hp hy
      have ht1 := s1 _ _ ht
      have hdt1 := s1 _ _ hdt
      walk_at "td"
      refine ⟨rfl, ?_⟩
      refine r_yes ?_
      rw [if_pos rfl]
      walk_at "td"
      refine ⟨kvs, pk2 p.1, dt, rfl, hdt1, aD, Nat.lt_of_le_of_lt eI.1 (by rw [sizeLine_eq]; omega), fun b o e => ?_, _, upd_same, eI.step hpi Rv⟩
      rw [upd_ne (ne_of_none e hD)]
      exact s1 _ _ e
    rintro H1 ⟨s1, kvs, aD, eI⟩
    have full : ps.take xs.length = ps := List.take_of_length_le (by omega)
    unfold EntI at eI
    rw [full] at eI
    obtain ⟨e1, e2, e3⟩ := eI
    walk_at "td"
    refine ⟨D, kvs, rfl, aD, ?_⟩
    have hl1 := s1 _ _ hl
    walk_at "td"
    refine ite2 (fun e => ?_) (fun e => ?_)
    · refine no (fun z => ?_) H1 s1
      have le := Paired.length (e2 z.1)
      rw [le, ← lp, decide_eq_true rfl] at e
      cases e
    have eq : kvs.length = xs.length := by
      have z : (!decide (V.int (kvs.length : Int) = V.int (xs.length : Int))) = false := Bool.eq_false_iff.mpr e
      rw [Bool.not_eq_false'] at z
      have := V.int.inj (of_decide_eq_true z)
      omega
    have nd : (ps.map (·.1)).Nodup := Decidable.byContradiction fun z => by
      have := e3 z
      omega
    have PK := e2 nd
    clear e e2 e3 e1
    walk_at "td"
    refine r_lockE aD True.intro fun od => ?_
    generalize hu : upd H1 D _ = HL
    have sL : Same H HL := fun b o e => by
      rw [← hu, upd_ne (ne_of_none e hD)]
      exact s1 _ _ e
    have aL : HL D = some (.frz od (.dT kvs)) := by rw [← hu, upd_same]
    walk_at "td"
    refine r_lc ?_
    refine r_keys ?_
    walk_at "td"
    refine ⟨D, od, rfl, .inr ⟨kvs, aL, fun L hL => ?_⟩⟩
    refine lc_allH walk_keysT (fun i H' y => ∃ p q, ps[i]? = some p ∧ y = .ref q ∧ H' q = some (.tup [.int p.1.1, .int p.1.2])) (fun i H' y H2 z => ?_) (fun i H' v => ∃ b, v = .bl b ∧ (b = true ↔ ∀ p, ps[i]? = some p → S p.1.1 p.1.2)) (fun _ _ _ _ h _ => h) (by omega) hL (fun H' s => s _ _ aL) ?_ ?_
    · obtain ⟨rfl, k, v, qa, hk, rfl, hq⟩ := z
      obtain ⟨p, hpi, ek, _⟩ := paired_at PK hk
      refine ⟨rfl, p, qa, hpi, rfl, ?_⟩
      have ek : k = pk2 p.1 := ek
      rw [ek] at hq
      exact hq
    · rintro i y H2 ys hi ⟨p, qa, hpi, rfl, hq⟩ s2 a2 Q1 q1
      walk_at "td"
      refine ⟨rfl, ?_⟩
      walk_at "td"
      have ck2 := (ck.mono sL).mono s2
      obtain ⟨dc, d0, ro, hc, _⟩ := id ck2
      refine ⟨c, dc, _, rfl, hc, c, qa, p.1.1, p.1.2, N, S, rfl, ck2, hq, one p (List.mem_of_getElem? hpi), hN, fun b H3 s3 hb => ⟨b, rfl, q1 (.bl b) H3 s3 ⟨b, rfl, hb.trans ⟨fun z p' h' => ?_, fun z => z p hpi⟩⟩⟩⟩
      obtain rfl : p = p' := Option.some.inj (hpi.symm.trans h')
      exact z
    · intro H2 ys s2 a2 ly py
      refine ⟨s2 _ _ aL, ?_⟩
      have s13 : Same H1 (upd H2 D (.dT kvs)) := lock_same aD (by rw [hu]; exact s2)
      have nLD : L ≠ D := fun z => by
        rw [z, aL] at hL
        cases hL
      have a3 : upd H2 D (.dT kvs) L = some (.lst ys) := by rw [upd_ne nLD]; exact a2
      generalize upd H2 D (.dT kvs) = H3 at s13 a3
      obtain ⟨bs, rfl, hbs⟩ := bools_of py
      walk_at "td"
      refine ⟨L, bs, rfl, SqL.of a3, _, rfl, ?_⟩
      have s03 := s1.trans s13
      refine ite2 (fun e => ?_) (fun e => ?_)
      · refine no (fun z => ?_) H3 s03
        rw [hbs.mpr fun i _ p h => z.2 p (List.mem_of_getElem? h)] at e
        cases e
      have e : bs.all id = true := by
        cases h : bs.all id with
        | true => rfl
        | false => rw [h] at e; exact absurd rfl e
      have allS : ∀ p ∈ ps, S p.1.1 p.1.2 := fun p m => by
        obtain ⟨i, hi⟩ := List.mem_iff_getElem?.mp m
        have lt := (List.getElem?_eq_some_iff.mp hi).1
        exact hbs.mp e i (by omega) p hi
      clear no hbs e py a3 a2
      have q := q nd allS
      have aD3 := s13 _ _ aD
      have hx3 := s03 _ _ hx
      have ck3 := ck.mono s03
      have PK3 := Paired.mono (fun _ _ z => KvAt.mono z s03) PK
      have nDx : D ≠ x := fun z => by
        rw [z, hx] at hD
        cases hD
      walk_at "td"
      rename_i H4 f4 a4
      obtain ⟨dc, d0, ro, hc, _⟩ := id ck3
      have nCx : c ≠ x := fun z => by
        rw [z, hx3] at hc
        cases hc
      have aD4 := f4 _ _ nDx aD3
      have ck4 := ck3.frI f4 hx3 nCx
      have PK4 := Paired.mono (fun _ _ z => KvAt.frI z f4 hx3 a4) PK3
      refine r_lc (r_list ?_)
      walk_at "td"
      refine ⟨D, kvs, ps.map (·.1), rfl, aD4, kv_keys PK, fun bs' lp' hpm hsd hat hlp => ?_⟩
      generalize hu5 : upd H4 lp' _ = H5
      have s5 := same_gen hu5 hlp
      have a5 := at_gen hu5
      clear hu5
      refine ⟨lp', rfl, ⟨_, SqL.of a5⟩, fun L2 hL2 => ?_⟩
      have lbs : bs'.length = ps.length := by
        have := hpm.length_eq
        rw [List.length_map, List.length_map] at this
        exact this
      obtain ⟨qperm, qasc⟩ := srt_all nd hpm hsd
      refine lc_allH walk_list (fun i _ y => ∃ b, bs'[i]? = some b ∧ y = .ref b.1) (fun i H' y H2 z => ?_) (fun i H' v => ∀ b, bs'[i]? = some b → PrAt K CC H' v (b.2, entK ps b.2)) (fun i H' H2 v h s b e => (h b e).mono s) (by rw [List.length_map]; omega) hL2 (fun H' s => SqL.of (s _ _ a5)) ?_ ?_
      · obtain ⟨rfl, hz⟩ := z
        rw [List.getElem?_map, Option.map_eq_some_iff] at hz
        obtain ⟨b, hb, e⟩ := hz
        exact ⟨rfl, b, hb, e.symm⟩
      · rintro i y H6 ys hi ⟨b, hb, rfl⟩ s6 a6 Q1 q1
        have mb : b ∈ bs' := List.mem_of_getElem? hb
        have s46 := s5.trans s6
        have ab := s46 _ _ (hat b mb)
        obtain ⟨p, mp, ep⟩ : ∃ p ∈ ps, p.1 = b.2 := by
          have m : b.2 ∈ ps.map (·.1) := hpm.mem_iff.mp (List.mem_map.mpr ⟨b, mb, rfl⟩)
          obtain ⟨p, mp, e⟩ := List.mem_map.mp m
          exact ⟨p, mp, e⟩
        obtain ⟨v, hv, Rv⟩ := valT_some PK4 nd mp
        walk_at "td"
        refine ⟨rfl, ?_⟩
        walk_at "td"
        refine r_dget ?_
        walk_at "td"
        refine ⟨D, v, rfl, hv ▸ DGet.t (k := pk2 p.1) (s46 _ _ aD4) (by rw [ep]; exact ab), ?_⟩
        walk_at "tdt"
        rename_i t ht H7 s7 a7
        have nL : ∀ {b : Addr} {o : HO}, H4 b = some o → b ≠ L2 := fun e => ne_of_none (s5 _ _ e) hL2
        have tL : t ≠ L2 := fun z => by
          rw [z, a6] at ht
          cases ht
        have s47 := s46.trans s7
        refine q1 _ H7 s7 fun b' hb' => ?_
        obtain rfl : b = b' := Option.some.inj (hb.symm.trans hb')
        have ee : entK ps b.2 = p.2 := by rw [← ep]; exact entK_at nd p mp
        refine ⟨t, b.1, v, rfl, by rw [wo_ne tL]; exact a7, ?_, ?_⟩
        · rw [wo_ne (nL (hat b mb))]
          exact s47 _ _ (hat b mb)
        · show Rep K CC (wo H7 L2) v (entK ps b.2)
          rw [ee]
          exact Rv.mono (same_woK s47 (s5.free hL2))
      · intro H6 ys s6 a6 ly py
        have py : ∀ i v, ys[i]? = some v → ∀ b : Addr × (Int × Int), bs'[i]? = some b → PrAt K CC H6 v (b.2, entK ps b.2) := fun i v h b e2 => (py i v h b e2).mono fun b o z => (wo_some z).1
        rw [List.length_map] at ly
        walk_at "td"
        refine r_tupL a6 fun t7 ht7 => ?_
        generalize hu7 : upd H6 t7 _ = H7
        have s7 := same_gen hu7 ht7
        have a7 := at_gen hu7
        clear hu7
        have s47 := (s5.trans s6).trans s7
        have PP : Paired (PrAt K CC H7) ys (bs'.map fun b => ((b.2, entK ps b.2) : KP)) := paired_of (by rw [List.length_map, ly]) fun i v p hv hp => by
          rw [List.getElem?_map, Option.map_eq_some_iff] at hp
          obtain ⟨b, hb, rfl⟩ := hp
          exact (py i v hv b hb).mono s7
        have hx7 := s47 _ _ a4
        have aD7 := s47 _ _ aD4
        have ck7 := ck4.mono s47
        have PK7 := Paired.mono (fun _ _ z => KvAt.mono z s47) PK4
        have nT : t7 ≠ x := fun z => by
          rw [z, hx7] at a7
          cases a7
        have nL2 : L2 ≠ x := fun z => by
          rw [z] at hL2
          rw [s5 _ _ a4] at hL2
          cases hL2
        walk_at "td"
        rename_i H8 f8 a8 H9 f9 a9
        have cx : (c ≠ x) := nCx
        refine q H9 _ (fun b o n e => f9 _ _ n (f8 _ _ n (s47 _ _ (f4 _ _ n (s03 _ _ e))))) qperm ⟨dx, D, t7, c, kvs, ps, ys, a9, f9 _ _ nDx (f8 _ _ nDx aD7), Paired.mono (fun _ _ z => KvAt.frI (KvAt.frI z f8 hx7 a8) f9 a8 a9) PK7, qperm.symm, f9 _ _ nT (f8 _ _ nT a7), Paired.mono (fun _ _ z => PrAt.frI (PrAt.frI z f8 hx7 a8) f9 a8 a9) PP, qasc, (ck7.frI f8 hx7 nCx).frI f9 a8 nCx, fun p m => ?_, ?_⟩
        · have m2 := qperm.mem_iff.mp m
          exact ⟨allS p m2, one p m2⟩
        · rw [List.length_map]
          omega
end
end RH
-- tail: CL=Clock CK=Keep
namespace RH
open PySem L2
local macro_rules | `(tactic| walk_at "tdc") => `(tactic| first | assumption | decide | omega | exact cmul_r (by decide) (by decide) | exact cmul_l (by decide) (by decide) | exact cpow (by decide) (by decide) (by decide) | exact cdiv (by decide) (by decide) | exact wide_div (b := 200) (by assumption) (by omega) (by decide) (by decide) | exact cmul_r (by omega) (by omega) | exact cmul_l (by omega) (by omega))
local macro_rules | `(tactic| walk_at "td1") => `(tactic| first
  | with_reducible apply r_op | ((with_reducible apply r_var); exact rfl) | with_reducible apply r_c | with_reducible apply r_cons | with_reducible apply r_nil | with_reducible apply r_I0
  | with_reducible apply r_seq | with_reducible apply r_asg | with_reducible apply r_name | with_reducible apply r_cb | with_reducible apply r_test | with_reducible apply r_k
  | with_reducible apply r_ifS | with_reducible apply r_call | with_reducible apply r_ret | ((with_reducible apply r_I); walk_at "tdc") | ((with_reducible apply r_eq); exact rfl) | ((with_reducible apply r_ne); exact rfl)
  | ((with_reducible apply r_ixL); walk_at "tdh"; exact rfl) | ((with_reducible apply r_ixT); walk_at "tdh"; exact rfl) | with_reducible apply r_sub | ((with_reducible apply r_setL); walk_at "tdh"; exact rfl)
  | with_reducible apply r_un | with_reducible apply r_U | with_reducible apply r_B | with_reducible apply r_and | with_reducible apply r_or | with_reducible apply r_not
  | with_reducible apply r_andV | with_reducible apply r_orV | with_reducible apply r_notV | with_reducible apply r_if | with_reducible apply r_tup | with_reducible apply r_lst
  | ((with_reducible apply r_ixgT); walk_at "tdh"; exact rfl) | ((with_reducible apply r_ixgL); walk_at "tdh"; exact rfl)
  | with_reducible apply r_next | with_reducible apply r_drop | with_reducible apply r_int1 | with_reducible apply r_chain | with_reducible apply r_ord | with_reducible apply r_abs | with_reducible apply r_min2 | with_reducible apply r_max2
  | with_reducible apply r_leStr | with_reducible apply r_inSign | with_reducible apply r_notInSign | ((with_reducible apply r_isTy); assumption) | ((with_reducible apply r_notTy); assumption)
  | ((with_reducible apply r_lenL); walk_at "tdh") | ((with_reducible apply r_lenT); walk_at "tdh")
  | ((with_reducible apply r_fldV); exact rfl; walk_at "tdh"; assumption; assumption; exact rfl) | with_reducible apply r_bmG | with_reducible apply r_bm0G | with_reducible apply r_isN | with_reducible apply r_notN | with_reducible apply r_prop | ((with_reducible apply r_prX); walk_at "tdh") | with_reducible apply r_fld | ((apply r_fldX); walk_at "tdh"; assumption; assumption; exact rfl; walk_at "tdi") | with_reducible apply r_mtE | with_reducible apply r_cS | (refine r_gtup (SqT.of (by walk_at "tdh")) rfl ?_) | with_reducible apply r_gcons | with_reducible apply r_gnil | with_reducible apply r_sta | with_reducible apply r_staX | with_reducible apply r_mtG | ((with_reducible apply r_mtX); walk_at "tdh"; exact rfl) | with_reducible apply r_par2 | with_reducible apply r_par3 | ((with_reducible apply r_tyL); walk_at "tdh")
  | refine Rep.typ (by assumption) (fun _ _ => ?_) | refine r_isi (by assumption) (by assumption) (by decide) ?_)
local macro_rules | `(tactic| walk_at "td") => `(tactic| repeat walk_at "td1")
local macro_rules | `(tactic| walk_at "tdf") => `(tactic| (generalize hu : upd _ _ (.lst (_ ++ [_])) = H2; have f := fr_gen hu; have a := at_gen hu; clear hu))
local macro_rules | `(tactic| walk_at "tds") => `(tactic| (generalize hu : upd _ _ (.lst (List.set _ _ _)) = H2; have f := fr_gen hu; have a := at_gen hu; clear hu))
local macro_rules | `(tactic| walk_at "tdev") => `(tactic| first | exact ev_int _ | exact ev_bl _ | exact ev_non | exact ev_str _ (by decide +kernel) | assumption | (refine ev_tup (by walk_at "tdh") ?_; walk_at "tdall") | (refine Ev.mono (by assumption) ?_; walk_at "tdtk"))
local macro_rules | `(tactic| walk_at "tdall") => `(tactic| first | exact allN | (refine List.forall_mem_cons.mpr ⟨?_, ?_⟩; walk_at "tdev"; walk_at "tdall"))
local macro_rules | `(tactic| walk_at "tdn") => `(tactic| (refine ⟨szL rfl, fun p hp => ?_⟩; generalize hu : upd _ p _ = H2; have s := same_gen hu hp; have a := at_gen hu; clear hu))
local macro_rules | `(tactic| walk_at "tdt") => `(tactic| repeat (first | walk_at "td1" | walk_at "tdn" | walk_at "tdm"))
local macro_rules | `(tactic| walk_at "tdg") => `(tactic| (intro p hp; generalize hu : upd _ p _ = H2; have s := same_gen hu hp; have a := at_gen hu; clear hu))
local macro_rules | `(tactic| walk_at "tdh") => `(tactic| first | assumption | exact upd_same | (rw [upd_ne (by assumption)]; assumption) | (rw [upd_ne (Ne.symm (by assumption))]; assumption) | (apply same_step; assumption; walk_at "tdh") | (apply fr_step; assumption; walk_at "tdne"; walk_at "tdh") | (apply fr_stepK; assumption; walk_at "tdh"; walk_at "tdh"; (intro z; cases z)))
local macro_rules | `(tactic| walk_at "tdne") => `(tactic| first | assumption | exact Ne.symm (by assumption) | (apply ne_noneX; assumption; walk_at "tdh") | (apply Ne.symm; apply ne_noneX; assumption; walk_at "tdh"))
local macro_rules | `(tactic| walk_at "tdsm") => `(tactic| first | assumption | exact Same.refl _ | (apply same_chain; assumption; walk_at "tdsm") | (apply same_frX; assumption; walk_at "tdsm"; walk_at "tdno"))
local macro_rules | `(tactic| walk_at "tdno") => `(tactic| first | assumption | (apply none_backX; assumption; walk_at "tdsm"))
local macro_rules | `(tactic| walk_at "tdtk") => `(tactic| first | assumption | exact TuK.refl _ | (apply tuk_same; assumption; walk_at "tdtk") | (apply tuk_fr; assumption; walk_at "tdh"; walk_at "tdtk") | (apply tuk_frI; assumption; walk_at "tdh"; walk_at "tdtk"))
local macro_rules | `(tactic| walk_at "tdi") => `(tactic| (generalize hu : upd _ _ (.ins _ _ (putF _ _ _)) = H2; have f := fr_gen hu; have a := at_gen hu; clear hu))
local macro_rules | `(tactic| walk_at "tdrp") => `(tactic| first | exact .int _ | exact .bl _ | exact .non | exact .str _ (by assumption) | exact .str _ (okS_of (by decide +kernel)) | assumption | (apply rep_monoX; assumption; walk_at "tdsm") | (apply rep_tupA; walk_at "tdh"; walk_at "tdrpa"; first | exact leB rfl | assumption) | (apply rep_lstA; walk_at "tdh"; walk_at "tdrpa"; first | exact leB rfl | assumption) | exact .dct (by walk_at "tdh"))
local macro_rules | `(tactic| walk_at "tdrpa") => `(tactic| first | exact .nil | (apply RepAll.mono; assumption; walk_at "tdsm") | (apply RepAll.cons; walk_at "tdrp"; walk_at "tdrpa"))
local macro_rules | `(tactic| walk_at "tdm") => `(tactic| first | ((with_reducible apply r_catT); walk_at "tdh"; walk_at "tdh"; exact List.cons_ne_nil _ _; exact List.cons_ne_nil _ _; exact szL rfl; walk_at "tdg") | ((with_reducible apply r_listTU); walk_at "tdh"; walk_at "tdg") | ((with_reducible apply r_listL); walk_at "tdh"; walk_at "tdg") | ((with_reducible apply r_dnew); walk_at "tdg") | with_reducible apply r_slice | with_reducible apply r_nopart | with_reducible apply r_part | with_reducible apply r_pI | ((with_reducible apply r_slT); walk_at "tdh"; exact of_decide_eq_false rfl; walk_at "tdg") | ((with_reducible apply r_slL); walk_at "tdh"; walk_at "tdg"))
local macro_rules | `(tactic| walk_at "tdd") => `(tactic| (generalize hu : upd _ _ (.dK _) = H2; have f := fr_gen hu; have a := at_gen hu; clear hu))
local macro_rules | `(tactic| walk_at "tdk") => `(tactic| repeat (first | walk_at "td1" | walk_at "tdn" | walk_at "tdm" | ((with_reducible apply r_disp); walk_at "tdg") | with_reducible apply r_pcons | with_reducible apply r_pnil | with_reducible apply r_dputW | (apply r_dputZ; walk_at "tdh"; exact rfl; decide; decide +kernel; walk_at "tdd") | with_reducible apply r_dget))

section
variable {P : Program} {w : World} {K : PySem.W.Frag} {mg : Str → Option Value} {base : Heap} {CC : Addr → Prop}
theorem ok_Keep___len__ {f C CL : Addr} {fd : FuncData} (F : Fun K "__len__" "Keep.__len__" s_Keep___len__ f fd) (T : Txt K mg) (cl_Keep : Cls K C) (na_Keep__pairs : NoAttr K C "_pairs") : FnOk P w K mg base CX0 1 f fd ["self"] (spKeepLen K CC C CL) := by
  refine F.ok sc_Keep___len__ (fun vs H Q E h => ?_) (fun cdv A outer s H vs Q E hr h => ?_)
  · obtain ⟨x, N, ps, S, rfl, _⟩ := h
    rfl
  · obtain ⟨x, N, ps, S, rfl, ⟨dx, d, t, c, kvs, qs, ys, hx, hd, hk, pm, ht, hp, rest⟩, q⟩ := h
    refine ⟨_, (pss_one (ps_ret (pe_callB call_lenG rfl T.z_len (by decide +kernel) (pa_cons (pe_fld (pv 0) rfl) pa_nil)))), ?_⟩
    have l := Paired.length hp
    walk_at "td"
    rw [l]
    exact q
theorem ok_Keep___iter__ {f C : Addr} {fd : FuncData} (F : Fun K "__iter__" "Keep.__iter__" s_Keep___iter__ f fd) (T : Txt K mg) (cl_Keep : Cls K C) (na_Keep__pairs : NoAttr K C "_pairs") : FnN P w K mg base 1 f fd ["self"] (spIterT K C "_pairs") := by
  refine fun_okN F sc_Keep___iter__ (fun n vs H Q E h => ?_) (fun cdv A outer s H vs Q E hr h => ?_)
  · obtain ⟨a, dx, fs, l, xs, rfl, _⟩ := h
    rfl
  · obtain ⟨a, dx, fs, l, xs, rfl, ha, hf, hl, q⟩ := h
    refine ⟨_, (pss_one (ps_ret (pe_callB call_iterTN rfl T.z_iter (by decide +kernel) (pa_cons (pe_fld (pv 0) rfl) pa_nil)))), ?_⟩
    walk_at "td"
    refine ⟨_, rfl, a, C, dx, fs, _, rfl, ha, cl_Keep, na_Keep__pairs, hf, ?_⟩
    walk_at "td"
    exact ⟨l, xs, rfl, hl, fun it hit hge => q it hit hge⟩
theorem ok_Keep_clock {f C CL : Addr} {fd : FuncData} (F : Fun K "clock" "Keep.clock" s_Keep_clock f fd) (T : Txt K mg) (cl_Keep : Cls K C) (na_Keep__clock : NoAttr K C "_clock") : FnOk P w K mg base CX0 1 f fd ["self"] (spKeepClk K CC C CL) := by
  refine F.ok sc_Keep_clock (fun vs H Q E h => ?_) (fun cdv A outer s H vs Q E hr h => ?_)
  · obtain ⟨x, N, ps, S, rfl, _⟩ := h
    rfl
  · obtain ⟨x, N, ps, S, rfl, ⟨dx, d, t, c, kvs, qs, ys, hx, hd, hk, pm, ht, hp, asc, ck, rest⟩, q⟩ := h
    refine ⟨_, (pss_one (ps_ret (pe_fld (pv 0) rfl))), ?_⟩
    walk_at "td"
    exact q c ck
theorem ok_Keep_entry {f C CL : Addr} {fd : FuncData} (F : Fun K "entry" "Keep.entry" s_Keep_entry f fd) (T : Txt K mg) (cl_Keep : Cls K C) (na_Keep__entries : NoAttr K C "_entries") : FnOk P w K mg base CX0 1 f fd ["self", "dot"] (spKeepEnt K CC C CL) := by
  refine F.ok sc_Keep_entry (fun vs H Q E h => ?_) (fun cdv A outer s H vs Q E hr h => ?_)
  · obtain ⟨x, t, k, N, ps, S, rfl, _⟩ := h
    rfl
  · obtain ⟨x, tk, k, N, ps, S, rfl, ⟨dx, d, t, c, kvs, qs, ys, hx, hd, hk, pm, ht, hp, asc, ck, rest⟩, htk, q⟩ := h
    refine ⟨_, (pss_one (ps_ret (pe_dget1 (hu1 hr) (pe_fld (pv 0) rfl) (pv 1) ⟨rfl, rfl, rfl, rfl⟩))), ?_⟩
    have nd : (qs.map (·.1)).Nodup := (pm.map (·.1)).nodup_iff.mpr asc.nodup
    walk_at "td"
    refine r_dget1 ?_
    walk_at "td"
    refine ⟨d, rfl, .inr ⟨kvs, .inl hd⟩, ?_⟩
    walk_at "td"
    refine ⟨_, DGet.t (k := pk2 k) hd htk, ?_⟩
    refine q _ (fun e m => ?_) fun none => ?_
    · obtain ⟨v, hv, R⟩ := valT_some hk nd (p := (k, e)) (pm.mem_iff.mpr m)
      have hv : valV kvs (pk2 k) = some v := hv
      rw [hv]
      exact R
    · rw [valT_none]
      · rfl
      · rw [kv_keys hk]
        intro m
        obtain ⟨d', m', e⟩ := List.mem_map.mp m
        obtain ⟨p, mp, ep⟩ := List.mem_map.mp m'
        have : p.1 = k := ep.trans (pk2_inj e)
        exact none p.2 (by rw [← this]; exact pm.mem_iff.mp mp)
theorem ok_Keep_value {f C CL : Addr} {fd : FuncData} (F : Fun K "value" "Keep.value" s_Keep_value f fd) (T : Txt K mg) (cl_Keep : Cls K C) (na_Keep__pairs : NoAttr K C "_pairs") (na_Keep__clock : NoAttr K C "_clock") (c_Clock_value : C8.Met P w K mg base 1 CL "value" (spClkVal CL) []) : FnOk P w K mg base CX0 2 f fd ["self"] (spKeepVal K CC C CL) := by
  refine F.ok sc_Keep_value (fun vs H Q E h => ?_) (fun cdv A outer s H vs Q E hr h => ?_)
  · obtain ⟨x, N, ps, S, rfl, _⟩ := h
    rfl
  · obtain ⟨x, N, ps, S, rfl, ⟨dx, d, t, c, kvs, qs, ys, hx, hd, hk, pm, ht, hp, asc, ck, rest⟩, hN, q⟩ := h
    refine ⟨_, (pss_one (ps_ret (pe_tup (pa_cons (pe_fld (pv 0) rfl) (pa_cons (C8.pe_mt0 c_Clock_value hr (by decide) (pe_fld (pv 0) rfl)) pa_nil))))), ?_⟩
    obtain ⟨dc, d0, ro, hc, _⟩ := id ck
    walk_at "td"
    refine ⟨c, N, S, rfl, ck, hN, fun v rows H1 s1 can wt va => ?_⟩
    walk_at "tdt"
    rename_i p2 hp2 H2 s2 a2
    have s12 := s1.trans s2
    exact q p2 t v ys rows H2 s12 a2 (s12 _ _ ht) (Paired.mono (fun _ _ z => PrAt.mono z s12) hp) can wt (va.mono s2)
end
end RH
namespace RH
open PySem L2
local macro_rules | `(tactic| walk_at "rdh") => `(tactic| first | assumption | exact upd_same | (rw [upd_ne (by assumption)]; assumption) | (rw [upd_ne (Ne.symm (by assumption))]; assumption))
local macro_rules | `(tactic| walk_at "rdc") => `(tactic| first | assumption | decide | omega | exact cmul_r (by decide) (by decide) | exact cmul_l (by decide) (by decide) | exact cpow (by decide) (by decide) (by decide) | exact cdiv (by decide) (by decide) | exact wide_div (b := 200) (by assumption) (by omega) (by decide) (by decide) | exact cmul_r (by omega) (by omega) | exact cmul_l (by omega) (by omega))
local macro_rules | `(tactic| walk_at "rd1") => `(tactic| first
  | with_reducible apply r_op | ((with_reducible apply r_var); exact rfl) | with_reducible apply r_c | with_reducible apply r_cons | with_reducible apply r_nil | with_reducible apply r_I0
  | with_reducible apply r_seq | with_reducible apply r_asg | with_reducible apply r_name | with_reducible apply r_cb | with_reducible apply r_test | with_reducible apply r_k
  | with_reducible apply r_ifS | with_reducible apply r_call | with_reducible apply r_ret | ((with_reducible apply r_I); walk_at "rdc") | ((with_reducible apply r_eq); exact rfl) | ((with_reducible apply r_ne); exact rfl)
  | ((with_reducible apply r_ixL); walk_at "rdh"; exact rfl) | ((with_reducible apply r_ixT); walk_at "rdh"; exact rfl) | with_reducible apply r_sub | ((with_reducible apply r_setL); walk_at "rdh"; exact rfl)
  | with_reducible apply r_un | with_reducible apply r_U | with_reducible apply r_B | with_reducible apply r_and | with_reducible apply r_or | with_reducible apply r_not
  | with_reducible apply r_andV | with_reducible apply r_orV | with_reducible apply r_notV | with_reducible apply r_if | with_reducible apply r_tup | with_reducible apply r_lst
  | ((with_reducible apply r_ixgT); walk_at "rdh"; exact rfl) | ((with_reducible apply r_ixgL); walk_at "rdh"; exact rfl)
  | with_reducible apply r_next | with_reducible apply r_drop | with_reducible apply r_int1 | with_reducible apply r_chain | with_reducible apply r_ord | with_reducible apply r_abs | with_reducible apply r_min2 | with_reducible apply r_max2
  | with_reducible apply r_leStr | with_reducible apply r_inSign | with_reducible apply r_notInSign | ((with_reducible apply r_isTy); assumption)
  | ((with_reducible apply r_lenL); walk_at "rdh") | ((with_reducible apply r_lenT); walk_at "rdh")
  | refine Rep.typ (by assumption) (fun _ _ => ?_) | refine r_isi (by assumption) (by assumption) (by decide) ?_)
local macro_rules | `(tactic| walk_at "rd") => `(tactic| repeat walk_at "rd1")

section
variable {P : Program} {w : World} {K : PySem.W.Frag} {mg : Str → Option Value} {base : Heap} {CC : Addr → Prop}
theorem ok__law_number {f : Addr} {fd : FuncData} (F : Fun K "_law_number" "_law_number" s__law_number f fd) (T : Txt K mg) (c__law_draw : C8.Cal P w K mg base 1 "_law_draw" sp_draw []) : FnOk P w K mg base CX0 2 f fd ["row"] spNumR := by
  refine F.ok sc__law_number (fun vs H Q E h => ?_) (fun cdv A outer s H vs Q E hr h => ?_)
  · obtain ⟨i, rfl, _⟩ := h
    rfl
  · obtain ⟨r, rfl, row, q⟩ := h
    refine ⟨_, (pss_cons (ps_set (i := 1) sc__law_number.nd rfl (Or.inl rfl) (C8.pe_c c__law_draw hr (by decide) rfl (pa_cons (pv 0) (pa_cons pe_int pa_nil))))
 (pss_cons (ps_if (pt_cmpR op_eq (pv 1) pe_int (nomark _))
 (pss_one (ps_ret (C8.pe_c c__law_draw hr (by decide) rfl (pa_cons (pv 0) (pa_cons (pe_op op_add (pe_op op_pow pe_int pe_int) pe_int) pa_nil)))))
 pss_nil)
 (pss_cons (ps_if (pt_cmpR op_eq (pv 1) pe_int (nomark _))
 (pss_one (ps_ret (pe_op op_sub (pe_op op_pow pe_int pe_int) (C8.pe_c c__law_draw hr (by decide) rfl (pa_cons (pv 0) (pa_cons pe_int pa_nil))))))
 pss_nil)
 (pss_one (ps_ret (C8.pe_c c__law_draw hr (by decide) rfl (pa_cons (pv 0) (pa_cons pe_int pa_nil)))))))), ?_⟩
    walk_at "rd"
    refine r_draw row (by decide) (by decide) fun kd H1 l1 u1 f1 row1 => ?_
    walk_at "rd"
    refine ite2 (fun h => ?_) (fun h => ?_)
    · walk_at "rd"
      exact r_draw row1 (by decide) (by decide) fun d2 H2 l2 u2 f2 row2 => q _ _ (f1.trans f2) row2 l2 (by have : d2 < 1000000000001 := u2; unfold lim12; omega)
    · walk_at "rd"
      refine ite2 (fun h => ?_) (fun h => ?_)
      · walk_at "rd"
        refine r_draw row1 (by decide) (by decide) fun d2 H2 l2 u2 f2 row2 => ?_
        walk_at "rd"
        exact q _ _ (f1.trans f2) row2 (by show 0 ≤ 1000000000000 - d2; omega) (by show 1000000000000 - d2 ≤ lim12; unfold lim12; omega)
      · walk_at "rd"
        exact r_draw row1 (by decide) (by decide) fun d2 H2 l2 u2 f2 row2 => q _ _ (f1.trans f2) row2 l2 (by unfold lim12; omega)
theorem ok__law_dot {f : Addr} {fd : FuncData} (F : Fun K "_law_dot" "_law_dot" s__law_dot f fd) (T : Txt K mg) (c__law_draw : C8.Cal P w K mg base 1 "_law_draw" sp_draw []) : FnOk P w K mg base CX0 2 f fd ["row", "clients"] spDotR := by
  refine F.ok sc__law_dot (fun vs H Q E h => ?_) (fun cdv A outer s H vs Q E hr h => ?_)
  · obtain ⟨r, c, ns, rfl, _⟩ := h
    rfl
  · obtain ⟨r, c, ns, rfl, row, ncr, hc, h0, h1, q⟩ := h
    refine ⟨_, (pss_cons (ps_set (i := 2) sc__law_dot.nd rfl (Or.inl rfl) (pe_ix ix_list (pv 1) (C8.pe_c c__law_draw hr (by decide) rfl (pa_cons (pv 0) (pa_cons (pe_callB call_lenG rfl T.z_len (by decide +kernel) (pa_cons (pv 1) pa_nil)) pa_nil))) (fun _ _ => rfl)))
 (pss_cons (ps_set (i := 3) sc__law_dot.nd rfl (Or.inl rfl) (C8.pe_c c__law_draw hr (by decide) rfl (pa_cons (pv 0) (pa_cons pe_int pa_nil))))
 (pss_cons (ps_if (pt_cmpR op_eq (pv 3) pe_int (nomark _))
 (pss_one (ps_ret (pe_tup (pa_cons (pv 2) (pa_cons (pe_op op_add pe_int (C8.pe_c c__law_draw hr (by decide) rfl (pa_cons (pv 0) (pa_cons (pe_op op_pow pe_int pe_int) pa_nil)))) pa_nil)))))
 pss_nil)
 (pss_cons (ps_if (pt_cmpR op_eq (pv 3) pe_int (nomark _))
 (pss_one (ps_ret (pe_tup (pa_cons (pv 2) (pa_cons (pe_op op_sub (pe_op op_pow pe_int pe_int) (C8.pe_c c__law_draw hr (by decide) rfl (pa_cons (pv 0) (pa_cons pe_int pa_nil)))) pa_nil)))))
 pss_nil)
 (pss_cons (ps_if (pt_cmpR op_eq (pv 3) pe_int (nomark _))
 (pss_one (ps_ret (pe_tup (pa_cons (pv 2) (pa_cons (pe_op op_add pe_int (C8.pe_c c__law_draw hr (by decide) rfl (pa_cons (pv 0) (pa_cons pe_int pa_nil)))) pa_nil)))))
 pss_nil)
 (pss_one (ps_ret (pe_tup (pa_cons (pv 2) (pa_cons (pe_op op_add pe_int (C8.pe_c c__law_draw hr (by decide) rfl (pa_cons (pv 0) (pa_cons pe_int pa_nil)))) pa_nil)))))))))), ?_⟩
    walk_at "rd"
    rw [List.length_map]
    refine r_draw row (by omega) (by omega) fun d1 H1 l1 u1 f1 row1 => ?_
    have hc1 := f1 _ _ ncr hc
    obtain ⟨v, hv, e⟩ := atI_in (xs := ns.map V.int) l1 (by rw [List.length_map]; exact u1)
    obtain ⟨cl, mcl, rfl⟩ := List.mem_map.mp hv
    refine r_ixL hc1 e ?_
    walk_at "rd"
    refine r_draw row1 (by decide) (by decide) fun kd H2 l2 u2 f2 row2 => ?_
    have f12 := f1.trans f2
    have fin : ∀ (j : Int) H3, 1 ≤ j → j ≤ lim12 → Fr r H2 H3 → Row H3 r → ∀ p, H3 p = none → Q (.ref p) (upd H3 p (.tup [.int cl, .int j])) := fun j H3 j1 j2 f3 row3 p hp => by
      have npr : p ≠ r := fun z => row3.ne (z ▸ hp)
      refine q p cl j _ ((f12.trans f3).trans (Fr.new hp)) (row3.upd hp) npr ?_ upd_same mcl j1 j2
      cases z : H p with
      | none => rfl
      | some o =>
        rw [(f12.trans f3) _ _ npr z] at hp
        cases hp
    walk_at "rd"
    refine ite2 (fun h => ?_) (fun h => ?_)
    · walk_at "rd"
      refine r_draw row2 (by decide) (by decide) fun d3 H3 l3 u3 f3 row3 => ?_
      walk_at "rd"
      exact ⟨szL rfl, fin _ H3 (by omega) (by have : d3 < 1000000000000 := u3; unfold lim12; omega) f3 row3⟩
    · walk_at "rd"
      refine ite2 (fun h => ?_) (fun h => ?_)
      · walk_at "rd"
        refine r_draw row2 (by decide) (by decide) fun d3 H3 l3 u3 f3 row3 => ?_
        walk_at "rd"
        exact ⟨szL rfl, fin _ H3 (by show 1 ≤ 1000000000000 - d3; omega) (by show 1000000000000 - d3 ≤ lim12; unfold lim12; omega) f3 row3⟩
      · walk_at "rd"
        refine ite2 (fun h => ?_) (fun h => ?_)
        · walk_at "rd"
          refine r_draw row2 (by decide) (by decide) fun d3 H3 l3 u3 f3 row3 => ?_
          walk_at "rd"
          exact ⟨szL rfl, fin _ H3 (by omega) (by unfold lim12; omega) f3 row3⟩
        · walk_at "rd"
          refine r_draw row2 (by decide) (by decide) fun d3 H3 l3 u3 f3 row3 => ?_
          walk_at "rd"
          exact ⟨szL rfl, fin _ H3 (by omega) (by unfold lim12; omega) f3 row3⟩
end
end RH
namespace RH
open PySem L2
local macro_rules | `(tactic| walk_at "rdh") => `(tactic| first | assumption | exact upd_same | (rw [upd_ne (by assumption)]; assumption) | (rw [upd_ne (Ne.symm (by assumption))]; assumption))
local macro_rules | `(tactic| walk_at "rdc") => `(tactic| first | assumption | decide | omega | exact cmul_r (by decide) (by decide) | exact cmul_l (by decide) (by decide) | exact cpow (by decide) (by decide) (by decide) | exact cdiv (by decide) (by decide) | exact wide_div (b := 200) (by assumption) (by omega) (by decide) (by decide) | exact cmul_r (by omega) (by omega) | exact cmul_l (by omega) (by omega))
local macro_rules | `(tactic| walk_at "rd1") => `(tactic| first
  | with_reducible apply r_op | ((with_reducible apply r_var); exact rfl) | with_reducible apply r_c | with_reducible apply r_cons | with_reducible apply r_nil | with_reducible apply r_I0
  | with_reducible apply r_seq | with_reducible apply r_asg | with_reducible apply r_name | with_reducible apply r_cb | with_reducible apply r_test | with_reducible apply r_k
  | with_reducible apply r_ifS | with_reducible apply r_call | with_reducible apply r_ret | ((with_reducible apply r_I); walk_at "rdc") | ((with_reducible apply r_eq); exact rfl) | ((with_reducible apply r_ne); exact rfl)
  | ((with_reducible apply r_ixL); walk_at "rdh"; exact rfl) | ((with_reducible apply r_ixT); walk_at "rdh"; exact rfl) | with_reducible apply r_sub | ((with_reducible apply r_setL); walk_at "rdh"; exact rfl)
  | with_reducible apply r_un | with_reducible apply r_U | with_reducible apply r_B | with_reducible apply r_and | with_reducible apply r_or | with_reducible apply r_not
  | with_reducible apply r_andV | with_reducible apply r_orV | with_reducible apply r_notV | with_reducible apply r_if | with_reducible apply r_tup | with_reducible apply r_lst
  | ((with_reducible apply r_ixgT); walk_at "rdh"; exact rfl) | ((with_reducible apply r_ixgL); walk_at "rdh"; exact rfl)
  | with_reducible apply r_next | with_reducible apply r_drop | with_reducible apply r_int1 | with_reducible apply r_chain | with_reducible apply r_ord | with_reducible apply r_abs | with_reducible apply r_min2 | with_reducible apply r_max2
  | with_reducible apply r_leStr | with_reducible apply r_inSign | with_reducible apply r_notInSign | ((with_reducible apply r_isTy); assumption)
  | ((with_reducible apply r_lenL); walk_at "rdh") | ((with_reducible apply r_lenT); walk_at "rdh")
  | refine Rep.typ (by assumption) (fun _ _ => ?_) | refine r_isi (by assumption) (by assumption) (by decide) ?_)
local macro_rules | `(tactic| walk_at "rd") => `(tactic| repeat walk_at "rd1")

section
variable {P : Program} {w : World} {K : PySem.W.Frag} {mg : Str → Option Value} {base : Heap} {CC : Addr → Prop}
theorem ok__law_item {f : Addr} {fd : FuncData} (F : Fun K "_law_item" "_law_item" s__law_item f fd) (T : Txt K mg) (c__law_draw : C8.Cal P w K mg base 1 "_law_draw" sp_draw []) (c__law_char : C8.Cal P w K mg base 1 "_law_char" sp_char []) :
    FnOk P w K mg base CX0 2 f fd ["row"] (sp_thing K CC LeafD) := by
  refine F.ok sc__law_item (fun vs H Q E h => ?_) (fun cdv A outer s H vs Q E hr h => ?_)
  · obtain ⟨i, rfl, _⟩ := h
    rfl
  · obtain ⟨r, rfl, row, q⟩ := h
    refine ⟨_, (pss_cons (ps_if (pt_cmpR op_eq (C8.pe_c c__law_draw hr (by decide) rfl (pa_cons (pv 0) (pa_cons pe_int pa_nil))) pe_int (nomark _))
 (pss_one (ps_ret (pe_op op_sub (pe_op op_pow pe_int pe_int) (C8.pe_c c__law_draw hr (by decide) rfl (pa_cons (pv 0) (pa_cons (pe_op op_add (pe_op op_mul pe_int (pe_op op_pow pe_int pe_int)) pe_int) pa_nil))))))
 pss_nil)
 (pss_cons (ps_set (i := 1) sc__law_item.nd rfl (Or.inl rfl) (C8.pe_c c__law_draw hr (by decide) rfl (pa_cons (pv 0) (pa_cons pe_int pa_nil))))
 (C8.pss_cut (ps_if (pt_cmpR op_eq (C8.pe_c c__law_draw hr (by decide) rfl (pa_cons (pv 0) (pa_cons pe_int pa_nil))) pe_int (nomark _))
 (pss_one (ps_set (i := 1) sc__law_item.nd rfl (Or.inl rfl) (C8.pe_c c__law_draw hr (by decide) rfl (pa_cons (pv 0) (pa_cons pe_int pa_nil)))))
 pss_nil)
 (pss_one (ps_ret (pe_joinG pe_str (pe_lc (own := [("k", 2)]) rfl sc__law_item.nd (pi_range1 rfl T.z_range (pa_cons (pv 1) pa_nil)) (blkOk_by (sc := defScope s__law_item) (N := ["row", "size", "k"]) (by decide +kernel)) (fun _ _ _ _ _ => (pg_name (i := 2) sc__law_item.nd rfl (Or.inl rfl))) (fun _ _ _ _ _ => pts_nil) (fun _ _ _ _ _ => (C8.pe_c c__law_char hr (by decide) rfl (pa_cons (C8.pe_c c__law_draw hr (by decide) rfl (pa_cons (pv 0) (pa_cons pe_int pa_nil))) pa_nil)))))))))), ?_⟩
    walk_at "rd"
    refine r_draw row (by decide) (by decide) fun kd H1 l1 u1 f1 row1 => ?_
    walk_at "rd"
    refine ite2 (fun h => ?_) (fun h => ?_)
    · walk_at "rd"
      refine r_draw row1 (by decide) (by decide) fun d2 H2 l2 u2 f2 row2 => ?_
      walk_at "rd"
      exact q _ _ _ (.inl ⟨_, rfl⟩) (f1.trans f2) row2 (.int _)
    · walk_at "rd"
      refine r_draw row1 (by decide) (by decide) fun d2 H2 l2 u2 f2 row2 => ?_
      walk_at "rd"
      refine r_cut (fun σ' H' => ∃ c : Int, σ' = [some (.ref r), some (.int c), none] ∧ 0 ≤ c ∧ c ≤ 61 ∧ Fr r H H' ∧ Row H' r) ?_ ?_
      · walk_at "rd"
        refine r_draw row2 (by decide) (by decide) fun d3 H3 l3 u3 f3 row3 => ?_
        walk_at "rd"
        refine ite2 (fun h => ?_) (fun h => ?_)
        · walk_at "rd"
          refine r_draw row3 (by decide) (by decide) fun d4 H4 l4 u4 f4 row4 => ?_
          walk_at "rd"
          exact ⟨_, rfl, l4, by omega, ((f1.trans f2).trans f3).trans f4, row4⟩
        · walk_at "rd"
          exact ⟨_, rfl, l2, by omega, (f1.trans f2).trans f3, row3⟩
      · rintro σ' H3 ⟨c, rfl, hc0, hc1, f3, row3⟩
        walk_at "rd"
        refine r_m1c (r_lc (r_rng1 ?_))
        walk_at "rd"
        refine ⟨_, rfl, by omega, by omega, ?_⟩
        refine r_rng (r := r) (by omega) row3 (fun _ y => ∃ c : Nat, okc c = true ∧ y = sg c) (fun _ _ _ _ h => h) (fun _ => rfl) ?_ ?_
        · intro i H4 f4 row4 Q4 q4
          walk_at "rd"
          refine r_draw row4 (by decide) (by decide) fun d5 H5 l5 u5 f5 row5 => ?_
          walk_at "rd"
          exact ⟨d5, rfl, fun c hc => q4 _ _ f5 row5 ⟨c, hc, rfl⟩⟩
        · intro D H4 ys hlen hD f4 row4 hL hys
          obtain ⟨cs, rfl, hcs⟩ := signs_of hys
          rw [List.length_map] at hlen
          refine r_joinD hL (by omega) ?_
          exact q _ (.str _) _ (.inr ⟨_, rfl⟩) (f3.trans f4) row4 (.str _ (okS_S hcs (by omega)))
theorem ok__law_entry {f : Addr} {fd : FuncData} (F : Fun K "_law_entry" "_law_entry" s__law_entry f fd) (T : Txt K mg) (c__law_draw : C8.Cal P w K mg base 1 "_law_draw" sp_draw []) (c__law_item : C8.Cal P w K mg base 2 "_law_item" (sp_thing K CC LeafD) []) :
    FnOk P w K mg base CX0 3 f fd ["row"] (sp_thing K CC EntD) := by
  refine F.ok sc__law_entry (fun vs H Q E h => ?_) (fun cdv A outer s H vs Q E hr h => ?_)
  · obtain ⟨i, rfl, _⟩ := h
    rfl
  · obtain ⟨r, rfl, row, q⟩ := h
    refine ⟨_, (pss_cons (ps_set (i := 1) sc__law_entry.nd rfl (Or.inr rfl) pe_str)
 (pss_cons (ps_set (i := 2) sc__law_entry.nd rfl (Or.inl rfl) (pe_tup pa_nil))
 (pss_cons (ps_for PassesOwn.never rfl (pi_range1 rfl T.z_range (pa_cons (pe_ix ix_tup (pe_tup (pa_cons pe_int (pa_cons pe_int (pa_cons pe_int (pa_cons pe_int (pa_cons pe_int (pa_cons pe_int pa_nil))))))) (C8.pe_c c__law_draw hr (by decide) rfl (pa_cons (pv 0) (pa_cons pe_int pa_nil))) (fun _ _ => rfl)) pa_nil)) (pg_name (i := 3) sc__law_entry.nd rfl (Or.inl rfl))
 (pss_cons (ps_set (i := 4) sc__law_entry.nd rfl (Or.inl rfl) (pe_op op_add pe_int (C8.pe_c c__law_draw hr (by decide) rfl (pa_cons (pv 0) (pa_cons pe_int pa_nil)))))
 (C8.pss_cut (ps_if (pt_cmpR op_eq (C8.pe_c c__law_draw hr (by decide) rfl (pa_cons (pv 0) (pa_cons pe_int pa_nil))) pe_int (nomark _))
 (pss_one (ps_set (i := 4) sc__law_entry.nd rfl (Or.inl rfl) (pe_op op_add pe_int (C8.pe_c c__law_draw hr (by decide) rfl (pa_cons (pv 0) (pa_cons pe_int pa_nil))))))
 pss_nil)
 (pss_one (ps_set (i := 2) sc__law_entry.nd rfl (Or.inl rfl) (pe_op op_catA (pv 2) (pe_tup (pa_cons (pe_joinG pe_str (pe_lc (own := [("j", 6)]) rfl sc__law_entry.nd (pi_range1 rfl T.z_range (pa_cons (pv 4) pa_nil)) (blkOk_by (N := ["row", "letters", "path", "k", "size", "kind", "j"]) (sc := defScope s__law_entry) (by decide +kernel)) (fun _ _ _ _ _ => (pg_name (i := 6) sc__law_entry.nd rfl (Or.inl rfl))) (fun _ _ _ _ _ => pts_nil) (fun _ _ _ _ _ => (pe_ix (r := rIxS) ix_str (pv 1) (C8.pe_c c__law_draw hr (by decide) rfl (pa_cons (pv 0) (pa_cons pe_int pa_nil))) (fun _ _ => rfl))))) pa_nil))))))))
 (pss_cons (ps_set (i := 5) sc__law_entry.nd rfl (Or.inl rfl) (C8.pe_c c__law_draw hr (by decide) rfl (pa_cons (pv 0) (pa_cons pe_int pa_nil))))
 (pss_cons (ps_if (pt_cmpR op_eq (pv 5) pe_int (nomark _))
 (pss_one (ps_ret (pe_tup (pa_cons (pv 2) (pa_cons pe_str (pa_cons (pe_op op_sub (pe_op op_pow pe_int pe_int) (C8.pe_c c__law_draw hr (by decide) rfl (pa_cons (pv 0) (pa_cons (pe_op op_add (pe_op op_mul pe_int (pe_op op_pow pe_int pe_int)) pe_int) pa_nil)))) pa_nil))))))
 pss_nil)
 (pss_cons (ps_if (pt_cmpR op_eq (pv 5) pe_int (nomark _))
 (pss_one (ps_ret (pe_tup (pa_cons (pv 2) (pa_cons pe_str (pa_cons pe_int pa_nil))))))
 pss_nil)
 (pss_one (ps_ret (pe_tup (pa_cons (pv 2) (pa_cons (pe_ix ix_tup (pe_tup (pa_cons pe_str (pa_cons pe_str pa_nil))) (pe_op op_sub (pv 5) pe_int) (fun _ _ => rfl)) (pa_cons (C8.pe_c c__law_item hr (by decide) rfl (pa_cons (pv 0) pa_nil)) pa_nil)))))))))))), ?_⟩
    walk_at "rd"
    refine ⟨szL rfl, fun p0 hp0 => ?_⟩
    walk_at "rd"
    refine r_for (r_rng1 ?_)
    walk_at "rd"
    refine ⟨szL rfl, fun p1 hp1 => ?_⟩
    walk_at "rd"
    have row0 := row.upd (o := .tup []) hp0
    have rowA := row0.upd (o := .tup [.int 0, .int 1, .int 1, .int 2, .int 3, .int 4]) hp1
    refine r_draw rowA (by decide) (by decide) fun d1 H1 l1 u1 f1 row1 => ?_
    have hT := f1 p1 _ (row0.ne_of hp1) upd_same
    have n01 : p0 ≠ p1 := fun z => by rw [← z, upd_same] at hp1; cases hp1
    have h0 : H1 p0 = some (.tup []) := f1 p0 _ (row.ne_of hp0) (by rw [upd_ne n01]; exact upd_same)
    have fA : Fr r H H1 := ((Fr.new hp0).trans (Fr.new hp1)).trans f1
    have hrow : H r ≠ none := row.ne
    have R0 : Rep K CC (fresh H H1) (.ref p0) (.tup []) := .tup (fresh_of hp0 h0) rfl (Nat.le_of_ble_eq_true rfl) fun i x d hx _ => by simp at hx
    obtain ⟨v, hv, e⟩ := atI_in (xs := [.int 0, .int 1, .int 1, .int 2, .int 3, .int 4]) l1 u1
    refine r_ixT hT e ?_
    walk_at "rd"
    obtain ⟨n, rfl, n0, n4⟩ : ∃ n : Int, v = .int n ∧ 0 ≤ n ∧ n ≤ 4 := by
      simp only [List.mem_cons, List.not_mem_nil, or_false] at hv
      rcases hv with rfl | rfl | rfl | rfl | rfl | rfl <;> exact ⟨_, rfl, by decide, by decide⟩
    refine ⟨n, rfl, by omega, by omega, ?_⟩
    refine go_range (fun i σ' H' => (∃ p ds u3 u4, σ' = [some (.ref r), some (.str loS), some (.ref p), u3, u4, none, none] ∧ Rep K CC (fresh H H') (.ref p) (.tup ds) ∧ ds.length = i ∧ ∃ ss : List Str, ds = ss.map D.str) ∧ Fr r H H' ∧ Row H' r) ⟨⟨p0, [], _, _, rfl, R0, rfl, [], rfl⟩, fA, row1⟩ ?_ ?_
    · rintro i x σ' H2 hi ⟨⟨p, ds, u3, u4, rfl, R, hlen, ss, hss⟩, f2, row2⟩ rfl
      walk_at "rd"
      refine r_draw row2 (by decide) (by decide) fun d3 H3 l3 u3 f3 row3 => ?_
      walk_at "rd"
      refine r_cut (fun σ' H' => ∃ c : Int, (∃ u3, σ' = [some (.ref r), some (.str loS), some (.ref p), u3, some (.int c), none, none]) ∧ 0 ≤ c ∧ c ≤ 12 ∧ Fr r H2 H' ∧ Row H' r) ?_ ?_
      · walk_at "rd"
        refine r_draw row3 (by decide) (by decide) fun d4 H4 l4 u4 f4 row4 => ?_
        walk_at "rd"
        refine ite2 (fun h => ?_) (fun h => ?_)
        · walk_at "rd"
          refine r_draw row4 (by decide) (by decide) fun d5 H5 l5 u5 f5 row5 => ?_
          walk_at "rd"
          exact ⟨_, ⟨_, rfl⟩, by omega, by omega, (f3.trans f4).trans f5, row5⟩
        · walk_at "rd"
          exact ⟨_, ⟨_, rfl⟩, by omega, by omega, f3.trans f4, row4⟩
      · rintro σ' H4 ⟨c, ⟨u3, rfl⟩, c0, c1, f4, row4⟩
        walk_at "rd"
        refine r_m1c (r_lc (r_rng1 ?_))
        walk_at "rd"
        refine ⟨_, rfl, by omega, by omega, ?_⟩
        refine r_rng (r := r) (by omega) row4 (fun _ y => ∃ c : Nat, okc c = true ∧ y = sg c) (fun _ _ _ _ h => h) (fun _ => rfl) ?_ ?_
        · intro i H5 f5 row5 Q5 q5
          walk_at "rd"
          refine r_draw row5 (by decide) (by decide) fun d6 H6 l6 u6 f6 row6 => ?_
          exact r_low l6 u6 fun c hc => q5 _ _ f6 row6 ⟨c, hc, rfl⟩
        · intro D H5 ys hylen hD f5 row5 hL hys
          obtain ⟨cs, rfl, hcs⟩ := signs_of hys
          rw [List.length_map] at hylen
          refine r_joinD hL (by omega) ?_
          walk_at "rd"
          refine ⟨szL rfl, fun p5 hp5 => ?_⟩
          have f25 := f2.trans (f4.trans f5)
          have R5 := R.mono (fresh_fr (Dom.refl H) hrow (f4.trans f5))
          have N := new_of (o := .tup [.str (SX.S cs)]) (f25.dom row5) hp5
          have R6 := R5.mono N.keep
          have f26 := f25.trans (Fr.new (o := .tup [.str (SX.S cs)]) hp5)
          have row6 := row5.upd (o := .tup [.str (SX.S cs)]) hp5
          have Rs : Rep K CC (fresh H (upd H5 p5 (.tup [.str (SX.S cs)]))) (.str (SX.S cs)) (.str (SX.S cs)) := .str _ (okS_S hcs (by omega))
          have at6 := N.at_
          have same6 := fresh_same H (upd H5 p5 (.tup [.str (SX.S cs)]))
          generalize upd H5 p5 (.tup [.str (SX.S cs)]) = H6 at *
          cases R6 with
          | @tup _ xs _ ha hl hs hi2 =>
          refine ⟨p, p5, xs, [.str (SX.S cs)], rfl, rfl, SqT.of (same6 _ _ ha), SqT.of (same6 _ _ at6), ?_, fun z => ?_, fun _ z => (nomatch z), fun z1 z2 p7 hp7 => ?_⟩
          · rw [List.length_singleton]
            exact sz1000 (by omega)
          · subst z
            have dnil : ds = [] := List.eq_nil_of_length_eq_zero hl.symm
            subst dnil
            refine ⟨⟨p5, [.str (SX.S cs)], _, _, rfl, .tup at6 rfl (Nat.le_of_ble_eq_true rfl) fun i x d hx hd => nest1 Rs hx hd, ?_, [SX.S cs], rfl⟩, f26, row6⟩
            rw [← hlen]
            rfl
          · have N7 := new_of (o := .tup (xs ++ [.str (SX.S cs)])) (f26.dom row6) hp7
            refine ⟨⟨p7, ds ++ [.str (SX.S cs)], _, _, rfl, .tup N7.at_ (by simp [hl]) (by simp; omega) fun i x d hx hd => (items_snoc hl hi2 Rs i x d hx hd).mono N7.keep, by simp [hlen], ss ++ [SX.S cs], by rw [hss, List.map_append]; rfl⟩, f26.trans (Fr.new hp7), row6.upd hp7⟩
    · rintro σ' H2 ⟨⟨p, ds, u3, u4, rfl, R, hlen, ss, hss⟩, f2, row2⟩
      walk_at "rd"
      refine r_draw row2 (by decide) (by decide) fun kd H3 l3 u3 f3 row3 => ?_
      have R3 := R.mono (fresh_fr (Dom.refl H) hrow f3)
      have f23 := f2.trans f3
      walk_at "rd"
      refine ite2 (fun g0 => ?_) (fun g0 => ?_)
      · walk_at "rd"
        refine r_draw row3 (by decide) (by decide) fun d4 H4 l4 u4 f4 row4 => ?_
        have f24 := f23.trans f4
        walk_at "rd"
        refine ⟨szL rfl, fun p5 hp5 => ?_⟩
        have N := new_of (o := .tup [.ref p, .str "amount", .int (1000000000000 - d4)]) (f24.dom row4) hp5
        exact q _ _ _ ⟨ss, _, _, by rw [← hss], .inl ⟨_, rfl⟩⟩ (f24.trans (Fr.new hp5)) (row4.upd hp5) (rep3 N.at_ ((R3.mono (fresh_fr (Dom.refl H) hrow f4)).mono N.keep) (.str _ okS_am) (.int _))
      · walk_at "rd"
        refine ite2 (fun h => ?_) (fun h => ?_)
        · walk_at "rd"
          refine ⟨szL rfl, fun p5 hp5 => ?_⟩
          have N := new_of (o := .tup [.ref p, .str "flag", .int 1]) (f23.dom row3) hp5
          exact q _ _ _ ⟨ss, _, _, by rw [← hss], .inl ⟨_, rfl⟩⟩ (f23.trans (Fr.new hp5)) (row3.upd hp5) (rep3 N.at_ (R3.mono N.keep) (.str _ okS_fl) (.int _))
        · have k0 : ¬ kd = 0 := fun z => g0 (decide_eq_true (congrArg V.int z))
          have k1 : ¬ kd = 1 := fun z => h (decide_eq_true (congrArg V.int z))
          walk_at "rd"
          refine ⟨szL rfl, fun p5 hp5 => ?_⟩
          walk_at "rd"
          have N := new_of (o := .tup [.str "value", .str "element"]) (f23.dom row3) hp5
          have f24 := f23.trans (Fr.new (o := .tup [.str "value", .str "element"]) hp5)
          have row4 := row3.upd (o := .tup [.str "value", .str "element"]) hp5
          have R4 := R3.mono N.keep
          obtain ⟨v, hv, e⟩ := atI_in (xs := [.str "value", .str "element"]) (d := kd - 2) (by omega) (by show kd - 2 < 2; omega)
          refine r_ixT upd_same e ?_
          walk_at "rd"
          generalize upd H3 p5 (.tup [.str "value", .str "element"]) = H4 at *
          refine ⟨r, rfl, row4, fun v2 d2 H5 o2 f5 row5 R5 => ?_⟩
          walk_at "rd"
          have f25 := f24.trans f5
          have Rv : ∀ Hx, ∃ dv : Str, Rep K CC Hx v (.str dv) := fun Hx => by
            simp only [List.mem_cons, List.not_mem_nil, or_false] at hv
            rcases hv with rfl | rfl
            · exact ⟨_, .str _ okS_va⟩
            · exact ⟨_, .str _ okS_el⟩
          refine ⟨szL rfl, fun p6 hp6 => ?_⟩
          have N6 := new_of (o := .tup [.ref p, v, v2]) (f25.dom row5) hp6
          obtain ⟨dv, Rv⟩ := Rv (fresh H (upd H5 p6 (.tup [.ref p, v, v2])))
          have sB : Same (fresh H4 H5) (fresh H H5) := fresh_step (f24.dom row4) fun b o _ q => q
          exact q _ _ _ ⟨ss, dv, d2, by rw [← hss], o2⟩ (f25.trans (Fr.new hp6)) (row5.upd hp6) (rep3 N6.at_ ((R4.mono (fresh_fr (Dom.refl H) hrow f5)).mono N6.keep) Rv ((R5.mono sB).mono N6.keep))
end
end RH
namespace RH
open PySem L2
local macro_rules | `(tactic| walk_at "tdc") => `(tactic| first | assumption | decide | omega | exact cmul_r (by decide) (by decide) | exact cmul_l (by decide) (by decide) | exact cpow (by decide) (by decide) (by decide) | exact cdiv (by decide) (by decide) | exact wide_div (b := 200) (by assumption) (by omega) (by decide) (by decide) | exact cmul_r (by omega) (by omega) | exact cmul_l (by omega) (by omega))
local macro_rules | `(tactic| walk_at "td1") => `(tactic| first
  | with_reducible apply r_op | ((with_reducible apply r_var); exact rfl) | with_reducible apply r_c | with_reducible apply r_cons | with_reducible apply r_nil | with_reducible apply r_I0
  | with_reducible apply r_seq | with_reducible apply r_asg | with_reducible apply r_name | with_reducible apply r_cb | with_reducible apply r_test | with_reducible apply r_k
  | with_reducible apply r_ifS | with_reducible apply r_call | with_reducible apply r_ret | ((with_reducible apply r_I); walk_at "tdc") | ((with_reducible apply r_eq); exact rfl) | ((with_reducible apply r_ne); exact rfl)
  | ((with_reducible apply r_ixL); walk_at "tdh"; exact rfl) | ((with_reducible apply r_ixT); walk_at "tdh"; exact rfl) | with_reducible apply r_sub | ((with_reducible apply r_setL); walk_at "tdh"; exact rfl)
  | with_reducible apply r_un | with_reducible apply r_U | with_reducible apply r_B | with_reducible apply r_and | with_reducible apply r_or | with_reducible apply r_not
  | with_reducible apply r_andV | with_reducible apply r_orV | with_reducible apply r_notV | with_reducible apply r_if | with_reducible apply r_tup | with_reducible apply r_lst
  | ((with_reducible apply r_ixgT); walk_at "tdh"; exact rfl) | ((with_reducible apply r_ixgL); walk_at "tdh"; exact rfl)
  | with_reducible apply r_next | with_reducible apply r_drop | with_reducible apply r_int1 | with_reducible apply r_chain | with_reducible apply r_ord | with_reducible apply r_abs | with_reducible apply r_min2 | with_reducible apply r_max2
  | with_reducible apply r_leStr | with_reducible apply r_inSign | with_reducible apply r_notInSign | ((with_reducible apply r_isTy); assumption) | ((with_reducible apply r_notTy); assumption)
  | ((with_reducible apply r_lenL); walk_at "tdh") | ((with_reducible apply r_lenT); walk_at "tdh")
  | ((with_reducible apply r_fldV); exact rfl; walk_at "tdh"; assumption; assumption; exact rfl) | with_reducible apply r_bmG | with_reducible apply r_bm0G | with_reducible apply r_isN | with_reducible apply r_notN | with_reducible apply r_prop | ((with_reducible apply r_prX); walk_at "tdh") | with_reducible apply r_fld | ((apply r_fldX); walk_at "tdh"; assumption; assumption; exact rfl; walk_at "tdi") | with_reducible apply r_mtE | with_reducible apply r_cS | (refine r_gtup (SqT.of (by walk_at "tdh")) rfl ?_) | with_reducible apply r_gcons | with_reducible apply r_gnil | with_reducible apply r_sta | with_reducible apply r_staX | with_reducible apply r_mtG | ((with_reducible apply r_mtX); walk_at "tdh"; exact rfl) | with_reducible apply r_par2 | with_reducible apply r_par3 | ((with_reducible apply r_tyL); walk_at "tdh")
  | refine Rep.typ (by assumption) (fun _ _ => ?_) | refine r_isi (by assumption) (by assumption) (by decide) ?_)
local macro_rules | `(tactic| walk_at "td") => `(tactic| repeat walk_at "td1")
local macro_rules | `(tactic| walk_at "tdf") => `(tactic| (generalize hu : upd _ _ (.lst (_ ++ [_])) = H2; have f := fr_gen hu; have a := at_gen hu; clear hu))
local macro_rules | `(tactic| walk_at "tds") => `(tactic| (generalize hu : upd _ _ (.lst (List.set _ _ _)) = H2; have f := fr_gen hu; have a := at_gen hu; clear hu))
local macro_rules | `(tactic| walk_at "tdev") => `(tactic| first | exact ev_int _ | exact ev_bl _ | exact ev_non | exact ev_str _ (by decide +kernel) | assumption | (refine ev_tup (by walk_at "tdh") ?_; walk_at "tdall") | (refine Ev.mono (by assumption) ?_; walk_at "tdtk"))
local macro_rules | `(tactic| walk_at "tdall") => `(tactic| first | exact allN | (refine List.forall_mem_cons.mpr ⟨?_, ?_⟩; walk_at "tdev"; walk_at "tdall"))
local macro_rules | `(tactic| walk_at "tdn") => `(tactic| (refine ⟨szL rfl, fun p hp => ?_⟩; generalize hu : upd _ p _ = H2; have s := same_gen hu hp; have a := at_gen hu; clear hu))
local macro_rules | `(tactic| walk_at "tdt") => `(tactic| repeat (first | walk_at "td1" | walk_at "tdn" | walk_at "tdm"))
local macro_rules | `(tactic| walk_at "tdg") => `(tactic| (intro p hp; generalize hu : upd _ p _ = H2; have s := same_gen hu hp; have a := at_gen hu; clear hu))
local macro_rules | `(tactic| walk_at "tdh") => `(tactic| first | assumption | exact upd_same | (rw [upd_ne (by assumption)]; assumption) | (rw [upd_ne (Ne.symm (by assumption))]; assumption) | (apply same_step; assumption; walk_at "tdh") | (apply fr_step; assumption; walk_at "tdne"; walk_at "tdh") | (apply fr_stepK; assumption; walk_at "tdh"; walk_at "tdh"; (intro z; cases z)))
local macro_rules | `(tactic| walk_at "tdne") => `(tactic| first | assumption | exact Ne.symm (by assumption) | (apply ne_noneX; assumption; walk_at "tdh") | (apply Ne.symm; apply ne_noneX; assumption; walk_at "tdh"))
local macro_rules | `(tactic| walk_at "tdsm") => `(tactic| first | assumption | exact Same.refl _ | (apply same_chain; assumption; walk_at "tdsm") | (apply same_frX; assumption; walk_at "tdsm"; walk_at "tdno"))
local macro_rules | `(tactic| walk_at "tdno") => `(tactic| first | assumption | (apply none_backX; assumption; walk_at "tdsm"))
local macro_rules | `(tactic| walk_at "tdtk") => `(tactic| first | assumption | exact TuK.refl _ | (apply tuk_same; assumption; walk_at "tdtk") | (apply tuk_fr; assumption; walk_at "tdh"; walk_at "tdtk") | (apply tuk_frI; assumption; walk_at "tdh"; walk_at "tdtk"))
local macro_rules | `(tactic| walk_at "tdi") => `(tactic| (generalize hu : upd _ _ (.ins _ _ (putF _ _ _)) = H2; have f := fr_gen hu; have a := at_gen hu; clear hu))
local macro_rules | `(tactic| walk_at "tdrp") => `(tactic| first | exact .int _ | exact .bl _ | exact .non | exact .str _ (by assumption) | exact .str _ (okS_of (by decide +kernel)) | assumption | (apply rep_monoX; assumption; walk_at "tdsm") | (apply rep_tupA; walk_at "tdh"; walk_at "tdrpa"; first | exact leB rfl | assumption) | (apply rep_lstA; walk_at "tdh"; walk_at "tdrpa"; first | exact leB rfl | assumption) | exact .dct (by walk_at "tdh"))
local macro_rules | `(tactic| walk_at "tdrpa") => `(tactic| first | exact .nil | (apply RepAll.mono; assumption; walk_at "tdsm") | (apply RepAll.cons; walk_at "tdrp"; walk_at "tdrpa"))
local macro_rules | `(tactic| walk_at "tdm") => `(tactic| first | ((with_reducible apply r_catT); walk_at "tdh"; walk_at "tdh"; exact List.cons_ne_nil _ _; exact List.cons_ne_nil _ _; exact szL rfl; walk_at "tdg") | ((with_reducible apply r_listTU); walk_at "tdh"; walk_at "tdg") | ((with_reducible apply r_listL); walk_at "tdh"; walk_at "tdg") | ((with_reducible apply r_dnew); walk_at "tdg") | with_reducible apply r_slice | with_reducible apply r_nopart | with_reducible apply r_part | with_reducible apply r_pI | ((with_reducible apply r_slT); walk_at "tdh"; exact of_decide_eq_false rfl; walk_at "tdg") | ((with_reducible apply r_slL); walk_at "tdh"; walk_at "tdg"))
local macro_rules | `(tactic| walk_at "tdd") => `(tactic| (generalize hu : upd _ _ (.dK _) = H2; have f := fr_gen hu; have a := at_gen hu; clear hu))
local macro_rules | `(tactic| walk_at "tdk") => `(tactic| repeat (first | walk_at "td1" | walk_at "tdn" | walk_at "tdm" | ((with_reducible apply r_disp); walk_at "tdg") | with_reducible apply r_pcons | with_reducible apply r_pnil | with_reducible apply r_dputW | (apply r_dputZ; walk_at "tdh"; exact rfl; decide; decide +kernel; walk_at "tdd") | with_reducible apply r_dget))

section
variable {P : Program} {w : World} {K : PySem.W.Frag} {mg : Str → Option Value} {base : Heap} {CC : Addr → Prop}
theorem ok__law_things {f : Addr} {fd : FuncData} (F : Fun K "_law_things" "_law_things" s__law_things f fd) (T : Txt K mg) (c__law_open : C8.Cal P w K mg base 1 "_law_open" (sp_open K) []) (c__law_draw : C8.Cal P w K mg base 1 "_law_draw" sp_draw []) (c__law_number : C8.Cal P w K mg base 2 "_law_number" spNumR []) (c__law_dot : C8.Cal P w K mg base 2 "_law_dot" spDotR []) (c__law_entry : C8.Cal P w K mg base 3 "_law_entry" (sp_thing K CC EntD) []) : FnOk P w K mg base CX0 4 f fd ["script", "most"] (spThings K CC) := by
  refine F.ok sc__law_things (fun vs H Q E h => ?_) (fun cdv A outer s H vs Q E hr h => ?_)
  · obtain ⟨a, ns, n, rfl, _⟩ := h
    rfl
  · obtain ⟨a, ns, n, rfl, hS, ln, n0, n30, q⟩ := h
    refine ⟨_, (pss_cons (ps_set (i := 2) sc__law_things.nd rfl (Or.inr rfl) (C8.pe_c c__law_open hr (by decide) rfl (pa_cons (pv 0) (pa_cons pe_int pa_nil))))
 (pss_cons (ps_setLc (i := 3) (own := [("k", 9)]) rfl sc__law_things.nd rfl rfl (sw_true rfl rfl rfl (by decide +kernel)) (pi_range1 rfl T.z_range (pa_cons (pe_op op_add pe_int (C8.pe_c c__law_draw hr (by decide) rfl (pa_cons (pv 2) (pa_cons pe_int pa_nil)))) pa_nil)) (blkOk_by (sc := defScope s__law_things) (N := ["script", "most", "row", "clients", "things", "dots", "place", "spot", "dot", "k"]) (by decide +kernel)) (fun _ _ _ _ _ => (pg_name (i := 9) sc__law_things.nd rfl (Or.inl rfl))) (fun _ _ _ _ _ => pts_nil) (fun _ _ _ _ _ => (C8.pe_c c__law_number hr (by decide) rfl (pa_cons (pv 2) pa_nil))))
 (pss_cons (ps_set (i := 4) sc__law_things.nd rfl (Or.inl rfl) (pe_lst pa_nil))
 (pss_cons (ps_set (i := 5) sc__law_things.nd rfl (Or.inl rfl) pe_dnewT)
 (pss_cons (ps_for PassesOwn.never rfl (pi_range2 rfl T.z_range (pa_cons pe_int (pa_cons (pe_op op_add (pe_op op_add pe_int (C8.pe_c c__law_draw hr (by decide) rfl (pa_cons (pv 2) (pa_cons pe_int pa_nil)))) (pe_callB (call_min2G rfl) rfl T.z_min (by decide +kernel) (pa_cons (pe_callB call_lenG rfl T.z_len (by decide +kernel) (pa_cons (pv 0) pa_nil)) (pa_cons (pv 1) pa_nil)))) pa_nil))) (pg_name (i := 6) sc__law_things.nd rfl (Or.inl rfl))
 (pss_cons (ps_set (i := 7) sc__law_things.nd rfl (Or.inl rfl) (C8.pe_c c__law_open hr (by decide) rfl (pa_cons (pv 0) (pa_cons (pv 6) pa_nil))))
 (pss_cons (ps_set (i := 8) sc__law_things.nd rfl (Or.inl rfl) (C8.pe_c c__law_dot hr (by decide) rfl (pa_cons (pv 7) (pa_cons (pv 3) pa_nil))))
 (pss_one (ps_if (pt_cmp (pc_dnotin (hu1 hr) (pv 8) (pv 5)))
 (pss_cons (ps_dput (hu1 hr) (pv 5) (pv 8) pe_bl rfl)
 (pss_one (ps_expr (pe_bm PySem.F.plainAttrs_list PySem.F.slot_list_append PySem.F.type_list_append mt_append (pv 4) (pa_cons (pe_tup (pa_cons (pv 8) (pa_cons (C8.pe_c c__law_entry hr (by decide) rfl (pa_cons (pv 7) pa_nil)) pa_nil))) pa_nil)))))
 pss_nil)))))
 (pss_one (ps_ret (pv 4)))))))), ?_⟩
    walk_at "td"
    refine ⟨a, ns, 0, rfl, hS, ln, fun r H1 nr s1 row1 => ?_⟩
    walk_at "td"
    refine r_lc ?_
    refine r_rng1 ?_
    walk_at "td"
    refine r_draw row1 (by decide) (by decide) fun d4 H4 l4 u4 f4 row4 => ?_
    walk_at "td"
    refine ⟨_, rfl, by omega, by omega, fun D hD => ?_⟩
    refine lc_R (walk_range (lo := 0)) (Y' := fun i x => x = .int (0 + (i : Nat))) (fun i H x H' y => y) (fun i H v => ∃ n : Int, v = .int n ∧ 0 ≤ n ∧ n ≤ lim12) (fun i H H' v h _ => h) (by omega) hD row4 (fun _ _ => trivial) ?_ ?_
    · rintro i x H5 ys hi rfl f5 row5 aD Q5 q5
      refine r_name ⟨rfl, ?_⟩
      walk_at "td"
      exact ⟨r, rfl, row5, fun i H6 f6 row6 i0 i1 => q5 _ _ f6 row6 ⟨i, rfl, i0, i1⟩⟩
    · intro H5 xs f5 row5 aD lx px
      obtain ⟨cs, rfl⟩ := ints_of fun i v h => (px i v h).imp fun n z => z.1
      have csB : ∀ c ∈ cs, 0 ≤ c ∧ c ≤ lim12 := fun c m => by
        obtain ⟨i, hi, e⟩ := List.mem_iff_getElem.mp m
        obtain ⟨n, en, z⟩ := px i (.int c) (by rw [List.getElem?_map, List.getElem?_eq_getElem hi, e]; rfl)
        cases en
        exact z
      rw [List.length_map] at lx
      have nDr : D ≠ r := fun z => row4.ne (z ▸ hD)
      have f15 : Fr r H1 H5 := f4.trans f5
      have s5 : Same H H5 := fun b o z => f15 _ _ (ne_of_none z nr) (s1 _ _ z)
      walk_at "td"
      refine ⟨szL rfl, fun l hl => ?_⟩
      generalize hu : upd H5 l _ = H6
      have s6 := same_gen hu hl
      have al : H6 l = some (.lst []) := at_gen hu
      clear hu
      have row6 := row5.keep s6
      have nlr : l ≠ r := fun z => row5.ne (z ▸ hl)
      have nlD : D ≠ l := ne_of_none aD hl
      have aD6 := s6 _ _ aD
      have s06 := s5.trans s6
      have lH : H l = none := s5.free hl
      walk_at "td"
      refine r_dnewT fun dd hdd => ?_
      generalize hu : upd H6 dd _ = H6b
      have s6b := same_gen hu hdd
      have add : H6b dd = some (.dT []) := at_gen hu
      clear hu
      have row6b := row6.keep s6b
      have nddr : dd ≠ r := fun z => row6.ne (z ▸ hdd)
      have al6b := s6b _ _ al
      have aD6b := s6b _ _ aD6
      have nDd : D ≠ dd := ne_of_none aD6 hdd
      have nld : l ≠ dd := ne_of_none al hdd
      have s06b := s06.trans s6b
      have dH : H dd = none := s06.free hdd
      walk_at "td"
      refine r_for (r_rng2V ?_)
      walk_at "td"
      refine r_draw row6b (by decide) (by decide) fun d7 H7 l7 u7 f7 row7 => ?_
      walk_at "td"
      have s07 : Same H H7 := fun b o z => f7 _ _ (ne_of_none z nr) (s06b _ _ z)
      refine r_lenQ (s07.seq hS) ?_
      walk_at "td"
      rw [List.length_map]
      obtain ⟨m, hm, m40⟩ : ∃ m : Nat, (2 + d7 + if n < (ns.length : Int) then n else (ns.length : Int)) = (2 + m : Int) ∧ m ≤ 38 := by
        by_cases z : n < (ns.length : Int)
        · rw [if_pos z]
          exact ⟨(d7 + n).toNat, by omega, by omega⟩
        · rw [if_neg z]
          exact ⟨(d7 + ns.length).toNat, by omega, by omega⟩
      rw [hm]
      refine ⟨2, 2 + m, rfl, ⟨by omega, by omega, by omega, by omega⟩, ?_⟩
      rw [show ((2 + m : Int) - 2).toNat = m by omega]
      have al7 := f7 _ _ nlr al6b
      have aD7 := f7 _ _ nDr aD6b
      have add7 := f7 _ _ nddr add
      refine go_range (fun i σ' H' => ∃ u6 u7 u8 xs kvs ps, σ' = [some (.ref a), some (.int n), some (.ref r), some (.ref D), some (.ref l), some (.ref dd), u6, u7, u8, none] ∧ (∀ b o, b ≠ l → b ≠ dd → H7 b = some o → H' b = some o) ∧ H' l = some (.lst xs) ∧ H' dd = some (.dT kvs) ∧ kvs.map (·.1) = (ps.map (·.1)).map pk2 ∧ PrsT K CC H' xs ps ∧ ThOk ps ∧ xs.length ≤ i)
        ⟨_, _, _, [], [], [], rfl, (fun b o _ _ e => e), al7, add7, rfl, .nil, ⟨.nil, (fun _ m => nomatch m), (fun _ m => nomatch m), (fun _ m => nomatch m)⟩, Nat.le_refl _⟩ ?_ ?_
      · rintro i x σ' H8 hi ⟨u6, u7, u8, xs, kvs, ps, rfl, f8, al8, add8, ek, hP, ok, lx8⟩ rfl
        have s08 : Same H H8 := fun b o z => f8 _ _ (ne_of_none z lH) (ne_of_none z dH) (s07 _ _ z)
        have aD8 := f8 _ _ nlD nDd aD7
        have lps : xs.length = ps.length := Paired.length hP
        have lkv : kvs.length = ps.length := by
          have := congrArg List.length ek
          rw [List.length_map, List.length_map, List.length_map] at this
          exact this
        walk_at "td"
        refine ⟨a, ns, _, rfl, s08.seq hS, ln, fun r2 H9 nr2 s9 row9 => ?_⟩
        have nD2 : D ≠ r2 := ne_of_none aD8 nr2
        have nl2 : l ≠ r2 := ne_of_none al8 nr2
        have nd2 : dd ≠ r2 := ne_of_none add8 nr2
        walk_at "td"
        refine ⟨r2, D, cs, rfl, row9, nD2, s9 _ _ aD8, by omega, by omega, fun t cl j H10 f10 row10 npr np hp mc j1 j2 => ?_⟩
        have s810 : Same H8 H10 := Fr.same nr2 s9 f10
        have al10 := s810 _ _ al8
        have add10 := s810 _ _ add8
        have hP10 := hP.keep (TuK.of s810)
        walk_at "td"
        refine r_dninK ?_
        walk_at "td"
        refine ⟨dd, _, rfl, DGet.t (k := pk2 (cl, j)) add10 hp, ?_⟩
        refine ⟨_, rfl, ?_⟩
        by_cases z : (cl, j) ∈ ps.map (·.1)
        · have hv : (valV kvs (pk2 (cl, j))).isSome = true := by
            rw [← valV_any]
            refine List.any_eq_true.mpr ?_
            have m2 : pk2 (cl, j) ∈ kvs.map (·.1) := by rw [ek]; exact List.mem_map.mpr ⟨_, z, rfl⟩
            obtain ⟨kv, mk, e⟩ := List.mem_map.mp m2
            exact ⟨kv, mk, decide_eq_true e⟩
          rw [hv]
          refine iteN rfl ?_
          walk_at "td"
          exact ⟨_, _, _, xs, kvs, ps, rfl, fun b o n1 n2 e => s810 _ _ (f8 b o n1 n2 e), al10, add10, ek, hP10, ok, by omega⟩
        · have nk : ¬ pk2 (cl, j) ∈ kvs.map (·.1) := by
            rw [ek]
            intro m2
            obtain ⟨d', m', e⟩ := List.mem_map.mp m2
            rw [pk2_inj e] at m'
            exact z m'
          have hv : valV kvs (pk2 (cl, j)) = none := valT_none nk
          rw [hv]
          refine iteP rfl ?_
          walk_at "td"
          refine r_dput ?_
          walk_at "td"
          refine ⟨dd, _, rfl, DPut.t (k := pk2 (cl, j)) add10 hp (by rw [sizeLine_eq]; omega), ?_⟩
          rw [put_new nk]
          generalize hu : upd H10 dd _ = H11
          have f11 := fr_gen hu
          have add11 := at_gen hu
          clear hu
          have nld' : l ≠ dd := nld
          have al11 := f11 _ _ nld al10
          have ntd : t ≠ dd := fun w => by
            rw [w, add10] at hp
            cases hp
          have hp11 := f11 _ _ ntd hp
          have row11 : Row H11 r2 := by obtain ⟨x1, x2, x3, e⟩ := row10; exact ⟨x1, x2, x3, f11 _ _ nd2.symm e⟩
          walk_at "td"
          refine ⟨r2, rfl, row11, fun v d H12 o12 f12 row12 R12 => ?_⟩
          have al12 := f12 _ _ nl2 al11
          have add12 := f12 _ _ nd2 add11
          have hp12 := f12 _ _ npr hp11
          walk_at "tdt"
          rename_i p13 hp13 H13 s13 a13
          have al13 := s13 _ _ al12
          refine r_append al13 (small1000 (by omega)) ?_
          have k1 : TuK H10 H11 := fun b ys e => f11 _ _ (fun w => by rw [w, add10] at e; cases e) e
          have k2 : TuK H11 H12 := fun b ys e => f12 _ _ (row_tup_ne row11 e) e
          have k4 : TuK H13 (upd H13 l (.lst (xs ++ [.ref p13]))) := TuK.put al13
          have kT := (k2.trans (TuK.of s13)).trans k4
          have k24 : TuK H12 (upd H13 l (.lst (xs ++ [.ref p13]))) := (TuK.of s13).trans k4
          have R14 : Rep K CC (Tu (upd H13 l (.lst (xs ++ [.ref p13])))) v d := (tree_tu (R12.mono (fresh_same _ _)) (ent_tree o12)).mono k24.tu
          refine ⟨_, _, _, xs ++ [.ref p13], kvs ++ [(pk2 (cl, j), .bl true)], ps ++ [((cl, j), d)], rfl, fun b o n1 n2 e => ?_, upd_same, ?_, ?_, ?_, ⟨?_, fun p mp => ?_, fun p mp => ?_, fun p mp => ?_⟩, by rw [List.length_append, List.length_singleton]; omega⟩
          · have e8 := f8 b o n1 n2 e
            rw [upd_ne n1]
            exact s13 _ _ (f12 _ _ (ne_of_none e8 nr2) (f11 _ _ n2 (s810 _ _ e8)))
          · rw [upd_ne nld.symm]
            exact s13 _ _ add12
          · rw [List.map_append, List.map_append, List.map_append, ek]
            rfl
          · exact (hP10.keep (k1.trans kT)).snoc ⟨p13, t, v, rfl, tu_at (k4 _ _ a13), tu_at (k24 _ _ hp12), R14⟩
          · rw [List.map_append]
            refine List.nodup_append.mpr ⟨ok.nd, List.nodup_cons.mpr ⟨(fun m => nomatch m), List.nodup_nil⟩, fun x hx y hy e => z ?_⟩
            rw [List.map_singleton, List.mem_singleton] at hy
            rw [e, hy] at hx
            exact hx
          · rcases List.mem_append.mp mp with mp | mp
            · exact ok.en p mp
            · rw [List.mem_singleton.mp mp]
              exact o12
          · rcases List.mem_append.mp mp with mp | mp
            · exact ok.cl p mp
            · rw [List.mem_singleton.mp mp]
              exact csB cl mc
          · rcases List.mem_append.mp mp with mp | mp
            · exact ok.nu p mp
            · rw [List.mem_singleton.mp mp]
              exact ⟨j1, j2⟩
      · rintro σ' H8 ⟨u6, u7, u8, xs, kvs, ps, rfl, f8, al8, add8, ek, hP, ok, lx8⟩
        walk_at "td"
        exact q l xs ps H8 (fun b o z => f8 _ _ (ne_of_none z lH) (ne_of_none z dH) (s07 _ _ z)) lH al8 hP ok (by omega)
end
end RH
namespace RH
open PySem L2 ItX
local macro_rules | `(tactic| walk_at "tdc") => `(tactic| first | assumption | decide | omega | exact cmul_r (by decide) (by decide) | exact cmul_l (by decide) (by decide) | exact cpow (by decide) (by decide) (by decide) | exact cdiv (by decide) (by decide) | exact wide_div (b := 200) (by assumption) (by omega) (by decide) (by decide) | exact cmul_r (by omega) (by omega) | exact cmul_l (by omega) (by omega))
local macro_rules | `(tactic| walk_at "td1") => `(tactic| first
  | with_reducible apply r_op | ((with_reducible apply r_var); exact rfl) | with_reducible apply r_c | with_reducible apply r_cons | with_reducible apply r_nil | with_reducible apply r_I0
  | with_reducible apply r_seq | with_reducible apply r_asg | with_reducible apply r_name | with_reducible apply r_cb | with_reducible apply r_test | with_reducible apply r_k
  | with_reducible apply r_ifS | with_reducible apply r_call | with_reducible apply r_ret | ((with_reducible apply r_I); walk_at "tdc") | ((with_reducible apply r_eq); exact rfl) | ((with_reducible apply r_ne); exact rfl)
  | ((with_reducible apply r_ixL); walk_at "tdh"; exact rfl) | ((with_reducible apply r_ixT); walk_at "tdh"; exact rfl) | with_reducible apply r_sub | ((with_reducible apply r_setL); walk_at "tdh"; exact rfl)
  | with_reducible apply r_un | with_reducible apply r_U | with_reducible apply r_B | with_reducible apply r_and | with_reducible apply r_or | with_reducible apply r_not
  | with_reducible apply r_andV | with_reducible apply r_orV | with_reducible apply r_notV | with_reducible apply r_if | with_reducible apply r_tup | with_reducible apply r_lst
  | ((with_reducible apply r_ixgT); walk_at "tdh"; exact rfl) | ((with_reducible apply r_ixgL); walk_at "tdh"; exact rfl)
  | with_reducible apply r_next | with_reducible apply r_drop | with_reducible apply r_int1 | with_reducible apply r_chain | with_reducible apply r_ord | with_reducible apply r_abs | with_reducible apply r_min2 | with_reducible apply r_max2
  | with_reducible apply r_leStr | with_reducible apply r_inSign | with_reducible apply r_notInSign | ((with_reducible apply r_isTy); assumption) | ((with_reducible apply r_notTy); assumption)
  | ((with_reducible apply r_lenL); walk_at "tdh") | ((with_reducible apply r_lenT); walk_at "tdh")
  | ((with_reducible apply r_fldV); exact rfl; walk_at "tdh"; assumption; assumption; exact rfl) | with_reducible apply r_bmG | with_reducible apply r_bm0G | with_reducible apply r_isN | with_reducible apply r_notN | with_reducible apply r_prop | ((with_reducible apply r_prX); walk_at "tdh") | with_reducible apply r_fld | ((apply r_fldX); walk_at "tdh"; assumption; assumption; exact rfl; walk_at "tdi") | with_reducible apply r_mtE | with_reducible apply r_cS | (refine r_gtup (SqT.of (by walk_at "tdh")) rfl ?_) | with_reducible apply r_gcons | with_reducible apply r_gnil | with_reducible apply r_sta | with_reducible apply r_staX | with_reducible apply r_mtG | ((with_reducible apply r_mtX); walk_at "tdh"; exact rfl) | with_reducible apply r_par2 | with_reducible apply r_par3 | ((with_reducible apply r_tyL); walk_at "tdh")
  | refine Rep.typ (by assumption) (fun _ _ => ?_) | refine r_isi (by assumption) (by assumption) (by decide) ?_)
local macro_rules | `(tactic| walk_at "td") => `(tactic| repeat walk_at "td1")
local macro_rules | `(tactic| walk_at "tdf") => `(tactic| (generalize hu : upd _ _ (.lst (_ ++ [_])) = H2; have f := fr_gen hu; have a := at_gen hu; clear hu))
local macro_rules | `(tactic| walk_at "tds") => `(tactic| (generalize hu : upd _ _ (.lst (List.set _ _ _)) = H2; have f := fr_gen hu; have a := at_gen hu; clear hu))
local macro_rules | `(tactic| walk_at "tdev") => `(tactic| first | exact ev_int _ | exact ev_bl _ | exact ev_non | exact ev_str _ (by decide +kernel) | assumption | (refine ev_tup (by walk_at "tdh") ?_; walk_at "tdall") | (refine Ev.mono (by assumption) ?_; walk_at "tdtk"))
local macro_rules | `(tactic| walk_at "tdall") => `(tactic| first | exact allN | (refine List.forall_mem_cons.mpr ⟨?_, ?_⟩; walk_at "tdev"; walk_at "tdall"))
local macro_rules | `(tactic| walk_at "tdn") => `(tactic| (refine ⟨szL rfl, fun p hp => ?_⟩; generalize hu : upd _ p _ = H2; have s := same_gen hu hp; have a := at_gen hu; clear hu))
local macro_rules | `(tactic| walk_at "tdt") => `(tactic| repeat (first | walk_at "td1" | walk_at "tdn" | walk_at "tdm"))
local macro_rules | `(tactic| walk_at "tdg") => `(tactic| (intro p hp; generalize hu : upd _ p _ = H2; have s := same_gen hu hp; have a := at_gen hu; clear hu))
local macro_rules | `(tactic| walk_at "tdh") => `(tactic| first | assumption | exact upd_same | (rw [upd_ne (by assumption)]; assumption) | (rw [upd_ne (Ne.symm (by assumption))]; assumption) | (apply same_step; assumption; walk_at "tdh") | (apply fr_step; assumption; walk_at "tdne"; walk_at "tdh") | (apply fr_stepK; assumption; walk_at "tdh"; walk_at "tdh"; (intro z; cases z)))
local macro_rules | `(tactic| walk_at "tdne") => `(tactic| first | assumption | exact Ne.symm (by assumption) | (apply ne_noneX; assumption; walk_at "tdh") | (apply Ne.symm; apply ne_noneX; assumption; walk_at "tdh"))
local macro_rules | `(tactic| walk_at "tdsm") => `(tactic| first | assumption | exact Same.refl _ | (apply same_chain; assumption; walk_at "tdsm") | (apply same_frX; assumption; walk_at "tdsm"; walk_at "tdno"))
local macro_rules | `(tactic| walk_at "tdno") => `(tactic| first | assumption | (apply none_backX; assumption; walk_at "tdsm"))
local macro_rules | `(tactic| walk_at "tdtk") => `(tactic| first | assumption | exact TuK.refl _ | (apply tuk_same; assumption; walk_at "tdtk") | (apply tuk_fr; assumption; walk_at "tdh"; walk_at "tdtk") | (apply tuk_frI; assumption; walk_at "tdh"; walk_at "tdtk"))
local macro_rules | `(tactic| walk_at "tdi") => `(tactic| (generalize hu : upd _ _ (.ins _ _ (putF _ _ _)) = H2; have f := fr_gen hu; have a := at_gen hu; clear hu))
local macro_rules | `(tactic| walk_at "tdrp") => `(tactic| first | exact .int _ | exact .bl _ | exact .non | exact .str _ (by assumption) | exact .str _ (okS_of (by decide +kernel)) | assumption | (apply rep_monoX; assumption; walk_at "tdsm") | (apply rep_tupA; walk_at "tdh"; walk_at "tdrpa"; first | exact leB rfl | assumption) | (apply rep_lstA; walk_at "tdh"; walk_at "tdrpa"; first | exact leB rfl | assumption) | exact .dct (by walk_at "tdh"))
local macro_rules | `(tactic| walk_at "tdrpa") => `(tactic| first | exact .nil | (apply RepAll.mono; assumption; walk_at "tdsm") | (apply RepAll.cons; walk_at "tdrp"; walk_at "tdrpa"))
local macro_rules | `(tactic| walk_at "tdm") => `(tactic| first | ((with_reducible apply r_catT); walk_at "tdh"; walk_at "tdh"; exact List.cons_ne_nil _ _; exact List.cons_ne_nil _ _; exact szL rfl; walk_at "tdg") | ((with_reducible apply r_listTU); walk_at "tdh"; walk_at "tdg") | ((with_reducible apply r_listL); walk_at "tdh"; walk_at "tdg") | ((with_reducible apply r_dnew); walk_at "tdg") | with_reducible apply r_slice | with_reducible apply r_nopart | with_reducible apply r_part | with_reducible apply r_pI | ((with_reducible apply r_slT); walk_at "tdh"; exact of_decide_eq_false rfl; walk_at "tdg") | ((with_reducible apply r_slL); walk_at "tdh"; walk_at "tdg"))
local macro_rules | `(tactic| walk_at "tdd") => `(tactic| (generalize hu : upd _ _ (.dK _) = H2; have f := fr_gen hu; have a := at_gen hu; clear hu))
local macro_rules | `(tactic| walk_at "tdk") => `(tactic| repeat (first | walk_at "td1" | walk_at "tdn" | walk_at "tdm" | ((with_reducible apply r_disp); walk_at "tdg") | with_reducible apply r_pcons | with_reducible apply r_pnil | with_reducible apply r_dputW | (apply r_dputZ; walk_at "tdh"; exact rfl; decide; decide +kernel; walk_at "tdd") | with_reducible apply r_dget))

section
variable {P : Program} {w : World} {K : PySem.W.Frag} {mg : Str → Option Value} {base : Heap} {CC : Addr → Prop}
theorem ok__law_same {f : Addr} {fd : FuncData} (F : Fun K "_law_same" "_law_same" s__law_same f fd) (T : Txt K mg) (hC : ∀ C, CC C → ClsI K C) (r__law_same : Rec K mg "_law_same" f fd ["actual", "due"]) : FnOk P w K mg base CX0 7 f fd ["actual", "due"] (spSame K CC 6) := by
  have go : ∀ n, FnOk P w K mg base CX0 n f fd ["actual", "due"] (spSm K CC n) := by
    intro n
    induction n with
    | zero => exact fnok_bot
    | succ n ih =>
      have c__law_same := r__law_same.cal ih
      refine F.ok sc__law_same (fun vs H Q E h => ?_) (fun cdv A outer s H vs Q E hr h => ?_)
      · obtain ⟨v, u, d, rfl, _⟩ := h
        rfl
      · obtain ⟨v, u, d, rfl, Rv, Ru, tree, q⟩ := h
        refine ⟨_, (pss_cons (ps_if (pt_val (pe_callB call_isi rfl T.z_isinstance (by decide +kernel) (pa_cons (pv 1) (pa_cons (pe_bltn (v := .ty "tuple") (u := .type "tuple") rfl T.z_tuple (by decide +kernel) rfl) pa_nil))))
 (pss_cons (ps_if (PW.pt (pw_or (pt_not (pt_val (pe_callB call_isi rfl T.z_isinstance (by decide +kernel) (pa_cons (pv 0) (pa_cons (pe_bltn (v := .ty "tuple") (u := .type "tuple") rfl T.z_tuple (by decide +kernel) rfl) pa_nil))))) (pw_or1 (pt_cmpR op_ne (pe_callB call_lenG rfl T.z_len (by decide +kernel) (pa_cons (pv 0) pa_nil)) (pe_callB call_lenG rfl T.z_len (by decide +kernel) (pa_cons (pv 1) pa_nil)) (nomark _)))))
 (pss_one (ps_ret pe_bl))
 pss_nil)
 (pss_cons (ps_for PassesOwn.never rfl (pi_range1 rfl T.z_range (pa_cons (pe_callB call_lenG rfl T.z_len (by decide +kernel) (pa_cons (pv 1) pa_nil)) pa_nil)) (pg_name (i := 2) sc__law_same.nd rfl (Or.inl rfl))
 (pss_one (ps_if (pt_not (pt_val (C8.pe_c c__law_same hr (Nat.le_refl _) rfl (pa_cons (pe_ix ix_seq (pv 0) (pv 2) (fun _ _ => rfl)) (pa_cons (pe_ix ix_seq (pv 1) (pv 2) (fun _ _ => rfl)) pa_nil)))))
 (pss_one (ps_ret pe_bl))
 pss_nil)))
 (pss_one (ps_ret pe_bl))))
 pss_nil)
 (pss_cons (ps_if (pt_val (pe_callB call_isi rfl T.z_isinstance (by decide +kernel) (pa_cons (pv 1) (pa_cons (pe_bltn (v := .ty "int") (u := .type "int") rfl T.z_int (by decide +kernel) rfl) pa_nil))))
 (pss_one (ps_ret (pe_and (pe_callB call_isi rfl T.z_isinstance (by decide +kernel) (pa_cons (pv 0) (pa_cons (pe_bltn (v := .ty "int") (u := .type "int") rfl T.z_int (by decide +kernel) rfl) pa_nil))) (pe_and (pe_not (pe_callB call_isi rfl T.z_isinstance (by decide +kernel) (pa_cons (pv 0) (pa_cons (pe_bltn (v := .ty "bool") (u := .type "bool") rfl T.z_bool (by decide +kernel) rfl) pa_nil)))) (pe_one (pe_cmpR op_eq (pv 0) (pv 1) (nomark _)))))))
 pss_nil)
 (pss_cons (ps_if (pt_val (pe_callB call_isi rfl T.z_isinstance (by decide +kernel) (pa_cons (pv 1) (pa_cons (pe_bltn (v := .ty "str") (u := .type "str") rfl T.z_str (by decide +kernel) rfl) pa_nil))))
 (pss_one (ps_ret (pe_and (pe_callB call_isi rfl T.z_isinstance (by decide +kernel) (pa_cons (pv 0) (pa_cons (pe_bltn (v := .ty "str") (u := .type "str") rfl T.z_str (by decide +kernel) rfl) pa_nil))) (pe_one (pe_cmpR op_eq (pv 0) (pv 1) (nomark _))))))
 pss_nil)
 (pss_one (ps_ret (pe_cmpR op_isN1 (pv 0) pe_non (nomark _))))))), ?_⟩
        have ii : LeafV d ∨ ∃ m ds, n = m + 1 ∧ d = .tup ds ∧ ∀ e ∈ ds, TreeV m e := by
          cases n with
          | zero => exact .inl tree
          | succ m =>
            rcases tree with z | ⟨ds, z, y⟩
            · exact .inl z
            · exact .inr ⟨m, ds, rfl, z, y⟩
        walk_at "td"
        rcases ii with (⟨i, rfl⟩ | ⟨z, rfl⟩ | rfl) | ⟨m, ds, rfl, rfl, sub⟩
        · cases Rv
          cases Ru
          refine iteF ?_
          walk_at "td"
          try (refine r_isi (d := .int i) hC (.int _) (by decide) ?_; walk_at "td")
          refine iteT ?_
          walk_at "td"
          try (refine r_isi (d := .int i) hC (.int _) (by decide) ?_; walk_at "td")
          refine iteT ?_
          walk_at "td"
          try (refine r_isi (d := .int i) hC (.int _) (by decide) ?_; walk_at "td")
          refine iteT ?_
          walk_at "td"
          exact qbl (q H (Same.refl H)) (decide_eq_true rfl).symm
        · have Rv0 := Rv
          have Ru0 := Ru
          cases Rv
          cases Ru
          refine iteF ?_
          walk_at "td"
          try (refine r_isi (d := .str z) hC Ru0 (by decide) ?_; walk_at "td")
          refine iteF ?_
          walk_at "td"
          try (refine r_isi (d := .str z) hC Ru0 (by decide) ?_; walk_at "td")
          refine iteT ?_
          walk_at "td"
          try (refine r_isi (d := .str z) hC Rv0 (by decide) ?_; walk_at "td")
          refine iteT ?_
          walk_at "td"
          exact qbl (q H (Same.refl H)) (decide_eq_true rfl).symm
        · have Rv0 := Rv
          have Ru0 := Ru
          cases Rv
          cases Ru
          refine iteF ?_
          walk_at "td"
          try (refine r_isi (d := .non) hC Ru0 (by decide) ?_; walk_at "td")
          refine iteF ?_
          walk_at "td"
          try (refine r_isi (d := .non) hC Ru0 (by decide) ?_; walk_at "td")
          refine iteF ?_
          walk_at "td"
          exact q H (Same.refl H)
        · have Rv0 := Rv
          have Ru0 := Ru
          cases Rv with
          | @tup a xs _ ha hl hs hi =>
          cases Ru with
          | @tup b ys _ hb hl2 hs2 hi2 =>
          refine iteT ?_
          walk_at "td"
          refine iteF ?_
          walk_at "td"
          refine ite2 (fun e => ?_) (fun _ => ?_)
          · rw [show V.int (xs.length : Int) = V.int (ys.length : Int) from congrArg V.int (by omega), decide_eq_true rfl] at e
            cases e
          walk_at "td"
          refine r_for (r_rng1 ?_)
          walk_at "td"
          refine ⟨_, rfl, by omega, by omega, ?_⟩
          refine go_range (fun i σ' H' => Same H H' ∧ ∃ w, σ' = [some (.ref a), some (.ref b), w]) ⟨Same.refl _, _, rfl⟩ ?_ ?_
          · rintro i x σ' H1 hi3 ⟨s1, w, rfl⟩ rfl
            have hi3 : i < ys.length := by simpa using hi3
            have h1 : xs[i]? = some (xs[i]'(by omega)) := List.getElem?_eq_getElem (by omega)
            have h2 : ys[i]? = some ys[i] := List.getElem?_eq_getElem hi3
            have h3 : ds[i]? = some (ds[i]'(by omega)) := List.getElem?_eq_getElem (by omega)
            walk_at "td"
            rw [Int.zero_add]
            refine r_ixgT (s1 _ _ ha) (atI_nat h1) ?_
            walk_at "td"
            refine r_ixgT (s1 _ _ hb) (atI_nat h2) ?_
            walk_at "td"
            refine ⟨_, _, _, rfl, (hi i _ _ h1 h3).mono s1, (hi2 i _ _ h2 h3).mono s1, sub _ (List.getElem_mem _), fun H2 s2 => ?_⟩
            walk_at "td"
            refine iteF ?_
            walk_at "td"
            exact ⟨s1.trans s2, _, rfl⟩
          · rintro σ' H1 ⟨s1, w, rfl⟩
            walk_at "td"
            exact q H1 s1
  exact go 7
end
end RH
namespace RH
open PySem L2 ItX
local macro_rules | `(tactic| walk_at "tdc") => `(tactic| first | assumption | decide | omega | exact cmul_r (by decide) (by decide) | exact cmul_l (by decide) (by decide) | exact cpow (by decide) (by decide) (by decide) | exact cdiv (by decide) (by decide) | exact wide_div (b := 200) (by assumption) (by omega) (by decide) (by decide) | exact cmul_r (by omega) (by omega) | exact cmul_l (by omega) (by omega))
local macro_rules | `(tactic| walk_at "td1") => `(tactic| first
  | with_reducible apply r_op | ((with_reducible apply r_var); exact rfl) | with_reducible apply r_c | with_reducible apply r_cons | with_reducible apply r_nil | with_reducible apply r_I0
  | with_reducible apply r_seq | with_reducible apply r_asg | with_reducible apply r_name | with_reducible apply r_cb | with_reducible apply r_test | with_reducible apply r_k
  | with_reducible apply r_ifS | with_reducible apply r_call | with_reducible apply r_ret | ((with_reducible apply r_I); walk_at "tdc") | ((with_reducible apply r_eq); exact rfl) | ((with_reducible apply r_ne); exact rfl)
  | ((with_reducible apply r_ixL); walk_at "tdh"; exact rfl) | ((with_reducible apply r_ixT); walk_at "tdh"; exact rfl) | with_reducible apply r_sub | ((with_reducible apply r_setL); walk_at "tdh"; exact rfl)
  | with_reducible apply r_un | with_reducible apply r_U | with_reducible apply r_B | with_reducible apply r_and | with_reducible apply r_or | with_reducible apply r_not
  | with_reducible apply r_andV | with_reducible apply r_orV | with_reducible apply r_notV | with_reducible apply r_if | with_reducible apply r_tup | with_reducible apply r_lst
  | ((with_reducible apply r_ixgT); walk_at "tdh"; exact rfl) | ((with_reducible apply r_ixgL); walk_at "tdh"; exact rfl)
  | with_reducible apply r_next | with_reducible apply r_drop | with_reducible apply r_int1 | with_reducible apply r_chain | with_reducible apply r_ord | with_reducible apply r_abs | with_reducible apply r_min2 | with_reducible apply r_max2
  | with_reducible apply r_leStr | with_reducible apply r_inSign | with_reducible apply r_notInSign | ((with_reducible apply r_isTy); assumption) | ((with_reducible apply r_notTy); assumption)
  | ((with_reducible apply r_lenL); walk_at "tdh") | ((with_reducible apply r_lenT); walk_at "tdh")
  | ((with_reducible apply r_fldV); exact rfl; walk_at "tdh"; assumption; assumption; exact rfl) | with_reducible apply r_bmG | with_reducible apply r_bm0G | with_reducible apply r_isN | with_reducible apply r_notN | with_reducible apply r_prop | ((with_reducible apply r_prX); walk_at "tdh") | with_reducible apply r_fld | ((apply r_fldX); walk_at "tdh"; assumption; assumption; exact rfl; walk_at "tdi") | with_reducible apply r_mtE | with_reducible apply r_cS | (refine r_gtup (SqT.of (by walk_at "tdh")) rfl ?_) | with_reducible apply r_gcons | with_reducible apply r_gnil | with_reducible apply r_sta | with_reducible apply r_staX | with_reducible apply r_mtG | ((with_reducible apply r_mtX); walk_at "tdh"; exact rfl) | with_reducible apply r_par2 | with_reducible apply r_par3 | ((with_reducible apply r_tyL); walk_at "tdh")
  | refine Rep.typ (by assumption) (fun _ _ => ?_) | refine r_isi (by assumption) (by assumption) (by decide) ?_)
local macro_rules | `(tactic| walk_at "td") => `(tactic| repeat walk_at "td1")
local macro_rules | `(tactic| walk_at "tdf") => `(tactic| (generalize hu : upd _ _ (.lst (_ ++ [_])) = H2; have f := fr_gen hu; have a := at_gen hu; clear hu))
local macro_rules | `(tactic| walk_at "tds") => `(tactic| (generalize hu : upd _ _ (.lst (List.set _ _ _)) = H2; have f := fr_gen hu; have a := at_gen hu; clear hu))
local macro_rules | `(tactic| walk_at "tdev") => `(tactic| first | exact ev_int _ | exact ev_bl _ | exact ev_non | exact ev_str _ (by decide +kernel) | assumption | (refine ev_tup (by walk_at "tdh") ?_; walk_at "tdall") | (refine Ev.mono (by assumption) ?_; walk_at "tdtk"))
local macro_rules | `(tactic| walk_at "tdall") => `(tactic| first | exact allN | (refine List.forall_mem_cons.mpr ⟨?_, ?_⟩; walk_at "tdev"; walk_at "tdall"))
local macro_rules | `(tactic| walk_at "tdn") => `(tactic| (refine ⟨szL rfl, fun p hp => ?_⟩; generalize hu : upd _ p _ = H2; have s := same_gen hu hp; have a := at_gen hu; clear hu))
local macro_rules | `(tactic| walk_at "tdt") => `(tactic| repeat (first | walk_at "td1" | walk_at "tdn" | walk_at "tdm"))
local macro_rules | `(tactic| walk_at "tdg") => `(tactic| (intro p hp; generalize hu : upd _ p _ = H2; have s := same_gen hu hp; have a := at_gen hu; clear hu))
local macro_rules | `(tactic| walk_at "tdh") => `(tactic| first | assumption | exact upd_same | (rw [upd_ne (by assumption)]; assumption) | (rw [upd_ne (Ne.symm (by assumption))]; assumption) | (apply same_step; assumption; walk_at "tdh") | (apply fr_step; assumption; walk_at "tdne"; walk_at "tdh") | (apply fr_stepK; assumption; walk_at "tdh"; walk_at "tdh"; (intro z; cases z)))
local macro_rules | `(tactic| walk_at "tdne") => `(tactic| first | assumption | exact Ne.symm (by assumption) | (apply ne_noneX; assumption; walk_at "tdh") | (apply Ne.symm; apply ne_noneX; assumption; walk_at "tdh"))
local macro_rules | `(tactic| walk_at "tdsm") => `(tactic| first | assumption | exact Same.refl _ | (apply same_chain; assumption; walk_at "tdsm") | (apply same_frX; assumption; walk_at "tdsm"; walk_at "tdno"))
local macro_rules | `(tactic| walk_at "tdno") => `(tactic| first | assumption | (apply none_backX; assumption; walk_at "tdsm"))
local macro_rules | `(tactic| walk_at "tdtk") => `(tactic| first | assumption | exact TuK.refl _ | (apply tuk_same; assumption; walk_at "tdtk") | (apply tuk_fr; assumption; walk_at "tdh"; walk_at "tdtk") | (apply tuk_frI; assumption; walk_at "tdh"; walk_at "tdtk"))
local macro_rules | `(tactic| walk_at "tdi") => `(tactic| (generalize hu : upd _ _ (.ins _ _ (putF _ _ _)) = H2; have f := fr_gen hu; have a := at_gen hu; clear hu))
local macro_rules | `(tactic| walk_at "tdrp") => `(tactic| first | exact .int _ | exact .bl _ | exact .non | exact .str _ (by assumption) | exact .str _ (okS_of (by decide +kernel)) | assumption | (apply rep_monoX; assumption; walk_at "tdsm") | (apply rep_tupA; walk_at "tdh"; walk_at "tdrpa"; first | exact leB rfl | assumption) | (apply rep_lstA; walk_at "tdh"; walk_at "tdrpa"; first | exact leB rfl | assumption) | exact .dct (by walk_at "tdh"))
local macro_rules | `(tactic| walk_at "tdrpa") => `(tactic| first | exact .nil | (apply RepAll.mono; assumption; walk_at "tdsm") | (apply RepAll.cons; walk_at "tdrp"; walk_at "tdrpa"))
local macro_rules | `(tactic| walk_at "tdm") => `(tactic| first | ((with_reducible apply r_catT); walk_at "tdh"; walk_at "tdh"; exact List.cons_ne_nil _ _; exact List.cons_ne_nil _ _; exact szL rfl; walk_at "tdg") | ((with_reducible apply r_listTU); walk_at "tdh"; walk_at "tdg") | ((with_reducible apply r_listL); walk_at "tdh"; walk_at "tdg") | ((with_reducible apply r_dnew); walk_at "tdg") | with_reducible apply r_slice | with_reducible apply r_nopart | with_reducible apply r_part | with_reducible apply r_pI | ((with_reducible apply r_slT); walk_at "tdh"; exact of_decide_eq_false rfl; walk_at "tdg") | ((with_reducible apply r_slL); walk_at "tdh"; walk_at "tdg"))
local macro_rules | `(tactic| walk_at "tdd") => `(tactic| (generalize hu : upd _ _ (.dK _) = H2; have f := fr_gen hu; have a := at_gen hu; clear hu))
local macro_rules | `(tactic| walk_at "tdk") => `(tactic| repeat (first | walk_at "td1" | walk_at "tdn" | walk_at "tdm" | ((with_reducible apply r_disp); walk_at "tdg") | with_reducible apply r_pcons | with_reducible apply r_pnil | with_reducible apply r_dputW | (apply r_dputZ; walk_at "tdh"; exact rfl; decide; decide +kernel; walk_at "tdd") | with_reducible apply r_dget))

section
variable {P : Program} {w : World} {K : PySem.W.Frag} {mg : Str → Option Value} {base : Heap} {CC : Addr → Prop}
theorem ok__law_clock_value {f : Addr} {fd : FuncData} (F : Fun K "_law_clock_value" "_law_clock_value" s__law_clock_value f fd) (T : Txt K mg) : FnOk P w K mg base CX0 1 f fd ["dots", "bases"] spCval := by
  refine F.ok sc__law_clock_value (fun vs H Q E h => ?_) (fun cdv A outer s H vs Q E hr h => ?_)
  · obtain ⟨l, bd, xs, ps, bs, rfl, _⟩ := h
    rfl
  · obtain ⟨l, bd, xs, ps, bs, rfl, hl, hP, lx, pos, hb, bnd, bl, bpos, q⟩ := h
    refine ⟨_, (pss_cons (ps_set (i := 2) sc__law_clock_value.nd rfl (Or.inl rfl) pe_dnewK)
 (pss_cons (ps_lock (ps_for PassesOwn.never rfl (pi_keys (pv 1)) (pg_name (i := 3) sc__law_clock_value.nd rfl (Or.inl rfl))
 (pss_one (ps_dput (hu1 hr) (pv 2) (pv 3) pe_dnewK rfl))))
 (pss_cons (ps_for PassesOwn.never rfl (pi_list (pv 0)) (pg_name (i := 4) sc__law_clock_value.nd rfl (Or.inl rfl))
 (C8.pss_cut (ps_if (pt_cmp (pc_dnotin (hu1 hr) (pe_ix ix_tup (pv 4) pe_int (fun _ _ => rfl)) (pv 2)))
 (pss_one (ps_dput (hu1 hr) (pv 2) (pe_ix ix_tup (pv 4) pe_int (fun _ _ => rfl)) pe_dnewK rfl))
 pss_nil)
 (pss_cons (ps_set (i := 5) sc__law_clock_value.nd rfl (Or.inl rfl) (pe_dget (hu1 hr) (pv 2) (pe_ix ix_tup (pv 4) pe_int (fun _ _ => rfl)) (fun _ _ => rfl)))
 (pss_one (ps_dput (hu1 hr) (pv 5) (pe_ix ix_tup (pv 4) pe_int (fun _ _ => rfl)) pe_bl rfl)))))
 (pss_cons (ps_set (i := 6) sc__law_clock_value.nd rfl (Or.inl rfl) (pe_lst pa_nil))
 (pss_cons (ps_for PassesOwn.never rfl (pi_list (pe_callB cr_sortedI rfl T.z_sorted (by decide +kernel) (pa_cons (pe_callTy (call_listD rfl) rfl T.z_list (by decide +kernel) (pa_cons (pv 2) pa_nil)) pa_nil))) (pg_name (i := 3) sc__law_clock_value.nd rfl (Or.inl rfl))
 (pss_cons (ps_set (i := 5) sc__law_clock_value.nd rfl (Or.inl rfl) (pe_dget (hu1 hr) (pv 2) (pv 3) (fun _ _ => rfl)))
 (pss_cons (ps_set (i := 7) sc__law_clock_value.nd rfl (Or.inr rfl) (pe_dget2 (hu1 hr) (pv 1) (pv 3) pe_int ⟨rfl, rfl, rfl, rfl⟩))
 (pss_cons (ps_for PassesOwn.never rfl (pi_range1 rfl T.z_range (pa_cons (pe_callB call_lenD rfl T.z_len (by decide +kernel) (pa_cons (pv 5) pa_nil)) pa_nil)) (pg_name (i := 8) sc__law_clock_value.nd rfl (Or.inl rfl))
 (pss_one (ps_if (pt_cmp (pc_din (hu1 hr) (pe_op op_add (pv 7) pe_int) (pv 5)))
 (pss_one (ps_set (i := 7) sc__law_clock_value.nd rfl (Or.inr rfl) (pe_op op_add (pv 7) pe_int)))
 pss_nil)))
 (pss_cons (ps_set (i := 9) sc__law_clock_value.nd rfl (Or.inl rfl) (pe_callTy call_tupleG rfl T.z_tuple (by decide +kernel) (pa_cons (pe_lc (own := [("number", 10)]) rfl sc__law_clock_value.nd (pi_list (pe_callB cr_sortedI rfl T.z_sorted (by decide +kernel) (pa_cons (pe_callTy (call_listD rfl) rfl T.z_list (by decide +kernel) (pa_cons (pv 5) pa_nil)) pa_nil))) (blkOk_by (sc := defScope s__law_clock_value) (N := ["dots", "bases", "clients", "client", "dot", "numbers", "rows", "upto", "k", "later", "number"]) (by decide +kernel)) (fun _ _ _ _ _ => (pg_name (i := 10) sc__law_clock_value.nd rfl (Or.inl rfl))) (fun _ _ _ _ _ => (pts_one (pt_cmpR op_gt (pv 10) (pv 7) (nomark _)))) (fun _ _ _ _ _ => (pv 10))) pa_nil)))
 (pss_one (ps_if (PW.pt (pw_or (pt_cmpR op_gt (pv 7) pe_int (nomark _)) (pw_or1 (pt_cmpR op_gt (pe_callB call_lenG rfl T.z_len (by decide +kernel) (pa_cons (pv 9) pa_nil)) pe_int (nomark _)))))
 (pss_one (ps_expr (pe_bm PySem.F.plainAttrs_list PySem.F.slot_list_append PySem.F.type_list_append mt_append (pv 6) (pa_cons (pe_tup (pa_cons (pv 3) (pa_cons (pv 7) (pa_cons (pv 9) pa_nil)))) pa_nil))))
 pss_nil)))))))
 (pss_one (ps_ret (pe_callTy call_tupleG rfl T.z_tuple (by decide +kernel) (pa_cons (pv 6) pa_nil))))))))), ?_⟩
    walk_at "td"
    refine r_dnew fun cd hcd => ?_
    generalize hu : upd H cd _ = H1
    have s1 := same_gen hu hcd
    have ac1 : H1 cd = some (.dK []) := at_gen hu
    clear hu
    walk_at "td"
    have hb1 := s1 _ _ hb
    refine ⟨bd, _, hb1, True.intro, fun od => ?_⟩
    obtain ⟨HL, eHL⟩ : ∃ HL, HL = upd H1 bd (.frz od (.dK (dOf bs))) := ⟨_, rfl⟩
    have ab : HL bd = some (.frz od (.dK (dOf bs))) := by rw [eHL]; exact upd_same
    have ncd : cd ≠ bd := fun z => by rw [z, hb] at hcd; cases hcd
    have acL : HL cd = some (.dK []) := by rw [eHL, upd_ne ncd]; exact ac1
    rw [← eHL]
    have H0 : ∀ {b : Addr}, HL b = none → H b = none := fun {b} z => by
      rw [eHL] at z
      by_cases y : b = bd
      · rw [y, upd_same] at z
        cases z
      · rw [upd_ne y] at z
        exact s1.free z
    refine r_for (r_keys ?_)
    walk_at "td"
    refine ⟨bd, od, rfl, .inl ⟨dOf bs, ab, ?_⟩⟩
    have lenb : (dOf bs).length = bs.length := by unfold dOf; rw [List.length_map]
    refine go_it (walk_keys (d := bd) (o := od) (kvs := dOf bs)) (fun i σ' H' => ∃ u3 gs, σ' = [some (.ref l), some (.ref bd), some (.ref cd), u3, none, none, none, none, none, none, none] ∧ Fr cd HL H' ∧ GpsAt H H' cd gs i ∧ (∀ c n, ¬ HasG gs c n) ∧ ∀ c, CliG gs c ↔ ∃ b ∈ bs.take i, b.1 = c)
      ⟨_, [], rfl, Fr.refl _ _, GpsAt.start acL hcd, (fun _ _ ⟨_, m, _⟩ => nomatch m), fun c => ⟨fun ⟨_, m, _⟩ => (nomatch m), fun ⟨_, m, _⟩ => (nomatch m)⟩⟩ (fun i σ' H' _ z => ?_) ?_ ?_
    · obtain ⟨_, _, _, z, _⟩ := z
      exact z _ _ ncd.symm ab
    · rintro i v σ' _ H2 hi ⟨u3, gs, rfl, f2, g2, no2, cl2⟩ ⟨rfl, kk, vv, hkv, rfl⟩
      rw [lenb] at hi
      obtain ⟨b, hb0⟩ : ∃ b, bs[i]? = some b := ⟨_, List.getElem?_eq_getElem hi⟩
      have e1 : (kk, vv) = ((Sum.inl b.1 : Key), V.int b.2) := by
        unfold dOf at hkv
        rw [List.getElem?_map, hb0] at hkv
        exact (Option.some.inj hkv).symm
      obtain ⟨rfl, rfl⟩ := Prod.mk.inj e1
      have nob : ∀ x ∈ gs, x.1 ≠ b.1 := fun x m z => by
        obtain ⟨b', mb, e⟩ := (cl2 x.1).mp ⟨x, m, rfl⟩
        obtain ⟨j, hj, ej⟩ := List.mem_iff_getElem.mp mb
        rw [List.length_take] at hj
        rw [List.getElem_take] at ej
        have hbi := (List.getElem?_eq_some_iff.mp hb0).2
        have := List.pairwise_iff_getElem.mp (List.pairwise_map.mp bnd) j i (by omega) hi (by omega)
        rw [ej, hbi] at this
        exact this (e.trans z)
      walk_at "td"
      refine r_dputW ?_
      walk_at "td"
      refine r_dnew fun a ha => ?_
      walk_at "td"
      have nac : cd ≠ a := fun z => by rw [← z, g2.at_] at ha; cases ha
      refine ⟨cd, _, rfl, .inl ⟨gKv gs, .inl b.1, by rw [upd_ne nac]; exact g2.at_, rfl, ?_, rfl⟩, ?_⟩
      · unfold gKv
        rw [List.length_map]
        have := g2.few
        exact small1000 (by omega)
      have ha0 : H a = none := H0 (by
        cases z : HL a with
        | none => rfl
        | some o =>
          rw [f2 _ _ nac.symm z] at ha
          cases ha)
      refine ⟨_, gs ++ [(b.1, a, [])], rfl, fun x o n z => ?_, g2.add ha0 nob ha rfl, fun c n z => no2 c n (hasG_add.mp z), fun c => ?_⟩
      · rw [upd_ne n, upd_ne (ne_of_none (f2 _ _ n z) ha)]
        exact f2 _ _ n z
      · rw [cliG_add, cl2 c, List.take_add_one, hb0]
        constructor
        · rintro (⟨b', m, e⟩ | rfl)
          · exact ⟨b', List.mem_append_left _ m, e⟩
          · exact ⟨b, List.mem_append_right _ (List.mem_singleton.mpr rfl), rfl⟩
        · rintro ⟨b', m, e⟩
          rcases List.mem_append.mp m with m | m
          · exact .inl ⟨b', m, e⟩
          · rw [List.mem_singleton.mp m] at e
            exact .inr e.symm
    · rintro σ' H2 ⟨u3, gs, rfl, f2, g2, no2, cl2⟩
      rw [lenb, List.take_length] at cl2
      refine ⟨f2 _ _ ncd.symm ab, ?_⟩
      have nbd : ∀ x ∈ gs, x.2.1 ≠ bd := fun x m z => by
        have := g2.new x m
        rw [z, hb] at this
        cases this
      have s3 : Same H (upd H2 bd (.dK (dOf bs))) := fun x o z => by
        by_cases n : x = bd
        · rw [n] at z ⊢
          rw [hb] at z
          rw [← z]
          exact upd_same
        · rw [upd_ne n]
          have nx : x ≠ cd := ne_of_none z hcd
          exact f2 _ _ nx (by rw [eHL, upd_ne n]; exact s1 _ _ z)
      have g3 : GpsAt H (upd H2 bd (.dK (dOf bs))) cd gs 50 := ⟨by rw [upd_ne ncd]; exact g2.at_, fun x m => by rw [upd_ne (nbd x m)]; exact g2.rows x m, g2.nd, g2.na, g2.ne, g2.nn, g2.new, g2.newd, by have := g2.few; omega, fun x m => by have := g2.fewn x m; omega⟩
      generalize upd H2 bd (.dK (dOf bs)) = H3 at s3 g3
      clear f2 ab acL eHL H0 s1 ac1 hb1 HL
      walk_at "td"
      refine r_for (r_list ?_)
      walk_at "td"
      refine ⟨l, rfl, ⟨_, SqL.of (s3 _ _ hl)⟩, ?_⟩
      refine go_it (walk_list (xs := xs)) (fun i σ' H' => ∃ u3 u4 u5 gs, σ' = [some (.ref l), some (.ref bd), some (.ref cd), u3, u4, u5, none, none, none, none, none] ∧ Same H H' ∧ GpsAt H H' cd gs (50 + 2 * i) ∧ (∀ c n, HasG gs c n ↔ (c, n) ∈ ps.take i) ∧ ∀ c, CliG gs c ↔ (∃ b ∈ bs, b.1 = c) ∨ ∃ n, (c, n) ∈ ps.take i)
        ⟨_, _, _, gs, rfl, s3, g3, fun c n => ⟨fun z => absurd z (no2 c n), fun z => nomatch z⟩, fun c => (cl2 c).trans ⟨.inl, fun z => z.elim id fun ⟨_, z⟩ => nomatch z⟩⟩ (fun i σ' H' _ z => ?_) ?_ ?_
      · obtain ⟨_, _, _, _, _, z, _⟩ := z
        exact SqL.of (z _ _ hl)
      · rintro i v σ' _ H4 hi ⟨u3, u4, u5, gs, rfl, s4, g4, hs4, cl4⟩ ⟨rfl, hv⟩
        have hip : i < ps.length := by rw [← hP.1]; exact hi
        obtain ⟨t, et, ht⟩ := hP.at_ hip
        have hpi : ps[i]? = some ps[i] := List.getElem?_eq_getElem hip
        rw [hv] at et
        obtain rfl := Option.some.inj et
        generalize ps[i] = p at ht hpi
        have tk : ∀ c n, (c, n) ∈ ps.take (i + 1) ↔ (c, n) ∈ ps.take i ∨ (c = p.1 ∧ n = p.2) := fun c n => by
          rw [List.take_add_one, hpi, List.mem_append]
          refine or_congr Iff.rfl ?_
          rw [Option.toList_some, List.mem_singleton]
          exact ⟨fun z => by rw [← z]; exact ⟨rfl, rfl⟩, fun ⟨z, y⟩ => by rw [z, y]⟩
        have ht4 := s4 _ _ ht
        walk_at "td"
        refine r_cut (fun σ'' H'' => ∃ gs2 g, σ'' = [some (.ref l), some (.ref bd), some (.ref cd), u3, some (.ref t), u5, none, none, none, none, none] ∧ Same H H'' ∧ GpsAt H H'' cd gs2 (50 + 2 * i + 1) ∧ g ∈ gs2 ∧ g.1 = p.1 ∧ (∀ c n, HasG gs2 c n ↔ HasG gs c n) ∧ ∀ c, CliG gs2 c ↔ CliG gs c ∨ c = p.1) ?_ ?_
        · walk_at "td"
          refine r_dnotin ?_
          walk_at "td"
          rcases gKv_or g4.nd p.1 with ⟨g, mg, eg, vg⟩ | ⟨no, vn⟩
          · refine ⟨cd, _, rfl, .inl ⟨gKv gs, .inl p.1, .inl g4.at_, rfl, vg.symm⟩, ?_⟩
            refine ⟨_, rfl, iteN rfl ?_⟩
            walk_at "td"
            exact ⟨gs, g, rfl, s4, g4.wide (by omega), mg, eg, fun _ _ => Iff.rfl, fun c => ⟨.inl, fun z => z.elim id fun z => ⟨g, mg, eg.trans z.symm⟩⟩⟩
          · refine ⟨cd, _, rfl, .inl ⟨gKv gs, .inl p.1, .inl g4.at_, rfl, vn.symm⟩, ?_⟩
            refine ⟨_, rfl, iteP rfl ?_⟩
            walk_at "td"
            refine r_dputW ?_
            walk_at "td"
            refine r_dnew fun a ha => ?_
            walk_at "td"
            have nac : cd ≠ a := fun z => by rw [← z, g4.at_] at ha; cases ha
            have nat : t ≠ a := ne_of_none ht4 ha
            refine r_ixT (xs := [.int p.1, .int p.2]) (by rw [upd_ne nat]; exact ht4) rfl ?_
            refine ⟨cd, _, rfl, .inl ⟨gKv gs, .inl p.1, by rw [upd_ne nac]; exact g4.at_, rfl, ?_, rfl⟩, ?_⟩
            · unfold gKv
              rw [List.length_map]
              have := g4.few
              have := hP.1
              exact small1000 (by omega)
            have ha0 : H a = none := s4.free ha
            refine ⟨_, (p.1, a, []), rfl, fun x o z => ?_, g4.add ha0 no ha rfl, List.mem_append_right _ (List.mem_singleton.mpr rfl), rfl, fun c n => hasG_add, fun c => cliG_add⟩
            rw [upd_ne (ne_of_none z hcd), upd_ne (ne_of_none z ha0)]
            exact s4 _ _ z
        · rintro σ'' H5 ⟨gs2, g, rfl, s5, g5, mg, eg, hs5, cl5⟩
          have ht5 := s5 _ _ ht
          walk_at "td"
          refine r_dget ?_
          walk_at "td"
          refine ⟨cd, .ref g.2.1, rfl, .inl ⟨gKv gs2, .inl p.1, .inl g5.at_, rfl, by rw [← eg]; exact (gKv_some g5.nd mg).symm⟩, ?_⟩
          walk_at "td"
          refine r_dputW ?_
          walk_at "td"
          refine ⟨g.2.1, _, rfl, .inl ⟨bOf g.2.2, .inl p.2, g5.rows g mg, rfl, ?_, rfl⟩, ?_⟩
          · unfold bOf
            rw [List.length_map]
            have := g5.fewn g mg
            have := hP.1
            exact small1000 (by omega)
          obtain ⟨gs3, g6, hs6, cl6⟩ := g5.put (n := p.2) mg rfl
          refine ⟨_, _, _, gs3, rfl, fun x o z => ?_, g6.wide (by omega), fun c n => ?_, fun c => ?_⟩
          · rw [upd_ne (ne_of_none z (g5.new g mg))]
            exact s5 _ _ z
          · rw [hs6, hs5, hs4, tk, eg]
          · rw [cl6, cl5, cl4]
            constructor
            · rintro ((z | ⟨n, z⟩) | z)
              · exact .inl z
              · exact .inr ⟨n, (tk c n).mpr (.inl z)⟩
              · exact .inr ⟨p.2, (tk c p.2).mpr (.inr ⟨z, rfl⟩)⟩
            · rintro (z | ⟨n, z⟩)
              · exact .inl (.inl z)
              · rcases (tk c n).mp z with z | z
                · exact .inl (.inr ⟨n, z⟩)
                · exact .inr z.1
      · rintro σ' H4 ⟨u3, u4, u5, gs, rfl, s4, g4, hs4, cl4⟩
        rw [hP.1, List.take_length] at hs4 cl4
        walk_at "td"
        refine ⟨szL rfl, fun rl hrl => ?_⟩
        generalize hu : upd H4 rl _ = H5
        have s5 := same_gen hu hrl
        have ar5 : H5 rl = some (.lst []) := at_gen hu
        clear hu
        have g5 := g4.mono s5
        walk_at "td"
        refine r_for (r_list ?_)
        walk_at "td"
        refine ⟨cd, gKv gs, rfl, .inl g5.at_, fun p1 hp1 => ?_⟩
        have e1 : (gKv gs).map (fun kv => kV kv.1) = (gs.map (·.1)).map V.int := by
          unfold gKv
          rw [List.map_map, List.map_map]
          rfl
        rw [e1]
        generalize hu : upd H5 p1 _ = H6
        have s6 := same_gen hu hp1
        have ap1 : H6 p1 = some (.lst ((gs.map (·.1)).map V.int)) := at_gen hu
        clear hu
        walk_at "td"
        refine ⟨p1, gs.map (·.1), rfl, SqL.of ap1, fun cs p2 pcs scs hp2 => ?_⟩
        generalize hu : upd H6 p2 _ = H7
        have s7 := same_gen hu hp2
        have ap2 : H7 p2 = some (.lst (cs.map V.int)) := at_gen hu
        clear hu
        have scs : cs.Pairwise (· < ·) := List.Pairwise.imp₂ (fun a b h1 h2 => by omega) scs (pcs.nodup_iff.mpr g4.nd)
        have csm : ∀ c, c ∈ cs ↔ CliG gs c := fun c => by
          rw [pcs.mem_iff, List.mem_map]
          exact Iff.rfl
        have n2r : p2 ≠ rl := (ne_of_none (s6 _ _ ar5) hp2).symm
        have s57 := s6.trans s7
        have g7 := g5.mono s57
        have ar7 := s57 _ _ ar5
        have H7s : Same H H7 := (s4.trans s5).trans s57
        have rlH : H rl = none := s4.free hrl
        have nrg : ∀ {b : Addr} {o : HO}, H4 b = some o → b ≠ rl := fun z => ne_of_none z hrl
        refine ⟨p2, rfl, ⟨_, SqL.of ap2⟩, ?_⟩
        have sDef : ∀ c k, 1 ≤ k → orS (inL ps) (baseS bs) c k → c ∈ cs := fun c k _ z => by
          rw [csm, cl4]
          rcases z with z | ⟨b, m, e, _⟩
          · exact .inr ⟨k, z⟩
          · exact .inl ⟨b, m, e⟩
        have lencs : cs.length = gs.length := by rw [pcs.length_eq, List.length_map]
        refine go_it (walk_list (xs := cs.map V.int)) (fun i σ' H' => ∃ u3 u5 u7 u8 u9 u10 ys rows, σ' = [some (.ref l), some (.ref bd), some (.ref cd), u3, u4, u5, some (.ref rl), u7, u8, u9, u10] ∧ Fr rl H7 H' ∧ H' rl = some (.lst ys) ∧ ys.length = (rows : RV).length ∧ ys.length ≤ i ∧
          (∀ (j : Nat) x r, ys[j]? = some x → rows[j]? = some r → RvAt (wo H' rl) x r) ∧ RowsUp rows (cs.take i) (orS (inL ps) (baseS bs)))
          ⟨_, _, _, _, _, _, [], [], rfl, Fr.refl _ _, ar7, rfl, Nat.le_refl _, (fun j x r z => by simp at z), RowsUp.zero⟩ (fun i σ' H' _ z => ?_) ?_ ?_
        · obtain ⟨_, _, _, _, _, _, _, _, _, z, _⟩ := z
          exact SqL.of (z _ _ n2r ap2)
        · rintro i v σ' _ H8 hi ⟨u3, u5, u7, u8, u9, u10, ys, rows, rfl, f8, ar8, ly, liy, rv8, up8⟩ ⟨rfl, hv⟩
          rw [List.length_map] at hi
          obtain ⟨c, hc⟩ : ∃ c, cs[i]? = some c := ⟨_, List.getElem?_eq_getElem hi⟩
          rw [List.getElem?_map, hc] at hv
          obtain rfl := Option.some.inj hv
          have mc := List.mem_of_getElem? hc
          obtain ⟨g, mg, rfl⟩ := (csm c).mp mc
          have atcd := f8 _ _ (nrg g4.at_) g7.at_
          have atg := f8 _ _ (nrg (g4.rows g mg)) (g7.rows g mg)
          have atb := f8 _ _ (nrg (s4 _ _ hb)) (H7s _ _ hb)
          have nn := g4.nn g mg
          obtain ⟨bv0, bvS, bvV⟩ := bv_at bnd bpos g.1
          have ascc : ∀ d ∈ cs.take i, d < g.1 := fun d m => by
            obtain ⟨j, hj, e⟩ := List.mem_iff_getElem.mp m
            rw [List.length_take] at hj
            rw [List.getElem_take] at e
            have := List.pairwise_iff_getElem.mp scs j i (by omega) hi (by omega)
            rw [(List.getElem?_eq_some_iff.mp hc).2, e] at this
            exact this
          have tki : cs.take (i + 1) = cs.take i ++ [g.1] := by rw [List.take_add_one, hc]; rfl
          have fewg := g4.fewn g mg
          have few4 := g4.few
          have lps := hP.1
          walk_at "td"
          refine r_dget ?_
          walk_at "td"
          refine ⟨cd, .ref g.2.1, rfl, .inl ⟨gKv gs, .inl g.1, .inl atcd, rfl, (gKv_some g4.nd mg).symm⟩, ?_⟩
          walk_at "td"
          refine RH.r_dget2 ?_
          walk_at "td"
          refine ⟨bd, rfl, RH.isD_rd (.inl atb), ?_⟩
          walk_at "td"
          refine ⟨_, .inl ⟨dOf bs, .inl g.1, .inl atb, rfl, rfl⟩, ?_⟩
          rw [bvV]
          walk_at "td"
          refine r_for (r_rng1 ?_)
          walk_at "td"
          refine ⟨g.2.1, _, rfl, atg, ?_⟩
          have lenB : (bOf g.2.2).length = g.2.2.length := by unfold bOf; rw [List.length_map]
          rw [lenB]
          walk_at "td"
          refine ⟨_, rfl, by omega, by omega, ?_⟩
          rw [show ((g.2.2.length : Nat) : Int).toNat = g.2.2.length from Int.toNat_natCast _]
          refine go_range (fun j σ' H' => ∃ u8, σ' = [some (.ref l), some (.ref bd), some (.ref cd), some (.int g.1), u4, some (.ref g.2.1), some (.ref rl), some (.int (upRun g.2.2 (bvOf bs g.1) j)), u8, u9, u10] ∧ H' = H8) ⟨_, rfl, rfl⟩ ?_ ?_
          · rintro j x σ' H' hj ⟨u8, rfl, rfl⟩ rfl
            walk_at "td"
            refine r_dinV ?_
            walk_at "td"
            refine ⟨g.2.1, _, rfl, .inl ⟨bOf g.2.2, .inl (upRun g.2.2 (bvOf bs g.1) j + 1), .inl atg, rfl, rfl⟩, ?_⟩
            rw [bOf_val]
            by_cases z : upRun g.2.2 (bvOf bs g.1) j + 1 ∈ g.2.2
            · rw [if_pos z]
              refine ⟨_, rfl, iteP rfl ?_⟩
              walk_at "td"
              rw [up_yes z]
              exact ⟨_, rfl, rfl⟩
            · rw [if_neg z]
              refine ⟨_, rfl, iteN rfl ?_⟩
              walk_at "td"
              rw [up_no z]
              exact ⟨_, rfl, rfl⟩
          · rintro σ' H' ⟨u8, rfl, rfl⟩
            walk_at "td"
            refine r_lc (r_list ?_)
            walk_at "td"
            refine ⟨g.2.1, bOf g.2.2, rfl, .inl atg, fun q1 hq1 => ?_⟩
            have e2 : (bOf g.2.2).map (fun kv => kV kv.1) = g.2.2.map V.int := by
              unfold bOf
              rw [List.map_map]
              rfl
            rw [e2]
            generalize hu : upd H' q1 _ = H9
            have s9 := same_gen hu hq1
            have aq1 : H9 q1 = some (.lst (g.2.2.map V.int)) := at_gen hu
            clear hu
            walk_at "td"
            refine ⟨q1, g.2.2, rfl, SqL.of aq1, fun so q2 pso sso hq2 => ?_⟩
            generalize hu : upd H9 q2 _ = H10
            have s10 := same_gen hu hq2
            have aq2 : H10 q2 = some (.lst (so.map V.int)) := at_gen hu
            clear hu
            have asc : so.Pairwise (· < ·) := List.Pairwise.imp₂ (fun a b h1 h2 => by omega) sso (pso.nodup_iff.mpr nn)
            obtain ⟨nf, inp⟩ := row_made bv0 asc fun k => pso.mem_iff
            have s910 := s9.trans s10
            have lso := pso.length_eq
            refine ⟨q2, rfl, ⟨_, SqL.of aq2⟩, fun D hD => ?_⟩
            refine lc_own (fun n => decide (upRun g.2.2 (bvOf bs g.1) g.2.2.length < n)) aq2 (by omega) hD (fun _ => rfl) (fun _ => rfl) (fun o H' s Q q => ?_) fun H11 s11 aD => ?_
            · walk_at "td"
              exact q
            generalize upRun g.2.2 (bvOf bs g.1) g.2.2.length = u at nf inp aD
            generalize (so.filter fun n => decide (u < n)) = lt at nf inp aD
            have inS : ∀ k, 1 ≤ k → (InP u lt k ↔ orS (inL ps) (baseS bs) g.1 k) := fun k k1 => by
              rw [inp k k1, bvS k k1]
              unfold orS inL
              rw [← hs4 g.1 k]
              constructor
              · rintro (z | z)
                · exact .inr z
                · exact .inl ⟨g, mg, rfl, z⟩
              · rintro (⟨x, mx, e, z⟩ | z)
                · rw [inj_on g4.nd mx mg e] at z
                  exact .inr z
                · exact .inl z
            walk_at "td"
            refine r_tupL aD fun lp hlp => ?_
            generalize hu : upd H11 lp _ = H12
            have s12 := same_gen hu hlp
            have alp : H12 lp = some (.tup (lt.map V.int)) := at_gen hu
            clear hu
            have s8 := (s910.trans s11).trans s12
            have ar12 := s8 _ _ ar8
            walk_at "td"
            have skip : ¬ (0 < u ∨ lt ≠ []) → RowsUp rows (cs.take (i + 1)) (orS (inL ps) (baseS bs)) := fun no => by
              rw [tki]
              refine up8.skip fun k k1 z => no (some_of_in ⟨k, k1, (inS k k1).mpr z⟩)
            have add : (0 < u ∨ lt ≠ []) → RowsUp (rows ++ [(g.1, u, lt)]) (cs.take (i + 1)) (orS (inL ps) (baseS bs)) := fun yes => by
              rw [tki]
              exact up8.add ascc nf yes inS
            have put : (0 < u ∨ lt ≠ []) → ∀ rp, H12 rp = none → ∀ H13, upd H12 rp (.tup [.int g.1, .int u, .ref lp]) = H13 → ∃ H14, H14 = upd H13 rl (.lst (ys ++ [.ref rp])) ∧ Fr rl H7 H14 ∧ H14 rl = some (.lst (ys ++ [.ref rp])) ∧ (∀ (j : Nat) x r, (ys ++ [V.ref rp])[j]? = some x → (rows ++ [(g.1, u, lt)])[j]? = some r → RvAt (wo H14 rl) x r) := fun yes rp hrp H13 e13 => by
              have s13 : Same H12 H13 := same_gen e13 hrp
              have a13 : H13 rp = some (.tup [.int g.1, .int u, .ref lp]) := at_gen e13
              have ar13 := s13 _ _ ar12
              refine ⟨_, rfl, fun b o n z => ?_, upd_same, fun j x r h1 h2 => ?_⟩
              · rw [upd_ne n]
                exact s13 _ _ (s8 _ _ (f8 _ _ n z))
              · have w0 : Same (wo H' rl) (wo (upd H13 rl (.lst (ys ++ [.ref rp]))) rl) := (show Fr rl H' _ from fun b o n z => by rw [upd_ne n]; exact s13 _ _ (s8 _ _ z)).wo
                rcases Nat.lt_or_ge j ys.length with z | z
                · rw [List.getElem?_append_left z] at h1
                  rw [List.getElem?_append_left (by rw [← ly]; exact z)] at h2
                  exact (rv8 j x r h1 h2).mono w0
                · rw [List.getElem?_append_right z] at h1
                  rw [List.getElem?_append_right (by rw [← ly]; exact z)] at h2
                  have z0 : j - ys.length = 0 := by
                    have := (List.getElem?_eq_some_iff.mp h1).1
                    rw [List.length_singleton] at this
                    omega
                  rw [z0] at h1
                  rw [show j - List.length rows = 0 by omega] at h2
                  obtain rfl := Option.some.inj h1
                  obtain rfl := Option.some.inj h2
                  have n1 : rp ≠ rl := fun y => by rw [y, ar12] at hrp; cases hrp
                  have n2 : lp ≠ rl := fun y => by rw [y, ar12] at alp; cases alp
                  exact ⟨rp, lp, rfl, by rw [wo_ne n1, upd_ne n1]; exact a13, by rw [wo_ne n2, upd_ne n2]; exact s13 _ _ alp⟩
            refine ite2 (fun e => ?_) (fun e => ?_)
            · have yes : 0 < u ∨ lt ≠ [] := .inl (of_decide_eq_true e)
              refine iteP rfl ?_
              walk_at "td"
              refine ⟨szL rfl, fun rp hrp => ?_⟩
              generalize e13 : upd H12 rp _ = H13
              obtain ⟨H14, e14, f14, a14, rv14⟩ := put yes rp hrp H13 e13
              have ar13 := same_gen e13 hrp _ _ ar12
              walk_at "td"
              refine r_append ar13 (small1000 (by omega)) ?_
              rw [← e14]
              walk_at "td"
              exact ⟨_, _, _, _, _, _, _, _, rfl, f14, a14, by rw [List.length_append, List.length_append, ly]; rfl, by rw [List.length_append, List.length_singleton]; omega, rv14, add yes⟩
            · walk_at "td"
              rw [List.length_map]
              by_cases l0 : lt = []
              · have no : ¬ (0 < u ∨ lt ≠ []) := fun z => z.elim (fun z => e (decide_eq_true z)) fun z => z l0
                refine iteN (by rw [l0]; rfl) ?_
                walk_at "td"
                exact ⟨_, _, _, _, _, _, ys, rows, rfl, fun b o n z => s8 _ _ (f8 _ _ n z), ar12, ly, by omega, fun j x r h1 h2 => (rv8 j x r h1 h2).mono (show Fr rl H' H12 from fun b o n z => s8 _ _ z).wo, skip no⟩
              · have yes : 0 < u ∨ lt ≠ [] := .inr l0
                have lp0 : (0 : Int) < lt.length := by
                  have := List.length_pos_iff.mpr l0
                  omega
                rw [decide_eq_true lp0]
                refine iteP rfl ?_
                walk_at "td"
                refine ⟨szL rfl, fun rp hrp => ?_⟩
                generalize e13 : upd H12 rp _ = H13
                obtain ⟨H14, e14, f14, a14, rv14⟩ := put yes rp hrp H13 e13
                have ar13 := same_gen e13 hrp _ _ ar12
                walk_at "td"
                refine r_append ar13 (small1000 (by omega)) ?_
                rw [← e14]
                walk_at "td"
                exact ⟨_, _, _, _, _, _, _, _, rfl, f14, a14, by rw [List.length_append, List.length_append, ly]; rfl, by rw [List.length_append, List.length_singleton]; omega, rv14, add yes⟩
        · rintro σ' H8 ⟨u3, u5, u7, u8, u9, u10, ys, rows, rfl, f8, ar8, ly, liy, rv8, up8⟩
          rw [List.length_map, List.take_length] at up8
          walk_at "td"
          refine r_tupL ar8 fun v hv => ?_
          have s8 : Same H (upd H8 v (.tup ys)) := fun b o z => same_new hv _ _ (f8 _ _ (ne_of_none z rlH) (H7s _ _ z))
          refine q v rows _ s8 ⟨up8.can, fun c k k1 => ?_⟩ ⟨v, ys, rfl, upd_same, ly, fun i x r a b => ((rv8 i x r a b).mono (same_wo H8 rl)).mono (same_new hv)⟩
          rw [up8.has c k k1]
          exact ⟨fun z => z.2, fun z => ⟨sDef c k k1 z, z⟩⟩
end
end RH
-- tail: CL=Clock CK=Keep CR=RingError CY=Busy CH=HouseDown CU=Unknown
namespace RH
open PySem L2
local macro_rules | `(tactic| walk_at "tdc") => `(tactic| first | assumption | decide | omega | exact cmul_r (by decide) (by decide) | exact cmul_l (by decide) (by decide) | exact cpow (by decide) (by decide) (by decide) | exact cdiv (by decide) (by decide) | exact wide_div (b := 200) (by assumption) (by omega) (by decide) (by decide) | exact cmul_r (by omega) (by omega) | exact cmul_l (by omega) (by omega))
local macro_rules | `(tactic| walk_at "td1") => `(tactic| first
  | with_reducible apply r_op | ((with_reducible apply r_var); exact rfl) | with_reducible apply r_c | with_reducible apply r_cons | with_reducible apply r_nil | with_reducible apply r_I0
  | with_reducible apply r_seq | with_reducible apply r_asg | with_reducible apply r_name | with_reducible apply r_cb | with_reducible apply r_test | with_reducible apply r_k
  | with_reducible apply r_ifS | with_reducible apply r_call | with_reducible apply r_ret | ((with_reducible apply r_I); walk_at "tdc") | ((with_reducible apply r_eq); exact rfl) | ((with_reducible apply r_ne); exact rfl)
  | ((with_reducible apply r_ixL); walk_at "tdh"; exact rfl) | ((with_reducible apply r_ixT); walk_at "tdh"; exact rfl) | with_reducible apply r_sub | ((with_reducible apply r_setL); walk_at "tdh"; exact rfl)
  | with_reducible apply r_un | with_reducible apply r_U | with_reducible apply r_B | with_reducible apply r_and | with_reducible apply r_or | with_reducible apply r_not
  | with_reducible apply r_andV | with_reducible apply r_orV | with_reducible apply r_notV | with_reducible apply r_if | with_reducible apply r_tup | with_reducible apply r_lst
  | ((with_reducible apply r_ixgT); walk_at "tdh"; exact rfl) | ((with_reducible apply r_ixgL); walk_at "tdh"; exact rfl)
  | with_reducible apply r_next | with_reducible apply r_drop | with_reducible apply r_int1 | with_reducible apply r_chain | with_reducible apply r_ord | with_reducible apply r_abs | with_reducible apply r_min2 | with_reducible apply r_max2
  | with_reducible apply r_leStr | with_reducible apply r_inSign | with_reducible apply r_notInSign | ((with_reducible apply r_isTy); assumption) | ((with_reducible apply r_notTy); assumption)
  | ((with_reducible apply r_lenL); walk_at "tdh") | ((with_reducible apply r_lenT); walk_at "tdh")
  | ((with_reducible apply r_fldV); exact rfl; walk_at "tdh"; assumption; assumption; exact rfl) | with_reducible apply r_bmG | with_reducible apply r_bm0G | with_reducible apply r_isN | with_reducible apply r_notN | with_reducible apply r_prop | ((with_reducible apply r_prX); walk_at "tdh") | with_reducible apply r_fld | ((apply r_fldX); walk_at "tdh"; assumption; assumption; exact rfl; walk_at "tdi") | with_reducible apply r_mtE | with_reducible apply r_cS | (refine r_gtup (SqT.of (by walk_at "tdh")) rfl ?_) | with_reducible apply r_gcons | with_reducible apply r_gnil | with_reducible apply r_sta | with_reducible apply r_staX | with_reducible apply r_mtG | ((with_reducible apply r_mtX); walk_at "tdh"; exact rfl) | with_reducible apply r_par2 | with_reducible apply r_par3 | ((with_reducible apply r_tyL); walk_at "tdh")
  | refine Rep.typ (by assumption) (fun _ _ => ?_) | refine r_isi (by assumption) (by assumption) (by decide) ?_)
local macro_rules | `(tactic| walk_at "td") => `(tactic| repeat walk_at "td1")
local macro_rules | `(tactic| walk_at "tdf") => `(tactic| (generalize hu : upd _ _ (.lst (_ ++ [_])) = H2; have f := fr_gen hu; have a := at_gen hu; clear hu))
local macro_rules | `(tactic| walk_at "tds") => `(tactic| (generalize hu : upd _ _ (.lst (List.set _ _ _)) = H2; have f := fr_gen hu; have a := at_gen hu; clear hu))
local macro_rules | `(tactic| walk_at "tdev") => `(tactic| first | exact ev_int _ | exact ev_bl _ | exact ev_non | exact ev_str _ (by decide +kernel) | assumption | (refine ev_tup (by walk_at "tdh") ?_; walk_at "tdall") | (refine Ev.mono (by assumption) ?_; walk_at "tdtk"))
local macro_rules | `(tactic| walk_at "tdall") => `(tactic| first | exact allN | (refine List.forall_mem_cons.mpr ⟨?_, ?_⟩; walk_at "tdev"; walk_at "tdall"))
local macro_rules | `(tactic| walk_at "tdn") => `(tactic| (refine ⟨szL rfl, fun p hp => ?_⟩; generalize hu : upd _ p _ = H2; have s := same_gen hu hp; have a := at_gen hu; clear hu))
local macro_rules | `(tactic| walk_at "tdt") => `(tactic| repeat (first | walk_at "td1" | walk_at "tdn" | walk_at "tdm"))
local macro_rules | `(tactic| walk_at "tdg") => `(tactic| (intro p hp; generalize hu : upd _ p _ = H2; have s := same_gen hu hp; have a := at_gen hu; clear hu))
local macro_rules | `(tactic| walk_at "tdh") => `(tactic| first | assumption | exact upd_same | (rw [upd_ne (by assumption)]; assumption) | (rw [upd_ne (Ne.symm (by assumption))]; assumption) | (apply same_step; assumption; walk_at "tdh") | (apply fr_step; assumption; walk_at "tdne"; walk_at "tdh") | (apply fr_stepK; assumption; walk_at "tdh"; walk_at "tdh"; (intro z; cases z)))
local macro_rules | `(tactic| walk_at "tdne") => `(tactic| first | assumption | exact Ne.symm (by assumption) | (apply ne_noneX; assumption; walk_at "tdh") | (apply Ne.symm; apply ne_noneX; assumption; walk_at "tdh"))
local macro_rules | `(tactic| walk_at "tdsm") => `(tactic| first | assumption | exact Same.refl _ | (apply same_chain; assumption; walk_at "tdsm") | (apply same_frX; assumption; walk_at "tdsm"; walk_at "tdno"))
local macro_rules | `(tactic| walk_at "tdno") => `(tactic| first | assumption | (apply none_backX; assumption; walk_at "tdsm"))
local macro_rules | `(tactic| walk_at "tdtk") => `(tactic| first | assumption | exact TuK.refl _ | (apply tuk_same; assumption; walk_at "tdtk") | (apply tuk_fr; assumption; walk_at "tdh"; walk_at "tdtk") | (apply tuk_frI; assumption; walk_at "tdh"; walk_at "tdtk"))
local macro_rules | `(tactic| walk_at "tdi") => `(tactic| (generalize hu : upd _ _ (.ins _ _ (putF _ _ _)) = H2; have f := fr_gen hu; have a := at_gen hu; clear hu))
local macro_rules | `(tactic| walk_at "tdrp") => `(tactic| first | exact .int _ | exact .bl _ | exact .non | exact .str _ (by assumption) | exact .str _ (okS_of (by decide +kernel)) | assumption | (apply rep_monoX; assumption; walk_at "tdsm") | (apply rep_tupA; walk_at "tdh"; walk_at "tdrpa"; first | exact leB rfl | assumption) | (apply rep_lstA; walk_at "tdh"; walk_at "tdrpa"; first | exact leB rfl | assumption) | exact .dct (by walk_at "tdh"))
local macro_rules | `(tactic| walk_at "tdrpa") => `(tactic| first | exact .nil | (apply RepAll.mono; assumption; walk_at "tdsm") | (apply RepAll.cons; walk_at "tdrp"; walk_at "tdrpa"))
local macro_rules | `(tactic| walk_at "tdm") => `(tactic| first | ((with_reducible apply r_catT); walk_at "tdh"; walk_at "tdh"; exact List.cons_ne_nil _ _; exact List.cons_ne_nil _ _; exact szL rfl; walk_at "tdg") | ((with_reducible apply r_listTU); walk_at "tdh"; walk_at "tdg") | ((with_reducible apply r_listL); walk_at "tdh"; walk_at "tdg") | ((with_reducible apply r_dnew); walk_at "tdg") | with_reducible apply r_slice | with_reducible apply r_nopart | with_reducible apply r_part | with_reducible apply r_pI | ((with_reducible apply r_slT); walk_at "tdh"; exact of_decide_eq_false rfl; walk_at "tdg") | ((with_reducible apply r_slL); walk_at "tdh"; walk_at "tdg"))
local macro_rules | `(tactic| walk_at "tdd") => `(tactic| (generalize hu : upd _ _ (.dK _) = H2; have f := fr_gen hu; have a := at_gen hu; clear hu))
local macro_rules | `(tactic| walk_at "tdk") => `(tactic| repeat (first | walk_at "td1" | walk_at "tdn" | walk_at "tdm" | ((with_reducible apply r_disp); walk_at "tdg") | with_reducible apply r_pcons | with_reducible apply r_pnil | with_reducible apply r_dputW | (apply r_dputZ; walk_at "tdh"; exact rfl; decide; decide +kernel; walk_at "tdd") | with_reducible apply r_dget))

section
variable {P : Program} {w : World} {K : PySem.W.Frag} {mg : Str → Option Value} {base : Heap} {CC : Addr → Prop}
theorem ok__law_refused {f CK CL CB CR CY CH CU : Addr} {fd : FuncData} (F : Fun K "_law_refused" "_law_refused" s__law_refused f fd) (T : Txt K mg) (e_RingError : Err K mg "RingError" CR) (e_BadValue : Err K mg "BadValue" CB) (e_Busy : Err K mg "Busy" CY) (e_HouseDown : Err K mg "HouseDown" CH) (e_Unknown : Err K mg "Unknown" CU)
    (x_BadValue : ExcC K CB) (ex_BadValue_BadValue : PySem.W.exmOne K (.ref CB) (.ref CB) = some true) (ko_BadValue_RingError_true : PySem.W.kitOne K (.ref CB) (.ref CR) = some true) (ko_BadValue_Busy_false : PySem.W.kitOne K (.ref CB) (.ref CY) = some false)
    (ko_BadValue_HouseDown_false : PySem.W.kitOne K (.ref CB) (.ref CH) = some false) (ko_BadValue_Unknown_false : PySem.W.kitOne K (.ref CB) (.ref CU) = some false) (kb_BadValue_ValueError_true : PySem.W.kitOne K (.ref CB) (.type "ValueError") = some true)
    (m_Keep : MakX P w K mg base 2 "Keep" CK (spKeepI K CC CK CL CB)) : FnOk P w K mg base CX0 5 f fd ["pairs", "clock"] (spRefK K CC CL) := by
  refine F.ok sc__law_refused (fun vs H Q E h => ?_) (fun cdv A outer s H vs Q E hr h => ?_)
  · obtain ⟨l, c, xs, ps, N, S, rfl, _⟩ := h
    rfl
  · obtain ⟨l, c, xs, ps, N, S, rfl, hl, hp, few, one, ck, hN, no, q⟩ := h
    refine ⟨_, (pss_cons (ps_try_as (i := 2) rfl rfl sc__law_refused.nd rfl rfl ⟨rfl, by decide, .inl e_BadValue.gF⟩ takes0 (fun W pn xe tk _ => by exact (pss_one (ps_expr (pe_mkT m_Keep hr (by decide) rfl tk (pa_cons (pv 0) (pa_cons (pv 1) pa_nil))))))
 (fun a oe cls d pn hz hf => by exact (pss_cons (ps_if (PW.pt (pw_or (pt_val (pe_callB (call_isEx hz hf) rfl T.z_isinstance (by decide +kernel) (pa_cons (pv 2) (pa_cons (pe_err e_Busy rfl) pa_nil)))) (pw_or (pt_val (pe_callB (call_isEx hz hf) rfl T.z_isinstance (by decide +kernel) (pa_cons (pv 2) (pa_cons (pe_err e_HouseDown rfl) pa_nil)))) (pw_or1 (pt_val (pe_callB (call_isEx hz hf) rfl T.z_isinstance (by decide +kernel) (pa_cons (pv 2) (pa_cons (pe_err e_Unknown rfl) pa_nil))))))))
 (pss_one (ps_ret pe_bl))
 pss_nil)
 (pss_one (ps_ret (pe_and (pe_callB (call_isEx hz hf) rfl T.z_isinstance (by decide +kernel) (pa_cons (pv 2) (pa_cons (pe_err e_RingError rfl) pa_nil))) (pe_one (pe_callB (call_isEx hz hf) rfl T.z_isinstance (by decide +kernel) (pa_cons (pv 2) (pa_cons (pe_bltn (v := .ty "ValueError") (u := .type "ValueError") rfl T.z_ValueError (by decide +kernel) rfl) pa_nil))))))))))
 (pss_one (ps_ret pe_bl))), ?_⟩
    walk_at "td"
    refine r_mk ?_
    walk_at "td"
    intro x dx hx hdx nx
    have s1 : Same H (upd (upd H dx (.own x)) x (.ins CK dx [])) := (same_new hdx).trans (same_new (by rw [upd_ne nx.symm]; exact hx))
    refine ⟨x, dx, l, c, xs, ps, N, S, rfl, upd_same, s1 _ _ hl, Paired.mono (fun _ _ z => PrAt.mono z s1) hp, few, one, ck.mono s1, hN, fun a b => absurd ⟨a, b⟩ no, fun _ H1 s2 => ?_⟩
    have s12 := s1.trans s2
    refine ⟨true, ex_BadValue_BadValue, fun _ ea hea => ?_, fun z => nomatch z⟩
    dsimp only
    walk_at "td"
    refine r_isE x_BadValue (fun u h => h) ko_BadValue_Busy_false ?_
    refine ⟨_, rfl, iteN rfl ?_⟩
    walk_at "td"
    refine r_isE x_BadValue (fun u h => h) ko_BadValue_HouseDown_false ?_
    refine ⟨_, rfl, iteN rfl ?_⟩
    walk_at "td"
    refine r_isE x_BadValue (fun u h => h) ko_BadValue_Unknown_false ?_
    walk_at "td"
    refine iteN rfl ?_
    walk_at "td"
    refine r_isE x_BadValue (fun u h => h) ko_BadValue_RingError_true ?_
    walk_at "td"
    refine iteP rfl ?_
    walk_at "td"
    refine r_isE x_BadValue (fun u h => h) kb_BadValue_ValueError_true ?_
    walk_at "td"
    exact q _ s12
theorem ok__law_same_list {f : Addr} {fd : FuncData} (F : Fun K "_law_same_list" "_law_same_list" s__law_same_list f fd) (T : Txt K mg) (c__law_same : C8.Cal P w K mg base 7 "_law_same" (spSame K CC 6) []) : FnOk P w K mg base CX0 8 f fd ["actual", "due"] (spSameL K CC 6) := by
  refine F.ok sc__law_same_list (fun vs H Q E h => ?_) (fun cdv A outer s H vs Q E hr h => ?_)
  · obtain ⟨a, b, xs, ys, ds, rfl, _⟩ := h
    rfl
  · obtain ⟨a, b, xs, ys, ds, rfl, ha, hb, Ra, Rb, few, tr, q⟩ := h
    refine ⟨_, (pss_one (ps_ret (pe_and (pe_callB call_isi rfl T.z_isinstance (by decide +kernel) (pa_cons (pv 0) (pa_cons (pe_bltn (v := .ty "list") (u := .type "list") rfl T.z_list (by decide +kernel) rfl) pa_nil))) (pe_one (C8.pe_c c__law_same hr (by decide) rfl (pa_cons (pe_callTy call_tupleG rfl T.z_tuple (by decide +kernel) (pa_cons (pv 0) pa_nil)) (pa_cons (pe_callTy call_tupleG rfl T.z_tuple (by decide +kernel) (pa_cons (pv 1) pa_nil)) pa_nil))))))), ?_⟩
    have l1 := Ra.len
    have l2 := Rb.len
    walk_at "td"
    refine r_isiL ha ?_
    refine ⟨_, rfl, ?_⟩
    refine iteP rfl ?_
    walk_at "td"
    refine r_tupL ha fun p hp => ?_
    generalize hu : upd _ p _ = H1
    have s1 := same_gen hu hp
    have a1 := at_gen hu
    clear hu
    walk_at "td"
    refine r_tupL (s1 _ _ hb) fun p2 hp2 => ?_
    generalize hu : upd _ p2 _ = H2
    have s2 := same_gen hu hp2
    have a2 := at_gen hu
    clear hu
    walk_at "td"
    exact ⟨_, _, .tup ds, rfl, rep_tupA (s2 _ _ a1) (Ra.mono (s1.trans s2)) few, rep_tupA a2 (Rb.mono (s1.trans s2)) (by omega), tr, fun H3 s3 => q H3 ((s1.trans s2).trans s3)⟩
end
end RH
-- tail: CL=Clock CK=Keep
namespace RH
open PySem L2
local macro_rules | `(tactic| walk_at "tdc") => `(tactic| first | assumption | decide | omega | exact cmul_r (by decide) (by decide) | exact cmul_l (by decide) (by decide) | exact cpow (by decide) (by decide) (by decide) | exact cdiv (by decide) (by decide) | exact wide_div (b := 200) (by assumption) (by omega) (by decide) (by decide) | exact cmul_r (by omega) (by omega) | exact cmul_l (by omega) (by omega))
local macro_rules | `(tactic| walk_at "td1") => `(tactic| first
  | with_reducible apply r_op | ((with_reducible apply r_var); exact rfl) | with_reducible apply r_c | with_reducible apply r_cons | with_reducible apply r_nil | with_reducible apply r_I0
  | with_reducible apply r_seq | with_reducible apply r_asg | with_reducible apply r_name | with_reducible apply r_cb | with_reducible apply r_test | with_reducible apply r_k
  | with_reducible apply r_ifS | with_reducible apply r_call | with_reducible apply r_ret | ((with_reducible apply r_I); walk_at "tdc") | ((with_reducible apply r_eq); exact rfl) | ((with_reducible apply r_ne); exact rfl)
  | ((with_reducible apply r_ixL); walk_at "tdh"; exact rfl) | ((with_reducible apply r_ixT); walk_at "tdh"; exact rfl) | with_reducible apply r_sub | ((with_reducible apply r_setL); walk_at "tdh"; exact rfl)
  | with_reducible apply r_un | with_reducible apply r_U | with_reducible apply r_B | with_reducible apply r_and | with_reducible apply r_or | with_reducible apply r_not
  | with_reducible apply r_andV | with_reducible apply r_orV | with_reducible apply r_notV | with_reducible apply r_if | with_reducible apply r_tup | with_reducible apply r_lst
  | ((with_reducible apply r_ixgT); walk_at "tdh"; exact rfl) | ((with_reducible apply r_ixgL); walk_at "tdh"; exact rfl)
  | with_reducible apply r_next | with_reducible apply r_drop | with_reducible apply r_int1 | with_reducible apply r_chain | with_reducible apply r_ord | with_reducible apply r_abs | with_reducible apply r_min2 | with_reducible apply r_max2
  | with_reducible apply r_leStr | with_reducible apply r_inSign | with_reducible apply r_notInSign | ((with_reducible apply r_isTy); assumption) | ((with_reducible apply r_notTy); assumption)
  | ((with_reducible apply r_lenL); walk_at "tdh") | ((with_reducible apply r_lenT); walk_at "tdh")
  | ((with_reducible apply r_fldV); exact rfl; walk_at "tdh"; assumption; assumption; exact rfl) | with_reducible apply r_bmG | with_reducible apply r_bm0G | with_reducible apply r_isN | with_reducible apply r_notN | with_reducible apply r_prop | ((with_reducible apply r_prX); walk_at "tdh") | with_reducible apply r_fld | ((apply r_fldX); walk_at "tdh"; assumption; assumption; exact rfl; walk_at "tdi") | with_reducible apply r_mtE | with_reducible apply r_cS | (refine r_gtup (SqT.of (by walk_at "tdh")) rfl ?_) | with_reducible apply r_gcons | with_reducible apply r_gnil | with_reducible apply r_sta | with_reducible apply r_staX | with_reducible apply r_mtG | ((with_reducible apply r_mtX); walk_at "tdh"; exact rfl) | with_reducible apply r_par2 | with_reducible apply r_par3 | ((with_reducible apply r_tyL); walk_at "tdh")
  | refine Rep.typ (by assumption) (fun _ _ => ?_) | refine r_isi (by assumption) (by assumption) (by decide) ?_)
local macro_rules | `(tactic| walk_at "td") => `(tactic| repeat walk_at "td1")
local macro_rules | `(tactic| walk_at "tdf") => `(tactic| (generalize hu : upd _ _ (.lst (_ ++ [_])) = H2; have f := fr_gen hu; have a := at_gen hu; clear hu))
local macro_rules | `(tactic| walk_at "tds") => `(tactic| (generalize hu : upd _ _ (.lst (List.set _ _ _)) = H2; have f := fr_gen hu; have a := at_gen hu; clear hu))
local macro_rules | `(tactic| walk_at "tdev") => `(tactic| first | exact ev_int _ | exact ev_bl _ | exact ev_non | exact ev_str _ (by decide +kernel) | assumption | (refine ev_tup (by walk_at "tdh") ?_; walk_at "tdall") | (refine Ev.mono (by assumption) ?_; walk_at "tdtk"))
local macro_rules | `(tactic| walk_at "tdall") => `(tactic| first | exact allN | (refine List.forall_mem_cons.mpr ⟨?_, ?_⟩; walk_at "tdev"; walk_at "tdall"))
local macro_rules | `(tactic| walk_at "tdn") => `(tactic| (refine ⟨szL rfl, fun p hp => ?_⟩; generalize hu : upd _ p _ = H2; have s := same_gen hu hp; have a := at_gen hu; clear hu))
local macro_rules | `(tactic| walk_at "tdt") => `(tactic| repeat (first | walk_at "td1" | walk_at "tdn" | walk_at "tdm"))
local macro_rules | `(tactic| walk_at "tdg") => `(tactic| (intro p hp; generalize hu : upd _ p _ = H2; have s := same_gen hu hp; have a := at_gen hu; clear hu))
local macro_rules | `(tactic| walk_at "tdh") => `(tactic| first | assumption | exact upd_same | (rw [upd_ne (by assumption)]; assumption) | (rw [upd_ne (Ne.symm (by assumption))]; assumption) | (apply same_step; assumption; walk_at "tdh") | (apply fr_step; assumption; walk_at "tdne"; walk_at "tdh") | (apply fr_stepK; assumption; walk_at "tdh"; walk_at "tdh"; (intro z; cases z)))
local macro_rules | `(tactic| walk_at "tdne") => `(tactic| first | assumption | exact Ne.symm (by assumption) | (apply ne_noneX; assumption; walk_at "tdh") | (apply Ne.symm; apply ne_noneX; assumption; walk_at "tdh"))
local macro_rules | `(tactic| walk_at "tdsm") => `(tactic| first | assumption | exact Same.refl _ | (apply same_chain; assumption; walk_at "tdsm") | (apply same_frX; assumption; walk_at "tdsm"; walk_at "tdno"))
local macro_rules | `(tactic| walk_at "tdno") => `(tactic| first | assumption | (apply none_backX; assumption; walk_at "tdsm"))
local macro_rules | `(tactic| walk_at "tdtk") => `(tactic| first | assumption | exact TuK.refl _ | (apply tuk_same; assumption; walk_at "tdtk") | (apply tuk_fr; assumption; walk_at "tdh"; walk_at "tdtk") | (apply tuk_frI; assumption; walk_at "tdh"; walk_at "tdtk"))
local macro_rules | `(tactic| walk_at "tdi") => `(tactic| (generalize hu : upd _ _ (.ins _ _ (putF _ _ _)) = H2; have f := fr_gen hu; have a := at_gen hu; clear hu))
local macro_rules | `(tactic| walk_at "tdrp") => `(tactic| first | exact .int _ | exact .bl _ | exact .non | exact .str _ (by assumption) | exact .str _ (okS_of (by decide +kernel)) | assumption | (apply rep_monoX; assumption; walk_at "tdsm") | (apply rep_tupA; walk_at "tdh"; walk_at "tdrpa"; first | exact leB rfl | assumption) | (apply rep_lstA; walk_at "tdh"; walk_at "tdrpa"; first | exact leB rfl | assumption) | exact .dct (by walk_at "tdh"))
local macro_rules | `(tactic| walk_at "tdrpa") => `(tactic| first | exact .nil | (apply RepAll.mono; assumption; walk_at "tdsm") | (apply RepAll.cons; walk_at "tdrp"; walk_at "tdrpa"))
local macro_rules | `(tactic| walk_at "tdm") => `(tactic| first | ((with_reducible apply r_catT); walk_at "tdh"; walk_at "tdh"; exact List.cons_ne_nil _ _; exact List.cons_ne_nil _ _; exact szL rfl; walk_at "tdg") | ((with_reducible apply r_listTU); walk_at "tdh"; walk_at "tdg") | ((with_reducible apply r_listL); walk_at "tdh"; walk_at "tdg") | ((with_reducible apply r_dnew); walk_at "tdg") | with_reducible apply r_slice | with_reducible apply r_nopart | with_reducible apply r_part | with_reducible apply r_pI | ((with_reducible apply r_slT); walk_at "tdh"; exact of_decide_eq_false rfl; walk_at "tdg") | ((with_reducible apply r_slL); walk_at "tdh"; walk_at "tdg"))
local macro_rules | `(tactic| walk_at "tdd") => `(tactic| (generalize hu : upd _ _ (.dK _) = H2; have f := fr_gen hu; have a := at_gen hu; clear hu))
local macro_rules | `(tactic| walk_at "tdk") => `(tactic| repeat (first | walk_at "td1" | walk_at "tdn" | walk_at "tdm" | ((with_reducible apply r_disp); walk_at "tdg") | with_reducible apply r_pcons | with_reducible apply r_pnil | with_reducible apply r_dputW | (apply r_dputZ; walk_at "tdh"; exact rfl; decide; decide +kernel; walk_at "tdd") | with_reducible apply r_dget))

section
variable {P : Program} {w : World} {K : PySem.W.Frag} {mg : Str → Option Value} {base : Heap} {CC : Addr → Prop}
theorem ok__law_holds {f CK CL : Addr} {fd : FuncData} (F : Fun K "_law_holds" "_law_holds" s__law_holds f fd) (T : Txt K mg) (cl_Keep : Cls K CK) (c__law_clock_value : C8.Cal P w K mg base 1 "_law_clock_value" spCval []) (c__law_same_list : C8.Cal P w K mg base 8 "_law_same_list" (spSameL K CC 6) []) (c__law_same : C8.Cal P w K mg base 7 "_law_same" (spSame K CC 6) [])
    (c_Clock_value : C8.Met P w K mg base 1 CL "value" (spClkVal CL) []) (c_Keep___len__ : C8.Met P w K mg base 1 CK "__len__" (spKeepLen K CC CK CL) []) (c_Keep___iter__ : MetN P w K mg base 1 CK "__iter__" (spIterT K CK "_pairs")) (p_Keep_clock : Pro P w K mg base 1 CK "clock" (spKeepClk K CC CK CL)) (c_Keep_entry : C8.Met P w K mg base 1 CK "entry" (spKeepEnt K CC CK CL) []) (c_Keep_value : C8.Met P w K mg base 2 CK "value" (spKeepVal K CC CK CL) []) :
    FnOk P w K mg base CX0 9 f fd ["keep", "pairs", "things", "dots"] (spHold8 K CC CK CL) := by
  refine F.ok sc__law_holds (fun vs H Q E h => ?_) (fun cdv A outer s H vs Q E hr h => ?_)
  · obtain ⟨k, l, th, dl, xs, ts, ds, N, S, ps, qs, tps, dps, rfl, _⟩ := h
    rfl
  · obtain ⟨k, l, th, dl, xs, ts, ds, N, S, ps, qs, tps, dps, rfl, ks, hN, hl, hp, qp, okp, hth, htp, okt, sub, hdl, hd, one, ld, lt, lx, SD, q⟩ := h
    refine ⟨_, (pss_cons (ps_set (i := 4) sc__law_holds.nd rfl (Or.inl rfl) (pe_callB (cr_sortedKP hr.units) rfl T.z_sorted (by decide +kernel) (pa_cons (pv 1) pa_nil)))
 (pss_cons (ps_set (i := 5) sc__law_holds.nd rfl (Or.inl rfl) (C8.pe_c c__law_clock_value hr (by decide) rfl (pa_cons (pv 3) (pa_cons pe_dnewK pa_nil))))
 (pss_cons (ps_if (PW.pt (pw_or (pt_cmpR op_ne (pe_callB (call_lenM c_Keep___len__ (hr.mono (by decide))) rfl T.z_len (by decide +kernel) (pa_cons (pv 0) pa_nil)) (pe_callB call_lenG rfl T.z_len (by decide +kernel) (pa_cons (pv 4) pa_nil)) (nomark _)) (pw_or1 (pt_not (pt_val (C8.pe_c c__law_same_list hr (by decide) rfl (pa_cons (pe_callTy (call_listM c_Keep___iter__ c_Keep___len__ (hr.mono (by decide)) rfl) rfl T.z_list (by decide +kernel) (pa_cons (pv 0) pa_nil)) (pa_cons (pv 4) pa_nil))))))))
 (pss_one (ps_ret pe_bl))
 pss_nil)
 (pss_cons (ps_set (i := 6) sc__law_holds.nd rfl (Or.inl rfl) (pe_lst pa_nil))
 (pss_cons (ps_for PassesOwn.never rfl (pi_own c_Keep___iter__ (hr.mono (by decide)) (pv 0)) (pg_tup rfl (pgs_cons (pg_name (i := 7) sc__law_holds.nd rfl (Or.inl rfl)) (pgs_cons (pg_name (i := 8) sc__law_holds.nd rfl (Or.inl rfl)) pgs_nil)))
 (pss_one (ps_expr (pe_bm PySem.F.plainAttrs_list PySem.F.slot_list_append PySem.F.type_list_append mt_append (pv 6) (pa_cons (pe_tup (pa_cons (pv 7) (pa_cons (pv 8) pa_nil))) pa_nil)))))
 (pss_cons (ps_if (PW.pt (pw_or (pt_not (pt_val (C8.pe_c c__law_same_list hr (by decide) rfl (pa_cons (pv 6) (pa_cons (pv 4) pa_nil))))) (pw_or1 (pt_not (pt_val (C8.pe_c c__law_same hr (by decide) rfl (pa_cons (C8.pe_mt0 c_Clock_value hr (by decide) (pe_pr p_Keep_clock hr (by decide) (pv 0) rfl)) (pa_cons (pv 5) pa_nil))))))))
 (pss_one (ps_ret pe_bl))
 pss_nil)
 (pss_cons (ps_set (i := 6) sc__law_holds.nd rfl (Or.inl rfl) (pe_lst pa_nil))
 (pss_cons (ps_for PassesOwn.never rfl (pi_own c_Keep___iter__ (hr.mono (by decide)) (pv 0)) (pg_name (i := 9) sc__law_holds.nd rfl (Or.inl rfl))
 (pss_one (ps_for PassesOwn.never rfl (pi_own c_Keep___iter__ (hr.mono (by decide)) (pv 0)) (pg_name (i := 10) sc__law_holds.nd rfl (Or.inl rfl))
 (pss_one (ps_expr (pe_bm PySem.F.plainAttrs_list PySem.F.slot_list_append PySem.F.type_list_append mt_append (pv 6) (pa_cons (pe_tup (pa_cons (pv 9) (pa_cons (pv 10) pa_nil))) pa_nil)))))))
 (pss_cons (ps_if (pt_cmpR op_ne (pe_callB call_lenG rfl T.z_len (by decide +kernel) (pa_cons (pv 6) pa_nil)) (pe_op op_mul (pe_callB call_lenG rfl T.z_len (by decide +kernel) (pa_cons (pv 4) pa_nil)) (pe_callB call_lenG rfl T.z_len (by decide +kernel) (pa_cons (pv 4) pa_nil))) (nomark _))
 (pss_one (ps_ret pe_bl))
 pss_nil)
 (pss_cons (ps_set (i := 11) sc__law_holds.nd rfl (Or.inl rfl) pe_dnewT)
 (pss_cons (ps_for PassesOwn.never rfl (pi_list (pv 4)) (pg_tup rfl (pgs_cons (pg_name (i := 7) sc__law_holds.nd rfl (Or.inl rfl)) (pgs_cons (pg_name (i := 8) sc__law_holds.nd rfl (Or.inl rfl)) pgs_nil)))
 (pss_one (ps_dput (hu1 hr) (pv 11) (pv 7) (pv 8) rfl)))
 (pss_cons (ps_for PassesOwn.never rfl (pi_list (pv 2)) (pg_tup rfl (pgs_cons (pg_name (i := 7) sc__law_holds.nd rfl (Or.inl rfl)) (pgs_cons (pg_name (i := 8) sc__law_holds.nd rfl (Or.inl rfl)) pgs_nil)))
 (pss_one (ps_if (pt_not (pt_val (C8.pe_c c__law_same hr (by decide) rfl (pa_cons (C8.pe_mt c_Keep_entry hr (by decide) (pv 0) (pa_cons (pv 7) pa_nil)) (pa_cons (pe_dget1 (hu1 hr) (pv 11) (pv 7) ⟨rfl, rfl, rfl, rfl⟩) pa_nil)))))
 (pss_one (ps_ret pe_bl))
 pss_nil)))
 (pss_one (ps_ret (C8.pe_c c__law_same hr (by decide) rfl (pa_cons (C8.pe_mt0 c_Keep_value hr (by decide) (pv 0)) (pa_cons (pe_tup (pa_cons (pe_callTy call_tupleG rfl T.z_tuple (by decide +kernel) (pa_cons (pv 4) pa_nil)) (pa_cons (pv 5) pa_nil))) pa_nil))))))))))))))))), ?_⟩
    have lps := Paired.length hp
    have lq : qs.length = ps.length := qp.length_eq
    have ltp := Paired.length htp
    have asc : AscK qs := by
      obtain ⟨dx, d, t, c, kvs, q2, ys, h1, h2, h3, h4, h5, h6, h7, _⟩ := ks
      exact h7
    have okq : ∀ p ∈ qs, EntD p.2 := fun p m => okp.en p (qp.mem_iff.mp m)
    walk_at "td"
    refine ⟨l, xs, kpAt H, rfl, SqL.of hl, fun x m => ?_, fun x mx y my e => ?_, fun ys p pm sd hpn => ?_⟩
    · obtain ⟨i, hi⟩ := List.mem_iff_getElem?.mp m
      obtain ⟨p, hpi, t, dt, v, rfl, a, b, R⟩ := paired_at hp hi
      obtain ⟨ss, z, it, e, _⟩ := okp.en p (List.mem_of_getElem? hpi)
      rw [e] at R
      cases R with
      | @tup ea es _ hea _ _ _ =>
      have ed : kpAt H (.ref t) = p.1 := PrAt.dot (K := K) (CC := CC) (p := p) ⟨t, dt, _, rfl, a, b, by rw [e]; exact .tup hea ‹_› ‹_› ‹_›⟩
      exact ⟨t, dt, ea, rfl, a, by rw [ed]; exact b⟩
    · obtain ⟨i, hi⟩ := List.mem_iff_getElem?.mp mx
      obtain ⟨j, hj⟩ := List.mem_iff_getElem?.mp my
      obtain ⟨p1, hp1, r1⟩ := paired_at hp hi
      obtain ⟨p2, hp2, r2⟩ := paired_at hp hj
      rw [r1.dot, r2.dot] at e
      have ij : i = j := nd_idx okp.nd (a := p1.1) (by rw [List.getElem?_map, hp1]; rfl) (by rw [List.getElem?_map, hp2, e]; rfl)
      subst ij
      exact Option.some.inj (hi.symm.trans hj)
    generalize hu : upd H p _ = H1
    have s1 := same_gen hu hpn
    have a1 := at_gen hu
    clear hu
    have due := due_of hp okp.nd pm sd asc qp
    have due1 : Paired (PrAt K CC H1) ys qs := Paired.mono (fun _ _ z => PrAt.mono z s1) due
    have lys := Paired.length due
    clear pm sd
    walk_at "td"
    refine r_dnew fun bd hbd => ?_
    generalize hu : upd H1 bd _ = H2
    have s2 := same_gen hu hbd
    have a2 : H2 bd = some (.dK (dOf [])) := at_gen hu
    clear hu
    have s02 := s1.trans s2
    walk_at "td"
    refine ⟨dl, bd, ds, dps, [], rfl, s02 _ _ hdl, hd.mono s02, by omega, one, a2, .nil, by decide, (fun _ m => nomatch m), fun rv rows H3 s3 can va => ?_⟩
    have can : CanV rows S := (canL can).congr fun c k k1 => (SD c k k1).symm
    have canD : CanV rows (inL dps) := can.congr fun c k k1 => SD c k k1
    have wl := wt_L canD
    have ldp : ds.length = dps.length := hd.1
    have s03 := s02.trans s3
    have ks3 := ks.mono s03
    obtain ⟨dx, d, t, c, kvs, q2, zs, hk, h2, h3, h4, ht, hz, h7, ck, h8, h9⟩ := id ks3
    have lzs := Paired.length hz
    walk_at "td"
    have sM : ∀ {Ha Hb : Hp}, Same Ha Hb → ∀ b o, Ha b = some o → Hb b = some o := fun s => s
    refine ⟨k, dx, _, rfl, hk, k, N, qs, S, rfl, ks3, qs.length, rfl, by omega, by omega, ?_⟩
    have a13 := (s2.trans s3) _ _ a1
    have due3 : Paired (PrAt K CC H3) ys qs := Paired.mono (fun _ _ z => PrAt.mono z (s2.trans s3)) due1
    walk_at "td"
    refine ite2 (fun e => ?_) (fun e => ?_)
    · rw [lys, decide_eq_true rfl] at e
      cases e
    walk_at "td"
    refine ⟨k, dx, t, _, zs, rfl, hk, ht, by rw [sizeLine_eq]; omega, fun n H' kp Q1 q1 => ⟨k, dx, _, t, zs, rfl, kp _ _ hk, rfl, SqT.of (kp _ _ ht), q1⟩, fun H' kp => ⟨k, N, qs, S, rfl, ks3.mono kp, _, rfl, by omega, by omega, by rw [lzs], rfl⟩, fun lk hlk => ?_⟩
    generalize hu : upd H3 lk _ = H4
    have s4 := same_gen hu hlk
    have a4 := at_gen hu
    clear hu
    walk_at "td"
    refine ⟨lk, p, zs, ys, qs.map prD, rfl, a4, s4 _ _ a13, (prs_rep hz).mono s4, (prs_rep due3).mono s4, by omega, prs_tree okq, fun H5 s5 => ?_⟩
    have s35 := s4.trans s5
    walk_at "td"
    refine iteN rfl ?_
    walk_at "td"
    refine ⟨szL rfl, fun w6 hw6 => ?_⟩
    generalize hu : upd H5 w6 _ = H6
    have s6 := same_gen hu hw6
    have a6 : H6 w6 = some (.lst []) := at_gen hu
    clear hu
    have s06 := (s03.trans s35).trans s6
    have s36 := s35.trans s6
    have hz5 : Paired (PrAt K CC H5) zs qs := Paired.mono (fun _ _ z => PrAt.mono z s35) hz
    walk_at "td"
    refine r_for (r_ownT (a := k) (l := t) (xs := zs) rfl (s36 _ _ hk) rfl (SqT.of (s36 _ _ ht)) ?_)
    refine go_it (walk_tup (xs := zs)) (fun i σ' H' => ∃ u7 u8, σ' = [some (.ref k), some (.ref l), some (.ref th), some (.ref dl), some (.ref p), some (.ref rv), some (.ref w6), u7, u8, none, none, none] ∧ Same H5 H' ∧ ∃ ws, H' w6 = some (.lst ws) ∧ PrsT K CC H' ws (qs.take i)) ⟨_, _, rfl, s6, [], a6, by rw [List.take_zero]; exact .nil⟩ (fun i σ' H' _ z => ?_) ?_ ?_
    · obtain ⟨u7, u8, _, sH, _⟩ := z
      exact SqT.of (sH _ _ (s35 _ _ ht))
    · rintro i x σ' H7 H7' hi ⟨u7, u8, rfl, s7, ws, aw, hP⟩ ⟨rfl, hx⟩
      obtain ⟨pr, hpr, tx, dt, v, rfl, b1, b2, R⟩ := paired_at hz5 hx
      have en := okq pr (List.mem_of_getElem? hpr)
      have b17 := s7 _ _ b1
      have lw := Paired.length hP
      rw [List.length_take] at lw
      walk_at "tdt"
      rename_i p8 hp8 H8 s8 a8
      have aw8 := s8 _ _ aw
      refine r_append aw8 (small1000 (by omega)) ?_
      have k8 : TuK H7' (upd H8 w6 (.lst (ws ++ [.ref p8]))) := (TuK.of s8).trans (TuK.put aw8)
      have k58 : TuK H5 (upd H8 w6 (.lst (ws ++ [.ref p8]))) := (TuK.of s7).trans k8
      refine ⟨_, _, rfl, fun b o e => ?_, ws ++ [.ref p8], upd_same, ?_⟩
      · rw [upd_ne (ne_of_none e hw6)]
        exact s8 _ _ (s7 _ _ e)
      · rw [List.take_add_one, hpr]
        exact (hP.keep k8).snoc ⟨p8, dt, v, rfl, tu_at (TuK.put aw8 _ _ a8), tu_at (k58 _ _ b2), (tree_tu R (ent_tree en)).mono k58.tu⟩
    rintro σ' H7 ⟨u7, u8, rfl, s7, ws, aw, hP⟩
    have tk : qs.take zs.length = qs := List.take_of_length_le (by omega)
    rw [tk] at hP
    have lws := Paired.length hP
    have s37 := s35.trans s7
    have due7 : Paired (PrAt K CC H7) ys qs := Paired.mono (fun _ _ z => PrAt.mono z s37) due3
    walk_at "td"
    refine ⟨w6, p, ws, ys, qs.map prD, rfl, aw, s37 _ _ a13, prs_rep hP.un, prs_rep due7, by omega, prs_tree okq, fun H8 s8 => ?_⟩
    walk_at "td"
    show if (!true) = true then _ else _
    refine iteN rfl ?_
    have s38 := s37.trans s8
    have ks8 := ks3.mono s38
    walk_at "td"
    refine ⟨k, N, qs, S, rfl, ks8, fun c8 ck8 => ?_⟩
    obtain ⟨dc, d0, ro, hc, _⟩ := id ck8
    refine ⟨c8, dc, _, rfl, hc, rfl, ?_⟩
    walk_at "td"
    refine ⟨c8, N, S, rfl, ck8, hN, fun v9 rows9 H9 s9 can9 wt9 va9 => ?_⟩
    obtain rfl : rows9 = rows := can_one can9.1 can.1 fun c k k1 => (can9.2 c k k1).trans (can.2 c k k1).symm
    walk_at "td"
    have s39 := s38.trans s9
    refine ⟨.ref v9, .ref rv, cvD rows9, rfl, va9.rep (by omega), (va.mono s39).rep (by omega), tree_cv _, fun H10 s10 => ?_⟩
    have s310 := s39.trans s10
    walk_at "td"
    show if (!true) = true then _ else _
    refine iteN rfl ?_
    walk_at "td"
    refine ⟨szL rfl, fun w11 hw11 => ?_⟩
    generalize hu : upd H10 w11 _ = H11
    have s11 := same_gen hu hw11
    have a11 : H11 w11 = some (.lst []) := at_gen hu
    clear hu
    have s311 := s310.trans s11
    walk_at "td"
    refine r_for (r_ownT (a := k) (l := t) (xs := zs) rfl (s311 _ _ hk) rfl (SqT.of (s311 _ _ ht)) ?_)
    refine go_it (walk_tup (xs := zs)) (fun i σ' H' => ∃ u7 u8 u9 u10, σ' = [some (.ref k), some (.ref l), some (.ref th), some (.ref dl), some (.ref p), some (.ref rv), some (.ref w11), u7, u8, u9, u10, none] ∧ Same H10 H' ∧ ∃ ws, H' w11 = some (.lst ws) ∧ ws.length = i * zs.length) ⟨_, _, _, _, rfl, s11, [], a11, by rw [Nat.zero_mul]; rfl⟩ (fun i σ' H' _ z => ?_) ?_ ?_
    · obtain ⟨u7, u8, u9, u10, _, sH, _⟩ := z
      exact SqT.of (sH _ _ (s310 _ _ ht))
    · rintro i x σ' H12 H12' hi ⟨u7', u8', u9, u10, rfl, s12, ws, aw, lw⟩ ⟨rfl, hx⟩
      have s312 := s310.trans s12
      walk_at "td"
      refine r_for (r_ownT (a := k) (l := t) (xs := zs) rfl (s312 _ _ hk) rfl (SqT.of (s312 _ _ ht)) ?_)
      refine go_it (walk_tup (xs := zs)) (fun j σ' H' => ∃ u10, σ' = [some (.ref k), some (.ref l), some (.ref th), some (.ref dl), some (.ref p), some (.ref rv), some (.ref w11), u7', u8', some x, u10, none] ∧ Same H10 H' ∧ ∃ ws, H' w11 = some (.lst ws) ∧ ws.length = i * zs.length + j) ⟨_, rfl, s12, ws, aw, lw⟩ (fun j σ' H' _ z => ?_) ?_ ?_
      · obtain ⟨u10, _, sH, _⟩ := z
        exact SqT.of (sH _ _ (s310 _ _ ht))
      · rintro j y σ' H13 H13' hj ⟨u10', rfl, s13, ws, aw, lw⟩ ⟨rfl, hy⟩
        walk_at "tdt"
        rename_i p14 hp14 H14 s14 a14
        have aw14 := s14 _ _ aw
        have bound : i * zs.length ≤ 40 * 40 := Nat.mul_le_mul (by omega) (by omega)
        refine r_append aw14 (by rw [sizeLine_eq]; omega) ?_
        refine ⟨_, rfl, fun b o e => ?_, ws ++ [.ref p14], upd_same, by rw [List.length_append, List.length_singleton]; omega⟩
        rw [upd_ne (ne_of_none e hw11)]
        exact s14 _ _ (s13 _ _ e)
      · rintro σ' H13 ⟨u10', rfl, s13, ws, aw, lw⟩
        exact ⟨_, _, _, _, rfl, s13, ws, aw, by rw [lw, Nat.succ_mul]⟩
    rintro σ' H12 ⟨u7', u8', u9, u10, rfl, s12, ws, aw, lw⟩
    have s312 := s310.trans s12
    have a112 := s312 _ _ a13
    walk_at "td"
    have eN : (ws.length : Int) = (ys.length : Int) * (ys.length : Int) := by
      rw [lw, lys, lzs]
      exact Int.natCast_mul _ _
    refine ite2 (fun e => ?_) (fun e => ?_)
    · rw [eN, decide_eq_true rfl] at e
      cases e
    walk_at "td"
    refine r_dnewT fun lv hlv => ?_
    generalize hu : upd H12 lv _ = H13
    have s13 := same_gen hu hlv
    have a13v : H13 lv = some (.dT []) := at_gen hu
    clear hu
    have due12 : Paired (PrAt K CC H12) ys qs := Paired.mono (fun _ _ z => PrAt.mono z s312) due3
    have ndq : (qs.map (·.1)).Nodup := asc.nodup
    walk_at "td"
    refine r_for (r_list ?_)
    walk_at "td"
    refine ⟨p, rfl, ⟨_, SqL.of (s13 _ _ a112)⟩, ?_⟩
    refine go_it (walk_list (xs := ys)) (fun i σ' H' => ∃ u7 u8, σ' = [some (.ref k), some (.ref l), some (.ref th), some (.ref dl), some (.ref p), some (.ref rv), some (.ref w11), u7, u8, u9, u10, some (.ref lv)] ∧ Same H12 H' ∧ ∃ kv, H' lv = some (.dT kv) ∧ Paired (KvAt K CC H12) kv (qs.take i)) ⟨_, _, rfl, s13, [], a13v, by rw [List.take_zero]; exact .nil⟩ (fun i σ' H' _ z => ?_) ?_ ?_
    · obtain ⟨u7, u8, _, sH, _⟩ := z
      exact SqL.of (sH _ _ a112)
    · rintro i x σ' H14 H14' hi ⟨u7, u8, rfl, s14, kv, av, hK⟩ ⟨rfl, hx⟩
      obtain ⟨pr, hpr, tx, dt, v, rfl, b1, b2, R⟩ := paired_at due12 hx
      have b14 := s14 _ _ b1
      have lkv := Paired.length hK
      rw [List.length_take] at lkv
      have li : i < qs.length := (List.getElem?_eq_some_iff.mp hpr).1
      walk_at "td"
      refine r_dput ?_
      walk_at "td"
      refine ⟨lv, _, rfl, DPut.t (k := pk2 pr.1) av (s14 _ _ b2) (by rw [sizeLine_eq]; omega), ?_⟩
      have nk : ¬ pk2 pr.1 ∈ kv.map (·.1) := by
        rw [kv_keys hK]
        intro m
        obtain ⟨d', m', e⟩ := List.mem_map.mp m
        have e' := pk2_inj e
        obtain ⟨p', mp', ep'⟩ := List.mem_map.mp m'
        obtain ⟨j, hj⟩ := List.mem_iff_getElem?.mp mp'
        have jl : j < i := by
          have := (List.getElem?_eq_some_iff.mp hj).1
          rw [List.length_take] at this
          omega
        rw [List.getElem?_take_of_lt jl] at hj
        have := nd_idx ndq (i := j) (j := i) (a := pr.1) (by rw [List.getElem?_map, hj]; show some p'.1 = _; rw [ep', e']) (by rw [List.getElem?_map, hpr]; rfl)
        omega
      rw [put_new nk]
      refine ⟨_, _, rfl, fun b o e => ?_, _, upd_same, ?_⟩
      · rw [upd_ne (ne_of_none e hlv)]
        exact s14 _ _ e
      · rw [List.take_add_one, hpr]
        exact hK.snoc ⟨rfl, R⟩
    rintro σ' H14 ⟨u7'', u8'', rfl, s14, kv, av, hK⟩
    have tkq : qs.take ys.length = qs := List.take_of_length_le (by omega)
    rw [tkq] at hK
    have s314 := s312.trans s14
    have s014 := s03.trans s314
    have ht14 := s014 _ _ hth
    walk_at "td"
    refine r_for (r_list ?_)
    walk_at "td"
    refine ⟨th, rfl, ⟨_, SqL.of ht14⟩, ?_⟩
    refine go_it (walk_list (xs := ts)) (fun i σ' H' => ∃ u7 u8, σ' = [some (.ref k), some (.ref l), some (.ref th), some (.ref dl), some (.ref p), some (.ref rv), some (.ref w11), u7, u8, u9, u10, some (.ref lv)] ∧ Same H14 H') ⟨_, _, rfl, Same.refl _⟩ (fun i σ' H' _ z => ?_) ?_ ?_
    · obtain ⟨u7, u8, _, sH⟩ := z
      exact SqL.of (sH _ _ ht14)
    · rintro i x σ' H15 H15' hi ⟨u7, u8, rfl, s15⟩ ⟨rfl, hx⟩
      have s315 := s314.trans s15
      have s015 := s014.trans s15
      obtain ⟨pr, hpr, tx, dt, v, rfl, b1, b2, R⟩ := paired_at htp hx
      have b15 := s015 _ _ b1
      walk_at "td"
      refine ⟨k, dx, _, rfl, s315 _ _ hk, rfl, ?_⟩
      walk_at "td"
      refine ⟨k, dt, pr.1, N, qs, S, rfl, ks3.mono s315, s015 _ _ b2, fun ve yes no => ?_⟩
      walk_at "td"
      refine r_dget1 ?_
      walk_at "td"
      refine ⟨lv, rfl, .inr ⟨kv, .inl (s15 _ _ av)⟩, ?_⟩
      walk_at "td"
      refine ⟨_, DGet.t (k := pk2 pr.1) (s15 _ _ av) (s015 _ _ b2), ?_⟩
      walk_at "td"
      have fin : ∀ (d : D), Rep K CC H15' ve d → Rep K CC H15' ((valV kv (pk2 pr.1)).getD .non) d → TreeV 6 d → ∃ dd, Rep K CC H15' ve dd ∧ Rep K CC H15' ((valV kv (pk2 pr.1)).getD .non) dd ∧ TreeV 6 dd := fun d a b c => ⟨d, a, b, c⟩
      obtain ⟨dd, Ra, Rb, tr⟩ : ∃ dd, Rep K CC H15' ve dd ∧ Rep K CC H15' ((valV kv (pk2 pr.1)).getD .non) dd ∧ TreeV 6 dd := by
        by_cases m : pr ∈ qs
        · obtain ⟨v2, hv2, R2⟩ := valT_some hK ndq m
          refine fin pr.2 (yes pr.2 m) ?_ ((ent_tree (okq pr m)).up (by decide))
          rw [hv2]
          exact R2.mono (s14.trans s15)
        · have none : ∀ e, ¬ (pr.1, e) ∈ qs := fun e me => by
            have m2 := sub _ (qp.mem_iff.mp me)
            have e1 := entK_at okt.nd _ m2
            have e2 := entK_at okt.nd pr (List.mem_of_getElem? hpr)
            have e3 : e = pr.2 := e1.symm.trans e2
            rw [e3] at me
            exact m me
          rw [no none, valT_none]
          · exact ⟨.non, .non, .non, .inl (.inr (.inr rfl))⟩
          · rw [kv_keys hK]
            intro mm
            obtain ⟨d', m', e⟩ := List.mem_map.mp mm
            have e' := pk2_inj e
            obtain ⟨p', mp', ep'⟩ := List.mem_map.mp m'
            have e4 : p'.1 = pr.1 := ep'.trans e'
            exact none p'.2 (by rw [← e4]; exact mp')
      refine ⟨ve, _, dd, rfl, Ra, Rb, tr, fun H16 s16 => ?_⟩
      walk_at "td"
      refine iteN rfl ?_
      walk_at "td"
      exact ⟨_, _, rfl, s15.trans s16⟩
    rintro σ' H15 ⟨u7', u8', rfl, s15⟩
    have s315 := s314.trans s15
    have hk15 := s315 _ _ hk
    walk_at "td"
    refine ⟨k, N, qs, S, rfl, ks3.mono s315, hN, fun v16 t16 u16 ys16 rows16 H16 s16 e1 e2 e3 can16 wt16 va16 => ?_⟩
    obtain rfl : rows16 = rows9 := can_one can16.1 can.1 fun c k k1 => (can16.2 c k k1).trans (can.2 c k k1).symm
    have s316 := s315.trans s16
    walk_at "td"
    refine r_tupL (s316 _ _ a13) fun p17 hp17 => ?_
    generalize hu : upd _ p17 _ = H17
    have s17 := same_gen hu hp17
    have a17 := at_gen hu
    clear hu
    walk_at "tdt"
    rename_i p18 hp18 H18 s18 a18
    have s318 := (s316.trans s17).trans s18
    have l16 := Paired.length e3
    refine ⟨_, _, .tup [.tup (qs.map prD), cvD rows16], rfl, ?_, ?_, ?_, fun H19 s19 => q H19 (((s03.trans s318)).trans s19)⟩
    · exact (rep_tupA e1 (.cons (rep_tupA e2 (prs_rep e3) (by omega)) (.cons (va16.rep (by omega)) .nil)) (leB rfl)).mono (s17.trans s18)
    · exact rep_tupA a18 (.cons (rep_tupA (s18 _ _ a17) ((prs_rep due3).mono s318) (by omega)) (.cons ((va.mono s318).rep (by omega)) .nil)) (leB rfl)
    · refine .tup fun e m => ?_
      simp only [List.mem_cons, List.not_mem_nil, or_false] at m
      rcases m with rfl | rfl
      · exact .tup fun e m => by
          obtain ⟨p, mp, rfl⟩ := List.mem_map.mp m
          exact (pr_tree (okq p mp)).up (by decide)
      · exact (tree_cv (n := 0) _).up (by decide)
end
end RH
-- tail: CL=Clock CK=Keep
namespace RH
open PySem L2
local macro_rules | `(tactic| walk_at "tdc") => `(tactic| first | assumption | decide | omega | exact cmul_r (by decide) (by decide) | exact cmul_l (by decide) (by decide) | exact cpow (by decide) (by decide) (by decide) | exact cdiv (by decide) (by decide) | exact wide_div (b := 200) (by assumption) (by omega) (by decide) (by decide) | exact cmul_r (by omega) (by omega) | exact cmul_l (by omega) (by omega))
local macro_rules | `(tactic| walk_at "td1") => `(tactic| first
  | with_reducible apply r_op | ((with_reducible apply r_var); exact rfl) | with_reducible apply r_c | with_reducible apply r_cons | with_reducible apply r_nil | with_reducible apply r_I0
  | with_reducible apply r_seq | with_reducible apply r_asg | with_reducible apply r_name | with_reducible apply r_cb | with_reducible apply r_test | with_reducible apply r_k
  | with_reducible apply r_ifS | with_reducible apply r_call | with_reducible apply r_ret | ((with_reducible apply r_I); walk_at "tdc") | ((with_reducible apply r_eq); exact rfl) | ((with_reducible apply r_ne); exact rfl)
  | ((with_reducible apply r_ixL); walk_at "tdh"; exact rfl) | ((with_reducible apply r_ixT); walk_at "tdh"; exact rfl) | with_reducible apply r_sub | ((with_reducible apply r_setL); walk_at "tdh"; exact rfl)
  | with_reducible apply r_un | with_reducible apply r_U | with_reducible apply r_B | with_reducible apply r_and | with_reducible apply r_or | with_reducible apply r_not
  | with_reducible apply r_andV | with_reducible apply r_orV | with_reducible apply r_notV | with_reducible apply r_if | with_reducible apply r_tup | with_reducible apply r_lst
  | ((with_reducible apply r_ixgT); walk_at "tdh"; exact rfl) | ((with_reducible apply r_ixgL); walk_at "tdh"; exact rfl)
  | with_reducible apply r_next | with_reducible apply r_drop | with_reducible apply r_int1 | with_reducible apply r_chain | with_reducible apply r_ord | with_reducible apply r_abs | with_reducible apply r_min2 | with_reducible apply r_max2
  | with_reducible apply r_leStr | with_reducible apply r_inSign | with_reducible apply r_notInSign | ((with_reducible apply r_isTy); assumption) | ((with_reducible apply r_notTy); assumption)
  | ((with_reducible apply r_lenL); walk_at "tdh") | ((with_reducible apply r_lenT); walk_at "tdh")
  | ((with_reducible apply r_fldV); exact rfl; walk_at "tdh"; assumption; assumption; exact rfl) | with_reducible apply r_bmG | with_reducible apply r_bm0G | with_reducible apply r_isN | with_reducible apply r_notN | with_reducible apply r_prop | ((with_reducible apply r_prX); walk_at "tdh") | with_reducible apply r_fld | ((apply r_fldX); walk_at "tdh"; assumption; assumption; exact rfl; walk_at "tdi") | with_reducible apply r_mtE | with_reducible apply r_cS | (refine r_gtup (SqT.of (by walk_at "tdh")) rfl ?_) | with_reducible apply r_gcons | with_reducible apply r_gnil | with_reducible apply r_sta | with_reducible apply r_staX | with_reducible apply r_mtG | ((with_reducible apply r_mtX); walk_at "tdh"; exact rfl) | with_reducible apply r_par2 | with_reducible apply r_par3 | ((with_reducible apply r_tyL); walk_at "tdh")
  | refine Rep.typ (by assumption) (fun _ _ => ?_) | refine r_isi (by assumption) (by assumption) (by decide) ?_)
local macro_rules | `(tactic| walk_at "td") => `(tactic| repeat walk_at "td1")
local macro_rules | `(tactic| walk_at "tdf") => `(tactic| (generalize hu : upd _ _ (.lst (_ ++ [_])) = H2; have f := fr_gen hu; have a := at_gen hu; clear hu))
local macro_rules | `(tactic| walk_at "tds") => `(tactic| (generalize hu : upd _ _ (.lst (List.set _ _ _)) = H2; have f := fr_gen hu; have a := at_gen hu; clear hu))
local macro_rules | `(tactic| walk_at "tdev") => `(tactic| first | exact ev_int _ | exact ev_bl _ | exact ev_non | exact ev_str _ (by decide +kernel) | assumption | (refine ev_tup (by walk_at "tdh") ?_; walk_at "tdall") | (refine Ev.mono (by assumption) ?_; walk_at "tdtk"))
local macro_rules | `(tactic| walk_at "tdall") => `(tactic| first | exact allN | (refine List.forall_mem_cons.mpr ⟨?_, ?_⟩; walk_at "tdev"; walk_at "tdall"))
local macro_rules | `(tactic| walk_at "tdn") => `(tactic| (refine ⟨szL rfl, fun p hp => ?_⟩; generalize hu : upd _ p _ = H2; have s := same_gen hu hp; have a := at_gen hu; clear hu))
local macro_rules | `(tactic| walk_at "tdt") => `(tactic| repeat (first | walk_at "td1" | walk_at "tdn" | walk_at "tdm"))
local macro_rules | `(tactic| walk_at "tdg") => `(tactic| (intro p hp; generalize hu : upd _ p _ = H2; have s := same_gen hu hp; have a := at_gen hu; clear hu))
local macro_rules | `(tactic| walk_at "tdh") => `(tactic| first | assumption | exact upd_same | (rw [upd_ne (by assumption)]; assumption) | (rw [upd_ne (Ne.symm (by assumption))]; assumption) | (apply same_step; assumption; walk_at "tdh") | (apply fr_step; assumption; walk_at "tdne"; walk_at "tdh") | (apply fr_stepK; assumption; walk_at "tdh"; walk_at "tdh"; (intro z; cases z)))
local macro_rules | `(tactic| walk_at "tdne") => `(tactic| first | assumption | exact Ne.symm (by assumption) | (apply ne_noneX; assumption; walk_at "tdh") | (apply Ne.symm; apply ne_noneX; assumption; walk_at "tdh"))
local macro_rules | `(tactic| walk_at "tdsm") => `(tactic| first | assumption | exact Same.refl _ | (apply same_chain; assumption; walk_at "tdsm") | (apply same_frX; assumption; walk_at "tdsm"; walk_at "tdno"))
local macro_rules | `(tactic| walk_at "tdno") => `(tactic| first | assumption | (apply none_backX; assumption; walk_at "tdsm"))
local macro_rules | `(tactic| walk_at "tdtk") => `(tactic| first | assumption | exact TuK.refl _ | (apply tuk_same; assumption; walk_at "tdtk") | (apply tuk_fr; assumption; walk_at "tdh"; walk_at "tdtk") | (apply tuk_frI; assumption; walk_at "tdh"; walk_at "tdtk"))
local macro_rules | `(tactic| walk_at "tdi") => `(tactic| (generalize hu : upd _ _ (.ins _ _ (putF _ _ _)) = H2; have f := fr_gen hu; have a := at_gen hu; clear hu))
local macro_rules | `(tactic| walk_at "tdrp") => `(tactic| first | exact .int _ | exact .bl _ | exact .non | exact .str _ (by assumption) | exact .str _ (okS_of (by decide +kernel)) | assumption | (apply rep_monoX; assumption; walk_at "tdsm") | (apply rep_tupA; walk_at "tdh"; walk_at "tdrpa"; first | exact leB rfl | assumption) | (apply rep_lstA; walk_at "tdh"; walk_at "tdrpa"; first | exact leB rfl | assumption) | exact .dct (by walk_at "tdh"))
local macro_rules | `(tactic| walk_at "tdrpa") => `(tactic| first | exact .nil | (apply RepAll.mono; assumption; walk_at "tdsm") | (apply RepAll.cons; walk_at "tdrp"; walk_at "tdrpa"))
local macro_rules | `(tactic| walk_at "tdm") => `(tactic| first | ((with_reducible apply r_catT); walk_at "tdh"; walk_at "tdh"; exact List.cons_ne_nil _ _; exact List.cons_ne_nil _ _; exact szL rfl; walk_at "tdg") | ((with_reducible apply r_listTU); walk_at "tdh"; walk_at "tdg") | ((with_reducible apply r_listL); walk_at "tdh"; walk_at "tdg") | ((with_reducible apply r_dnew); walk_at "tdg") | with_reducible apply r_slice | with_reducible apply r_nopart | with_reducible apply r_part | with_reducible apply r_pI | ((with_reducible apply r_slT); walk_at "tdh"; exact of_decide_eq_false rfl; walk_at "tdg") | ((with_reducible apply r_slL); walk_at "tdh"; walk_at "tdg"))
local macro_rules | `(tactic| walk_at "tdd") => `(tactic| (generalize hu : upd _ _ (.dK _) = H2; have f := fr_gen hu; have a := at_gen hu; clear hu))
local macro_rules | `(tactic| walk_at "tdk") => `(tactic| repeat (first | walk_at "td1" | walk_at "tdn" | walk_at "tdm" | ((with_reducible apply r_disp); walk_at "tdg") | with_reducible apply r_pcons | with_reducible apply r_pnil | with_reducible apply r_dputW | (apply r_dputZ; walk_at "tdh"; exact rfl; decide; decide +kernel; walk_at "tdd") | with_reducible apply r_dget))

section
variable {P : Program} {w : World} {K : PySem.W.Frag} {mg : Str → Option Value} {base : Heap} {CC : Addr → Prop}
theorem ok_law {f CK CL CB : Addr} {fd : FuncData} (F : Fun K "law" "law" s_law f fd) (T : Txt K mg) (c__law_things : C8.Cal P w K mg base 4 "_law_things" (spThings K CC) []) (c__law_open : C8.Cal P w K mg base 1 "_law_open" (sp_open K) []) (c__law_draw : C8.Cal P w K mg base 1 "_law_draw" sp_draw []) (c__law_entry : C8.Cal P w K mg base 3 "_law_entry" (sp_thing K CC EntD) [])
    (m_Clock : C8.Mak P w K mg base 3 "Clock" CL (spClkI CL) []) (m_Keep : MakX P w K mg base 2 "Keep" CK (spKeepI K CC CK CL CB)) (c__law_refused : C8.Cal P w K mg base 5 "_law_refused" (spRefK K CC CL) []) (c__law_holds : C8.Cal P w K mg base 9 "_law_holds" (spHold8 K CC CK CL) []) :
    FnOk P w K mg base CX0 10 f fd ["script"] (spLaw K) := by
  refine F.ok sc_law (fun vs H Q E h => ?_) (fun cdv A outer s H vs Q E hr h => ?_)
  · obtain ⟨a, ns, rfl, _⟩ := h
    rfl
  · obtain ⟨a, ns, rfl, hS, hl, q⟩ := h
    refine ⟨_, (pss_cons (ps_set (i := 1) sc_law.nd rfl (Or.inr rfl) (C8.pe_c c__law_things hr (by decide) rfl (pa_cons (pv 0) (pa_cons pe_int pa_nil))))
 (pss_cons (ps_set (i := 2) sc_law.nd rfl (Or.inr rfl) (C8.pe_c c__law_open hr (by decide) rfl (pa_cons (pv 0) (pa_cons pe_int pa_nil))))
 (pss_cons (ps_set (i := 3) sc_law.nd rfl (Or.inr rfl) (pe_lc (own := [("k", 15)]) rfl sc_law.nd (pi_range1 rfl T.z_range (pa_cons (pe_callB call_lenG rfl T.z_len (by decide +kernel) (pa_cons (pv 1) pa_nil)) pa_nil)) (blkOk_by (sc := defScope s_law) (N := ["script", "things", "row", "states", "pairs", "dots", "absent", "clock", "bad", "kind", "at", "twice", "passed", "keep", "empty", "k"]) (by decide +kernel)) (fun _ _ _ _ _ => (pg_name (i := 15) sc_law.nd rfl (Or.inl rfl))) (fun _ _ _ _ _ => pts_nil) (fun _ _ _ _ _ => (C8.pe_c c__law_draw hr (by decide) rfl (pa_cons (pv 2) (pa_cons pe_int pa_nil))))))
 (pss_cons (ps_setLc (i := 4) (own := [("k", 15)]) rfl sc_law.nd rfl rfl (sw_true rfl rfl rfl (by decide +kernel)) (pi_range1 rfl T.z_range (pa_cons (pe_callB call_lenG rfl T.z_len (by decide +kernel) (pa_cons (pv 1) pa_nil)) pa_nil)) (blkOk_by (sc := defScope s_law) (N := ["script", "things", "row", "states", "pairs", "dots", "absent", "clock", "bad", "kind", "at", "twice", "passed", "keep", "empty", "k"]) (by decide +kernel)) (fun _ _ _ _ _ => (pg_name (i := 15) sc_law.nd rfl (Or.inl rfl))) (fun _ _ _ _ _ => (pts_one (pt_cmpR op_eq (pe_ix (r := rIxL K) ix_list (pv 3) (pv 15) (fun _ _ => rfl)) pe_int (nomark _)))) (fun _ _ _ _ _ => (pe_ix (r := rIxL K) ix_list (pv 1) (pv 15) (fun _ _ => rfl))))
 (pss_cons (ps_setLc (i := 5) (own := [("k", 15)]) rfl sc_law.nd rfl rfl (sw_true rfl rfl rfl (by decide +kernel)) (pi_range1 rfl T.z_range (pa_cons (pe_callB call_lenG rfl T.z_len (by decide +kernel) (pa_cons (pv 1) pa_nil)) pa_nil)) (blkOk_by (sc := defScope s_law) (N := ["script", "things", "row", "states", "pairs", "dots", "absent", "clock", "bad", "kind", "at", "twice", "passed", "keep", "empty", "k"]) (by decide +kernel)) (fun _ _ _ _ _ => (pg_name (i := 15) sc_law.nd rfl (Or.inl rfl))) (fun _ _ _ _ _ => (pts_one (pt_cmpR op_gt (pe_ix (r := rIxL K) ix_list (pv 3) (pv 15) (fun _ _ => rfl)) pe_int (nomark _)))) (fun _ _ _ _ _ => (pe_ix (r := rIx K) ix_seq (pe_ix (r := rIxL K) ix_list (pv 1) (pv 15) (fun _ _ => rfl)) pe_int (fun _ _ => rfl))))
 (pss_cons (ps_setLc (i := 6) (own := [("k", 15)]) rfl sc_law.nd rfl rfl (sw_true rfl rfl rfl (by decide +kernel)) (pi_range1 rfl T.z_range (pa_cons (pe_callB call_lenG rfl T.z_len (by decide +kernel) (pa_cons (pv 1) pa_nil)) pa_nil)) (blkOk_by (sc := defScope s_law) (N := ["script", "things", "row", "states", "pairs", "dots", "absent", "clock", "bad", "kind", "at", "twice", "passed", "keep", "empty", "k"]) (by decide +kernel)) (fun _ _ _ _ _ => (pg_name (i := 15) sc_law.nd rfl (Or.inl rfl))) (fun _ _ _ _ _ => (pts_one (pt_cmpR op_eq (pe_ix (r := rIxL K) ix_list (pv 3) (pv 15) (fun _ _ => rfl)) pe_int (nomark _)))) (fun _ _ _ _ _ => (pe_ix (r := rIxL K) ix_list (pv 1) (pv 15) (fun _ _ => rfl))))
 (pss_cons (ps_set (i := 7) sc_law.nd rfl (Or.inl rfl) (C8.pe_mk m_Clock hr (by decide) rfl (pa_cons (pv 5) pa_nil)))
 (pss_cons (ps_set (i := 8) sc_law.nd rfl (Or.inl rfl) (pe_callTy call_listG rfl T.z_list (by decide +kernel) (pa_cons (pv 4) pa_nil)))
 (pss_cons (ps_set (i := 9) sc_law.nd rfl (Or.inl rfl) (C8.pe_c c__law_draw hr (by decide) rfl (pa_cons (pv 2) (pa_cons pe_int pa_nil))))
 (pss_cons (ps_set (i := 10) sc_law.nd rfl (Or.inl rfl) (C8.pe_c c__law_draw hr (by decide) rfl (pa_cons (pv 2) (pa_cons (pe_op op_add (pe_callB call_lenG rfl T.z_len (by decide +kernel) (pa_cons (pv 4) pa_nil)) pe_int) pa_nil))))
 (C8.pss_cut (ps_if (PW.pt (pw_and (pt_cmpR op_eq (pv 9) pe_int (nomark _)) (pw_and1 (pt_cmpR op_gt (pe_callB call_lenG rfl T.z_len (by decide +kernel) (pa_cons (pv 4) pa_nil)) pe_int (nomark _)))))
 (pss_cons (ps_set (i := 11) sc_law.nd rfl (Or.inl rfl) (pe_ix ix_list (pv 4) (C8.pe_c c__law_draw hr (by decide) rfl (pa_cons (pv 2) (pa_cons (pe_callB call_lenG rfl T.z_len (by decide +kernel) (pa_cons (pv 4) pa_nil)) pa_nil))) (fun _ _ => rfl)))
 (C8.pss_cut (ps_if (pt_cmpR op_eq (C8.pe_c c__law_draw hr (by decide) rfl (pa_cons (pv 2) (pa_cons pe_int pa_nil))) pe_int (nomark _))
 (pss_one (ps_set (i := 11) sc_law.nd rfl (Or.inl rfl) (pe_tup (pa_cons (pe_ix ix_tup (pv 11) pe_int (fun _ _ => rfl)) (pa_cons (C8.pe_c c__law_entry hr (by decide) rfl (pa_cons (pv 2) pa_nil)) pa_nil)))))
 pss_nil)
 (pss_one (ps_expr (pe_bm PySem.F.plainAttrs_list PySem.F.slot_list_insert PySem.F.type_list_insert mt_insertG (pv 8) (pa_cons (pv 10) (pa_cons (pv 11) pa_nil)))))))
 pss_nil)
 (C8.pss_cut (ps_if (PW.pt (pw_and (pt_cmpR op_eq (pv 9) pe_int (nomark _)) (pw_and1 (pt_cmpR op_gt (pe_callB call_lenG rfl T.z_len (by decide +kernel) (pa_cons (pv 6) pa_nil)) pe_int (nomark _)))))
 (pss_one (ps_expr (pe_bm PySem.F.plainAttrs_list PySem.F.slot_list_insert PySem.F.type_list_insert mt_insertG (pv 8) (pa_cons (pv 10) (pa_cons (pe_ix ix_list (pv 6) (C8.pe_c c__law_draw hr (by decide) rfl (pa_cons (pv 2) (pa_cons (pe_callB call_lenG rfl T.z_len (by decide +kernel) (pa_cons (pv 6) pa_nil)) pa_nil))) (fun _ _ => rfl)) pa_nil)))))
 pss_nil)
 (C8.pss_cut (ps_if (PW.pt (pw_and (pt_cmpR op_gt (pe_callB call_lenG rfl T.z_len (by decide +kernel) (pa_cons (pv 8) pa_nil)) (pe_callB call_lenG rfl T.z_len (by decide +kernel) (pa_cons (pv 4) pa_nil)) (nomark _)) (pw_and1 (pt_not (pt_val (C8.pe_c c__law_refused hr (by decide) rfl (pa_cons (pe_callTy call_listG rfl T.z_list (by decide +kernel) (pa_cons (pv 8) pa_nil)) (pa_cons (pv 7) pa_nil))))))))
 (pss_one (ps_ret pe_bl))
 pss_nil)
 (pss_cons (ps_set (i := 12) sc_law.nd rfl (Or.inl rfl) (pe_callTy call_listG rfl T.z_list (by decide +kernel) (pa_cons (pv 4) pa_nil)))
 (pss_cons (ps_set (i := 13) sc_law.nd rfl (Or.inl rfl) (pe_mk0 m_Keep hr (by decide) rfl (pa_cons (pv 12) (pa_cons (pv 7) pa_nil))))
 (pss_cons (ps_set (i := 14) sc_law.nd rfl (Or.inl rfl) (pe_mk0 m_Keep hr (by decide) rfl (pa_cons (pe_lst pa_nil) (pa_cons (pv 7) pa_nil))))
 (pss_cons (ps_if (pt_cmpR (op_neD hr.units) (pv 12) (pv 4) (nomark _))
 (pss_one (ps_ret pe_bl))
 pss_nil)
 (pss_cons (ps_expr (pe_bm PySem.F.plainAttrs_list PySem.F.slot_list_append PySem.F.type_list_append mt_append (pv 12) (pa_cons (pe_tup (pa_cons (pe_tup (pa_cons pe_int (pa_cons pe_int pa_nil))) (pa_cons (pe_tup (pa_cons (pe_tup pa_nil) (pa_cons pe_str (pa_cons pe_int pa_nil)))) pa_nil))) pa_nil)))
 (pss_cons (ps_expr (pe_bm PySem.F.plainAttrs_list PySem.F.slot_list_pop PySem.F.type_list_pop mt_popAt (pv 12) (pa_cons pe_int pa_nil)))
 (pss_cons (ps_if (PW.pt (pw_or (pt_not (pt_val (C8.pe_c c__law_holds hr (by decide) rfl (pa_cons (pv 13) (pa_cons (pv 4) (pa_cons (pv 1) (pa_cons (pv 5) pa_nil))))))) (pw_or1 (pt_not (pt_val (C8.pe_c c__law_holds hr (by decide) rfl (pa_cons (pv 14) (pa_cons (pe_lst pa_nil) (pa_cons (pv 1) (pa_cons (pv 5) pa_nil))))))))))
 (pss_one (ps_ret pe_bl))
 pss_nil)
 (C8.pss_cut (ps_if (PW.pt (pw_and (pt_cmpR op_gt (pe_callB call_lenG rfl T.z_len (by decide +kernel) (pa_cons (pv 8) pa_nil)) (pe_callB call_lenG rfl T.z_len (by decide +kernel) (pa_cons (pv 4) pa_nil)) (nomark _)) (pw_and1 (pt_not (pt_val (C8.pe_c c__law_refused hr (by decide) rfl (pa_cons (pv 8) (pa_cons (pv 7) pa_nil))))))))
 (pss_one (ps_ret pe_bl))
 pss_nil)
 (pss_one (ps_ret (C8.pe_c c__law_holds hr (by decide) rfl (pa_cons (pv 13) (pa_cons (pv 4) (pa_cons (pv 1) (pa_cons (pv 5) pa_nil)))))))))))))))))))))))))))), ?_⟩
    walk_at "td"
    refine ⟨a, ns, 30, rfl, hS, hl, by decide, by decide, fun th ts tps H1 s1 nth ath hT okt lt => ?_⟩
    walk_at "td"
    refine ⟨a, ns, 1, rfl, s1.seq hS, hl, fun r H2 nr s2 row2 => ?_⟩
    have ath2 := s2 _ _ ath
    have ltp := Paired.length hT
    have nthr : th ≠ r := ne_of_none ath nr
    walk_at "td"
    refine r_lc (r_rng1 ?_)
    walk_at "td"
    refine ⟨_, rfl, by omega, by omega, fun D hD => ?_⟩
    rw [Int.toNat_natCast]
    refine lc_R (walk_range (lo := 0)) (Y' := fun i x => x = .int (0 + (i : Nat))) (fun i H x H' y => y) (fun i H v => ∃ n : Int, v = .int n) (fun i H H' v h _ => h) (by omega) hD row2 (fun _ _ => trivial) ?_ ?_
    · rintro i x H5 ys hi rfl f5 row5 aD Q5 q5
      refine r_name ⟨rfl, ?_⟩
      walk_at "td"
      refine r_draw row5 (by decide) (by decide) fun d6 H6 l6 u6 f6 row6 => ?_
      exact q5 _ _ f6 row6 ⟨_, rfl⟩
    · intro H5 xs f5 row5 aS lx px
      obtain ⟨ss, rfl⟩ := ints_of px
      rw [List.length_map] at lx
      have nSr : D ≠ r := fun z => row2.ne (z ▸ hD)
      have ath5 := f5 _ _ nthr ath2
      have s05 : Same H H5 := fun b o z => f5 _ _ (ne_of_none (s1 _ _ z) nr) (s2 _ _ (s1 _ _ z))
      have hT5 : PrsT K CC H5 ts tps := (hT.keep (TuK.of s2)).keep fun b ys e => f5 _ _ (row_tup_ne row2 e) e
      have hP5 := hT5.un
      have lst : ss.length = ts.length := lx
      walk_at "td"
      refine r_lc (r_rng1 ?_)
      walk_at "td"
      refine ⟨_, rfl, by omega, by omega, fun DP hDP => ?_⟩
      rw [Int.toNat_natCast]
      refine lc_filter (walk_range (lo := 0)) (Y' := fun i x => x = .int (i : Nat)) (fun i H x H' y => ⟨y.1, by rw [y.2]; show V.int (0 + (i : Int)) = V.int (i : Int); rw [Int.zero_add]⟩) (bsV (fun s => decide (V.int s = V.int 1)) ss ts) (bsV_len lst) (by omega) hDP (fun _ _ => trivial) (fun _ => rfl) ?_ ?_ ?_
      · rintro i x b y H6' rfl hb s6' Q6 q6
        obtain ⟨s', h1, h2, rfl⟩ := bsV_at hb
        walk_at "td"
        refine r_ixL (s6' _ _ aS) (atI_nat (j := i) (by rw [List.getElem?_map, h1]; rfl)) ?_
        walk_at "td"
        exact q6 _ (Same.refl _)
      · rintro i x y H6' rfl hb s6' Q6 q6
        obtain ⟨s', h1, h2, _⟩ := bsV_at hb
        walk_at "td"
        refine r_ixL (s6' _ _ ath5) (atI_nat (j := i) h2) ?_
        exact q6 _ (Same.refl _)
      intro H6 s56 aP
      rw [bsV_pick] at aP
      walk_at "td"
      refine r_lc (r_rng1 ?_)
      walk_at "td"
      refine ⟨_, rfl, by omega, by omega, fun DD hDD => ?_⟩
      rw [Int.toNat_natCast]
      refine lc_filter (walk_range (lo := 0)) (Y' := fun i x => x = .int (i : Nat)) (fun i H x H' y => ⟨y.1, by rw [y.2]; show V.int (0 + (i : Int)) = V.int (i : Int); rw [Int.zero_add]⟩) (bsV (fun s => decide (0 < s)) ss (ts.map (dotV H5))) ((bsV_len (by rw [List.length_map]; exact lst)).trans (List.length_map ..)) (by omega) hDD (fun _ _ => trivial) (fun _ => rfl) ?_ ?_ ?_
      · rintro i x b y H6' rfl hb s6' Q6 q6
        obtain ⟨s', h1, h2, rfl⟩ := bsV_at hb
        walk_at "td"
        refine r_ixL (s6' _ _ (s56 _ _ aS)) (atI_nat (j := i) (by rw [List.getElem?_map, h1]; rfl)) ?_
        walk_at "td"
        exact q6 _ (Same.refl _)
      · rintro i x y H6' rfl hb s6' Q6 q6
        obtain ⟨s', h1, h2, _⟩ := bsV_at hb
        walk_at "td"
        rw [List.getElem?_map, Option.map_eq_some_iff] at h2
        obtain ⟨tv, ht1, rfl⟩ := h2
        obtain ⟨pr, hpr, tx, dt, v, rfl, b1, b2, R⟩ := paired_at hP5 ht1
        refine r_ixL (s6' _ _ (s56 _ _ ath5)) (atI_nat (j := i) ht1) ?_
        walk_at "td"
        have ed : dotV H5 (.ref tx) = .ref dt := by
          unfold dotV
          dsimp only
          rw [b1]
        rw [ed] at q6
        exact q6 _ (Same.refl _)
      intro H7 s67 aD
      rw [bsV_pick] at aD
      have s57 := s56.trans s67
      walk_at "td"
      refine r_lc (r_rng1 ?_)
      walk_at "td"
      refine ⟨_, rfl, by omega, by omega, fun DA hDA => ?_⟩
      rw [Int.toNat_natCast]
      refine lc_filter (walk_range (lo := 0)) (Y' := fun i x => x = .int (i : Nat)) (fun i H x H' y => ⟨y.1, by rw [y.2]; show V.int (0 + (i : Int)) = V.int (i : Int); rw [Int.zero_add]⟩) (bsV (fun s => decide (V.int s = V.int 0)) ss ts) (bsV_len lst) (by omega) hDA (fun _ _ => trivial) (fun _ => rfl) ?_ ?_ ?_
      · rintro i x b y H6' rfl hb s6' Q6 q6
        obtain ⟨s', h1, h2, rfl⟩ := bsV_at hb
        walk_at "td"
        refine r_ixL (s6' _ _ (s57 _ _ aS)) (atI_nat (j := i) (by rw [List.getElem?_map, h1]; rfl)) ?_
        walk_at "td"
        exact q6 _ (Same.refl _)
      · rintro i x y H6' rfl hb s6' Q6 q6
        obtain ⟨s', h1, h2, _⟩ := bsV_at hb
        walk_at "td"
        refine r_ixL (s6' _ _ (s57 _ _ ath5)) (atI_nat (j := i) h2) ?_
        exact q6 _ (Same.refl _)
      intro H8 s78 aA
      rw [bsV_pick] at aA
      have s58 := s57.trans s78
      walk_at "td"
      have pDots : PtsAt H5 (pickV (fun s => decide (0 < s)) ss (ts.map (dotV H5))) (pickV (fun s => decide (0 < s)) ss (tps.map (·.1))) := pts_paired (pick_paired (dots_at hP5) ss)
      have pPairs : Paired (PrAt K CC H5) (pickV (fun s => decide (V.int s = V.int 1)) ss ts) (pickV (fun s => decide (V.int s = V.int 1)) ss tps) := pick_paired hP5 ss
      have pAbs : Paired (PrAt K CC H5) (pickV (fun s => decide (V.int s = V.int 0)) ss ts) (pickV (fun s => decide (V.int s = V.int 0)) ss tps) := pick_paired hP5 ss
      have pPT : PrsT K CC H5 (pickV (fun s => decide (V.int s = V.int 1)) ss ts) (pickV (fun s => decide (V.int s = V.int 1)) ss tps) := pick_paired hT5 ss
      have pAT : PrsT K CC H5 (pickV (fun s => decide (V.int s = V.int 0)) ss ts) (pickV (fun s => decide (V.int s = V.int 0)) ss tps) := pick_paired hT5 ss
      have okp := okt.sub (pick_sub (f := fun s => decide (V.int s = V.int 1)) ss tps)
      have oka := okt.sub (pick_sub (f := fun s => decide (V.int s = V.int 0)) ss tps)
      have subP : ∀ p ∈ pickV (fun s => decide (V.int s = V.int 1)) ss tps, p ∈ tps := fun p m => (pick_sub ss tps).subset m
      have allS : ∀ p ∈ pickV (fun s => decide (V.int s = V.int 1)) ss tps, p.1 ∈ pickV (fun s => decide (0 < s)) ss (tps.map (·.1)) := fun p m => by
        obtain ⟨i, s', h1, h2, h3⟩ := pick_mem m
        have e1 : s' = 1 := V.int.inj (of_decide_eq_true h3)
        exact pick_in h1 (by rw [List.getElem?_map, h2]; rfl) (decide_eq_true (by omega))
      have noA : ∀ p ∈ pickV (fun s => decide (V.int s = V.int 0)) ss tps, ¬ p.1 ∈ pickV (fun s => decide (0 < s)) ss (tps.map (·.1)) := fun p m m2 => by
        obtain ⟨i, s', h1, h2, h3⟩ := pick_mem m
        obtain ⟨j, s2', g1, g2, g3⟩ := pick_mem m2
        have e1 : s' = 0 := V.int.inj (of_decide_eq_true h3)
        have e2 : 0 < s2' := of_decide_eq_true g3
        have ij : i = j := nd_idx okt.nd (by rw [List.getElem?_map, h2]; rfl) g2
        rw [ij] at h1
        have := Option.some.inj (h1.symm.trans g1)
        omega
      have one : ∀ d ∈ pickV (fun s => decide (0 < s)) ss (tps.map (·.1)), 1 ≤ d.2 := fun d m => by
        have m2 := (pick_sub ss (tps.map (·.1))).subset m
        obtain ⟨p, mp, rfl⟩ := List.mem_map.mp m2
        exact (okt.nu p mp).1
      have lD : (pickV (fun s => decide (0 < s)) ss (ts.map (dotV H5))).length ≤ 40 := by
        have := (pick_sub (f := fun s => decide (0 < s)) ss (ts.map (dotV H5))).length_le
        rw [List.length_map] at this
        omega
      have lP : (pickV (fun s => decide (V.int s = V.int 1)) ss ts).length ≤ 40 := by
        have := (pick_sub (f := fun s => decide (V.int s = V.int 1)) ss ts).length_le
        omega
      have lA : (pickV (fun s => decide (V.int s = V.int 0)) ss ts).length ≤ 40 := by
        have := (pick_sub (f := fun s => decide (V.int s = V.int 0)) ss ts).length_le
        omega
      generalize pickV (fun s => decide (0 < s)) ss (ts.map (dotV H5)) = xd at *
      generalize pickV (fun s => decide (0 < s)) ss (tps.map (·.1)) = dps at *
      generalize pickV (fun s => decide (V.int s = V.int 1)) ss ts = xp at *
      generalize pickV (fun s => decide (V.int s = V.int 1)) ss tps = ps at *
      generalize pickV (fun s => decide (V.int s = V.int 0)) ss ts = xa at *
      generalize pickV (fun s => decide (V.int s = V.int 0)) ss tps = aps at *
      have aP8 := (s67.trans s78) _ _ aP
      have aD8 := s78 _ _ aD
      have ld2 : xd.length = dps.length := pDots.1
      refine r_make ?_
      walk_at "td"
      refine clk_new (ps := dps) aD8 (pDots.mono s58) (by omega) one fun c H9 s9 nc cz => ?_
      walk_at "td"
      have s59 := s58.trans s9
      refine r_listL (s9 _ _ aP8) fun B hB => ?_
      generalize hu : upd _ B _ = H10
      have s10 := same_gen hu hB
      have aB := at_gen hu
      clear hu
      have s510 := s59.trans s10
      have row10 := row5.keep s510
      have nBr : B ≠ r := fun z => (row5.keep s59).ne (z ▸ hB)
      have nHB : H B = none := (s05.trans s59).free hB
      have n5B : H5 B = none := s59.free hB
      have aP10 := s10 _ _ (s9 _ _ aP8)
      have nPr : DP ≠ r := fun z => by
        obtain ⟨x1, x2, x3, e⟩ := row5
        rw [z] at hDP
        rw [hDP] at e
        cases e
      have nPB : DP ≠ B := fun z => by
        rw [z] at aP8
        rw [s9 _ _ aP8] at hB
        cases hB
      walk_at "td"
      refine r_draw row10 (by decide) (by decide) fun kd H11 l11 u11 f11 row11 => ?_
      have aP11 := f11 _ _ nPr aP10
      have aB11 := f11 _ _ nBr aB
      walk_at "td"
      refine r_draw row11 (by omega) (by omega) fun at_ H12 l12 u12 f12 row12 => ?_
      have aP12 := f12 _ _ nPr aP11
      have aB12 := f12 _ _ nBr aB11
      walk_at "td"
      have rowL : ∀ {Hx : Hp}, Row Hx r → ∃ zs, Hx r = some (.lst zs) := fun ⟨x1, x2, x3, e⟩ => ⟨_, e⟩
      have k512 : TuK H5 H12 := ((TuK.of s510).trans fun b ys e => f11 _ _ (row_tup_ne row10 e) e).trans fun b ys e => f12 _ _ (row_tup_ne row11 e) e
      have cz12 : ClkS CL (2 * dps.length) H12 c (inL dps) := by
        obtain ⟨z1, e1⟩ := rowL row10
        obtain ⟨z2, e2⟩ := rowL row11
        exact ((cz.mono s10).fr f11 e1).fr f12 e2
      have pP12 := pPT.keep k512
      have pA12 := pAT.keep k512
      have lps := Paired.length pPT
      have lap := Paired.length pAT
      have aA12 : H12 DA = some (.lst xa) := by
        have nAr : DA ≠ r := fun z => by
          obtain ⟨x1, x2, x3, e⟩ := (row5.keep s57)
          rw [z] at hDA
          rw [hDA] at e
          cases e
        exact f12 _ _ nAr (f11 _ _ nAr (s10 _ _ (s9 _ _ aA)))
      have nAr : DA ≠ r := fun z => by
        obtain ⟨x1, x2, x3, e⟩ := (row5.keep s57)
        rw [z] at hDA
        rw [hDA] at e
        cases e
      have nAB : DA ≠ B := fun z => by
        rw [z] at aA
        rw [s9 _ _ aA] at hB
        cases hB
      refine r_cut (fun σ' H' => ∃ u11, σ' = [some (.ref a), some (.ref th), some (.ref r), some (.ref D), some (.ref DP), some (.ref DD), some (.ref DA), some (.ref c), some (.ref B), some (.int kd), some (.int at_), u11, none, none, none, none] ∧ (∀ b o, b ≠ r → b ≠ B → H12 b = some o → H' b = some o) ∧ Row H' r ∧ TuK H12 H' ∧ ∃ bs bps, H' B = some (.lst bs) ∧ PrsT K CC H' bs bps ∧ ((bs = xp ∧ bps = ps) ∨ (kd = 1 ∧ bs.length = xp.length + 1 ∧ (∀ p ∈ bps, 1 ≤ p.1.2) ∧ ¬ ((bps.map (·.1)).Nodup ∧ ∀ p ∈ bps, inL dps p.1.1 p.1.2)))) ?_ ?_
      · walk_at "td"
        refine ite2 (fun e => ?_) (fun e => ?_)
        · have ek : kd = 1 := V.int.inj (of_decide_eq_true e)
          walk_at "td"
          refine ite2 (fun e2 => ?_) (fun e2 => ?_)
          · have lp0 : 0 < xp.length := by
              have : (0 : Int) < (xp.length : Int) := of_decide_eq_true e2
              omega
            walk_at "td"
            refine r_draw row12 (by omega) (by omega) fun d13 H13 l13 u13 f13 row13 => ?_
            have aP13 := f13 _ _ nPr aP12
            have aB13 := f13 _ _ nBr aB12
            have k13 : TuK H12 H13 := fun b ys e => f13 _ _ (row_tup_ne row12 e) e
            obtain ⟨j, rfl⟩ : ∃ j : Nat, d13 = (j : Int) := ⟨d13.toNat, by omega⟩
            obtain ⟨v, hv⟩ : ∃ v, xp[j]? = some v := ⟨_, List.getElem?_eq_getElem (by omega)⟩
            obtain ⟨pr, hpr, rv⟩ := paired_at (pP12.keep k13) hv
            refine r_ixL aP13 (atI_nat hv) ?_
            obtain ⟨tx, dt, ve, rfl, b1, b2, Rv⟩ := rv
            have b13 := tu_same _ _ _ b1
            have b23 := tu_same _ _ _ b2
            walk_at "td"
            refine r_cut (fun σ' H' => ∃ v' e', σ' = [some (.ref a), some (.ref th), some (.ref r), some (.ref D), some (.ref DP), some (.ref DD), some (.ref DA), some (.ref c), some (.ref B), some (.int kd), some (.int at_), some v', none, none, none, none] ∧ Fr r H13 H' ∧ Row H' r ∧ TuK H13 H' ∧ PrAt K CC (Tu H') v' (pr.1, e')) ?_ ?_
            · walk_at "td"
              refine r_draw row13 (by decide) (by decide) fun d15 H15 l15 u15 f15 row15 => ?_
              have k15 : TuK H13 H15 := fun b ys e => f15 _ _ (row_tup_ne row13 e) e
              have b15 := k15 _ _ b13
              walk_at "td"
              refine ite2 (fun e3 => ?_) (fun e3 => ?_)
              · walk_at "td"
                refine ⟨r, rfl, row15, fun v16 d16 H16 o16 f16 row16 R16 => ?_⟩
                have k16 : TuK H15 H16 := fun b ys e => f16 _ _ (row_tup_ne row15 e) e
                walk_at "tdt"
                rename_i p17 hp17 H17 s17 a17
                have k17 := (k15.trans k16).trans (TuK.of s17)
                exact ⟨.ref p17, d16, rfl, fun b o n e => s17 _ _ (f16 _ _ n (f15 _ _ n e)), row16.keep s17, k17, p17, dt, v16, rfl, tu_at a17, tu_at (k17 _ _ b23), (tree_tu (R16.mono (fresh_same _ _)) (ent_tree o16)).mono (TuK.of s17).tu⟩
              · walk_at "td"
                exact ⟨.ref tx, pr.2, rfl, f15, row15, k15, PrAt.mono ⟨tx, dt, ve, rfl, b1, b2, Rv⟩ k15.tu⟩
            rintro σ' H18 ⟨v', e', rfl, f18, row18, k18, pa⟩
            have aB18 := f18 _ _ nBr aB13
            walk_at "td"
            refine r_insG aB18 (by omega) l12 (by omega) ?_
            walk_at "td"
            have k19 : TuK H18 (upd H18 B (.lst (xp.take at_.toNat ++ [v'] ++ xp.drop at_.toNat))) := TuK.put aB18
            have mp := List.mem_of_getElem? hpr
            refine ⟨_, rfl, fun b o n1 n2 e => ?_, ?_, (k13.trans k18).trans k19, _, ps.take at_.toNat ++ [(pr.1, e')] ++ ps.drop at_.toNat, upd_same, ?_, .inr ⟨ek, ?_, fun p m => ?_, bad_ins (.inl (List.mem_map.mpr ⟨pr, mp, rfl⟩))⟩⟩
            · rw [upd_ne n2]
              exact f18 _ _ n1 (f13 _ _ n1 e)
            · exact row18.setne nBr
            · exact PrsT.keep (paired_ins (pP12.keep (k13.trans k18)) pa at_.toNat) k19
            · simp only [List.length_append, List.length_take, List.length_drop, List.length_singleton]
              omega
            · rcases List.mem_cons.mp ((ins_perm ps _ at_.toNat).mem_iff.mp m) with rfl | m
              · exact (okp.nu pr mp).1
              · exact (okp.nu p m).1
          · walk_at "td"
            exact ⟨_, rfl, (fun b o _ _ e => e), row12, TuK.refl _, xp, ps, aB12, pP12, .inl ⟨rfl, rfl⟩⟩
        · walk_at "td"
          refine iteN rfl ?_
          walk_at "td"
          exact ⟨_, rfl, (fun b o _ _ e => e), row12, TuK.refl _, xp, ps, aB12, pP12, .inl ⟨rfl, rfl⟩⟩
      rintro σ' H14 ⟨u11, rfl, f14, row14, k14, bs, bps, aB14, hB14, way⟩
      refine r_cut (fun σ' H' => ∃ u11, σ' = [some (.ref a), some (.ref th), some (.ref r), some (.ref D), some (.ref DP), some (.ref DD), some (.ref DA), some (.ref c), some (.ref B), some (.int kd), some (.int at_), u11, none, none, none, none] ∧ (∀ b o, b ≠ r → b ≠ B → H12 b = some o → H' b = some o) ∧ TuK H12 H' ∧ ∃ bs bps, H' B = some (.lst bs) ∧ PrsT K CC H' bs bps ∧ ((bs = xp ∧ bps = ps) ∨ (bs.length = xp.length + 1 ∧ (∀ p ∈ bps, 1 ≤ p.1.2) ∧ ¬ ((bps.map (·.1)).Nodup ∧ ∀ p ∈ bps, inL dps p.1.1 p.1.2)))) ?_ ?_
      · have stay : ∃ u11', [some (.ref a), some (.ref th), some (.ref r), some (.ref D), some (.ref DP), some (.ref DD), some (.ref DA), some (.ref c), some (.ref B), some (.int kd), some (.int at_), u11, none, none, none, none] = [some (.ref a), some (.ref th), some (.ref r), some (.ref D), some (.ref DP), some (.ref DD), some (.ref DA), some (.ref c), some (.ref B), some (.int kd), some (.int at_), u11', none, none, none, none] ∧ (∀ b o, b ≠ r → b ≠ B → H12 b = some o → H14 b = some o) ∧ TuK H12 H14 ∧ ∃ bs bps, H14 B = some (.lst bs) ∧ PrsT K CC H14 bs bps ∧ ((bs = xp ∧ bps = ps) ∨ (bs.length = xp.length + 1 ∧ (∀ p ∈ bps, 1 ≤ p.1.2) ∧ ¬ ((bps.map (·.1)).Nodup ∧ ∀ p ∈ bps, inL dps p.1.1 p.1.2))) := ⟨u11, rfl, f14, k14, bs, bps, aB14, hB14, way.imp id fun w => ⟨w.2.1, w.2.2.1, w.2.2.2⟩⟩
        walk_at "td"
        refine ite2 (fun e => ?_) (fun e => ?_)
        · have ek : kd = 2 := V.int.inj (of_decide_eq_true e)
          have aA14 := f14 _ _ nAr nAB aA12
          walk_at "td"
          refine ite2 (fun e2 => ?_) (fun e2 => ?_)
          · have la0 : 0 < xa.length := by
              have : (0 : Int) < (xa.length : Int) := of_decide_eq_true e2
              omega
            rcases way with ⟨rfl, rfl⟩ | w
            · walk_at "td"
              refine r_draw row14 (by omega) (by omega) fun d15 H15 l15 u15 f15 row15 => ?_
              have aA15 := f15 _ _ nAr aA14
              have aB15 := f15 _ _ nBr aB14
              have k15 : TuK H14 H15 := fun b ys e => f15 _ _ (row_tup_ne row14 e) e
              obtain ⟨j, rfl⟩ : ∃ j : Nat, d15 = (j : Int) := ⟨d15.toNat, by omega⟩
              obtain ⟨v, hv⟩ : ∃ v, xa[j]? = some v := ⟨_, List.getElem?_eq_getElem (by omega)⟩
              obtain ⟨pr, hpr, rv⟩ := paired_at (pA12.keep (k14.trans k15)) hv
              have mp := List.mem_of_getElem? hpr
              refine r_ixL aA15 (atI_nat hv) ?_
              walk_at "td"
              refine r_insG aB15 (by omega) l12 (by omega) ?_
              walk_at "td"
              have k16 : TuK H15 (upd H15 B (.lst (bs.take at_.toNat ++ [v] ++ bs.drop at_.toNat))) := TuK.put aB15
              refine ⟨_, rfl, fun b o n1 n2 e => ?_, (k14.trans k15).trans k16, _, bps.take at_.toNat ++ [pr] ++ bps.drop at_.toNat, upd_same, ?_, .inr ⟨?_, fun p m => ?_, bad_ins (.inr (noA pr mp))⟩⟩
              · rw [upd_ne n2]
                exact f15 _ _ n1 (f14 _ _ n1 n2 e)
              · exact PrsT.keep (paired_ins (hB14.keep k15) rv at_.toNat) k16
              · simp only [List.length_append, List.length_take, List.length_drop, List.length_singleton]
                omega
              · rcases List.mem_cons.mp ((ins_perm bps _ at_.toNat).mem_iff.mp m) with rfl | m
                · exact (oka.nu _ mp).1
                · exact (okp.nu p m).1
            · have := w.1
              omega
          · walk_at "td"
            exact stay
        · walk_at "td"
          refine iteN rfl ?_
          walk_at "td"
          exact stay
      clear way hB14 aB14 k14 f14 row14
      rintro σ' H16 ⟨u11', rfl, f16, k16, bs, bps, aB16, hB16, way⟩
      have aP16 := f16 _ _ nPr nPB aP12
      have k516 := k512.trans k16
      have cz16 : ClkS CL (2 * dps.length) H16 c (inL dps) := cz12.nl fun b o no e => f16 b o (fun w => by obtain ⟨z, ez⟩ := rowL row12; rw [w, ez] at e; exact no _ (Option.some.inj e).symm) (fun w => by rw [w, aB12] at e; exact no _ (Option.some.inj e).symm) e
      have pP16 := pPT.keep k516
      have hT16 := hT5.keep k516
      have pD16 := pDots.k k516
      have nthB : th ≠ B := fun w => by rw [← w, ath5] at n5B; cases n5B
      have ath16 : H16 th = some (.lst ts) := f16 _ _ nthr nthB (f12 _ _ nthr (f11 _ _ nthr (s510 _ _ ath5)))
      have nDr : DD ≠ r := fun w => by
        obtain ⟨x1, x2, x3, e⟩ := (row5.keep s56)
        rw [w, e] at hDD
        cases hDD
      have nDB : DD ≠ B := fun w => by rw [← w, s9 _ _ aD8] at hB; cases hB
      have aD16 : H16 DD = some (.lst xd) := f16 _ _ nDr nDB (f12 _ _ nDr (f11 _ _ nDr (s10 _ _ (s9 _ _ aD8))))
      clear f16 k16
      walk_at "td"
      refine r_cut (fun σ' H' => σ' = [some (.ref a), some (.ref th), some (.ref r), some (.ref D), some (.ref DP), some (.ref DD), some (.ref DA), some (.ref c), some (.ref B), some (.int kd), some (.int at_), u11', none, none, none, none] ∧ Same H16 H') ?_ ?_
      · walk_at "td"
        refine ite2 (fun e => ?_) (fun e => ?_)
        · rcases way with ⟨rfl, _⟩ | ⟨lb, ob, bad⟩
          · have : (bs.length : Int) > (bs.length : Int) := of_decide_eq_true e
            omega
          · walk_at "td"
            refine r_listL aB16 fun L hL => ?_
            generalize hu : upd _ L _ = H17
            have s17 := same_gen hu hL
            have aL := at_gen hu
            clear hu
            walk_at "td"
            refine ⟨L, c, bs, bps, 2 * dps.length, inL dps, rfl, aL, Paired.mono (fun _ _ z => PrAt.mono z s17) hB16.un, by omega, ob, cz16.mono s17, by omega, bad, fun H18 s18 => ?_⟩
            walk_at "td"
            refine iteN rfl ?_
            walk_at "td"
            exact ⟨rfl, s17.trans s18⟩
        · walk_at "td"
          refine iteN rfl ?_
          walk_at "td"
          exact ⟨rfl, Same.refl _⟩
      rintro σ' H17 ⟨rfl, s17⟩
      have aP17 := s17 _ _ aP16
      walk_at "td"
      refine r_listL aP17 fun PL hPL => ?_
      generalize hu : upd _ PL _ = H18
      have s18 := same_gen hu hPL
      have aPL := at_gen hu
      clear hu
      have s618 := s17.trans s18
      walk_at "td"
      refine r_make ?_
      walk_at "td"
      refine keep_new aPL (Paired.mono (fun _ _ z => PrAt.mono z s618) pP16.un) (by omega) (fun p m => (okp.nu p m).1) (cz16.mono s618) (by omega) okp.nd (fun p m => allS p m) fun kk H19 qs s19 nkk pmq ks => ?_
      walk_at "td"
      refine r_make ?_
      walk_at "td"
      refine ⟨szL rfl, fun EL hEL => ?_⟩
      generalize hu : upd _ EL _ = H20
      have s20 := same_gen hu hEL
      have aEL : H20 EL = some (.lst []) := at_gen hu
      clear hu
      walk_at "td"
      have s620 := (s618.trans s19).trans s20
      refine keep_new (ps := []) aEL .nil (Nat.zero_le _) (fun p m => nomatch m) (cz16.mono s620) (by omega) List.nodup_nil (fun p m => nomatch m) fun ek H21 qe s21 nek pme kse => ?_
      have s621 := s620.trans s21
      have s821 := (s19.trans s20).trans s21
      walk_at "td"
      refine r_neEv (s821 _ _ aPL) (s621 _ _ aP16) (prs_ev (Paired.mono (fun _ _ z => PrAt.mono z s621) pP16.un) okp.en) ?_
      refine ⟨_, rfl, iteN rfl ?_⟩
      walk_at "tdt"
      rename_i q22 hq22 H22 s22 a22 q23 hq23 H23 s23 a23 q24 hq24 H24 s24 a24 q25 hq25 H25 s25 a25
      have s2125 := ((s22.trans s23).trans s24).trans s25
      clear a22 a23 a24
      have aPL25 := (s821.trans s2125) _ _ aPL
      refine r_append aPL25 (small1000 (by omega)) ?_
      generalize hu : upd H25 PL _ = H26
      have f26 := fr_gen hu
      have a26 := at_gen hu
      clear hu
      walk_at "td"
      obtain ⟨y0, hy0⟩ : ∃ y, (xp ++ [V.ref q25])[0]? = some y := ⟨_, List.getElem?_eq_getElem (by simp)⟩
      refine ⟨PL, _, 0, 0, y0, rfl, rfl, a26, by decide, by decide, seq0 (by simp), hy0, ?_⟩
      generalize hu : upd H26 PL _ = H27
      have f27 := fr_gen hu
      clear hu
      have k1627 : TuK H16 H27 := ((TuK.of (s621.trans s2125)).trans (TuK.frL f26 aPL25)).trans (TuK.frL f27 a26)
      have okqs : ∀ p ∈ qs, EntD p.2 := fun p m => okp.en p (pmq.mem_iff.mp m)
      have ks27 := ((ks.mono ((s20.trans s21).trans s2125)).frL okqs f26 aPL25).frL okqs f27 a26
      obtain rfl : qe = [] := List.Perm.eq_nil pme
      have kse27 := ((kse.mono s2125).frL (fun p m => nomatch m) f26 aPL25).frL (fun p m => nomatch m) f27 a26
      have up27 : ∀ b o, b ≠ PL → H16 b = some o → H27 b = some o := fun b o n e => f27 _ _ n (f26 _ _ n (s2125 _ _ (s621 _ _ e)))
      have aP27 := up27 _ _ (ne_of_none aP17 hPL) aP16
      have ath27 := up27 _ _ (ne_of_none (s17 _ _ ath16) hPL) ath16
      have aD27 := up27 _ _ (ne_of_none (s17 _ _ aD16) hPL) aD16
      have aB27 := up27 _ _ (ne_of_none (s17 _ _ aB16) hPL) aB16
      have pP27 := pP16.keep k1627
      have hT27 := hT16.keep k1627
      have hB27 := hB16.keep k1627
      have pD27 := pD16.k k1627
      have cz27 := ((cz16.mono (s621.trans s2125)).fr f26 aPL25).fr f27 a26
      clear f26 f27 a26 aPL25 k1627 s2125 s22 s23 s24 s25 s821 s621 s20 s21 s620 s19 s618 s18 s17
      have hold : ∀ {Hx : Hp} {Q' : VK} {E' : XK}, Same H27 Hx → (∀ H', Same Hx H' → Q' (.bl true) H') → spHold8 K CC CK CL [.ref kk, .ref DP, .ref th, .ref DD] Hx Q' E' := fun {Hx Q' E'} sx qx =>
        ⟨kk, DP, th, DD, xp, ts, xd, 2 * dps.length, inL dps, ps, qs, tps, dps, rfl, ks27.mono sx, by omega, sx _ _ aP27, Paired.mono (fun _ _ z => PrAt.mono z sx) pP27.un, pmq, okp, sx _ _ ath27, Paired.mono (fun _ _ z => PrAt.mono z sx) hT27.un, okt, subP, sx _ _ aD27, pD27.mono sx, one, by omega, lt, by omega, fun c k _ => Iff.rfl, qx⟩
      walk_at "td"
      refine hold (Same.refl _) fun H28 s28 => ?_
      walk_at "td"
      show if (!true) = true then _ else _
      refine iteN rfl ?_
      walk_at "td"
      refine ⟨szL rfl, fun NL hNL => ?_⟩
      generalize hu : upd _ NL _ = H29
      have s29 := same_gen hu hNL
      have aNL : H29 NL = some (.lst []) := at_gen hu
      clear hu
      have s2729 := s28.trans s29
      walk_at "td"
      refine ⟨ek, NL, th, DD, [], ts, xd, 2 * dps.length, inL dps, [], [], tps, dps, rfl, kse27.mono s2729, by omega, aNL, .nil, List.Perm.refl _, ⟨.nil, (fun _ m => nomatch m), (fun _ m => nomatch m), (fun _ m => nomatch m)⟩, s2729 _ _ ath27, Paired.mono (fun _ _ z => PrAt.mono z s2729) hT27.un, okt, (fun _ m => nomatch m), s2729 _ _ aD27, pD27.mono s2729, one, by omega, lt, Nat.zero_le _, fun c k _ => Iff.rfl, fun H30 s30 => ?_⟩
      have s2730 := s2729.trans s30
      have aB30 := s2730 _ _ aB27
      have aP30 := s2730 _ _ aP27
      walk_at "td"
      show if (!true) = true then _ else _
      refine iteN rfl ?_
      walk_at "td"
      refine r_cut (fun σ' H' => σ' = [some (.ref a), some (.ref th), some (.ref r), some (.ref D), some (.ref DP), some (.ref DD), some (.ref DA), some (.ref c), some (.ref B), some (.int kd), some (.int at_), u11', some (.ref PL), some (.ref kk), some (.ref ek), none] ∧ Same H27 H') ?_ ?_
      · walk_at "td"
        refine ite2 (fun e => ?_) (fun e => ?_)
        · rcases way with ⟨rfl, _⟩ | ⟨lb, ob, bad⟩
          · have : (bs.length : Int) > (bs.length : Int) := of_decide_eq_true e
            omega
          · walk_at "td"
            refine ⟨B, c, bs, bps, 2 * dps.length, inL dps, rfl, aB30, Paired.mono (fun _ _ z => PrAt.mono z s2730) hB27.un, by omega, ob, cz27.mono s2730, by omega, bad, fun H31 s31 => ?_⟩
            walk_at "td"
            refine iteN rfl ?_
            walk_at "td"
            exact ⟨rfl, s2730.trans s31⟩
        · walk_at "td"
          refine iteN rfl ?_
          walk_at "td"
          exact ⟨rfl, s2730⟩
      rintro σ' H31 ⟨rfl, s31⟩
      walk_at "td"
      exact hold s31 fun H32 _ => q H32
end
end RH
namespace RH
open PySem L2
/-! ### what the top has written, the head -/
theorem all_mk {l : PySem.W.OpenLaw} {w : World} {K : PySem.W.Frag} {h : Heap} {mg : Str → Option Value} (X : K.In h) (G : h.Ns mainGlobals mg) {fa C_Clock C_Keep C_BadValue C_Busy C_HouseDown C_RingError C_Unknown f__law_draw f__law_open f__law_char f__packed f__joined f__rows_of f_Clock___init__ f_Clock___contains__ f_Clock___or__ f_Clock_value f_Keep___init__ f_Keep___len__ f_Keep___iter__ f_Keep_clock f_Keep_entry f_Keep_value f__law_number f__law_dot f__law_item f__law_entry f__law_things f__law_same f__law_clock_value f__law_refused f__law_same_list f__law_holds f_law p0_Keep_clock : Addr} {rs_Keep_clock : List Value} {od__law_draw an__law_draw od__law_open an__law_open od__law_char an__law_char od__packed an__packed od__joined an__joined od__rows_of an__rows_of od_Clock___init__ an_Clock___init__ od_Clock___contains__ an_Clock___contains__ od_Clock___or__ an_Clock___or__ od_Clock_value an_Clock_value od_Keep___init__ an_Keep___init__ od_Keep___len__ an_Keep___len__ od_Keep___iter__ an_Keep___iter__ od_Keep_clock an_Keep_clock od_Keep_entry an_Keep_entry od_Keep_value an_Keep_value od__law_number an__law_number od__law_dot an__law_dot od__law_item an__law_item od__law_entry an__law_entry od__law_things an__law_things od__law_same an__law_same od__law_clock_value an__law_clock_value od__law_refused an__law_refused od__law_same_list an__law_same_list od__law_holds an__law_holds od_law an_law : Option Addr} {sl__law_draw sl__law_open sl__law_char sl__packed sl__joined sl__rows_of sl_Clock___init__ sl_Clock___contains__ sl_Clock___or__ sl_Clock_value sl_Keep___init__ sl_Keep___len__ sl_Keep___iter__ sl_Keep_clock sl_Keep_entry sl_Keep_value sl__law_number sl__law_dot sl__law_item sl__law_entry sl__law_things sl__law_same sl__law_clock_value sl__law_refused sl__law_same_list sl__law_holds sl_law : Array (Option Value)} {oc__law_draw kV__law_draw dc__law_draw pm__law_draw cd__law_draw ct__law_draw oc__law_open kV__law_open dc__law_open pm__law_open cd__law_open ct__law_open oc__law_char kV__law_char dc__law_char pm__law_char cd__law_char ct__law_char oc__packed kV__packed dc__packed pm__packed cd__packed ct__packed oc__joined kV__joined dc__joined pm__joined cd__joined ct__joined oc__rows_of kV__rows_of dc__rows_of pm__rows_of cd__rows_of ct__rows_of oc_Clock___init__ kV_Clock___init__ dc_Clock___init__ pm_Clock___init__ cd_Clock___init__ ct_Clock___init__ oc_Clock___contains__ kV_Clock___contains__ dc_Clock___contains__ pm_Clock___contains__ cd_Clock___contains__ ct_Clock___contains__ oc_Clock___or__ kV_Clock___or__ dc_Clock___or__ pm_Clock___or__ cd_Clock___or__ ct_Clock___or__ oc_Clock_value kV_Clock_value dc_Clock_value pm_Clock_value cd_Clock_value ct_Clock_value oc_Keep___init__ kV_Keep___init__ dc_Keep___init__ pm_Keep___init__ cd_Keep___init__ ct_Keep___init__ oc_Keep___len__ kV_Keep___len__ dc_Keep___len__ pm_Keep___len__ cd_Keep___len__ ct_Keep___len__ oc_Keep___iter__ kV_Keep___iter__ dc_Keep___iter__ pm_Keep___iter__ cd_Keep___iter__ ct_Keep___iter__ oc_Keep_clock kV_Keep_clock dc_Keep_clock pm_Keep_clock cd_Keep_clock ct_Keep_clock oc_Keep_entry kV_Keep_entry dc_Keep_entry pm_Keep_entry cd_Keep_entry ct_Keep_entry oc_Keep_value kV_Keep_value dc_Keep_value pm_Keep_value cd_Keep_value ct_Keep_value oc__law_number kV__law_number dc__law_number pm__law_number cd__law_number ct__law_number oc__law_dot kV__law_dot dc__law_dot pm__law_dot cd__law_dot ct__law_dot oc__law_item kV__law_item dc__law_item pm__law_item cd__law_item ct__law_item oc__law_entry kV__law_entry dc__law_entry pm__law_entry cd__law_entry ct__law_entry oc__law_things kV__law_things dc__law_things pm__law_things cd__law_things ct__law_things oc__law_same kV__law_same dc__law_same pm__law_same cd__law_same ct__law_same oc__law_clock_value kV__law_clock_value dc__law_clock_value pm__law_clock_value cd__law_clock_value ct__law_clock_value oc__law_refused kV__law_refused dc__law_refused pm__law_refused cd__law_refused ct__law_refused oc__law_same_list kV__law_same_list dc__law_same_list pm__law_same_list cd__law_same_list ct__law_same_list oc__law_holds kV__law_holds dc__law_holds pm__law_holds cd__law_holds ct__law_holds oc_law kV_law dc_law pm_law cd_law ct_law : Value} {d_NO_DOTS q_NO_DOTS : Addr} {dp_NO_DOTS dq_NO_DOTS : Option Addr} {np_NO_DOTS nq_NO_DOTS : Nat} {sp_NO_DOTS sq_NO_DOTS : Array (Option Value)} {t0_NO_DOTS : Tok}
    (hfa : mg "law" = some (.ref fa))
    (a_Clock : PySem.W.nsIn K mainGlobals "Clock" = some (some (.ref C_Clock)))
    (pg_Clock : PySem.W.plainGet K C_Clock Str.empty = true)
    (hd_Clock : PySem.W.hasDictIn K C_Clock = true)
    (po_Clock : PySem.W.plainOver K C_Clock = true)
    (sa_Clock : PySem.W.findIn K (.ref C_Clock) "__setattr__" = some (some (.builtin "object.__setattr__")))
    (mk_Clock : PySem.W.makesIn K C_Clock = true)
    (kc_Clock : PySem.W.keepIn K (.ref C_Clock) = true)
    (ha_Clock : PySem.W.findIn K (.ref C_Clock) "__class__" = some (some (.builtin "object.__class__")))
    (hn_Clock : PySem.W.specialIn K (.builtin "object.__class__") "__get__" = some (some (.builtin "getset_descriptor.__get__")))
    (ht_Clock : PySem.W.takesIn K (.builtin "object.__class__") = some true)
    (hm_Clock : PySem.W.mroIn K C_Clock (.type "object") = some true)
    (kint_Clock : PySem.W.mroIn K C_Clock (.type "int") = some false)
    (kbool_Clock : PySem.W.mroIn K C_Clock (.type "bool") = some false)
    (kstr_Clock : PySem.W.mroIn K C_Clock (.type "str") = some false)
    (ktuple_Clock : PySem.W.mroIn K C_Clock (.type "tuple") = some false)
    (klist_Clock : PySem.W.mroIn K C_Clock (.type "list") = some false)
    (n_Clock__rows : PySem.W.findIn K (.ref C_Clock) "_rows" = some none)
    (a_Keep : PySem.W.nsIn K mainGlobals "Keep" = some (some (.ref C_Keep)))
    (pg_Keep : PySem.W.plainGet K C_Keep Str.empty = true)
    (hd_Keep : PySem.W.hasDictIn K C_Keep = true)
    (po_Keep : PySem.W.plainOver K C_Keep = true)
    (sa_Keep : PySem.W.findIn K (.ref C_Keep) "__setattr__" = some (some (.builtin "object.__setattr__")))
    (mk_Keep : PySem.W.makesIn K C_Keep = true)
    (kc_Keep : PySem.W.keepIn K (.ref C_Keep) = true)
    (ha_Keep : PySem.W.findIn K (.ref C_Keep) "__class__" = some (some (.builtin "object.__class__")))
    (hn_Keep : PySem.W.specialIn K (.builtin "object.__class__") "__get__" = some (some (.builtin "getset_descriptor.__get__")))
    (ht_Keep : PySem.W.takesIn K (.builtin "object.__class__") = some true)
    (hm_Keep : PySem.W.mroIn K C_Keep (.type "object") = some true)
    (kint_Keep : PySem.W.mroIn K C_Keep (.type "int") = some false)
    (kbool_Keep : PySem.W.mroIn K C_Keep (.type "bool") = some false)
    (kstr_Keep : PySem.W.mroIn K C_Keep (.type "str") = some false)
    (ktuple_Keep : PySem.W.mroIn K C_Keep (.type "tuple") = some false)
    (klist_Keep : PySem.W.mroIn K C_Keep (.type "list") = some false)
    (n_Keep__clock : PySem.W.findIn K (.ref C_Keep) "_clock" = some none)
    (n_Keep__entries : PySem.W.findIn K (.ref C_Keep) "_entries" = some none)
    (n_Keep__pairs : PySem.W.findIn K (.ref C_Keep) "_pairs" = some none)
    (a_BadValue : PySem.W.nsIn K mainGlobals "BadValue" = some (some (.ref C_BadValue)))
    (kF_BadValue : PySem.W.keepIn K (.ref C_BadValue) = true)
    (bF_BadValue : PySem.W.subIn K (.ref C_BadValue) (.type "BaseException") = some true)
    (tF_BadValue : PySem.W.typeIn K (.ref C_BadValue) = some (.type "type"))
    (iF_BadValue : PySem.W.isClsIn K C_BadValue = true)
    (xF_BadValue : PySem.W.excIn K C_BadValue [.type "ValueError", .type "Exception", .type "BaseException", .type "object"] "ValueError.__new__" = true)
    (hgE_BadValue : PySem.W.findIn K (.ref C_BadValue) "__getattribute__" = some (some (.builtin "BaseException.__getattribute__")))
    (hkE_BadValue : PySem.W.findIn K (.ref C_BadValue) "__getattr__" = some none)
    (hdE_BadValue : PySem.W.hasDictIn K C_BadValue = true)
    (haE_BadValue : PySem.W.findIn K (.ref C_BadValue) "__class__" = some (some (.builtin "object.__class__")))
    (hnE_BadValue : PySem.W.specialIn K (.builtin "object.__class__") "__get__" = some (some (.builtin "getset_descriptor.__get__")))
    (htE_BadValue : PySem.W.takesIn K (.builtin "object.__class__") = some true)
    (hmE_BadValue : PySem.W.mroIn K C_BadValue (.type "object") = some true)
    (sE_BadValue : PySem.W.mroIn K C_BadValue (.ref C_BadValue) = some true)
    (a_Busy : PySem.W.nsIn K mainGlobals "Busy" = some (some (.ref C_Busy)))
    (kF_Busy : PySem.W.keepIn K (.ref C_Busy) = true)
    (bF_Busy : PySem.W.subIn K (.ref C_Busy) (.type "BaseException") = some true)
    (tF_Busy : PySem.W.typeIn K (.ref C_Busy) = some (.type "type"))
    (iF_Busy : PySem.W.isClsIn K C_Busy = true)
    (xF_Busy : PySem.W.excIn K C_Busy [.type "ValueError", .type "Exception", .type "BaseException", .type "object"] "ValueError.__new__" = true)
    (a_HouseDown : PySem.W.nsIn K mainGlobals "HouseDown" = some (some (.ref C_HouseDown)))
    (kF_HouseDown : PySem.W.keepIn K (.ref C_HouseDown) = true)
    (bF_HouseDown : PySem.W.subIn K (.ref C_HouseDown) (.type "BaseException") = some true)
    (tF_HouseDown : PySem.W.typeIn K (.ref C_HouseDown) = some (.type "type"))
    (iF_HouseDown : PySem.W.isClsIn K C_HouseDown = true)
    (xF_HouseDown : PySem.W.excIn K C_HouseDown [.type "ValueError", .type "Exception", .type "BaseException", .type "object"] "ValueError.__new__" = true)
    (a_RingError : PySem.W.nsIn K mainGlobals "RingError" = some (some (.ref C_RingError)))
    (kF_RingError : PySem.W.keepIn K (.ref C_RingError) = true)
    (bF_RingError : PySem.W.subIn K (.ref C_RingError) (.type "BaseException") = some true)
    (tF_RingError : PySem.W.typeIn K (.ref C_RingError) = some (.type "type"))
    (iF_RingError : PySem.W.isClsIn K C_RingError = true)
    (xF_RingError : PySem.W.excIn K C_RingError [.type "ValueError", .type "Exception", .type "BaseException", .type "object"] "ValueError.__new__" = true)
    (a_Unknown : PySem.W.nsIn K mainGlobals "Unknown" = some (some (.ref C_Unknown)))
    (kF_Unknown : PySem.W.keepIn K (.ref C_Unknown) = true)
    (bF_Unknown : PySem.W.subIn K (.ref C_Unknown) (.type "BaseException") = some true)
    (tF_Unknown : PySem.W.typeIn K (.ref C_Unknown) = some (.type "type"))
    (iF_Unknown : PySem.W.isClsIn K C_Unknown = true)
    (xF_Unknown : PySem.W.excIn K C_Unknown [.type "ValueError", .type "Exception", .type "BaseException", .type "object"] "ValueError.__new__" = true)
    (sub_BadValue_BadValue : PySem.W.subIn K (.ref C_BadValue) (.ref C_BadValue) = some true)
    (tE_BadValue_ValueError : PySem.W.mroIn K C_BadValue (.type "ValueError") = some true)
    (mE_BadValue_Busy : PySem.W.mroIn K C_BadValue (.ref C_Busy) = some false)
    (mE_BadValue_HouseDown : PySem.W.mroIn K C_BadValue (.ref C_HouseDown) = some false)
    (mE_BadValue_RingError : PySem.W.mroIn K C_BadValue (.ref C_RingError) = some true)
    (mE_BadValue_Unknown : PySem.W.mroIn K C_BadValue (.ref C_Unknown) = some false)
    (na_Clock__rows : PySem.W.findIn K (.ref C_Clock) "_rows" = some none)
    (na_Keep__clock : PySem.W.findIn K (.ref C_Keep) "_clock" = some none)
    (na_Keep__entries : PySem.W.findIn K (.ref C_Keep) "_entries" = some none)
    (na_Keep__pairs : PySem.W.findIn K (.ref C_Keep) "_pairs" = some none)
    (a__law_draw : PySem.W.nsIn K mainGlobals "_law_draw" = some (some (.ref f__law_draw)))
    (l__law_draw : K.lookup f__law_draw = some ⟨oc__law_draw, od__law_draw, .func (PySem.W.fnOf "_law_draw" "_law_draw" (defArgs s__law_draw) (defBody s__law_draw) (defScope s__law_draw) .none kV__law_draw dc__law_draw pm__law_draw an__law_draw cd__law_draw ct__law_draw), sl__law_draw⟩)
    (c__law_draw : PySem.W.codeIn K cd__law_draw "_law_draw" = true)
    (k__law_draw : PySem.W.keepIn K (.ref f__law_draw) = true)
    (a__law_open : PySem.W.nsIn K mainGlobals "_law_open" = some (some (.ref f__law_open)))
    (l__law_open : K.lookup f__law_open = some ⟨oc__law_open, od__law_open, .func (PySem.W.fnOf "_law_open" "_law_open" (defArgs s__law_open) (defBody s__law_open) (defScope s__law_open) .none kV__law_open dc__law_open pm__law_open an__law_open cd__law_open ct__law_open), sl__law_open⟩)
    (c__law_open : PySem.W.codeIn K cd__law_open "_law_open" = true)
    (k__law_open : PySem.W.keepIn K (.ref f__law_open) = true)
    (a__law_char : PySem.W.nsIn K mainGlobals "_law_char" = some (some (.ref f__law_char)))
    (l__law_char : K.lookup f__law_char = some ⟨oc__law_char, od__law_char, .func (PySem.W.fnOf "_law_char" "_law_char" (defArgs s__law_char) (defBody s__law_char) (defScope s__law_char) .none kV__law_char dc__law_char pm__law_char an__law_char cd__law_char ct__law_char), sl__law_char⟩)
    (c__law_char : PySem.W.codeIn K cd__law_char "_law_char" = true)
    (k__law_char : PySem.W.keepIn K (.ref f__law_char) = true)
    (a__packed : PySem.W.nsIn K mainGlobals "_packed" = some (some (.ref f__packed)))
    (l__packed : K.lookup f__packed = some ⟨oc__packed, od__packed, .func (PySem.W.fnOf "_packed" "_packed" (defArgs s__packed) (defBody s__packed) (defScope s__packed) .none kV__packed dc__packed pm__packed an__packed cd__packed ct__packed), sl__packed⟩)
    (c__packed : PySem.W.codeIn K cd__packed "_packed" = true)
    (k__packed : PySem.W.keepIn K (.ref f__packed) = true)
    (a__joined : PySem.W.nsIn K mainGlobals "_joined" = some (some (.ref f__joined)))
    (l__joined : K.lookup f__joined = some ⟨oc__joined, od__joined, .func (PySem.W.fnOf "_joined" "_joined" (defArgs s__joined) (defBody s__joined) (defScope s__joined) .none kV__joined dc__joined pm__joined an__joined cd__joined ct__joined), sl__joined⟩)
    (c__joined : PySem.W.codeIn K cd__joined "_joined" = true)
    (k__joined : PySem.W.keepIn K (.ref f__joined) = true)
    (a__rows_of : PySem.W.nsIn K mainGlobals "_rows_of" = some (some (.ref f__rows_of)))
    (l__rows_of : K.lookup f__rows_of = some ⟨oc__rows_of, od__rows_of, .func (PySem.W.fnOf "_rows_of" "_rows_of" (defArgs s__rows_of) (defBody s__rows_of) (defScope s__rows_of) .none kV__rows_of dc__rows_of pm__rows_of an__rows_of cd__rows_of ct__rows_of), sl__rows_of⟩)
    (c__rows_of : PySem.W.codeIn K cd__rows_of "_rows_of" = true)
    (k__rows_of : PySem.W.keepIn K (.ref f__rows_of) = true)
    (a_Clock___init__ : PySem.W.findIn K (.ref C_Clock) "__init__" = some (some (.ref f_Clock___init__)))
    (i_Clock___init__ : PySem.W.isFn K (.ref f_Clock___init__) = true)
    (l_Clock___init__ : K.lookup f_Clock___init__ = some ⟨oc_Clock___init__, od_Clock___init__, .func (PySem.W.fnOf "__init__" "Clock.__init__" (defArgs s_Clock___init__) (defBody s_Clock___init__) (defScope s_Clock___init__) .none kV_Clock___init__ dc_Clock___init__ pm_Clock___init__ an_Clock___init__ cd_Clock___init__ ct_Clock___init__), sl_Clock___init__⟩)
    (c_Clock___init__ : PySem.W.codeIn K cd_Clock___init__ "Clock.__init__" = true)
    (k_Clock___init__ : PySem.W.keepIn K (.ref f_Clock___init__) = true)
    (a_Clock___contains__ : PySem.W.findIn K (.ref C_Clock) "__contains__" = some (some (.ref f_Clock___contains__)))
    (i_Clock___contains__ : PySem.W.isFn K (.ref f_Clock___contains__) = true)
    (l_Clock___contains__ : K.lookup f_Clock___contains__ = some ⟨oc_Clock___contains__, od_Clock___contains__, .func (PySem.W.fnOf "__contains__" "Clock.__contains__" (defArgs s_Clock___contains__) (defBody s_Clock___contains__) (defScope s_Clock___contains__) .none kV_Clock___contains__ dc_Clock___contains__ pm_Clock___contains__ an_Clock___contains__ cd_Clock___contains__ ct_Clock___contains__), sl_Clock___contains__⟩)
    (c_Clock___contains__ : PySem.W.codeIn K cd_Clock___contains__ "Clock.__contains__" = true)
    (k_Clock___contains__ : PySem.W.keepIn K (.ref f_Clock___contains__) = true)
    (a_Clock___or__ : PySem.W.findIn K (.ref C_Clock) "__or__" = some (some (.ref f_Clock___or__)))
    (i_Clock___or__ : PySem.W.isFn K (.ref f_Clock___or__) = true)
    (l_Clock___or__ : K.lookup f_Clock___or__ = some ⟨oc_Clock___or__, od_Clock___or__, .func (PySem.W.fnOf "__or__" "Clock.__or__" (defArgs s_Clock___or__) (defBody s_Clock___or__) (defScope s_Clock___or__) .none kV_Clock___or__ dc_Clock___or__ pm_Clock___or__ an_Clock___or__ cd_Clock___or__ ct_Clock___or__), sl_Clock___or__⟩)
    (c_Clock___or__ : PySem.W.codeIn K cd_Clock___or__ "Clock.__or__" = true)
    (k_Clock___or__ : PySem.W.keepIn K (.ref f_Clock___or__) = true)
    (a_Clock_value : PySem.W.findIn K (.ref C_Clock) "value" = some (some (.ref f_Clock_value)))
    (i_Clock_value : PySem.W.isFn K (.ref f_Clock_value) = true)
    (l_Clock_value : K.lookup f_Clock_value = some ⟨oc_Clock_value, od_Clock_value, .func (PySem.W.fnOf "value" "Clock.value" (defArgs s_Clock_value) (defBody s_Clock_value) (defScope s_Clock_value) .none kV_Clock_value dc_Clock_value pm_Clock_value an_Clock_value cd_Clock_value ct_Clock_value), sl_Clock_value⟩)
    (c_Clock_value : PySem.W.codeIn K cd_Clock_value "Clock.value" = true)
    (k_Clock_value : PySem.W.keepIn K (.ref f_Clock_value) = true)
    (a_Keep___init__ : PySem.W.findIn K (.ref C_Keep) "__init__" = some (some (.ref f_Keep___init__)))
    (i_Keep___init__ : PySem.W.isFn K (.ref f_Keep___init__) = true)
    (l_Keep___init__ : K.lookup f_Keep___init__ = some ⟨oc_Keep___init__, od_Keep___init__, .func (PySem.W.fnOf "__init__" "Keep.__init__" (defArgs s_Keep___init__) (defBody s_Keep___init__) (defScope s_Keep___init__) .none kV_Keep___init__ dc_Keep___init__ pm_Keep___init__ an_Keep___init__ cd_Keep___init__ ct_Keep___init__), sl_Keep___init__⟩)
    (c_Keep___init__ : PySem.W.codeIn K cd_Keep___init__ "Keep.__init__" = true)
    (k_Keep___init__ : PySem.W.keepIn K (.ref f_Keep___init__) = true)
    (a_Keep___len__ : PySem.W.findIn K (.ref C_Keep) "__len__" = some (some (.ref f_Keep___len__)))
    (i_Keep___len__ : PySem.W.isFn K (.ref f_Keep___len__) = true)
    (l_Keep___len__ : K.lookup f_Keep___len__ = some ⟨oc_Keep___len__, od_Keep___len__, .func (PySem.W.fnOf "__len__" "Keep.__len__" (defArgs s_Keep___len__) (defBody s_Keep___len__) (defScope s_Keep___len__) .none kV_Keep___len__ dc_Keep___len__ pm_Keep___len__ an_Keep___len__ cd_Keep___len__ ct_Keep___len__), sl_Keep___len__⟩)
    (c_Keep___len__ : PySem.W.codeIn K cd_Keep___len__ "Keep.__len__" = true)
    (k_Keep___len__ : PySem.W.keepIn K (.ref f_Keep___len__) = true)
    (a_Keep___iter__ : PySem.W.findIn K (.ref C_Keep) "__iter__" = some (some (.ref f_Keep___iter__)))
    (i_Keep___iter__ : PySem.W.isFn K (.ref f_Keep___iter__) = true)
    (l_Keep___iter__ : K.lookup f_Keep___iter__ = some ⟨oc_Keep___iter__, od_Keep___iter__, .func (PySem.W.fnOf "__iter__" "Keep.__iter__" (defArgs s_Keep___iter__) (defBody s_Keep___iter__) (defScope s_Keep___iter__) .none kV_Keep___iter__ dc_Keep___iter__ pm_Keep___iter__ an_Keep___iter__ cd_Keep___iter__ ct_Keep___iter__), sl_Keep___iter__⟩)
    (c_Keep___iter__ : PySem.W.codeIn K cd_Keep___iter__ "Keep.__iter__" = true)
    (k_Keep___iter__ : PySem.W.keepIn K (.ref f_Keep___iter__) = true)
    (pa_Keep_clock : PySem.W.findIn K (.ref C_Keep) "clock" = some (some (.ref p0_Keep_clock)))
    (pb_Keep_clock : PySem.W.specialIn K (.ref p0_Keep_clock) "__get__" = some (some (.builtin "property.__get__")))
    (pc_Keep_clock : PySem.W.takesIn K (.ref p0_Keep_clock) = some true)
    (pd_Keep_clock : PySem.W.recIn K p0_Keep_clock "property" = some (.ref f_Keep_clock :: rs_Keep_clock))
    (l_Keep_clock : K.lookup f_Keep_clock = some ⟨oc_Keep_clock, od_Keep_clock, .func (PySem.W.fnOf "clock" "Keep.clock" (defArgs s_Keep_clock) (defBody s_Keep_clock) (defScope s_Keep_clock) .none kV_Keep_clock dc_Keep_clock pm_Keep_clock an_Keep_clock cd_Keep_clock ct_Keep_clock), sl_Keep_clock⟩)
    (c_Keep_clock : PySem.W.codeIn K cd_Keep_clock "Keep.clock" = true)
    (k_Keep_clock : PySem.W.keepIn K (.ref f_Keep_clock) = true)
    (a_Keep_entry : PySem.W.findIn K (.ref C_Keep) "entry" = some (some (.ref f_Keep_entry)))
    (i_Keep_entry : PySem.W.isFn K (.ref f_Keep_entry) = true)
    (l_Keep_entry : K.lookup f_Keep_entry = some ⟨oc_Keep_entry, od_Keep_entry, .func (PySem.W.fnOf "entry" "Keep.entry" (defArgs s_Keep_entry) (defBody s_Keep_entry) (defScope s_Keep_entry) .none kV_Keep_entry dc_Keep_entry pm_Keep_entry an_Keep_entry cd_Keep_entry ct_Keep_entry), sl_Keep_entry⟩)
    (c_Keep_entry : PySem.W.codeIn K cd_Keep_entry "Keep.entry" = true)
    (k_Keep_entry : PySem.W.keepIn K (.ref f_Keep_entry) = true)
    (a_Keep_value : PySem.W.findIn K (.ref C_Keep) "value" = some (some (.ref f_Keep_value)))
    (i_Keep_value : PySem.W.isFn K (.ref f_Keep_value) = true)
    (l_Keep_value : K.lookup f_Keep_value = some ⟨oc_Keep_value, od_Keep_value, .func (PySem.W.fnOf "value" "Keep.value" (defArgs s_Keep_value) (defBody s_Keep_value) (defScope s_Keep_value) .none kV_Keep_value dc_Keep_value pm_Keep_value an_Keep_value cd_Keep_value ct_Keep_value), sl_Keep_value⟩)
    (c_Keep_value : PySem.W.codeIn K cd_Keep_value "Keep.value" = true)
    (k_Keep_value : PySem.W.keepIn K (.ref f_Keep_value) = true)
    (a__law_number : PySem.W.nsIn K mainGlobals "_law_number" = some (some (.ref f__law_number)))
    (l__law_number : K.lookup f__law_number = some ⟨oc__law_number, od__law_number, .func (PySem.W.fnOf "_law_number" "_law_number" (defArgs s__law_number) (defBody s__law_number) (defScope s__law_number) .none kV__law_number dc__law_number pm__law_number an__law_number cd__law_number ct__law_number), sl__law_number⟩)
    (c__law_number : PySem.W.codeIn K cd__law_number "_law_number" = true)
    (k__law_number : PySem.W.keepIn K (.ref f__law_number) = true)
    (a__law_dot : PySem.W.nsIn K mainGlobals "_law_dot" = some (some (.ref f__law_dot)))
    (l__law_dot : K.lookup f__law_dot = some ⟨oc__law_dot, od__law_dot, .func (PySem.W.fnOf "_law_dot" "_law_dot" (defArgs s__law_dot) (defBody s__law_dot) (defScope s__law_dot) .none kV__law_dot dc__law_dot pm__law_dot an__law_dot cd__law_dot ct__law_dot), sl__law_dot⟩)
    (c__law_dot : PySem.W.codeIn K cd__law_dot "_law_dot" = true)
    (k__law_dot : PySem.W.keepIn K (.ref f__law_dot) = true)
    (a__law_item : PySem.W.nsIn K mainGlobals "_law_item" = some (some (.ref f__law_item)))
    (l__law_item : K.lookup f__law_item = some ⟨oc__law_item, od__law_item, .func (PySem.W.fnOf "_law_item" "_law_item" (defArgs s__law_item) (defBody s__law_item) (defScope s__law_item) .none kV__law_item dc__law_item pm__law_item an__law_item cd__law_item ct__law_item), sl__law_item⟩)
    (c__law_item : PySem.W.codeIn K cd__law_item "_law_item" = true)
    (k__law_item : PySem.W.keepIn K (.ref f__law_item) = true)
    (a__law_entry : PySem.W.nsIn K mainGlobals "_law_entry" = some (some (.ref f__law_entry)))
    (l__law_entry : K.lookup f__law_entry = some ⟨oc__law_entry, od__law_entry, .func (PySem.W.fnOf "_law_entry" "_law_entry" (defArgs s__law_entry) (defBody s__law_entry) (defScope s__law_entry) .none kV__law_entry dc__law_entry pm__law_entry an__law_entry cd__law_entry ct__law_entry), sl__law_entry⟩)
    (c__law_entry : PySem.W.codeIn K cd__law_entry "_law_entry" = true)
    (k__law_entry : PySem.W.keepIn K (.ref f__law_entry) = true)
    (a__law_things : PySem.W.nsIn K mainGlobals "_law_things" = some (some (.ref f__law_things)))
    (l__law_things : K.lookup f__law_things = some ⟨oc__law_things, od__law_things, .func (PySem.W.fnOf "_law_things" "_law_things" (defArgs s__law_things) (defBody s__law_things) (defScope s__law_things) .none kV__law_things dc__law_things pm__law_things an__law_things cd__law_things ct__law_things), sl__law_things⟩)
    (c__law_things : PySem.W.codeIn K cd__law_things "_law_things" = true)
    (k__law_things : PySem.W.keepIn K (.ref f__law_things) = true)
    (a__law_same : PySem.W.nsIn K mainGlobals "_law_same" = some (some (.ref f__law_same)))
    (l__law_same : K.lookup f__law_same = some ⟨oc__law_same, od__law_same, .func (PySem.W.fnOf "_law_same" "_law_same" (defArgs s__law_same) (defBody s__law_same) (defScope s__law_same) .none kV__law_same dc__law_same pm__law_same an__law_same cd__law_same ct__law_same), sl__law_same⟩)
    (c__law_same : PySem.W.codeIn K cd__law_same "_law_same" = true)
    (k__law_same : PySem.W.keepIn K (.ref f__law_same) = true)
    (a__law_clock_value : PySem.W.nsIn K mainGlobals "_law_clock_value" = some (some (.ref f__law_clock_value)))
    (l__law_clock_value : K.lookup f__law_clock_value = some ⟨oc__law_clock_value, od__law_clock_value, .func (PySem.W.fnOf "_law_clock_value" "_law_clock_value" (defArgs s__law_clock_value) (defBody s__law_clock_value) (defScope s__law_clock_value) .none kV__law_clock_value dc__law_clock_value pm__law_clock_value an__law_clock_value cd__law_clock_value ct__law_clock_value), sl__law_clock_value⟩)
    (c__law_clock_value : PySem.W.codeIn K cd__law_clock_value "_law_clock_value" = true)
    (k__law_clock_value : PySem.W.keepIn K (.ref f__law_clock_value) = true)
    (a__law_refused : PySem.W.nsIn K mainGlobals "_law_refused" = some (some (.ref f__law_refused)))
    (l__law_refused : K.lookup f__law_refused = some ⟨oc__law_refused, od__law_refused, .func (PySem.W.fnOf "_law_refused" "_law_refused" (defArgs s__law_refused) (defBody s__law_refused) (defScope s__law_refused) .none kV__law_refused dc__law_refused pm__law_refused an__law_refused cd__law_refused ct__law_refused), sl__law_refused⟩)
    (c__law_refused : PySem.W.codeIn K cd__law_refused "_law_refused" = true)
    (k__law_refused : PySem.W.keepIn K (.ref f__law_refused) = true)
    (a__law_same_list : PySem.W.nsIn K mainGlobals "_law_same_list" = some (some (.ref f__law_same_list)))
    (l__law_same_list : K.lookup f__law_same_list = some ⟨oc__law_same_list, od__law_same_list, .func (PySem.W.fnOf "_law_same_list" "_law_same_list" (defArgs s__law_same_list) (defBody s__law_same_list) (defScope s__law_same_list) .none kV__law_same_list dc__law_same_list pm__law_same_list an__law_same_list cd__law_same_list ct__law_same_list), sl__law_same_list⟩)
    (c__law_same_list : PySem.W.codeIn K cd__law_same_list "_law_same_list" = true)
    (k__law_same_list : PySem.W.keepIn K (.ref f__law_same_list) = true)
    (a__law_holds : PySem.W.nsIn K mainGlobals "_law_holds" = some (some (.ref f__law_holds)))
    (l__law_holds : K.lookup f__law_holds = some ⟨oc__law_holds, od__law_holds, .func (PySem.W.fnOf "_law_holds" "_law_holds" (defArgs s__law_holds) (defBody s__law_holds) (defScope s__law_holds) .none kV__law_holds dc__law_holds pm__law_holds an__law_holds cd__law_holds ct__law_holds), sl__law_holds⟩)
    (c__law_holds : PySem.W.codeIn K cd__law_holds "_law_holds" = true)
    (k__law_holds : PySem.W.keepIn K (.ref f__law_holds) = true)
    (a_law : PySem.W.nsIn K mainGlobals "law" = some (some (.ref f_law)))
    (l_law : K.lookup f_law = some ⟨oc_law, od_law, .func (PySem.W.fnOf "law" "law" (defArgs s_law) (defBody s_law) (defScope s_law) .none kV_law dc_law pm_law an_law cd_law ct_law), sl_law⟩)
    (c_law : PySem.W.codeIn K cd_law "law" = true)
    (k_law : PySem.W.keepIn K (.ref f_law) = true)
    (a_NO_DOTS : PySem.W.nsIn K mainGlobals "NO_DOTS" = some (some (.ref d_NO_DOTS)))
    (lp_NO_DOTS : K.lookup d_NO_DOTS = some ⟨.type "tuple", dp_NO_DOTS, .seq #[.int 0 t0_NO_DOTS, .ref q_NO_DOTS] np_NO_DOTS, sp_NO_DOTS⟩)
    (lq_NO_DOTS : K.lookup q_NO_DOTS = some ⟨.type "tuple", dq_NO_DOTS, .seq #[] nq_NO_DOTS, sq_NO_DOTS⟩)
    (z_ValueError : PySem.W.nsIn K mainGlobals "ValueError" = some none)
    (z_abs : PySem.W.nsIn K mainGlobals "abs" = some none)
    (z_all : PySem.W.nsIn K mainGlobals "all" = some none)
    (z_bool : PySem.W.nsIn K mainGlobals "bool" = some none)
    (z_dict : PySem.W.nsIn K mainGlobals "dict" = some none)
    (z_int : PySem.W.nsIn K mainGlobals "int" = some none)
    (z_isinstance : PySem.W.nsIn K mainGlobals "isinstance" = some none)
    (z_iter : PySem.W.nsIn K mainGlobals "iter" = some none)
    (z_len : PySem.W.nsIn K mainGlobals "len" = some none)
    (z_list : PySem.W.nsIn K mainGlobals "list" = some none)
    (z_max : PySem.W.nsIn K mainGlobals "max" = some none)
    (z_min : PySem.W.nsIn K mainGlobals "min" = some none)
    (z_property : PySem.W.nsIn K mainGlobals "property" = some none)
    (z_range : PySem.W.nsIn K mainGlobals "range" = some none)
    (z_set : PySem.W.nsIn K mainGlobals "set" = some none)
    (z_sorted : PySem.W.nsIn K mainGlobals "sorted" = some none)
    (z_str : PySem.W.nsIn K mainGlobals "str" = some none)
    (z_tuple : PySem.W.nsIn K mainGlobals "tuple" = some none)
    (z_zip : PySem.W.nsIn K mainGlobals "zip" = some none)
    : ∃ fd : FuncData, (∀ (s : Shared) (v : Value), BindsTo s fd ⟨[v], []⟩ [("script", v)]) ∧ ∀ base : Heap, K.In base → base.Ns mainGlobals mg → FnOk l.prog w K mg base CX0 10 fa fd ["script"] (spLaw K) := by
  have e := hfa.symm.trans (PySem.W.mg_of X G a_law)
  cases e
  have T : Txt K mg := ⟨PySem.W.mg_none_of X G z_ValueError, PySem.W.mg_none_of X G z_abs, PySem.W.mg_none_of X G z_all, PySem.W.mg_none_of X G z_bool, PySem.W.mg_none_of X G z_dict, PySem.W.mg_none_of X G z_int, PySem.W.mg_none_of X G z_isinstance, PySem.W.mg_none_of X G z_iter, PySem.W.mg_none_of X G z_len, PySem.W.mg_none_of X G z_list, PySem.W.mg_none_of X G z_max, PySem.W.mg_none_of X G z_min, PySem.W.mg_none_of X G z_property, PySem.W.mg_none_of X G z_range, PySem.W.mg_none_of X G z_set, PySem.W.mg_none_of X G z_sorted, PySem.W.mg_none_of X G z_str, PySem.W.mg_none_of X G z_tuple, PySem.W.mg_none_of X G z_zip⟩
  let CC : Addr → Prop := fun A => A = C_Clock ∨ A = C_Keep
  have I_Clock : ClsI K C_Clock := ⟨⟨pg_Clock, hd_Clock, po_Clock, sa_Clock⟩, ha_Clock, hn_Clock, ht_Clock, hm_Clock, kit_ref kint_Clock (by decide +kernel), kit_ref kbool_Clock (by decide +kernel), kit_ref kstr_Clock (by decide +kernel), kit_ref ktuple_Clock (by decide +kernel), kit_ref klist_Clock (by decide +kernel)⟩
  have I_Keep : ClsI K C_Keep := ⟨⟨pg_Keep, hd_Keep, po_Keep, sa_Keep⟩, ha_Keep, hn_Keep, ht_Keep, hm_Keep, kit_ref kint_Keep (by decide +kernel), kit_ref kbool_Keep (by decide +kernel), kit_ref kstr_Keep (by decide +kernel), kit_ref ktuple_Keep (by decide +kernel), kit_ref klist_Keep (by decide +kernel)⟩
  have hC : ∀ C, CC C → ClsI K C := fun C e => by rcases e with rfl | rfl <;> assumption
  have nd_NO_DOTS : NoDots K mg := ⟨_, _, PySem.W.mg_of X G a_NO_DOTS, fun _ => .inr ⟨_, _, _, lp_NO_DOTS, rfl, rfl, szL rfl, .cons ⟨_, rfl⟩ (.cons rfl .nil)⟩, fun _ => .inr ⟨_, _, _, lq_NO_DOTS, rfl, rfl, szL rfl, .nil⟩⟩
  have cl_Clock : Cls K C_Clock := ⟨pg_Clock, hd_Clock, po_Clock, sa_Clock⟩
  have mg_Clock := PySem.W.mg_of X G a_Clock
  have cl_Keep : Cls K C_Keep := ⟨pg_Keep, hd_Keep, po_Keep, sa_Keep⟩
  have mg_Keep := PySem.W.mg_of X G a_Keep
  have e_BadValue : Err K mg "BadValue" C_BadValue := ⟨xF_BadValue, PySem.W.mg_of X G a_BadValue, kF_BadValue, bF_BadValue, tF_BadValue⟩
  have x_BadValue : ExcC K C_BadValue := ⟨hgE_BadValue, hkE_BadValue, bF_BadValue, hdE_BadValue, haE_BadValue, hnE_BadValue, htE_BadValue, hmE_BadValue⟩
  have e_Busy : Err K mg "Busy" C_Busy := ⟨xF_Busy, PySem.W.mg_of X G a_Busy, kF_Busy, bF_Busy, tF_Busy⟩
  have e_HouseDown : Err K mg "HouseDown" C_HouseDown := ⟨xF_HouseDown, PySem.W.mg_of X G a_HouseDown, kF_HouseDown, bF_HouseDown, tF_HouseDown⟩
  have e_RingError : Err K mg "RingError" C_RingError := ⟨xF_RingError, PySem.W.mg_of X G a_RingError, kF_RingError, bF_RingError, tF_RingError⟩
  have e_Unknown : Err K mg "Unknown" C_Unknown := ⟨xF_Unknown, PySem.W.mg_of X G a_Unknown, kF_Unknown, bF_Unknown, tF_Unknown⟩
  have ex_BadValue_BadValue := exm_own bF_BadValue iF_BadValue tF_BadValue sub_BadValue_BadValue
  have kb_BadValue_ValueError_true := kit_ref tE_BadValue_ValueError (by decide +kernel)
  have ko_BadValue_Busy_false := kit_own mE_BadValue_Busy sE_BadValue iF_Busy tF_Busy
  have ko_BadValue_HouseDown_false := kit_own mE_BadValue_HouseDown sE_BadValue iF_HouseDown tF_HouseDown
  have ko_BadValue_RingError_true := kit_own mE_BadValue_RingError sE_BadValue iF_RingError tF_RingError
  have ko_BadValue_Unknown_false := kit_own mE_BadValue_Unknown sE_BadValue iF_Unknown tF_Unknown
  have F__law_draw := fun_mk (st := s__law_draw) l__law_draw c__law_draw k__law_draw
  have b__law_draw := F__law_draw.binds (ps := ["row", "bound"]) fun _ _ _ _ _ _ us hl => match us, hl with | [_, _], _ => rfl
  have F__law_open := fun_mk (st := s__law_open) l__law_open c__law_open k__law_open
  have b__law_open := F__law_open.binds (ps := ["script", "place"]) fun _ _ _ _ _ _ us hl => match us, hl with | [_, _], _ => rfl
  have F__law_char := fun_mk (st := s__law_char) l__law_char c__law_char k__law_char
  have b__law_char := F__law_char.binds (ps := ["draw"]) fun _ _ _ _ _ _ us hl => match us, hl with | [_], _ => rfl
  have F__packed := fun_mk (st := s__packed) l__packed c__packed k__packed
  have b__packed := F__packed.binds (ps := ["upto", "numbers"]) fun _ _ _ _ _ _ us hl => match us, hl with | [_, _], _ => rfl
  have F__joined := fun_mk (st := s__joined) l__joined c__joined k__joined
  have b__joined := F__joined.binds (ps := ["row", "other"]) fun _ _ _ _ _ _ us hl => match us, hl with | [_, _], _ => rfl
  have F__rows_of := fun_mk (st := s__rows_of) l__rows_of c__rows_of k__rows_of
  have b__rows_of := F__rows_of.binds (ps := ["dots"]) fun _ _ _ _ _ _ us hl => match us, hl with | [_], _ => rfl
  have F_Clock___init__ := fun_mk (st := s_Clock___init__) l_Clock___init__ c_Clock___init__ k_Clock___init__
  have b_Clock___init__ := F_Clock___init__.binds (ps := ["self", "dots"]) fun _ _ _ _ _ _ us hl => match us, hl with | [_, _], _ => rfl
  have F_Clock___contains__ := fun_mk (st := s_Clock___contains__) l_Clock___contains__ c_Clock___contains__ k_Clock___contains__
  have b_Clock___contains__ := F_Clock___contains__.binds (ps := ["self", "dot"]) fun _ _ _ _ _ _ us hl => match us, hl with | [_, _], _ => rfl
  have F_Clock___or__ := fun_mk (st := s_Clock___or__) l_Clock___or__ c_Clock___or__ k_Clock___or__
  have b_Clock___or__ := F_Clock___or__.binds (ps := ["self", "other"]) fun _ _ _ _ _ _ us hl => match us, hl with | [_, _], _ => rfl
  have F_Clock_value := fun_mk (st := s_Clock_value) l_Clock_value c_Clock_value k_Clock_value
  have b_Clock_value := F_Clock_value.binds (ps := ["self"]) fun _ _ _ _ _ _ us hl => match us, hl with | [_], _ => rfl
  have F_Keep___init__ := fun_mk (st := s_Keep___init__) l_Keep___init__ c_Keep___init__ k_Keep___init__
  have b_Keep___init__ := F_Keep___init__.binds (ps := ["self", "pairs", "clock"]) fun _ _ _ _ _ _ us hl => match us, hl with | [_, _, _], _ => rfl
  have F_Keep___len__ := fun_mk (st := s_Keep___len__) l_Keep___len__ c_Keep___len__ k_Keep___len__
  have b_Keep___len__ := F_Keep___len__.binds (ps := ["self"]) fun _ _ _ _ _ _ us hl => match us, hl with | [_], _ => rfl
  have F_Keep___iter__ := fun_mk (st := s_Keep___iter__) l_Keep___iter__ c_Keep___iter__ k_Keep___iter__
  have b_Keep___iter__ := F_Keep___iter__.binds (ps := ["self"]) fun _ _ _ _ _ _ us hl => match us, hl with | [_], _ => rfl
  have F_Keep_clock := fun_mk (st := s_Keep_clock) l_Keep_clock c_Keep_clock k_Keep_clock
  have b_Keep_clock := F_Keep_clock.binds (ps := ["self"]) fun _ _ _ _ _ _ us hl => match us, hl with | [_], _ => rfl
  have F_Keep_entry := fun_mk (st := s_Keep_entry) l_Keep_entry c_Keep_entry k_Keep_entry
  have b_Keep_entry := F_Keep_entry.binds (ps := ["self", "dot"]) fun _ _ _ _ _ _ us hl => match us, hl with | [_, _], _ => rfl
  have F_Keep_value := fun_mk (st := s_Keep_value) l_Keep_value c_Keep_value k_Keep_value
  have b_Keep_value := F_Keep_value.binds (ps := ["self"]) fun _ _ _ _ _ _ us hl => match us, hl with | [_], _ => rfl
  have F__law_number := fun_mk (st := s__law_number) l__law_number c__law_number k__law_number
  have b__law_number := F__law_number.binds (ps := ["row"]) fun _ _ _ _ _ _ us hl => match us, hl with | [_], _ => rfl
  have F__law_dot := fun_mk (st := s__law_dot) l__law_dot c__law_dot k__law_dot
  have b__law_dot := F__law_dot.binds (ps := ["row", "clients"]) fun _ _ _ _ _ _ us hl => match us, hl with | [_, _], _ => rfl
  have F__law_item := fun_mk (st := s__law_item) l__law_item c__law_item k__law_item
  have b__law_item := F__law_item.binds (ps := ["row"]) fun _ _ _ _ _ _ us hl => match us, hl with | [_], _ => rfl
  have F__law_entry := fun_mk (st := s__law_entry) l__law_entry c__law_entry k__law_entry
  have b__law_entry := F__law_entry.binds (ps := ["row"]) fun _ _ _ _ _ _ us hl => match us, hl with | [_], _ => rfl
  have F__law_things := fun_mk (st := s__law_things) l__law_things c__law_things k__law_things
  have b__law_things := F__law_things.binds (ps := ["script", "most"]) fun _ _ _ _ _ _ us hl => match us, hl with | [_, _], _ => rfl
  have F__law_same := fun_mk (st := s__law_same) l__law_same c__law_same k__law_same
  have b__law_same := F__law_same.binds (ps := ["actual", "due"]) fun _ _ _ _ _ _ us hl => match us, hl with | [_, _], _ => rfl
  have F__law_clock_value := fun_mk (st := s__law_clock_value) l__law_clock_value c__law_clock_value k__law_clock_value
  have b__law_clock_value := F__law_clock_value.binds (ps := ["dots", "bases"]) fun _ _ _ _ _ _ us hl => match us, hl with | [_, _], _ => rfl
  have F__law_refused := fun_mk (st := s__law_refused) l__law_refused c__law_refused k__law_refused
  have b__law_refused := F__law_refused.binds (ps := ["pairs", "clock"]) fun _ _ _ _ _ _ us hl => match us, hl with | [_, _], _ => rfl
  have F__law_same_list := fun_mk (st := s__law_same_list) l__law_same_list c__law_same_list k__law_same_list
  have b__law_same_list := F__law_same_list.binds (ps := ["actual", "due"]) fun _ _ _ _ _ _ us hl => match us, hl with | [_, _], _ => rfl
  have F__law_holds := fun_mk (st := s__law_holds) l__law_holds c__law_holds k__law_holds
  have b__law_holds := F__law_holds.binds (ps := ["keep", "pairs", "things", "dots"]) fun _ _ _ _ _ _ us hl => match us, hl with | [_, _, _, _], _ => rfl
  have F_law := fun_mk (st := s_law) l_law c_law k_law
  refine ⟨PySem.W.fnOf "law" "law" (defArgs s_law) (defBody s_law) (defScope s_law) .none kV_law dc_law pm_law an_law cd_law ct_law, fun s v => .of_eq rfl, fun base _ _ => ?_⟩
  have c__law_draw : C8.Cal l.prog w K mg base 1 "_law_draw" sp_draw [] := ⟨_, _, _, [], ok__law_draw F__law_draw T, PySem.W.mg_of X G a__law_draw, k__law_draw, b__law_draw, .nil⟩
  have c__law_open : C8.Cal l.prog w K mg base 1 "_law_open" (sp_open K) [] := ⟨_, _, _, [], ok__law_open F__law_open T, PySem.W.mg_of X G a__law_open, k__law_open, b__law_open, .nil⟩
  have c__law_char : C8.Cal l.prog w K mg base 1 "_law_char" sp_char [] := ⟨_, _, _, [], ok__law_char F__law_char T, PySem.W.mg_of X G a__law_char, k__law_char, b__law_char, .nil⟩
  have c__packed : C8.Cal l.prog w K mg base 1 "_packed" (spPacked K) [] := ⟨_, _, _, [], ok__packed F__packed T, PySem.W.mg_of X G a__packed, k__packed, b__packed, .nil⟩
  have c__joined : C8.Cal l.prog w K mg base 2 "_joined" (spJoined K) [] := ⟨_, _, _, [], ok__joined F__joined T c__packed, PySem.W.mg_of X G a__joined, k__joined, b__joined, .nil⟩
  have c__rows_of : C8.Cal l.prog w K mg base 2 "_rows_of" (spRowsC K) [] := ⟨_, _, _, [], ok__rows_of F__rows_of T c__packed, PySem.W.mg_of X G a__rows_of, k__rows_of, b__rows_of, .nil⟩
  have m_Clock : C8.Mak l.prog w K mg base 3 "Clock" C_Clock (spClkI C_Clock) [] := ⟨_, _, _, [], ⟨mk_Clock, a_Clock___init__, i_Clock___init__, kc_Clock⟩, ok_Clock___init__ F_Clock___init__ T cl_Clock na_Clock__rows c__rows_of, mg_Clock, b_Clock___init__, .nil⟩
  have c_Clock___contains__ : C8.Met l.prog w K mg base 1 C_Clock "__contains__" (spClkIn C_Clock) [] := ⟨_, _, _, [], cl_Clock, ⟨a_Clock___contains__, i_Clock___contains__, k_Clock___contains__⟩, ok_Clock___contains__ F_Clock___contains__ T cl_Clock na_Clock__rows nd_NO_DOTS, b_Clock___contains__, .nil⟩
  have c_Clock___or__ : C8.Met l.prog w K mg base 5 C_Clock "__or__" (spClkOr C_Clock) [] := ⟨_, _, _, [], cl_Clock, ⟨a_Clock___or__, i_Clock___or__, k_Clock___or__⟩, ok_Clock___or__ F_Clock___or__ T cl_Clock na_Clock__rows nd_NO_DOTS c__joined m_Clock, b_Clock___or__, .nil⟩
  have c_Clock_value : C8.Met l.prog w K mg base 1 C_Clock "value" (spClkVal C_Clock) [] := ⟨_, _, _, [], cl_Clock, ⟨a_Clock_value, i_Clock_value, k_Clock_value⟩, ok_Clock_value F_Clock_value T cl_Clock na_Clock__rows, b_Clock_value, .nil⟩
  have m_Keep : MakX l.prog w K mg base 2 "Keep" C_Keep ((spKeepI K CC C_Keep C_Clock C_BadValue)) := ⟨_, _, _, ⟨mk_Keep, a_Keep___init__, i_Keep___init__, kc_Keep⟩, ok_Keep___init__ F_Keep___init__ T cl_Keep na_Keep__entries na_Keep__pairs na_Keep__clock e_BadValue c_Clock___contains__, mg_Keep, b_Keep___init__⟩
  have c_Keep___len__ : C8.Met l.prog w K mg base 1 C_Keep "__len__" (spKeepLen K CC C_Keep C_Clock) [] := ⟨_, _, _, [], cl_Keep, ⟨a_Keep___len__, i_Keep___len__, k_Keep___len__⟩, ok_Keep___len__ F_Keep___len__ T cl_Keep na_Keep__pairs, b_Keep___len__, .nil⟩
  have c_Keep___iter__ : MetN l.prog w K mg base 1 C_Keep "__iter__" (spIterT K C_Keep "_pairs") := ⟨_, _, _, cl_Keep, ⟨a_Keep___iter__, i_Keep___iter__, k_Keep___iter__⟩, ok_Keep___iter__ F_Keep___iter__ T cl_Keep na_Keep__pairs, b_Keep___iter__⟩
  have p_Keep_clock : Pro l.prog w K mg base 1 C_Keep "clock" ((spKeepClk K CC C_Keep C_Clock)) := ⟨_, _, _, _, cl_Keep, ⟨pa_Keep_clock, pb_Keep_clock, pc_Keep_clock, ⟨_, pd_Keep_clock⟩⟩, ok_Keep_clock F_Keep_clock T cl_Keep na_Keep__clock, b_Keep_clock⟩
  have c_Keep_entry : C8.Met l.prog w K mg base 1 C_Keep "entry" (spKeepEnt K CC C_Keep C_Clock) [] := ⟨_, _, _, [], cl_Keep, ⟨a_Keep_entry, i_Keep_entry, k_Keep_entry⟩, ok_Keep_entry F_Keep_entry T cl_Keep na_Keep__entries, b_Keep_entry, .nil⟩
  have c_Keep_value : C8.Met l.prog w K mg base 2 C_Keep "value" (spKeepVal K CC C_Keep C_Clock) [] := ⟨_, _, _, [], cl_Keep, ⟨a_Keep_value, i_Keep_value, k_Keep_value⟩, ok_Keep_value F_Keep_value T cl_Keep na_Keep__pairs na_Keep__clock c_Clock_value, b_Keep_value, .nil⟩
  have c__law_number : C8.Cal l.prog w K mg base 2 "_law_number" spNumR [] := ⟨_, _, _, [], ok__law_number F__law_number T c__law_draw, PySem.W.mg_of X G a__law_number, k__law_number, b__law_number, .nil⟩
  have c__law_dot : C8.Cal l.prog w K mg base 2 "_law_dot" spDotR [] := ⟨_, _, _, [], ok__law_dot F__law_dot T c__law_draw, PySem.W.mg_of X G a__law_dot, k__law_dot, b__law_dot, .nil⟩
  have c__law_item : C8.Cal l.prog w K mg base 2 "_law_item" (sp_thing K CC LeafD) [] := ⟨_, _, _, [], ok__law_item F__law_item T c__law_draw c__law_char, PySem.W.mg_of X G a__law_item, k__law_item, b__law_item, .nil⟩
  have c__law_entry : C8.Cal l.prog w K mg base 3 "_law_entry" (sp_thing K CC EntD) [] := ⟨_, _, _, [], ok__law_entry F__law_entry T c__law_draw c__law_item, PySem.W.mg_of X G a__law_entry, k__law_entry, b__law_entry, .nil⟩
  have c__law_things : C8.Cal l.prog w K mg base 4 "_law_things" (spThings K CC) [] := ⟨_, _, _, [], ok__law_things F__law_things T c__law_open c__law_draw c__law_number c__law_dot c__law_entry, PySem.W.mg_of X G a__law_things, k__law_things, b__law_things, .nil⟩
  have r__law_same : Rec K mg "_law_same" f__law_same _ ["actual", "due"] := ⟨PySem.W.mg_of X G a__law_same, k__law_same, b__law_same⟩
  have c__law_same : C8.Cal l.prog w K mg base 7 "_law_same" (spSame K CC 6) [] := ⟨_, _, _, [], ok__law_same F__law_same T hC r__law_same, PySem.W.mg_of X G a__law_same, k__law_same, b__law_same, .nil⟩
  have c__law_clock_value : C8.Cal l.prog w K mg base 1 "_law_clock_value" spCval [] := ⟨_, _, _, [], ok__law_clock_value F__law_clock_value T, PySem.W.mg_of X G a__law_clock_value, k__law_clock_value, b__law_clock_value, .nil⟩
  have c__law_refused : C8.Cal l.prog w K mg base 5 "_law_refused" (spRefK K CC C_Clock) [] := ⟨_, _, _, [], ok__law_refused F__law_refused T e_RingError e_BadValue e_Busy e_HouseDown e_Unknown x_BadValue ex_BadValue_BadValue ko_BadValue_RingError_true ko_BadValue_Busy_false ko_BadValue_HouseDown_false ko_BadValue_Unknown_false kb_BadValue_ValueError_true m_Keep, PySem.W.mg_of X G a__law_refused, k__law_refused, b__law_refused, .nil⟩
  have c__law_same_list : C8.Cal l.prog w K mg base 8 "_law_same_list" (spSameL K CC 6) [] := ⟨_, _, _, [], ok__law_same_list F__law_same_list T c__law_same, PySem.W.mg_of X G a__law_same_list, k__law_same_list, b__law_same_list, .nil⟩
  have c__law_holds : C8.Cal l.prog w K mg base 9 "_law_holds" (spHold8 K CC C_Keep C_Clock) [] := ⟨_, _, _, [], ok__law_holds F__law_holds T cl_Keep c__law_clock_value c__law_same_list c__law_same c_Clock_value c_Keep___len__ c_Keep___iter__ p_Keep_clock c_Keep_entry c_Keep_value, PySem.W.mg_of X G a__law_holds, k__law_holds, b__law_holds, .nil⟩
  exact ok_law F_law T c__law_things c__law_open c__law_draw c__law_entry m_Clock m_Keep c__law_refused c__law_holds
theorem walk {l : PySem.W.OpenLaw} {q : Program} {loose : List Str} {XP : (Str → Option Value) → Heap → Prop} {YP : World → Heap → Prop} {d : DefRec} {K : Params → PySem.W.Frag} (hn : l.most = some 63) (hdf : d.params.defaults = [])
    (hY : ∀ (w : World) (h : Heap), YP w h → (K w.params).In h)
    (F : ∀ (w : World) (mg : Str → Option Value) (fa : Addr) (h : Heap), (K w.params).In h → h.Ns mainGlobals mg → mg d.name = some (.ref fa) →
      ∃ fd : FuncData, (∀ (s : Shared) (u : Value), BindsTo s fd ⟨[u], []⟩ [("script", u)]) ∧ ∀ base : Heap, (K w.params).In base → base.Ns mainGlobals mg → FnOk l.prog w (K w.params) mg base CX0 10 fa fd ["script"] (spLaw (K w.params))) :
    PySem.W.WalkO q loose XP YP l.row.toRowW d [] (fun f vs => PySem.call f vs) :=
  L2.walk_of (n := 63) (k := 10) (x := "script") (CX := fun _ => CX0) (sp := fun w => spLaw (K w.params)) hn (by decide) hdf ⟨rfl, by decide, by decide⟩ hY F (fun _ _ a ns hl _ hS => ⟨a, ns, rfl, hS, hl, fun _ => rfl⟩) fun _ _ _ _ _ z => z
end RH
open PySem PySem.W PyProof.Rows
set_option maxRecDepth 100000 in
set_option maxHeartbeats 0 in
theorem PySem.Challenge.cw_ringheld_k08_kept_forms_of_pairs_holds : PySem.Challenge.rw_ringheld_k08_kept_forms_of_pairs.Holds := by
  w_on; o_law; k_head; (case hw => w_witness2)
  k_fill
  refine RH.walk (l := PySem.Challenge.rw_ringheld_k08_kept_forms_of_pairs) rfl rfl (fun w h Y => PySem.W.kIn_of Y) ?F
  case F =>
    intro w mg fa h KX G hmg
    refine' RH.all_mk KX G hmg ?a_Clock ?pg_Clock ?hd_Clock ?po_Clock ?sa_Clock ?mk_Clock ?kc_Clock ?ha_Clock ?hn_Clock ?ht_Clock ?hm_Clock ?kint_Clock ?kbool_Clock ?kstr_Clock ?ktuple_Clock ?klist_Clock ?n_Clock__rows ?a_Keep ?pg_Keep ?hd_Keep ?po_Keep ?sa_Keep ?mk_Keep ?kc_Keep ?ha_Keep ?hn_Keep ?ht_Keep ?hm_Keep ?kint_Keep ?kbool_Keep ?kstr_Keep ?ktuple_Keep ?klist_Keep ?n_Keep__clock ?n_Keep__entries ?n_Keep__pairs ?a_BadValue ?kF_BadValue ?bF_BadValue ?tF_BadValue ?iF_BadValue ?xF_BadValue ?hgE_BadValue ?hkE_BadValue ?hdE_BadValue ?haE_BadValue ?hnE_BadValue ?htE_BadValue ?hmE_BadValue ?sE_BadValue ?a_Busy ?kF_Busy ?bF_Busy ?tF_Busy ?iF_Busy ?xF_Busy ?a_HouseDown ?kF_HouseDown ?bF_HouseDown ?tF_HouseDown ?iF_HouseDown ?xF_HouseDown ?a_RingError ?kF_RingError ?bF_RingError ?tF_RingError ?iF_RingError ?xF_RingError ?a_Unknown ?kF_Unknown ?bF_Unknown ?tF_Unknown ?iF_Unknown ?xF_Unknown ?sub_BadValue_BadValue ?tE_BadValue_ValueError ?mE_BadValue_Busy ?mE_BadValue_HouseDown ?mE_BadValue_RingError ?mE_BadValue_Unknown ?na_Clock__rows ?na_Keep__clock ?na_Keep__entries ?na_Keep__pairs ?a__law_draw ?l__law_draw ?c__law_draw ?k__law_draw ?a__law_open ?l__law_open ?c__law_open ?k__law_open ?a__law_char ?l__law_char ?c__law_char ?k__law_char ?a__packed ?l__packed ?c__packed ?k__packed ?a__joined ?l__joined ?c__joined ?k__joined ?a__rows_of ?l__rows_of ?c__rows_of ?k__rows_of ?a_Clock___init__ ?i_Clock___init__ ?l_Clock___init__ ?c_Clock___init__ ?k_Clock___init__ ?a_Clock___contains__ ?i_Clock___contains__ ?l_Clock___contains__ ?c_Clock___contains__ ?k_Clock___contains__ ?a_Clock___or__ ?i_Clock___or__ ?l_Clock___or__ ?c_Clock___or__ ?k_Clock___or__ ?a_Clock_value ?i_Clock_value ?l_Clock_value ?c_Clock_value ?k_Clock_value ?a_Keep___init__ ?i_Keep___init__ ?l_Keep___init__ ?c_Keep___init__ ?k_Keep___init__ ?a_Keep___len__ ?i_Keep___len__ ?l_Keep___len__ ?c_Keep___len__ ?k_Keep___len__ ?a_Keep___iter__ ?i_Keep___iter__ ?l_Keep___iter__ ?c_Keep___iter__ ?k_Keep___iter__ ?pa_Keep_clock ?pb_Keep_clock ?pc_Keep_clock ?pd_Keep_clock ?l_Keep_clock ?c_Keep_clock ?k_Keep_clock ?a_Keep_entry ?i_Keep_entry ?l_Keep_entry ?c_Keep_entry ?k_Keep_entry ?a_Keep_value ?i_Keep_value ?l_Keep_value ?c_Keep_value ?k_Keep_value ?a__law_number ?l__law_number ?c__law_number ?k__law_number ?a__law_dot ?l__law_dot ?c__law_dot ?k__law_dot ?a__law_item ?l__law_item ?c__law_item ?k__law_item ?a__law_entry ?l__law_entry ?c__law_entry ?k__law_entry ?a__law_things ?l__law_things ?c__law_things ?k__law_things ?a__law_same ?l__law_same ?c__law_same ?k__law_same ?a__law_clock_value ?l__law_clock_value ?c__law_clock_value ?k__law_clock_value ?a__law_refused ?l__law_refused ?c__law_refused ?k__law_refused ?a__law_same_list ?l__law_same_list ?c__law_same_list ?k__law_same_list ?a__law_holds ?l__law_holds ?c__law_holds ?k__law_holds ?a_law ?l_law ?c_law ?k_law ?a_NO_DOTS ?lp_NO_DOTS ?lq_NO_DOTS ?z_ValueError ?z_abs ?z_all ?z_bool ?z_dict ?z_int ?z_isinstance ?z_iter ?z_len ?z_list ?z_max ?z_min ?z_property ?z_range ?z_set ?z_sorted ?z_str ?z_tuple ?z_zip
    (case a_Clock => k_is)
    (case pg_Clock => k_is)
    (case hd_Clock => k_is)
    (case po_Clock => k_is)
    (case sa_Clock => k_is)
    (case mk_Clock => k_is)
    (case kc_Clock => k_is)
    (case ha_Clock => k_is)
    (case hn_Clock => k_is)
    (case ht_Clock => k_is)
    (case hm_Clock => k_is)
    (case kint_Clock => k_is)
    (case kbool_Clock => k_is)
    (case kstr_Clock => k_is)
    (case ktuple_Clock => k_is)
    (case klist_Clock => k_is)
    (case n_Clock__rows => k_is)
    (case a_Keep => k_is)
    (case pg_Keep => k_is)
    (case hd_Keep => k_is)
    (case po_Keep => k_is)
    (case sa_Keep => k_is)
    (case mk_Keep => k_is)
    (case kc_Keep => k_is)
    (case ha_Keep => k_is)
    (case hn_Keep => k_is)
    (case ht_Keep => k_is)
    (case hm_Keep => k_is)
    (case kint_Keep => k_is)
    (case kbool_Keep => k_is)
    (case kstr_Keep => k_is)
    (case ktuple_Keep => k_is)
    (case klist_Keep => k_is)
    (case n_Keep__clock => k_is)
    (case n_Keep__entries => k_is)
    (case n_Keep__pairs => k_is)
    (case a_BadValue => k_is)
    (case kF_BadValue => k_is)
    (case bF_BadValue => k_is)
    (case tF_BadValue => k_is)
    (case iF_BadValue => k_is)
    (case xF_BadValue => k_exc)
    (case hgE_BadValue => k_is)
    (case hkE_BadValue => k_is)
    (case hdE_BadValue => k_is)
    (case haE_BadValue => k_is)
    (case hnE_BadValue => k_is)
    (case htE_BadValue => k_is)
    (case hmE_BadValue => k_is)
    (case sE_BadValue => first | rfl | k_is)
    (case a_Busy => k_is)
    (case kF_Busy => k_is)
    (case bF_Busy => k_is)
    (case tF_Busy => k_is)
    (case iF_Busy => k_is)
    (case xF_Busy => k_exc)
    (case a_HouseDown => k_is)
    (case kF_HouseDown => k_is)
    (case bF_HouseDown => k_is)
    (case tF_HouseDown => k_is)
    (case iF_HouseDown => k_is)
    (case xF_HouseDown => k_exc)
    (case a_RingError => k_is)
    (case kF_RingError => k_is)
    (case bF_RingError => k_is)
    (case tF_RingError => k_is)
    (case iF_RingError => k_is)
    (case xF_RingError => k_exc)
    (case a_Unknown => k_is)
    (case kF_Unknown => k_is)
    (case bF_Unknown => k_is)
    (case tF_Unknown => k_is)
    (case iF_Unknown => k_is)
    (case xF_Unknown => k_exc)
    (case sub_BadValue_BadValue => first | rfl | k_is)
    (case tE_BadValue_ValueError => k_is)
    (case mE_BadValue_Busy => first | rfl | k_is)
    (case mE_BadValue_HouseDown => first | rfl | k_is)
    (case mE_BadValue_RingError => first | rfl | k_is)
    (case mE_BadValue_Unknown => first | rfl | k_is)
    (case na_Clock__rows => k_is)
    (case na_Keep__clock => k_is)
    (case na_Keep__entries => k_is)
    (case na_Keep__pairs => k_is)
    (case a__law_draw => k_is)
    (case l__law_draw => k_is)
    (case c__law_draw => k_is)
    (case k__law_draw => k_is)
    (case a__law_open => k_is)
    (case l__law_open => k_is)
    (case c__law_open => k_is)
    (case k__law_open => k_is)
    (case a__law_char => k_is)
    (case l__law_char => k_is)
    (case c__law_char => k_is)
    (case k__law_char => k_is)
    (case a__packed => k_is)
    (case l__packed => k_is)
    (case c__packed => k_is)
    (case k__packed => k_is)
    (case a__joined => k_is)
    (case l__joined => k_is)
    (case c__joined => k_is)
    (case k__joined => k_is)
    (case a__rows_of => k_is)
    (case l__rows_of => k_is)
    (case c__rows_of => k_is)
    (case k__rows_of => k_is)
    (case a_Clock___init__ => k_is)
    (case i_Clock___init__ => k_is)
    (case l_Clock___init__ => k_is)
    (case c_Clock___init__ => k_is)
    (case k_Clock___init__ => k_is)
    (case a_Clock___contains__ => k_is)
    (case i_Clock___contains__ => k_is)
    (case l_Clock___contains__ => k_is)
    (case c_Clock___contains__ => k_is)
    (case k_Clock___contains__ => k_is)
    (case a_Clock___or__ => k_is)
    (case i_Clock___or__ => k_is)
    (case l_Clock___or__ => k_is)
    (case c_Clock___or__ => k_is)
    (case k_Clock___or__ => k_is)
    (case a_Clock_value => k_is)
    (case i_Clock_value => k_is)
    (case l_Clock_value => k_is)
    (case c_Clock_value => k_is)
    (case k_Clock_value => k_is)
    (case a_Keep___init__ => k_is)
    (case i_Keep___init__ => k_is)
    (case l_Keep___init__ => k_is)
    (case c_Keep___init__ => k_is)
    (case k_Keep___init__ => k_is)
    (case a_Keep___len__ => k_is)
    (case i_Keep___len__ => k_is)
    (case l_Keep___len__ => k_is)
    (case c_Keep___len__ => k_is)
    (case k_Keep___len__ => k_is)
    (case a_Keep___iter__ => k_is)
    (case i_Keep___iter__ => k_is)
    (case l_Keep___iter__ => k_is)
    (case c_Keep___iter__ => k_is)
    (case k_Keep___iter__ => k_is)
    (case pa_Keep_clock => k_is)
    (case pb_Keep_clock => k_is)
    (case pc_Keep_clock => k_is)
    (case pd_Keep_clock => k_is)
    (case l_Keep_clock => k_is)
    (case c_Keep_clock => k_is)
    (case k_Keep_clock => k_is)
    (case a_Keep_entry => k_is)
    (case i_Keep_entry => k_is)
    (case l_Keep_entry => k_is)
    (case c_Keep_entry => k_is)
    (case k_Keep_entry => k_is)
    (case a_Keep_value => k_is)
    (case i_Keep_value => k_is)
    (case l_Keep_value => k_is)
    (case c_Keep_value => k_is)
    (case k_Keep_value => k_is)
    (case a__law_number => k_is)
    (case l__law_number => k_is)
    (case c__law_number => k_is)
    (case k__law_number => k_is)
    (case a__law_dot => k_is)
    (case l__law_dot => k_is)
    (case c__law_dot => k_is)
    (case k__law_dot => k_is)
    (case a__law_item => k_is)
    (case l__law_item => k_is)
    (case c__law_item => k_is)
    (case k__law_item => k_is)
    (case a__law_entry => k_is)
    (case l__law_entry => k_is)
    (case c__law_entry => k_is)
    (case k__law_entry => k_is)
    (case a__law_things => k_is)
    (case l__law_things => k_is)
    (case c__law_things => k_is)
    (case k__law_things => k_is)
    (case a__law_same => k_is)
    (case l__law_same => k_is)
    (case c__law_same => k_is)
    (case k__law_same => k_is)
    (case a__law_clock_value => k_is)
    (case l__law_clock_value => k_is)
    (case c__law_clock_value => k_is)
    (case k__law_clock_value => k_is)
    (case a__law_refused => k_is)
    (case l__law_refused => k_is)
    (case c__law_refused => k_is)
    (case k__law_refused => k_is)
    (case a__law_same_list => k_is)
    (case l__law_same_list => k_is)
    (case c__law_same_list => k_is)
    (case k__law_same_list => k_is)
    (case a__law_holds => k_is)
    (case l__law_holds => k_is)
    (case c__law_holds => k_is)
    (case k__law_holds => k_is)
    (case a_law => k_is)
    (case l_law => k_is)
    (case c_law => k_is)
    (case k_law => k_is)
    (case a_NO_DOTS => k_is)
    (case lp_NO_DOTS => k_is)
    (case lq_NO_DOTS => k_is)
    (case z_ValueError => k_is)
    (case z_abs => k_is)
    (case z_all => k_is)
    (case z_bool => k_is)
    (case z_dict => k_is)
    (case z_int => k_is)
    (case z_isinstance => k_is)
    (case z_iter => k_is)
    (case z_len => k_is)
    (case z_list => k_is)
    (case z_max => k_is)
    (case z_min => k_is)
    (case z_property => k_is)
    (case z_range => k_is)
    (case z_set => k_is)
    (case z_sorted => k_is)
    (case z_str => k_is)
    (case z_tuple => k_is)
    (case z_zip => k_is)
