import PyProof.Rows.All
import Wide.All
import OpenK.AllK
import Wide.FinOn
import HandS.ForMost
import HandS.More
import HandS.Wide
import HandS.IsInst
import HandS.Codes
import HandS.Text
import HandS.Walk
import HandS.Ends
import HandS.Deep
import PyProof.ReprRoads
import PyProof.Rows.NestShow
import HandS.Set
import HandS.SetFor
import HandS.Strs
import HandS.SortInts
import PyProof.Rows.SetFrom
import HandS.TupAny
import HandS.DictComp
import HandS.SortRule
import PySem.Challenge.RW_ringheld_k01_integers_and_texts
set_option Elab.async false
set_option linter.all false
set_option maxRecDepth 100000
set_option maxHeartbeats 4000000
namespace RH
open PySem L2
/-! ### heaps -/
/-- the heap without the row at r -/
def wo (H : Hp) (r : Addr) : Hp := fun b => if b = r then none else H b
theorem wo_ne {H : Hp} {r b : Addr} (h : b ≠ r) : wo H r b = H b := by unfold wo; rw [if_neg h]
theorem wo_at {H : Hp} {r : Addr} : wo H r r = none := by unfold wo; rw [if_pos rfl]
theorem wo_some {H : Hp} {r b : Addr} {o : HO} (h : wo H r b = some o) : H b = some o ∧ b ≠ r := by
  by_cases e : b = r
  · rw [e, wo_at] at h; cases h
  · rw [wo_ne e] at h; exact ⟨h, e⟩
theorem same_wo (H : Hp) (r : Addr) : Same (wo H r) H := fun _ _ h => (wo_some h).1
theorem same_new {H : Hp} {p : Addr} {o : HO} (h : H p = none) : Same H (upd H p o) := fun b x e => by
  rw [upd_ne (ne_of_none e h)]
  exact e
/-- a step that leaves all but the row -/
def Fr (r : Addr) (H H' : Hp) : Prop := ∀ b o, b ≠ r → H b = some o → H' b = some o
theorem Fr.refl (r : Addr) (H : Hp) : Fr r H H := fun _ _ _ h => h
theorem Fr.trans {r : Addr} {H H1 H2 : Hp} (a : Fr r H H1) (b : Fr r H1 H2) : Fr r H H2 := fun c o n h => b c o n (a c o n h)
theorem Fr.wo {r : Addr} {H H' : Hp} (a : Fr r H H') : Same (wo H r) (wo H' r) := fun b o h => by
  obtain ⟨e, n⟩ := wo_some h
  rw [wo_ne n]
  exact a b o n e
theorem Fr.of {r : Addr} {H H' : Hp} (a : Same H H') : Fr r H H' := fun b o _ h => a b o h
theorem Fr.row {r : Addr} {H : Hp} {o : HO} : Fr r H (upd H r o) := fun b x n h => by rw [upd_ne n]; exact h
theorem Fr.new {r p : Addr} {H : Hp} {o : HO} (h : H p = none) : Fr r H (upd H p o) := Fr.of (same_new h)
/-- an object that the first heap does not know may change -/
theorem Fr.mut {r p : Addr} {H H' : Hp} {o : HO} (a : Fr r H H') (h : H p = none) : Fr r H (upd H' p o) := fun b x n e => by
  rw [upd_ne (ne_of_none e h)]
  exact a b x n e
/-- the row of a draw: a list of three ints -/
def Row (H : Hp) (r : Addr) : Prop := ∃ a b c : Int, H r = some (.lst [.int a, .int b, .int c])
theorem Row.keep {H H' : Hp} {r : Addr} (h : Row H r) (s : Same H H') : Row H' r := by
  obtain ⟨a, b, c, e⟩ := h
  exact ⟨a, b, c, s _ _ e⟩
theorem same_t {K : PySem.W.Frag} {H H' : Hp} {a : Addr} {xs : List V} (e : Same H H') (h : SqT K H a xs) : SqT K H' a xs := by
  rcases h with (h | ⟨o, h⟩) | h
  · exact .inl (.inl (e _ _ h))
  · exact .inl (.inr ⟨o, e _ _ h⟩)
  · exact .inr h
/-! ### rules of this program's own -/
section
variable {X : Cx}
def rIsTyG : R2 := fun x y H Q => ∃ b, y = .ty b ∧ ((∃ a, x = .ty a ∧ Q (.bl (decide (a = b))) H) ∨ ∃ C, x = .ref C ∧ Q (.bl false) H)
theorem op_isTyG : OpR X (compareOp .Is) rIsTyG := by
  intro pins s σ H x y v u Q I rx ry h
  obtain ⟨b, rfl, h⟩ := h
  rcases h with ⟨a, rfl, q⟩ | ⟨C, rfl, q⟩
  · exact op_isTyB pins s σ H _ _ v u Q I rx ry ⟨a, b, rfl, rfl, q⟩
  · cases (show v = Value.ref C from rx)
    cases (show u = Value.type b from ry)
    exact PySem.wpAny_is_plain rfl (fin_bl I q rfl)
def rTypG (K : PySem.W.Frag) : List V → Hp → VK → Prop := fun xs H Q => rTyp K xs H Q ∨ ∃ a C dx fs, xs = [V.ref a] ∧ H a = some (.ins C dx fs) ∧ Q (.ref C) H
theorem call_typeG : CallR X (.type "type") (rTypG X.K) := CallR.or call_type1 cr_type
/-! the library's rules under names of their own -/
def rLenG (K : PySem.W.Frag) : List V → Hp → VK → Prop := fun xs H Q => ∃ x n, xs = [x] ∧ LenV K x H n ∧ Q (.int n) H
theorem call_lenG : CallR X (.builtin "len") (rLenG X.K) := call_len
def rInt1 : List V → Hp → VK → Prop := fun xs H Q => (∃ i, xs = [.int i] ∧ Q (.int i) H) ∨ ∃ k, xs = [.bl k] ∧ Q (.int (if k then 1 else 0)) H
theorem call_int1G : CallR X (.type "int") rInt1 := call_int1
def rOrd : List V → Hp → VK → Prop := fun xs H Q => ∃ x, xs = [.str x] ∧ x.length = 1 ∧ Q (.int (x.cps.getD 0 0 : Nat)) H
theorem call_ordG : CallR X (.builtin "ord") rOrd := call_ord
def rAbs : List V → Hp → VK → Prop := fun xs H Q => ∃ i, xs = [.int i] ∧ Q (.int (if i < 0 then -i else i)) H
theorem call_absG : CallR X (.builtin "abs") rAbs := call_abs
def rMin2 : List V → Hp → VK → Prop := fun xs H Q => ∃ i j, xs = [.int i, .int j] ∧ Q (.int (if j < i then j else i)) H
theorem call_min2G (hc : X.calm = true) : CallR X (.builtin "min") rMin2 := call_min2 hc
def rMax2 : List V → Hp → VK → Prop := fun xs H Q => ∃ i j, xs = [.int i, .int j] ∧ Q (.int (if j > i then j else i)) H
theorem call_max2G (hc : X.calm = true) : CallR X (.builtin "max") rMax2 := call_max2 hc
def rListOf (K : PySem.W.Frag) : List V → Hp → VK → Prop := fun xs H Q => ∃ p ys, xs = [.ref p] ∧ (SqL K H p ys ∨ SqT K H p ys) ∧ ∀ l, H l = none → Q (.ref l) (upd H l (.lst ys))
theorem call_listG : CallR X (.type "list") (rListOf X.K) := call_list_of
def rTupOf (K : PySem.W.Frag) : List V → Hp → VK → Prop := fun xs H Q => ∃ p ys, xs = [.ref p] ∧ ((SqL K H p ys ∧ ∀ l, H l = none → Q (.ref l) (upd H l (.tup ys))) ∨ (SqT K H p ys ∧ Q (.ref p) H))
theorem call_tupleG : CallR X (.type "tuple") (rTupOf X.K) := call_tuple_of
def rAddStr : R2 := fun x y H Q => ∃ i j, x = .str i ∧ y = .str j ∧ i.length + j.length ≤ sizeLine ∧ Q (.str (i ++ j)) H
theorem op_addStrG : OpR X (binaryOp .Add) rAddStr := op_add_str
def rLeStr : R2 := fun x y H Q => ∃ i j, x = .str i ∧ y = .str j ∧ Q (.bl (!decide (j.cps.toList < i.cps.toList))) H
theorem op_leStrG : OpR X (compareOp .LtE) rLeStr := op_le_str
def rInSign : R2 := fun x y H Q => ∃ (c : Nat) (z : Str), x = .str ⟨#[c]⟩ ∧ y = .str z ∧ Q (.bl (decide (c ∈ z.cps.toList))) H
theorem op_inSignG : OpR X (compareOp .In) rInSign := op_in_sign
def rNotInSign : R2 := fun x y H Q => ∃ (c : Nat) (z : Str), x = .str ⟨#[c]⟩ ∧ y = .str z ∧ Q (.bl (!decide (c ∈ z.cps.toList))) H
theorem op_notInSignG : OpR X (compareOp .NotIn) rNotInSign := op_notIn_sign
end
end RH
namespace RH
open PySem L2
/-! ### readings, one step each -/
section
variable {K : PySem.W.Frag} {σ : St} {H : Hp} {Q : VK} {ta tb tc te : TE} {t u : TS} {tt tu : TT} {r : R2} {D : Ends} {g : TG} {x y v : V} {i j : Int} {n : Nat} {p a : Addr} {xs ys : List V} {b : Bool}
theorem r_seq {nx bk ct : St → Hp → Prop} {rt : VK} (h : t ⟨u ⟨nx, rt, bk, ct⟩, rt, bk, ct⟩ σ H) : tSeq t u ⟨nx, rt, bk, ct⟩ σ H := h
theorem r_next {nx bk ct : St → Hp → Prop} {rt : VK} (h : nx σ H) : tNext ⟨nx, rt, bk, ct⟩ σ H := h
theorem r_asg {nx bk ct : St → Hp → Prop} {rt : VK} (h : te σ H fun x H1 => g x σ H1 nx) : tAsg te g ⟨nx, rt, bk, ct⟩ σ H := h
theorem r_drop {nx bk ct : St → Hp → Prop} {rt : VK} (h : te σ H fun _ H1 => nx σ H1) : tDrop te ⟨nx, rt, bk, ct⟩ σ H := h
theorem r_ret {nx bk ct : St → Hp → Prop} {rt : VK} (h : te σ H rt) : tRet te ⟨nx, rt, bk, ct⟩ σ H := h
theorem r_ifS {nx bk ct : St → Hp → Prop} {rt : VK} (h : tt σ H fun b H1 => if b = true then t ⟨nx, rt, bk, ct⟩ σ H1 else u ⟨nx, rt, bk, ct⟩ σ H1) : tIfS tt t u ⟨nx, rt, bk, ct⟩ σ H := h
theorem r_name {Q : St → Hp → Prop} (h : Q (σ.set n (some v)) H) : gName n v σ H Q := h
theorem r_op (h : ta σ H fun x H1 => tb σ H1 fun y H2 => r x y H2 Q) : tOp r ta tb σ H Q := h
theorem r_un {r : V → Hp → VK → Prop} (h : ta σ H fun x H1 => r x H1 Q) : tUn r ta σ H Q := h
theorem r_var (h : σ[n]? = some (some v)) (q : Q v H) : tVar n σ H Q := ⟨v, h, q⟩
theorem r_c (q : Q v H) : tC v σ H Q := q
theorem r_I0 {g : Int → Int → V} (q : Q (g i j) H) : rI0 g (.int i) (.int j) H Q := ⟨i, j, rfl, rfl, q⟩
theorem r_I {C : Int → Int → Prop} {g : Int → Int → V} (c : C i j) (q : Q (g i j) H) : rI C g (.int i) (.int j) H Q := ⟨i, j, rfl, rfl, c, q⟩
theorem r_U {g : Int → V} (q : Q (g i) H) : rU g (.int i) H Q := ⟨i, rfl, q⟩
theorem r_eq (h : scal x y = true) (q : Q (.bl (decide (x = y))) H) : rEq x y H Q := ⟨h, q⟩
theorem r_ne (h : scal x y = true) (q : Q (.bl (!decide (x = y))) H) : rNe x y H Q := ⟨h, q⟩
theorem r_test {Q : Bool → Hp → Prop} (h : te σ H fun x H' => ∃ k, x = .bl k ∧ Q k H') : tTest te σ H Q := h
theorem r_B {Q : Bool → Hp → Prop} (h : te σ H fun x H' => ∃ k, x = .bl k ∧ Q k H') : tB te σ H Q := h
theorem r_k {Q : Bool → Prop} (h : Q b) : ∃ k, V.bl b = .bl k ∧ Q k := ⟨b, rfl, h⟩
theorem r_and {Q : Bool → Hp → Prop} (h : tt σ H fun c H1 => if c = true then tu σ H1 Q else Q false H1) : tAnd tt tu σ H Q := h
theorem r_or {Q : Bool → Hp → Prop} (h : tt σ H fun c H1 => if c = true then Q true H1 else tu σ H1 Q) : tOr tt tu σ H Q := h
theorem r_not {Q : Bool → Hp → Prop} (h : tt σ H fun c H1 => Q (!c) H1) : tNot tt σ H Q := h
theorem r_andV (h : ta σ H fun x H1 => ∃ c, x = .bl c ∧ if c = true then tb σ H1 Q else Q (.bl false) H1) : tAndV ta tb σ H Q := h
theorem r_orV (h : ta σ H fun x H1 => ∃ c, x = .bl c ∧ if c = true then Q (.bl true) H1 else tb σ H1 Q) : tOrV ta tb σ H Q := h
theorem r_notV (h : ta σ H fun x H1 => ∃ c, x = .bl c ∧ Q (.bl (!c)) H1) : tNotV ta σ H Q := h
theorem r_if (h : tt σ H fun c H1 => if c = true then ta σ H1 Q else tb σ H1 Q) : tIf tt ta tb σ H Q := h
theorem r_cb {r : List V → Hp → VK → Prop} {t : TA} (h : t σ H fun vs H1 => r vs H1 Q) : tCB r t σ H Q := h
theorem r_nil {Q : List V → Hp → Prop} (h : Q [] H) : tNil σ H Q := h
theorem r_cons {Q : List V → Hp → Prop} {t : TA} (h : ta σ H fun x H1 => t σ H1 fun xs H2 => Q (x :: xs) H2) : tCons ta t σ H Q := h
theorem r_tup {t : TA} (h : t σ H fun xs H1 => xs.length ≤ sizeLine ∧ ∀ p, H1 p = none → Q (.ref p) (upd H1 p (.tup xs))) : tTup t σ H Q := h
theorem r_lst {t : TA} (h : t σ H fun xs H1 => xs.length ≤ sizeLine ∧ ∀ p, H1 p = none → Q (.ref p) (upd H1 p (.lst xs))) : tLst t σ H Q := h
theorem r_call {sp : Sp} {dvs : List V} {E : XK} {t : TA} (h : t σ H fun vs H1 => sp (vs ++ dvs) H1 Q E) : tCall sp dvs E t σ H Q := h
theorem r_ixL (h : H p = some (.lst xs)) (e : atI xs i = some v) (q : Q v H) : rIxL K (.ref p) (.int i) H Q := ⟨p, xs, i, v, rfl, rfl, SqL.of h, e, q⟩
theorem r_ixT (h : H p = some (.tup xs)) (e : atI xs i = some v) (q : Q v H) : rIxT K (.ref p) (.int i) H Q := ⟨p, xs, i, v, rfl, rfl, SqT.of h, e, q⟩
theorem r_ixgL (h : H p = some (.lst xs)) (e : atI xs i = some v) (q : Q v H) : rIx K (.ref p) (.int i) H Q := .inl ⟨p, xs, i, v, rfl, rfl, SqL.of h, e, q⟩
theorem r_ixgT (h : H p = some (.tup xs)) (e : atI xs i = some v) (q : Q v H) : rIx K (.ref p) (.int i) H Q := .inr (.inl ⟨p, xs, i, v, rfl, rfl, SqT.of h, e, q⟩)
theorem r_sub {to ti : TE} {t : TSet} {Q : St → Hp → Prop} (h : to σ H fun o H1 => ti σ H1 fun i H2 => t o i v H2 fun H3 => Q σ H3) : gSub to ti t v σ H Q := h
theorem r_setL {Q : Hp → Prop} {m : Nat} (h : H p = some (.lst xs)) (e : ixN xs.length i = some m) (q : Q (upd H p (.lst (xs.set m v)))) : rSetL (.ref p) (.int i) v H Q := ⟨p, xs, i, m, rfl, rfl, h, e, q⟩
theorem r_int1 (q : Q (.int i) H) : rInt1 [.int i] H Q := .inl ⟨i, rfl, q⟩
theorem r_ord {c : Nat} (q : Q (.int (c : Int)) H) : rOrd [.str ⟨#[c]⟩] H Q := ⟨_, rfl, rfl, q⟩
theorem r_abs (q : Q (.int (if i < 0 then -i else i)) H) : rAbs [.int i] H Q := ⟨i, rfl, q⟩
theorem r_min2 (q : Q (.int (if j < i then j else i)) H) : rMin2 [.int i, .int j] H Q := ⟨i, j, rfl, q⟩
theorem r_max2 (q : Q (.int (if j > i then j else i)) H) : rMax2 [.int i, .int j] H Q := ⟨i, j, rfl, q⟩
theorem r_addStr {x y : Str} (h : x.length + y.length ≤ sizeLine) (q : Q (.str (x ++ y)) H) : rAddStr (.str x) (.str y) H Q := ⟨x, y, rfl, rfl, h, q⟩
theorem r_leStr {x y : Str} (q : Q (.bl (!decide (y.cps.toList < x.cps.toList))) H) : rLeStr (.str x) (.str y) H Q := ⟨x, y, rfl, rfl, q⟩
theorem r_inSign {c : Nat} {z : Str} (q : Q (.bl (decide (c ∈ z.cps.toList))) H) : rInSign (.str ⟨#[c]⟩) (.str z) H Q := ⟨c, z, rfl, rfl, q⟩
theorem r_notInSign {c : Nat} {z : Str} (q : Q (.bl (!decide (c ∈ z.cps.toList))) H) : rNotInSign (.str ⟨#[c]⟩) (.str z) H Q := ⟨c, z, rfl, rfl, q⟩
theorem r_lenL (h : H p = some (.lst xs)) (q : Q (.int xs.length) H) : rLenG K [.ref p] H Q := ⟨_, _, rfl, .inl ⟨xs, SqL.of h, rfl⟩, q⟩
theorem r_lenT (h : H p = some (.tup xs)) (q : Q (.int xs.length) H) : rLenG K [.ref p] H Q := ⟨_, _, rfl, .inr ⟨xs, SqT.of h, rfl⟩, q⟩
theorem r_lenS {z : Str} (h : z.length ≤ sizeLine) (q : Q (.int z.length) H) : rLenG K [.str z] H Q := ⟨_, _, rfl, ⟨h, rfl⟩, q⟩
theorem r_listL (h : H p = some (.lst xs)) (q : ∀ l, H l = none → Q (.ref l) (upd H l (.lst xs))) : rListOf K [.ref p] H Q := ⟨p, xs, rfl, .inl (SqL.of h), q⟩
theorem r_listT (h : H p = some (.tup xs)) (q : ∀ l, H l = none → Q (.ref l) (upd H l (.lst xs))) : rListOf K [.ref p] H Q := ⟨p, xs, rfl, .inr (SqT.of h), q⟩
theorem r_tupL (h : H p = some (.lst xs)) (q : ∀ l, H l = none → Q (.ref l) (upd H l (.tup xs))) : rTupOf K [.ref p] H Q := ⟨p, xs, rfl, .inl ⟨SqL.of h, q⟩⟩
theorem r_chain {r' : R2} (h : ta σ H fun x H1 => tb σ H1 fun y H2 => r x y H2 fun z H3 => ∃ k, z = .bl k ∧ (if k = true then tc σ H3 fun w' H4 => r' y w' H4 Q else Q (.bl false) H3)) : tChain r r' ta tb tc σ H Q := h
theorem cdiv (h : 0 < j) (h2 : j < 1073741824) : CDiv i j := ⟨h, h2⟩
theorem cmul_r (h : -(2 ^ 64) < j) (h2 : j < 2 ^ 64) : CMul i j := .inr ⟨h, h2⟩
theorem cmul_l (h : -(2 ^ 64) < i) (h2 : i < 2 ^ 64) : CMul i j := .inl ⟨h, h2⟩
theorem cpow (h : 0 ≤ j) (h1 : j ≤ 1000000) (h2 : i.natAbs < 2 ^ 64) : CPow i j := ⟨h, h1, h2⟩
end
end RH
namespace RH
open PySem L2
/-! ### data as the laws draw it -/
inductive D where
  | non | bl (b : Bool) | int (i : Int) | str (s : Str) | tup (xs : List D) | lst (xs : List D)
  /-- an instance of an own class; an empty dict or such -/
  | oth | dct
def tyD : D → Option String
  | .non => some "NoneType" | .bl _ => some "bool" | .int _ => some "int" | .str _ => some "str" | .tup _ => some "tuple" | .lst _ => some "list" | .oth => none | .dct => some "dict"
/-- a sign that a law writes -/
def okc (c : Nat) : Bool := (decide (32 ≤ c) && decide (c ≤ 126) && decide (c ≠ 37)) || decide (c = 10) || decide (c = 9)
structure OkS (s : Str) : Prop where
  len : s.length ≤ 1000
  ok : ∀ c ∈ s.cps.toList, okc c = true
theorem kit_ref {K : PySem.W.Frag} {C : Addr} {T : String} {b : Bool} (h : PySem.W.mroIn K C (.type T) = some b) (hm : PySem.W.kitMeta T = true) : PySem.W.kitOne K (.ref C) (.type T) = some b := by
  unfold PySem.W.kitOne
  rw [if_neg (by intro z; cases (eq_of_beq z))]
  show (if PySem.W.kitMeta T = true then PySem.W.subIn K (.ref C) (.type T) else none) = some b
  rw [if_pos hm]
  exact h
/-- what isinstance asks of an own class -/
structure ClsI (K : PySem.W.Frag) (C : Addr) : Prop where
  cl : Cls K C
  ha : PySem.W.findIn K (.ref C) "__class__" = some (some (.builtin "object.__class__"))
  hn : PySem.W.specialIn K (.builtin "object.__class__") "__get__" = some (some (.builtin "getset_descriptor.__get__"))
  htk : PySem.W.takesIn K (.builtin "object.__class__") = some true
  hm : PySem.W.mroIn K C (.type "object") = some true
  kInt : PySem.W.kitOne K (.ref C) (.type "int") = some false
  kBool : PySem.W.kitOne K (.ref C) (.type "bool") = some false
  kStr : PySem.W.kitOne K (.ref C) (.type "str") = some false
  kTup : PySem.W.kitOne K (.ref C) (.type "tuple") = some false
  kLst : PySem.W.kitOne K (.ref C) (.type "list") = some false
/-- x stands for d -/
inductive Rep (K : PySem.W.Frag) (CC : Addr → Prop) (H : Hp) : V → D → Prop where
  | non : Rep K CC H .non .non
  | bl (b : Bool) : Rep K CC H (.bl b) (.bl b)
  | int (i : Int) : Rep K CC H (.int i) (.int i)
  | str (s : Str) (ok : OkS s) : Rep K CC H (.str s) (.str s)
  | tup {a : Addr} {xs : List V} {ds : List D} (h : H a = some (.tup xs)) (hl : xs.length = ds.length) (hs : xs.length ≤ 1000) (hi : ∀ (i : Nat) (x : V) (d : D), xs[i]? = some x → ds[i]? = some d → Rep K CC H x d) : Rep K CC H (.ref a) (.tup ds)
  | lst {a : Addr} {xs : List V} {ds : List D} (h : H a = some (.lst xs)) (hl : xs.length = ds.length) (hs : xs.length ≤ 1000) (hi : ∀ (i : Nat) (x : V) (d : D), xs[i]? = some x → ds[i]? = some d → Rep K CC H x d) : Rep K CC H (.ref a) (.lst ds)
  | oth {a C dx : Addr} {fs : List (Str × V)} (h : H a = some (.ins C dx fs)) (hc : CC C) : Rep K CC H (.ref a) .oth
  | dct {a : Addr} {kvs : List (Key × V)} (h : H a = some (.dK kvs)) : Rep K CC H (.ref a) .dct
section
variable {K : PySem.W.Frag} {CC : Addr → Prop} {H H' : Hp} {x : V} {d : D}
theorem Rep.mono (h : Rep K CC H x d) (s : Same H H') : Rep K CC H' x d := by
  induction h with
  | non => exact .non
  | bl b => exact .bl b
  | int i => exact .int i
  | str z ok => exact .str z ok
  | tup h hl hs hi ih => exact .tup (s _ _ h) hl hs ih
  | lst h hl hs hi ih => exact .lst (s _ _ h) hl hs ih
  | oth h hc => exact .oth (s _ _ h) hc
  | dct h => exact .dct (s _ _ h)
/-- the type of x as type(x) gives it -/
def TyV (d : D) (y : V) : Prop := match tyD d with
  | some T => y = .ty T
  | none => ∃ C, y = .ref C
theorem Rep.typ {Q : VK} (h : Rep K CC H x d) (q : ∀ y, TyV d y → Q y H) : rTypG K [x] H Q := by
  cases h with
  | non => exact .inl ⟨_, _, rfl, .non, q _ rfl⟩
  | bl b => exact .inl ⟨_, _, rfl, .bl b, q _ rfl⟩
  | int i => exact .inl ⟨_, _, rfl, .int i, q _ rfl⟩
  | str z ok => exact .inl ⟨_, _, rfl, .str z, q _ rfl⟩
  | tup h => exact .inl ⟨_, _, rfl, .tup (SqT.of h), q _ rfl⟩
  | lst h => exact .inl ⟨_, _, rfl, .lst (SqL.of h), q _ rfl⟩
  | oth h hc => exact .inr ⟨_, _, _, _, rfl, h, q _ ⟨_, rfl⟩⟩
  | dct h => exact .inl ⟨_, _, rfl, .dK h, q _ rfl⟩
def tyB (d : D) (T : String) : Bool := decide (tyD d = some T)
theorem r_isTy {Q : VK} {y : V} {T : String} (h : TyV d y) (q : Q (.bl (tyB d T)) H) : rIsTyG y (.ty T) H Q := by
  refine ⟨T, rfl, ?_⟩
  unfold TyV at h
  unfold tyB at q
  cases e : tyD d with
  | none =>
    rw [e] at h q
    obtain ⟨C, rfl⟩ := h
    exact .inr ⟨C, rfl, q⟩
  | some S =>
    rw [e] at h q
    subst h
    refine .inl ⟨S, rfl, ?_⟩
    by_cases z : S = T
    · subst z
      rw [decide_eq_true rfl] at q ⊢
      exact q
    · have z2 : ¬ (some S = some T) := fun w => z (Option.some.inj w)
      rw [decide_eq_false z2] at q
      rw [decide_eq_false z]
      exact q
/-- isinstance(x, T) -/
def isD (d : D) (T : String) : Bool := tyB d T || (decide (T = "int") && tyB d "bool")
theorem kit5 {T : String} (hT : T = "int" ∨ T = "bool" ∨ T = "str" ∨ T = "tuple" ∨ T = "list") {S : String} (hS : S = "int" ∨ S = "bool" ∨ S = "str" ∨ S = "tuple" ∨ S = "list" ∨ S = "NoneType" ∨ S = "dict") :
    kitB S T = some (decide (some S = some T) || (decide (T = "int") && decide (some S = some "bool"))) := by
  rcases hT with rfl | rfl | rfl | rfl | rfl <;> rcases hS with rfl | rfl | rfl | rfl | rfl | rfl | rfl <;> decide +kernel
theorem r_isi {Q : VK} {T : String} (hc : ∀ C, CC C → ClsI K C) (h : Rep K CC H x d) (hT : T = "int" ∨ T = "bool" ∨ T = "str" ∨ T = "tuple" ∨ T = "list") (q : Q (.bl (isD d T)) H) : rIsi K [x, .ty T] H Q := by
  have go : ∀ (S : String) (hS : S = "int" ∨ S = "bool" ∨ S = "str" ∨ S = "tuple" ∨ S = "list" ∨ S = "NoneType" ∨ S = "dict"), tyD d = some S → TyOf K H x (.type S) → rIsi K [x, .ty T] H Q := fun S hS e t => by
    refine ⟨x, .ty T, _, _, _, rfl, .ty T, .base t, kit_ty (kit5 hT hS), ?_⟩
    have e2 : isD d T = (decide (some S = some T) || (decide (T = "int") && decide (some S = some "bool"))) := by
      unfold isD tyB
      rw [e]
    rw [e2] at q
    exact q
  cases h with
  | non => exact go "NoneType" (by decide) rfl .non
  | bl b => exact go "bool" (by decide) rfl (.bl b)
  | int i => exact go "int" (by decide) rfl (.int i)
  | str z ok => exact go "str" (by decide) rfl (.str z)
  | tup h => exact go "tuple" (by decide) rfl (.tup h)
  | lst h => exact go "list" (by decide) rfl (.lst h)
  | dct h => exact go "dict" (by decide) rfl (.dK h)
  | oth h c =>
    have I := hc _ c
    refine ⟨_, .ty T, _, _, false, rfl, .ty T, .base (.ins h I.cl I.ha I.hn I.htk I.hm), ?_, ?_⟩
    · rcases hT with rfl | rfl | rfl | rfl | rfl
      · exact I.kInt
      · exact I.kBool
      · exact I.kStr
      · exact I.kTup
      · exact I.kLst
    · have e2 : isD .oth T = false := by
        rcases hT with rfl | rfl | rfl | rfl | rfl <;> decide
      rw [e2] at q
      exact q
end
/-- len(x) of a text, a tuple, a list -/
def lenD : D → Option Nat
  | .str s => some s.length | .tup xs => some xs.length | .lst xs => some xs.length | _ => none
section
variable {K : PySem.W.Frag} {CC : Addr → Prop} {H H' : Hp} {x : V} {d : D}
theorem sz1000 {n : Nat} (h : n ≤ 1000) : n ≤ sizeLine := Nat.le_of_lt (small1000 h)
theorem r_len {Q : VK} {n : Nat} (h : Rep K CC H x d) (e : lenD d = some n) (q : Q (.int n) H) : rLenG K [x] H Q := by
  cases h with
  | non => cases e
  | bl b => cases e
  | int i => cases e
  | oth h c => cases e
  | dct h => cases e
  | str z ok =>
    cases e
    exact ⟨_, _, rfl, ⟨sz1000 ok.len, rfl⟩, q⟩
  | tup h hl =>
    cases e
    exact ⟨_, _, rfl, .inr ⟨_, SqT.of h, hl.symm⟩, q⟩
  | lst h hl =>
    cases e
    exact ⟨_, _, rfl, .inl ⟨_, SqL.of h, hl.symm⟩, q⟩
end
end RH
namespace RH
open PySem L2
/-! ### what is new between two heaps -/
def fresh (H H' : Hp) : Hp := fun b => if H b = none then H' b else none
theorem fresh_some {H H' : Hp} {b : Addr} {o : HO} (h : fresh H H' b = some o) : H b = none ∧ H' b = some o := by
  unfold fresh at h
  by_cases e : H b = none
  · rw [if_pos e] at h; exact ⟨e, h⟩
  · rw [if_neg e] at h; cases h
theorem fresh_of {H H' : Hp} {b : Addr} {o : HO} (e : H b = none) (h : H' b = some o) : fresh H H' b = some o := by
  unfold fresh
  rw [if_pos e]
  exact h
theorem fresh_same (H H' : Hp) : Same (fresh H H') H' := fun _ _ h => (fresh_some h).2
/-- what is tracked stays tracked -/
def Dom (H H' : Hp) : Prop := ∀ b, H' b = none → H b = none
theorem Dom.refl (H : Hp) : Dom H H := fun _ h => h
theorem Dom.trans {H H1 H2 : Hp} (a : Dom H H1) (b : Dom H1 H2) : Dom H H2 := fun c h => a c (b c h)
theorem Dom.same {H H' : Hp} (s : Same H H') : Dom H H' := fun _ h => s.free h
theorem Dom.upd {H H' : Hp} {p : Addr} {o : HO} (a : Dom H H') : Dom H (upd H' p o) := fun b h => by
  by_cases e : b = p
  · rw [e, upd_same] at h; cases h
  · rw [upd_ne e] at h; exact a b h
theorem Fr.dom {r : Addr} {H H' : Hp} (a : Fr r H H') (h : Row H' r) : Dom H H' := fun b e => by
  cases q : H b with
  | none => rfl
  | some o =>
    by_cases n : b = r
    · obtain ⟨x, y, z, w⟩ := h
      rw [n, w] at e; cases e
    · rw [a b o n q] at e; cases e
theorem fresh_step {H0 H1 H2 H3 : Hp} (d : Dom H0 H1) (s : ∀ b o, H0 b = none → H2 b = some o → H3 b = some o) : Same (fresh H1 H2) (fresh H0 H3) := fun b o h => by
  obtain ⟨e, q⟩ := fresh_some h
  have e0 := d b e
  exact fresh_of e0 (s b o e0 q)
theorem fresh_fr {r : Addr} {H0 H1 H2 H3 : Hp} (d : Dom H0 H1) (h : H0 r ≠ none) (s : Fr r H2 H3) : Same (fresh H1 H2) (fresh H0 H3) :=
  fresh_step d fun b o e q => s b o (fun z => h (z ▸ e)) q
theorem Row.ne {H : Hp} {r : Addr} (h : Row H r) : H r ≠ none := by
  obtain ⟨a, b, c, e⟩ := h
  rw [e]
  exact fun z => nomatch z
theorem Row.upd {H : Hp} {r p : Addr} {o : HO} (h : Row H r) (n : H p = none) : Row (upd H p o) r := h.keep (same_new n)
/-- what a comprehension asks, from its walk on -/
def LcGo (J : It) (g : TG) (tt : TT) (te : TE) (vs : List Nat) (σ : St) (D : Addr) (Qd : Hp → Prop) (H1 : Hp) : Prop :=
  ∃ W : Nat → Nat → Hp → Prop, (∃ m, W 0 m (upd H1 D (.lst []))) ∧ ∀ i m H, W i m H →
    (J.stop i H ∧ Qd H) ∨ (J.go i H ∧ ∃ Nx : Hp → Prop, (∀ H', Nx H' → ∃ m', m' < m ∧ W (i + 1) m' H') ∧ ∀ x H', J.yld i H x H' → g x (wipe σ vs) H' fun σ2 H2 => wipe σ2 vs = wipe σ vs ∧ tt σ2 H2 fun b H3 =>
      if b = true then te σ2 H3 fun y H4 => ∃ acc, H4 D = some (.lst acc) ∧ acc.length < sizeLine ∧ Nx (upd H4 D (.lst (acc ++ [y]))) else Nx H3)
theorem r_lc {wi : TI} {g : TG} {tt : TT} {te : TE} {vs : List Nat} {σ : St} {H : Hp} {Q : VK} (h : wi σ H fun J H1 => ∀ D, H1 D = none → LcGo J g tt te vs σ D (Q (.ref D)) H1) : tLc wi g tt te vs σ H Q := h
/-! ### comprehensions over one name, no test -/
section
variable {J : It} {n : Nat} {G : Hp → Prop} {Y : Nat → Hp → V → Hp → Prop} {Y' : Nat → V → Prop} {te : TE} {vs : List Nat} {σ : St} {k : Nat} {H1 : Hp} {D : Addr} {Qd : Hp → Prop}
/-- the items are reckoned, nothing that stood is changed -/
theorem lc_pure (w : Walk J n G Y) (hY : ∀ i H x H', Y i H x H' → H' = H ∧ Y' i x) (ys : List V) (hn : ys.length = n) (hs : n ≤ 1000) (hD : H1 D = none) (hG : ∀ H, Same H1 H → G H)
    (hw : ∀ x, wipe ((wipe σ vs).set k (some x)) vs = wipe σ vs)
    (step : ∀ i x y H, Y' i x → ys[i]? = some y → Same H1 H → ∀ Q : VK, (∀ H', Same H H' → Q y H') → te ((wipe σ vs).set k (some x)) H Q)
    (hd : ∀ H, Same H1 H → H D = some (.lst ys) → Qd H) :
    LcGo J (gName k) tYes te vs σ D Qd H1 := by
  refine lc_it w (g := gName k) (tt := tYes) (te := te) (fun i H => Same H1 H ∧ H D = some (.lst (ys.take i))) ⟨same_new hD, ?_⟩ (fun i H _ p => hG H p.1) ?_ ?_
  · rw [upd_same]; simp
  · intro i x H H' hi p y
    obtain ⟨rfl, y'⟩ := hY i H x H' y
    refine ⟨hw x, ?_⟩
    unfold tYes
    dsimp only
    rw [if_pos rfl]
    have hi' : i < ys.length := by omega
    have hy : ys[i]? = some ys[i] := List.getElem?_eq_getElem hi'
    refine step i x ys[i] H' y' hy p.1 _ fun H4 s => ?_
    refine ⟨_, s _ _ p.2, ?_, ?_, ?_⟩
    · rw [List.length_take]
      exact Nat.lt_of_le_of_lt (Nat.min_le_left _ _) (small1000 (by omega))
    · intro b o e
      rw [upd_ne (ne_of_none e hD)]
      exact s _ _ (p.1 _ _ e)
    · rw [upd_same, List.take_add_one, hy]
      rfl
  · intro H p
    refine hd H p.1 ?_
    rw [p.2, ← hn, List.take_length]
/-- the items are drawn off the row at r -/
theorem lc_row {r : Addr} (w : Walk J n G Y) (hY : ∀ i H x H', Y i H x H' → H' = H ∧ Y' i x) (P : Hp → V → Prop) (hP : ∀ H H' y, Same H H' → P H y → P H' y) (hs : n ≤ 1000) (hD : H1 D = none) (hr : Row H1 r) (hG : ∀ H, Fr r H1 H → G H)
    (hw : ∀ x, wipe ((wipe σ vs).set k (some x)) vs = wipe σ vs)
    (step : ∀ i x H, Y' i x → Fr r H1 H → Row H r → ∀ Q : VK, (∀ y H', Fr r H H' → Row H' r → P (fresh H H') y → Q y H') → te ((wipe σ vs).set k (some x)) H Q)
    (hd : ∀ H ys, ys.length = n → Fr r H1 H → Row H r → H D = some (.lst ys) → (∀ y, y ∈ ys → P (fresh (upd H1 D (.lst [])) H) y) → Qd H) :
    LcGo J (gName k) tYes te vs σ D Qd H1 := by
  have rD : D ≠ r := fun z => hr.ne (z ▸ hD)
  have h0r : (upd H1 D (.lst [])) r ≠ none := by
    rw [upd_ne rD.symm]
    exact hr.ne
  refine lc_it w (g := gName k) (tt := tYes) (te := te) (fun i H => Fr r H1 H ∧ Row H r ∧ Dom (upd H1 D (.lst [])) H ∧ ∃ ys : List V, ys.length = i ∧ H D = some (.lst ys) ∧ ∀ y, y ∈ ys → P (fresh (upd H1 D (.lst [])) H) y) ⟨Fr.new hD, hr.upd hD, Dom.refl _, [], rfl, upd_same, fun y hy => nomatch hy⟩ (fun i H _ p => hG H p.1) ?_ ?_
  · rintro i x H H' hi ⟨f, hrow, dm, ys, hl, hL, hP2⟩ y
    obtain ⟨rfl, y'⟩ := hY i H x H' y
    refine ⟨hw x, ?_⟩
    unfold tYes
    dsimp only
    rw [if_pos rfl]
    refine step i x H' y' f hrow _ fun y H4 f4 row4 py => ?_
    · have hL4 : H4 D = some (.lst ys) := f4 _ _ rD hL
      have d4 : Dom H' H4 := f4.dom row4
      refine ⟨_, hL4, Nat.lt_of_le_of_lt (by omega) (small1000 hs), (f.trans f4).mut hD, ?_, (dm.trans d4).upd, ys ++ [y], by simp [hl], upd_same, ?_⟩
      · obtain ⟨a, b, c, e⟩ := row4
        exact ⟨a, b, c, by rw [upd_ne rD.symm]; exact e⟩
      · have st : ∀ b o, (upd H1 D (.lst [])) b = none → H4 b = some o → (upd H4 D (.lst (ys ++ [y]))) b = some o := fun b o e q => by
          have nb : b ≠ D := fun z => by rw [z, upd_same] at e; cases e
          rw [upd_ne nb]
          exact q
        intro z hz
        rcases List.mem_append.mp hz with hz | hz
        · refine hP _ _ z ?_ (hP2 z hz)
          exact fresh_step (Dom.refl _) fun b o e q => st b o e (f4 b o (fun w => h0r (w ▸ e)) q)
        · have e : z = y := by simpa using hz
          subst e
          exact hP _ _ z (fresh_step dm st) py
  · rintro H ⟨f, hrow, dm, ys, hl, hL, hP2⟩
    exact hd H ys hl f hrow hL hP2
end
end RH
namespace RH
open PySem L2
/-- a loop that leaves by a return at the first item that is not ok -/
theorem for_all {J : It} {n : Nat} {G : Hp → Prop} {Y : Nat → Hp → V → Hp → Prop} {Y' : Nat → V → Prop} {tb : TS} {nx : St → Hp → Prop} {rt : VK} {σ : St} {k : Nat} {H : Hp} (w : Walk J n G Y) (hY : ∀ i H x H', Y i H x H' → H' = H ∧ Y' i x) (ok : Nat → Prop) (hG : ∀ H1, Same H H1 → G H1)
    (step : ∀ i x H1, i < n → Y' i x → Same H H1 → ∀ N : St → Hp → Prop, (ok i → ∀ H2, Same H1 H2 → N (σ.set k (some x)) H2) → tb ⟨N, rt, nx, N⟩ (σ.set k (some x)) H1)
    (hd : (∀ i, i < n → ok i) → ∀ σ' H1, Same H H1 → nx σ' H1) :
    ∃ W : Nat → Nat → St → Hp → Prop, (∃ m, W 0 m σ H) ∧ ∀ i m σ H, W i m σ H →
      (J.stop i H ∧ nx σ H) ∨ (J.go i H ∧ ∃ N : St → Hp → Prop, (∀ σ' H', N σ' H' → ∃ m', m' < m ∧ W (i + 1) m' σ' H') ∧ ∀ x H', J.yld i H x H' → gName k x σ H' fun σ2 H2 => tb ⟨N, rt, nx, N⟩ σ2 H2) := by
  refine for_it (D := ⟨nx, rt, fun _ _ => False, fun _ _ => False⟩) w (g := gName k) (fun i σ' H' => (∀ x, σ'.set k (some x) = σ.set k (some x)) ∧ Same H H' ∧ ∀ m, m < i → ok m) ⟨fun _ => rfl, Same.refl H, fun m hm => absurd hm (Nat.not_lt_zero m)⟩ (fun i σ' H' _ p => hG H' p.2.1) ?_ ?_
  · rintro i x σ' H1 H2 hi ⟨e, s, a⟩ y
    obtain ⟨rfl, y'⟩ := hY i H1 x H2 y
    show tb _ (σ'.set k (some x)) H2
    rw [e x]
    refine step i x H2 hi y' s _ fun o H3 s3 => ⟨fun z => by rw [List.set_set], s.trans s3, fun m hm => ?_⟩
    rcases Nat.lt_succ_iff_lt_or_eq.mp hm with h | h
    · exact a m h
    · rw [h]; exact o
  · rintro σ' H' ⟨_, s, a⟩
    exact hd a σ' H' s
end RH
namespace RH
open PySem L2
/-- with a test: of the items those whose test is true, nothing that stood is changed -/
theorem lc_filter {J : It} {n : Nat} {G : Hp → Prop} {Y : Nat → Hp → V → Hp → Prop} {Y' : Nat → V → Prop} {tt : TT} {te : TE} {vs : List Nat} {σ : St} {k : Nat} {H1 : Hp} {D : Addr} {Qd : Hp → Prop}
    (w : Walk J n G Y) (hY : ∀ i H x H', Y i H x H' → H' = H ∧ Y' i x) (ys : List (Bool × V)) (hn : ys.length = n) (hs : n ≤ 1000) (hD : H1 D = none) (hG : ∀ H, Same H1 H → G H)
    (hw : ∀ x, wipe ((wipe σ vs).set k (some x)) vs = wipe σ vs)
    (test : ∀ i x b y H, Y' i x → ys[i]? = some (b, y) → Same H1 H → ∀ Q : Bool → Hp → Prop, (∀ H', Same H H' → Q b H') → tt ((wipe σ vs).set k (some x)) H Q)
    (step : ∀ i x y H, Y' i x → ys[i]? = some (true, y) → Same H1 H → ∀ Q : VK, (∀ H', Same H H' → Q y H') → te ((wipe σ vs).set k (some x)) H Q)
    (hd : ∀ H, Same H1 H → H D = some (.lst ((ys.filter (·.1)).map (·.2))) → Qd H) : LcGo J (gName k) tt te vs σ D Qd H1 := by
  refine lc_it w (g := gName k) (tt := tt) (te := te) (fun i H => Same H1 H ∧ H D = some (.lst (((ys.take i).filter (·.1)).map (·.2)))) ⟨same_new hD, ?_⟩ (fun i H _ p => hG H p.1) ?_ ?_
  · rw [upd_same]; simp
  · intro i x H H' hi p y
    obtain ⟨rfl, y'⟩ := hY i H x H' y
    refine ⟨hw x, ?_⟩
    have hi' : i < ys.length := by omega
    obtain ⟨b, z, hbz⟩ : ∃ b z, ys[i] = (b, z) := ⟨_, _, rfl⟩
    have hy : ys[i]? = some (b, z) := by rw [List.getElem?_eq_getElem hi', hbz]
    refine test i x b z H' y' hy p.1 _ fun H4 s => ?_
    cases b with
    | true =>
      rw [if_pos rfl]
      refine step i x z H4 y' hy (p.1.trans s) _ fun H5 s5 => ?_
      refine ⟨_, s5 _ _ (s _ _ p.2), ?_, ?_, ?_⟩
      · rw [List.length_map]
        exact Nat.lt_of_le_of_lt (Nat.le_trans (List.length_filter_le ..) (by rw [List.length_take]; exact Nat.min_le_left _ _)) (small1000 (by omega))
      · intro c o e
        rw [upd_ne (ne_of_none e hD)]
        exact s5 _ _ (s _ _ (p.1 _ _ e))
      · rw [upd_same, List.take_add_one, hy]
        simp
    | false =>
      rw [if_neg Bool.false_ne_true]
      refine ⟨p.1.trans s, ?_⟩
      rw [s _ _ p.2, List.take_add_one, hy]
      simp
  · intro H p
    refine hd H p.1 ?_
    rw [p.2, ← hn, List.take_length]
end RH
namespace RH
open PySem L2
/-! ### the tests of values, over data -/
def limI (i : Int) : Bool := decide (-1000000000000 ≤ i) && decide (i ≤ 1000000000000)
def isInt : D → Bool | .int i => limI i | _ => false
def isNum : D → Bool | .int i => limI i && decide (0 ≤ i) | _ => false
def sgn (c : Nat) : Bool := decide (32 ≤ c) && decide (c ≤ 126) && decide (c ≠ 37)
def low (c : Nat) : Bool := decide (97 ≤ c) && decide (c ≤ 122)
def isText : D → Bool | .str s => decide (s.length ≤ 60) && s.cps.toList.all sgn | _ => false
def isKey : D → Bool | .str s => isText (.str s) && (decide (1 ≤ s.length) && decide (s.length ≤ 20)) | _ => false
def isName : D → Bool | .str s => (decide (1 ≤ s.length) && decide (s.length ≤ 12)) && s.cps.toList.all low | _ => false
def isPath : D → Bool | .tup xs => decide (xs.length ≤ 4) && xs.all isName | _ => false
def nz : D → Bool | .int i => !decide (i = 0) | _ => false
def isDot : D → Bool | .tup [a, b] => isNum a && (isNum b && nz b) | _ => false
def isItem (d : D) : Bool := isInt d || isText d
/-- the promise of a test -/
def spB (K : PySem.W.Frag) (CC : Addr → Prop) (f : D → Bool) : Sp := fun vs H Q _ => ∃ x d, vs = [x] ∧ Rep K CC H x d ∧ ∀ H', Same H H' → Q (.bl (f d)) H'
theorem tyB_of {d : D} {T : String} (h : tyB d T = true) : tyD d = some T := of_decide_eq_true h
theorem tyB_int {d : D} (h : tyB d "int" = true) : ∃ i, d = .int i := by
  have e := tyB_of h
  cases d <;> simp [tyD] at e ⊢
theorem tyB_str {d : D} (h : tyB d "str" = true) : ∃ i, d = .str i := by
  have e := tyB_of h
  cases d <;> simp [tyD] at e ⊢
theorem tyB_tup {d : D} (h : tyB d "tuple" = true) : ∃ i, d = .tup i := by
  have e := tyB_of h
  cases d <;> simp [tyD] at e ⊢
theorem nint {d : D} (h : ¬ tyB d "int" = true) : isInt d = false := by
  cases d <;> first | rfl | exact absurd (decide_eq_true rfl) h
theorem nstrT {d : D} (h : ¬ tyB d "str" = true) : isText d = false := by
  cases d <;> first | rfl | exact absurd (decide_eq_true rfl) h
theorem nstrN {d : D} (h : ¬ tyB d "str" = true) : isName d = false := by
  cases d <;> first | rfl | exact absurd (decide_eq_true rfl) h
theorem ntupP {d : D} (h : ¬ tyB d "tuple" = true) : isPath d = false := by
  cases d <;> first | rfl | exact absurd (decide_eq_true rfl) h
theorem ntupD {d : D} (h : ¬ tyB d "tuple" = true) : isDot d = false := by
  cases d <;> first | rfl | exact absurd (decide_eq_true rfl) h
end RH
namespace RH
open PySem L2
theorem qbl {Q : VK} {H : Hp} {a b : Bool} (q : Q (.bl a) H) (e : a = b) : Q (.bl b) H := e ▸ q
/-! ### all([.. for x in ..]) -/
section
variable {K : PySem.W.Frag} {CC : Addr → Prop} {σ : St} {H : Hp} {Q : VK} {te : TE} {vs : List Nat} {j k : Nat}
theorem all_map (bs : List Bool) : (bs.map V.bl).length = bs.length := List.length_map ..
theorem r_allS {z : Str} {f : Nat → Bool} (hj : σ[j]? = some (some (.str z))) (hl : z.length ≤ 1000) (hw : ∀ x, wipe ((wipe σ vs).set k (some x)) vs = wipe σ vs)
    (step : ∀ c H1, Same H H1 → ∀ Q : VK, (∀ H', Same H1 H' → Q (.bl (f c)) H') → te ((wipe σ vs).set k (some (.str ⟨#[c]⟩))) H1 Q)
    (q : ∀ H', Same H H' → Q (.bl (z.cps.toList.all f)) H') : tCB (rAll K) (tCons (tLc (iStr (tVar j)) (gName k) tYes te vs) tNil) σ H Q := by
  refine ⟨_, hj, z, rfl, fun D hD => ?_⟩
  have hsz : z.cps.size = z.length := rfl
  refine lc_pure (n := z.cps.size) walk_str (Y' := fun i x => ∃ c, z.cps[i]? = some c ∧ x = .str ⟨#[c]⟩) (fun i H x H' y => y) ((z.cps.toList.map f).map V.bl) (by simp) (by omega) hD (fun _ _ => trivial) hw ?_ ?_
  · rintro i x y H1 ⟨c, hc, rfl⟩ hy s1 Q1 q1
    have e : y = V.bl (f c) := by
      rw [List.getElem?_map, List.getElem?_map] at hy
      have hc2 : z.cps.toList[i]? = some c := by rw [Array.getElem?_toList]; exact hc
      rw [hc2] at hy
      exact (Option.some.inj hy).symm
    subst e
    exact step c H1 s1 Q1 q1
  · intro H1 s1 hL
    refine ⟨D, z.cps.toList.map f, rfl, SqL.of hL, ?_⟩
    exact qbl (q H1 s1) (by simp [List.all_map, Function.comp_def])
theorem r_allT {a : Addr} {xs : List V} {ds : List D} {f : D → Bool} (hj : σ[j]? = some (some (.ref a))) (ha : H a = some (.tup xs)) (hl : xs.length = ds.length) (hs : xs.length ≤ 1000)
    (hi : ∀ (i : Nat) (x : V) (d : D), xs[i]? = some x → ds[i]? = some d → Rep K CC H x d) (hw : ∀ x, wipe ((wipe σ vs).set k (some x)) vs = wipe σ vs)
    (step : ∀ x d H1, d ∈ ds → Same H H1 → Rep K CC H1 x d → ∀ Q : VK, (∀ H', Same H1 H' → Q (.bl (f d)) H') → te ((wipe σ vs).set k (some x)) H1 Q)
    (q : ∀ H', Same H H' → Q (.bl (ds.all f)) H') : tCB (rAll K) (tCons (tLc (iTup K (tVar j)) (gName k) tYes te vs) tNil) σ H Q := by
  refine ⟨_, hj, a, rfl, ⟨xs, SqT.of ha⟩, fun D hD => ?_⟩
  refine lc_pure (n := xs.length) walk_tup (Y' := fun i x => xs[i]? = some x) (fun i H x H' y => y) ((ds.map f).map V.bl) (by simp [hl]) hs hD (fun H1 s1 => SqT.of (s1 _ _ ha)) hw ?_ ?_
  · intro i x y H1 hx hy s1 Q1 q1
    have hlt : i < ds.length := by
      rw [← hl]
      exact (List.getElem?_eq_some_iff.mp hx).1
    have hd : ds[i]? = some ds[i] := List.getElem?_eq_getElem hlt
    have e : y = V.bl (f ds[i]) := by
      rw [List.getElem?_map, List.getElem?_map, hd] at hy
      exact (Option.some.inj hy).symm
    subst e
    exact step x ds[i] H1 (List.getElem_mem hlt) s1 ((hi i x _ hx hd).mono s1) Q1 q1
  · intro H1 s1 hL
    refine ⟨D, ds.map f, rfl, SqL.of hL, ?_⟩
    exact qbl (q H1 s1) (by simp [List.all_map, Function.comp_def])
end
end RH
namespace RH
open PySem L2
def spSign : Sp := fun vs H Q _ => ∃ c : Nat, vs = [.str ⟨#[c]⟩] ∧ Q (.bl (sgn c)) H
theorem lt1 (a b : Nat) : ((⟨#[a]⟩ : Str).cps.toList < (⟨#[b]⟩ : Str).cps.toList) ↔ a < b := by
  show [a] < [b] ↔ a < b
  constructor
  · intro h
    cases h with
    | rel h => exact h
    | cons h => exact nomatch h
  · intro h
    exact .rel h
theorem cps_a : ("a" : Str).cps.toList = (⟨#[97]⟩ : Str).cps.toList := by decide +kernel
theorem cps_z : ("z" : Str).cps.toList = (⟨#[122]⟩ : Str).cps.toList := by decide +kernel
theorem low_fst {c : Nat} (h : ¬ (!decide ((⟨#[c]⟩ : Str).cps.toList < ("a" : Str).cps.toList)) = true) : low c = false := by
  rw [cps_a] at h
  have h1 : c < 97 := by
    by_cases z : c < 97
    · exact z
    · exfalso
      apply h
      rw [decide_eq_false (fun w => z ((lt1 c 97).mp w))]
      rfl
  unfold low
  rw [decide_eq_false (by omega : ¬ 97 ≤ c), Bool.false_and]
theorem low_both {c : Nat} (h : (!decide ((⟨#[c]⟩ : Str).cps.toList < ("a" : Str).cps.toList)) = true) : low c = !decide (("z" : Str).cps.toList < (⟨#[c]⟩ : Str).cps.toList) := by
  rw [cps_a] at h
  rw [cps_z]
  have h1 : ¬ c < 97 := fun z => by
    rw [decide_eq_true ((lt1 c 97).mpr z)] at h
    cases h
  unfold low
  rw [decide_eq_true (by omega : 97 ≤ c), Bool.true_and]
  by_cases h2 : c ≤ 122
  · have : ¬ ((⟨#[122]⟩ : Str).cps.toList < (⟨#[c]⟩ : Str).cps.toList) := fun z => by
      have := (lt1 122 c).mp z
      omega
    rw [decide_eq_true h2, decide_eq_false this]; rfl
  · have : ((⟨#[122]⟩ : Str).cps.toList < (⟨#[c]⟩ : Str).cps.toList) := (lt1 122 c).mpr (by omega)
    rw [decide_eq_false h2, decide_eq_true this]; rfl
end RH
namespace RH
open PySem L2
theorem isD_intF {d : D} (h : (!isD d "int") = true) : isInt d = false := by
  cases d <;> first | rfl | (exfalso; revert h; show ¬ _; intro h; cases h)
theorem isD_boolF {d : D} (h : isD d "bool" = true) : isInt d = false := by
  cases d <;> first | rfl | (exfalso; cases h)
theorem isD_intT {d : D} (h : ¬ (!isD d "int") = true) (h2 : ¬ isD d "bool" = true) : ∃ i, d = .int i := by
  cases d with
  | int i => exact ⟨i, rfl⟩
  | bl b => exact absurd rfl h2
  | _ => exact absurd rfl h
theorem isD_str {d : D} (h : isD d "str" = true) : ∃ z, d = .str z := by
  cases d with
  | str i => exact ⟨i, rfl⟩
  | _ => cases h
theorem isD_strT {d : D} (h : ¬ (!isD d "str") = true) : ∃ z, d = .str z := by
  cases d with
  | str i => exact ⟨i, rfl⟩
  | _ => exact absurd rfl h
theorem isD_strN {d : D} (h : (!isD d "str") = true) : isName d = false ∧ isText d = false := by
  cases d <;> first | exact ⟨rfl, rfl⟩ | (exfalso; cases h)
theorem isD_strN2 {d : D} (h : ¬ isD d "str" = true) : isName d = false ∧ isText d = false := by
  cases d <;> first | exact ⟨rfl, rfl⟩ | exact absurd rfl h
theorem isD_tupT {d : D} (h : ¬ (!isD d "tuple") = true) : ∃ z, d = .tup z := by
  cases d with
  | tup i => exact ⟨i, rfl⟩
  | _ => exact absurd rfl h
theorem isD_tupN {d : D} (h : (!isD d "tuple") = true) : isPath d = false ∧ isDot d = false := by
  cases d <;> first | exact ⟨rfl, rfl⟩ | (exfalso; cases h)
theorem dmem (a c : Nat) (l : List Nat) : decide (a ∈ c :: l) = (decide (c = a) || decide (a ∈ l)) := by
  by_cases h1 : c = a
  · subst h1
    rw [decide_eq_true (List.mem_cons_self ..), decide_eq_true rfl]; rfl
  · rw [decide_eq_false h1, Bool.false_or]
    exact decide_eq_decide.mpr ⟨fun z => (List.mem_cons.mp z).resolve_left fun w => h1 w.symm, List.mem_cons_of_mem _⟩
/-- a text without a newline and without a tab, of signs that a law writes, has signs of texts -/
theorem okc_sgn {c : Nat} (h : okc c = true) : sgn c = (decide (c ≠ 10) && decide (c ≠ 9)) := by
  unfold okc at h
  unfold sgn
  by_cases h1 : c = 10
  · subst h1; rfl
  · by_cases h2 : c = 9
    · subst h2; rfl
    · rw [decide_eq_false h1, decide_eq_false h2, Bool.or_false, Bool.or_false] at h
      rw [h, decide_eq_true h1, decide_eq_true h2]; rfl
theorem text_all {z : Str} (ok : OkS z) : z.cps.toList.all sgn = ((!decide (10 ∈ z.cps.toList)) && !decide (9 ∈ z.cps.toList)) := by
  have h := ok.ok
  revert h
  generalize z.cps.toList = l
  intro h
  induction l with
  | nil => rfl
  | cons c l ih =>
    have ih := ih fun x hx => h x (List.mem_cons_of_mem _ hx)
    rw [List.all_cons, okc_sgn (h c (List.mem_cons_self ..)), ih]
    rw [dmem, dmem, decide_not, decide_not]
    generalize decide (c = 10) = b1
    generalize decide (c = 9) = b2
    generalize decide (10 ∈ l) = b3
    generalize decide (9 ∈ l) = b4
    cases b1 <;> cases b2 <;> cases b3 <;> cases b4 <;> rfl
end RH
namespace RH
open PySem L2
/-! ### promises of what draws -/
def sp_draw : Sp := fun vs H Q _ => ∃ (r : Addr) (n : Int), vs = [.ref r, .int n] ∧ 0 < n ∧ n < 2 ^ 200 ∧ Row H r ∧ ∀ d H', 0 ≤ d → d < n → Fr r H H' → Row H' r → Q (.int d) H'
def sp_open (K : PySem.W.Frag) : Sp := fun vs H Q _ => ∃ (a : Addr) (ns : List Int) (i : Int), vs = [.ref a, .int i] ∧ SqL K H a (ns.map V.int) ∧ ns.length ≤ 63 ∧ ∀ r H', H r = none → Same H H' → Row H' r → Q (.ref r) H'
def sp_char : Sp := fun vs H Q _ => ∃ i : Int, vs = [.int i] ∧ ∀ c : Nat, okc c = true → Q (.str ⟨#[c]⟩) H
/-- an int is drawn -/
def sp_int : Sp := fun vs H Q _ => ∃ r : Addr, vs = [.ref r] ∧ Row H r ∧ ∀ i H', Fr r H H' → Row H' r → Q (.int i) H'
/-- a thing is drawn that is made anew -/
def sp_thing (K : PySem.W.Frag) (CC : Addr → Prop) (Ok : D → Prop) : Sp := fun vs H Q _ => ∃ r : Addr, vs = [.ref r] ∧ Row H r ∧ ∀ v d H', Ok d → Fr r H H' → Row H' r → Rep K CC (fresh H H') v d → Q v H'
section
variable {K : PySem.W.Frag} {H : Hp} {Q : VK} {p : Addr} {xs : List V} {i : Int} {v : V}
theorem r_draw {r : Addr} {n : Int} {E : XK} (row : Row H r) (h : 0 < n) (hb : n < 2 ^ 200) (q : ∀ d H', 0 ≤ d → d < n → Fr r H H' → Row H' r → Q (.int d) H') : sp_draw ([.ref r, .int n] ++ []) H Q E := ⟨r, n, rfl, h, hb, row, q⟩
theorem r_cut {t u : TS} {nx bk ct : St → Hp → Prop} {rt : VK} {σ : St} (M : St → Hp → Prop) (h : t ⟨M, rt, bk, ct⟩ σ H) (k : ∀ σ' H', M σ' H' → u ⟨nx, rt, bk, ct⟩ σ' H') : C8.tCut t u ⟨nx, rt, bk, ct⟩ σ H := ⟨M, h, k⟩
theorem r_lenQ (h : SqL K H p xs) (q : Q (.int xs.length) H) : rLenG K [.ref p] H Q := ⟨_, _, rfl, .inl ⟨xs, h, rfl⟩, q⟩
theorem r_ixQ (h : SqL K H p xs) (e : atI xs i = some v) (q : Q v H) : rIxL K (.ref p) (.int i) H Q := ⟨p, xs, i, v, rfl, rfl, h, e, q⟩
end
end RH
namespace RH
open PySem L2
def chA : Str := " !\"#$&'()*+,-./0123456789:;<=>?@ABCDEFGHIJKLMNOPQRSTUVWXYZ[\\]^_`"
def chB : Str := "abcdefghijklmnopqrstuvwxyz{|}~\n\t"
theorem ch_all : ((chA ++ chB).cps.toList.all okc) = true := by decide +kernel
theorem sz3 {x y z : V} : [x, y, z].length ≤ sizeLine := by show 3 ≤ sizeLine; decide
theorem ch_len : (chA ++ chB).cps.toList.length = 96 := by decide +kernel
theorem r_char {H : Hp} {Q : VK} (i : Int) (q : ∀ c : Nat, okc c = true → Q (.str ⟨#[c]⟩) H) : rIxS (.str (chA ++ chB)) (.int (i % 96)) H Q := by
  have h1 := Int.emod_nonneg i (show (96 : Int) ≠ 0 by decide)
  have h2 := Int.emod_lt_of_pos i (show (0 : Int) < 96 by decide)
  obtain ⟨m, hm⟩ : ∃ m : Nat, i % 96 = (m : Int) := ⟨(i % 96).toNat, by omega⟩
  rw [hm]
  have hlt : m < (chA ++ chB).cps.toList.length := by rw [ch_len]; omega
  have hl : (chA ++ chB).length = 96 := ch_len
  exact ⟨_, _, (chA ++ chB).cps.toList[m], rfl, rfl, by rw [hl]; decide, atI_nat (List.getElem?_eq_getElem hlt), q _ (List.all_eq_true.mp ch_all _ (List.getElem_mem hlt))⟩
end RH
namespace RH
open PySem L2
/-! ### texts of signs -/
def sg (c : Nat) : V := .str ⟨#[c]⟩
theorem joinL_signs : ∀ cs : List Nat, TL.joinL [] (cs.map fun c => [c]) = cs
  | [] => rfl
  | [c] => rfl
  | c :: d :: r => by
    show [c] ++ ([] ++ TL.joinL [] ((d :: r).map fun c => [c])) = c :: d :: r
    rw [joinL_signs (d :: r)]
    rfl
theorem join_signs (cs : List Nat) : Txt.join (SX.S []) ((cs.map fun c => [c]).map SX.S) = SX.S cs := by
  rw [SX.join_S, joinL_signs]
theorem S_cps (cs : List Nat) : (SX.S cs).cps.toList = cs := rfl
theorem S_len (cs : List Nat) : (SX.S cs).length = cs.length := SX.S_len cs
theorem okS_S {cs : List Nat} (h : ∀ c ∈ cs, okc c = true) (hl : cs.length ≤ 1000) : OkS (SX.S cs) := ⟨by rw [S_len]; exact hl, h⟩
def rJoin (K : PySem.W.Frag) : V → List V → Hp → VK → Prop := fun x xs H Q => ∃ a p, ∃ ys : List Str, x = .str a ∧ xs = [.ref p] ∧ (SqL K H p (ys.map V.str) ∨ SqT K H p (ys.map V.str)) ∧ (ys.map (·.length)).sum + ys.length * a.length ≤ 16777216 ∧ Q (.str (Txt.join a ys)) H
section
variable {X : Cx} {o e : Expr} {to te : TE}
theorem pe_joinG {apos pos : Pos} (ho : PE X o to) (he : PE X e te) (hs : starEach [e] X.env = [(false, eval e X.env)] := by rfl) (hbase : attributeBase o "join" X.env (eval o X.env) = eval o X.env := by rfl) (hline : (apos.endLine == pos.line) = true := by rfl) :
    PE X (.Call (.Attribute o "join" apos) [e] [] pos) (tM1 (rJoin X.K) to te) := pe_join ho he hs hbase hline
end
theorem sum_ones : ∀ cs : List Nat, ((cs.map fun c => (⟨#[c]⟩ : Str)).map (·.length)).sum = cs.length
  | [] => rfl
  | c :: r => by
    rw [List.map_cons, List.map_cons, List.sum_cons, sum_ones r, List.length_cons]
    show 1 + r.length = r.length + 1
    omega
theorem r_join {K : PySem.W.Frag} {σ : St} {H : Hp} {Q : VK} {j : Nat} {p : Addr} {cs : List Nat} (hj : σ[j]? = some (some (.ref p))) (h : H p = some (.lst (cs.map sg))) (hl : cs.length ≤ 1000) (q : Q (.str (SX.S cs)) H) :
    tM1 (rJoin K) (tC (.str ("" : Str))) (tVar j) σ H Q := by
  refine ⟨⟨_, rfl⟩, _, hj, "", p, cs.map fun c => (⟨#[c]⟩ : Str), rfl, rfl, .inl (SqL.of ?_), ?_, ?_⟩
  · rw [h]
    congr 2
    rw [List.map_map]
    rfl
  · rw [sum_ones, List.length_map]
    show cs.length + cs.length * 0 ≤ 16777216
    omega
  · have e : (cs.map fun c => (⟨#[c]⟩ : Str)) = (cs.map fun c => [c]).map SX.S := by
      rw [List.map_map]
      rfl
    rw [e]
    have e2 : ("" : Str) = SX.S [] := by decide +kernel
    rw [e2, join_signs]
    exact q
theorem signs_of : ∀ {ys : List V}, (∀ y, y ∈ ys → ∃ c : Nat, okc c = true ∧ y = sg c) → ∃ cs : List Nat, ys = cs.map sg ∧ ∀ c, c ∈ cs → okc c = true
  | [], _ => ⟨[], rfl, fun _ h => nomatch h⟩
  | y :: r, h => by
    obtain ⟨c, hc, e⟩ := h y (List.mem_cons_self ..)
    obtain ⟨cs, e2, h2⟩ := signs_of fun z hz => h z (List.mem_cons_of_mem _ hz)
    refine ⟨c :: cs, by rw [e, e2]; rfl, fun x hx => ?_⟩
    rcases List.mem_cons.mp hx with rfl | hx
    · exact hc
    · exact h2 x hx
theorem atI_in {xs : List V} {d : Int} (h0 : 0 ≤ d) (h1 : d < xs.length) : ∃ v, v ∈ xs ∧ atI xs d = some v := by
  obtain ⟨m, rfl⟩ : ∃ m : Nat, d = (m : Int) := ⟨d.toNat, by omega⟩
  have hlt : m < xs.length := by omega
  exact ⟨xs[m], List.getElem_mem hlt, atI_nat (List.getElem?_eq_getElem hlt)⟩
theorem ixN_in {n : Nat} {d : Int} (h0 : 0 ≤ d) (h1 : d < n) : ixN n d = some d.toNat := by
  unfold ixN
  rw [if_pos h0, if_pos h1]
theorem szL {n : Nat} (h : Nat.ble n 1000 = true) : n ≤ sizeLine := sz1000 (Nat.le_of_ble_eq_true h)
/-- items drawn off the row over range(n) -/
theorem r_rng {r : Addr} {n : Int} {k : Nat} {vs : List Nat} {σ : St} {te : TE} {H : Hp} {Q : Addr → Hp → Prop} (h1 : n ≤ 1000) (row : Row H r) (P : Hp → V → Prop) (hP : ∀ H H' y, Same H H' → P H y → P H' y) (hw : ∀ x, wipe ((wipe σ vs).set k (some x)) vs = wipe σ vs)
    (step : ∀ (i : Int) H1, Fr r H H1 → Row H1 r → ∀ Q1 : VK, (∀ y H', Fr r H1 H' → Row H' r → P (fresh H1 H') y → Q1 y H') → te ((wipe σ vs).set k (some (.int i))) H1 Q1)
    (q : ∀ D H' ys, ys.length = n.toNat → H D = none → Fr r H H' → Row H' r → H' D = some (.lst ys) → (∀ y, y ∈ ys → P (fresh (upd H D (.lst [])) H') y) → Q D H') :
    ∀ D, H D = none → LcGo (Itr 0 n.toNat) (gName k) tYes te vs σ D (Q D) H := fun D hD =>
  lc_row (r := r) (walk_range (lo := 0) (n := n.toNat)) (Y' := fun i x => x = .int (0 + i)) (fun i H x H' y => y) P hP (by omega) hD row (fun _ _ => trivial) hw
    (fun i x H1 e f rw1 Q1 q1 => by
      subst e
      exact step _ H1 f rw1 Q1 q1)
    fun H' ys hl f rw1 hL hp => q D H' ys hl hD f rw1 hL hp
def sp_str : Sp := fun vs H Q _ => ∃ r : Addr, vs = [.ref r] ∧ Row H r ∧ ∀ s H', OkS s → Fr r H H' → Row H' r → Q (.str s) H'
end RH
namespace RH
open PySem L2
theorem joinL_flat : ∀ ys : List (List Nat), TL.joinL [] ys = ys.flatten
  | [] => rfl
  | [p] => by simp [TL.joinL]
  | p :: q :: r => by
    show p ++ ([] ++ TL.joinL [] (q :: r)) = (p :: q :: r).flatten
    rw [joinL_flat (q :: r), List.nil_append, ← List.flatten_cons]
theorem len_le_sum : ∀ {ss : List Str} {m : Nat}, (∀ s, s ∈ ss → s.length ≤ m) → (ss.map (·.length)).sum ≤ ss.length * m
  | [], _, _ => by simp
  | s :: r, m, h => by
    have h1 := h s (List.mem_cons_self ..)
    have h2 := len_le_sum fun z hz => h z (List.mem_cons_of_mem _ hz)
    rw [List.map_cons, List.sum_cons, List.length_cons, Nat.add_mul]
    omega
theorem flat_len : ∀ ss : List Str, ((ss.map fun s => s.cps.toList).flatten).length = (ss.map (·.length)).sum
  | [] => rfl
  | s :: r => by
    rw [List.map_cons, List.flatten_cons, List.length_append, flat_len r, List.map_cons, List.sum_cons]
    rfl
theorem r_m1c {r : V → List V → Hp → VK → Prop} {te : TE} {σ : St} {H : Hp} {Q : VK} {z : Str} (h : te σ H fun y H2 => r (.str z) [y] H2 Q) : tM1 r (tC (.str z)) te σ H Q := ⟨⟨z, rfl⟩, h⟩
theorem rJoin_S {K : PySem.W.Frag} {H : Hp} {Q : VK} {p : Addr} {ss : List Str} {m : Nat} (h : H p = some (.lst (ss.map V.str))) (hs : ∀ s, s ∈ ss → OkS s ∧ s.length ≤ m) (hl : ss.length * m ≤ 1000) (q : ∀ s, OkS s → Q (.str s) H) : rJoin K (.str ("" : Str)) [.ref p] H Q := by
  have hsum := len_le_sum (m := m) fun s hz => (hs s hz).2
  refine ⟨"", p, ss, rfl, rfl, .inl (SqL.of h), ?_, ?_⟩
  · show _ + ss.length * 0 ≤ 16777216
    omega
  · have e2 : ("" : Str) = SX.S [] := by decide +kernel
    have e : ss = (ss.map fun s => s.cps.toList).map SX.S := by
      rw [List.map_map]
      exact (List.map_id' ss).symm.trans (List.map_congr_left fun s _ => (SX.S_tl s).symm)
    rw [e2, e, SX.join_S, joinL_flat]
    refine q _ (okS_S (fun c hc => ?_) (by rw [flat_len]; omega))
    obtain ⟨l, hl2, hcl⟩ := List.mem_flatten.mp hc
    obtain ⟨s, hs2, rfl⟩ := List.mem_map.mp hl2
    exact (hs s hs2).1.ok c hcl
end RH
namespace RH
open PySem L2
/-- names as the laws draw them: texts of at most 14 signs, or other things -/
def OkN (d : D) : Prop := ∀ s, d = .str s → s.length ≤ 14
theorem rep_list {K : PySem.W.Frag} {CC : Addr → Prop} {Ok : D → Prop} {H : Hp} : ∀ {ys : List V}, (∀ y, y ∈ ys → ∃ d, Ok d ∧ Rep K CC H y d) → ∃ ds : List D, ys.length = ds.length ∧ (∀ (i : Nat) (x : V) (d : D), ys[i]? = some x → ds[i]? = some d → Rep K CC H x d) ∧ ∀ d, d ∈ ds → Ok d
  | [], _ => ⟨[], rfl, fun i x d h => by simp at h, fun _ h => nomatch h⟩
  | y :: r, h => by
    obtain ⟨d, o, rp⟩ := h y (List.mem_cons_self ..)
    obtain ⟨ds, hl, hi, ho⟩ := rep_list fun z hz => h z (List.mem_cons_of_mem _ hz)
    refine ⟨d :: ds, by rw [List.length_cons, List.length_cons, hl], fun i x e hx he => ?_, fun z hz => ?_⟩
    · cases i with
      | zero =>
        cases Option.some.inj hx
        cases Option.some.inj he
        exact rp
      | succ i => exact hi i x e hx he
    · rcases List.mem_cons.mp hz with rfl | hz
      · exact o
      · exact ho z hz
/-- the texts among things -/
def strsOf : List D → List Str
  | [] => []
  | .str s :: r => s :: strsOf r
  | _ :: r => strsOf r
theorem strs_filter {K : PySem.W.Frag} {CC : Addr → Prop} {H : Hp} : ∀ {xs : List V} {ds : List D}, xs.length = ds.length → (∀ (i : Nat) (x : V) (d : D), xs[i]? = some x → ds[i]? = some d → Rep K CC H x d) →
    (((ds.map fun d => isD d "str").zip xs).filter (·.1)).map (·.2) = (strsOf ds).map V.str
  | [], [], _, _ => rfl
  | x :: xs, d :: ds, hl, hi => by
    have R := hi 0 x d rfl rfl
    have ih := strs_filter (xs := xs) (ds := ds) (by simpa using hl) fun i y e hy he => hi (i + 1) y e hy he
    cases R <;> rw [List.map_cons, List.zip_cons_cons, List.filter_cons] <;> first
      | (rw [if_pos (by rfl), List.map_cons, ih]; rfl)
      | (rw [if_neg (by intro z; cases z), ih]; rfl)
  | [], _ :: _, hl, _ => by simp at hl
  | _ :: _, [], hl, _ => by simp at hl
theorem strs_ok {K : PySem.W.Frag} {CC : Addr → Prop} {H : Hp} : ∀ {xs : List V} {ds : List D}, xs.length = ds.length → (∀ (i : Nat) (x : V) (d : D), xs[i]? = some x → ds[i]? = some d → Rep K CC H x d) → (∀ d, d ∈ ds → OkN d) →
    (∀ s, s ∈ strsOf ds → OkS s ∧ s.length ≤ 14) ∧ (strsOf ds).length ≤ ds.length
  | [], [], _, _, _ => ⟨(fun _ h => nomatch h), Nat.le_refl _⟩
  | x :: xs, d :: ds, hl, hi, ho => by
    have R := hi 0 x d rfl rfl
    have ih := strs_ok (xs := xs) (ds := ds) (by simpa using hl) (fun i y e hy he => hi (i + 1) y e hy he) fun e he => ho e (List.mem_cons_of_mem _ he)
    have hd := ho d (List.mem_cons_self ..)
    cases R with
    | str s ok =>
      refine ⟨fun z hz => ?_, Nat.succ_le_succ ih.2⟩
      rcases List.mem_cons.mp hz with rfl | hz
      · exact ⟨ok, hd _ rfl⟩
      · exact ih.1 z hz
    | _ => exact ⟨ih.1, Nat.le_succ_of_le ih.2⟩
  | [], _ :: _, hl, _, _ => by simp at hl
  | _ :: _, [], hl, _, _ => by simp at hl
end RH
namespace RH
open PySem L2
def loS : Str := "abcdefghijklmnopqrstuvwxyz"
theorem lo_all : (loS.cps.toList.all okc) = true := by decide +kernel
theorem lo_len : loS.cps.toList.length = 26 := by decide +kernel
theorem r_low {H : Hp} {Q : VK} {d : Int} (h0 : 0 ≤ d) (h1 : d < 26) (q : ∀ c : Nat, okc c = true → Q (.str ⟨#[c]⟩) H) : rIxS (.str loS) (.int d) H Q := by
  obtain ⟨m, rfl⟩ : ∃ m : Nat, d = (m : Int) := ⟨d.toNat, by omega⟩
  have hlt : m < loS.cps.toList.length := by rw [lo_len]; omega
  have hl : loS.length = 26 := lo_len
  exact ⟨_, _, loS.cps.toList[m], rfl, rfl, by rw [hl]; decide, atI_nat (List.getElem?_eq_getElem hlt), q _ (List.all_eq_true.mp lo_all _ (List.getElem_mem hlt))⟩
end RH
namespace RH
open PySem L2
theorem Row.setne {H : Hp} {r p : Addr} {o : HO} (h : Row H r) (n : p ≠ r) : Row (L2.upd H p o) r := by
  obtain ⟨a, b, c, e⟩ := h
  exact ⟨a, b, c, by rw [upd_ne n.symm]; exact e⟩
theorem Row.ne_of {H : Hp} {r p : Addr} (h : Row H r) (n : H p = none) : p ≠ r := fun z => h.ne (z ▸ n)
/-- a list made by drawing: what holds of its items, said of what is new since H -/
theorem fresh_list {K : PySem.W.Frag} {CC : Addr → Prop} {H H1 H2 : Hp} {y : V} {d : D} (s : Same H1 H2) (h : Rep K CC H1 y d) : Rep K CC H2 y d := h.mono s
theorem fresh_back {r D : Addr} {H0 H H' H2 : Hp} {o : HO} (f : Dom H0 H) (row : H0 r ≠ none) (g : Fr r H' H2) : Same (fresh (upd H D o) H') (fresh H0 H2) := fun b z h => by
  obtain ⟨e, q⟩ := fresh_some h
  have nb : b ≠ D := fun w => by rw [w, upd_same] at e; cases e
  rw [upd_ne nb] at e
  have e0 := f b e
  exact fresh_of e0 (g b z (fun w => row (w ▸ e0)) q)
def rNewT (K : PySem.W.Frag) : List V → Hp → VK → Prop := rTupOf K
end RH
namespace RH
open PySem L2
/-- the parts of a pair while it is spoilt: a list that is new since H -/
def PairAt (K : PySem.W.Frag) (CC : Addr → Prop) (H : Hp) (r : Addr) (kd : Int) (m : Nat) (σ' : St) (H' : Hp) : Prop :=
  ∃ (E : Addr) (xs : List V) (ds : List D), σ' = [some (.ref r), some (.ref E), some (.int kd)] ∧ H E = none ∧ H' E = some (.lst xs) ∧ xs.length = ds.length ∧ xs.length ≤ m ∧ (kd ≠ 0 → 2 ≤ xs.length) ∧
    (∀ (i : Nat) (x : V) (d : D), xs[i]? = some x → ds[i]? = some d → Rep K CC (fresh (upd H E (.lst [])) H') x d) ∧ Fr r H H' ∧ Row H' r
section
variable {K : PySem.W.Frag} {σ : St} {H : Hp} {Q : VK} {p : Addr} {xs : List V} {v : V} {n : Nat}
theorem r_bmL {r : V → List V → Hp → VK → Prop} {t : TA} (hj : σ[n]? = some (some (.ref p))) (h : H p = some (.lst xs)) (q : t σ H fun vs H2 => r (.ref p) vs H2 Q) : tBM K "list" r (tVar n) t σ H Q := ⟨_, hj, .inl ⟨rfl, _, SqL.of h⟩, q⟩
theorem r_append (h : H p = some (.lst xs)) (hl : xs.length < sizeLine) (q : Q .non (upd H p (.lst (xs ++ [v])))) : rAppend (.ref p) [v] H Q := ⟨p, xs, v, rfl, rfl, h, hl, q⟩
end
end RH
namespace RH
open PySem L2
/-- behind a row that was opened at r, nothing that stood ahead of it is changed -/
theorem Fr.same {r : Addr} {H H1 H2 : Hp} (hr : H r = none) (s : Same H H1) (f : Fr r H1 H2) : Same H H2 := fun b o e => f b o (ne_of_none e hr) (s b o e)
/-- the law's own promise: a list of at most 63 ints is handed in, True comes out -/
def spLaw (K : PySem.W.Frag) : Sp := fun vs H Q _ => ∃ (a : Addr) (ns : List Int), vs = [.ref a] ∧ SqL K H a (ns.map V.int) ∧ ns.length ≤ 63 ∧ ∀ H', Q (.bl true) H'
theorem isDot_two {d1 d2 : D} (h : isNum d2 = true) : ∃ i : Int, d2 = .int i ∧ 0 ≤ i ∧ (nz d2 = decide (0 < i)) := by
  cases d2 with
  | int i =>
    have h1 : (limI i && decide (0 ≤ i)) = true := h
    rw [Bool.and_eq_true] at h1
    have h2 : 0 ≤ i := of_decide_eq_true h1.2
    refine ⟨i, rfl, h2, ?_⟩
    show (!decide (i = 0)) = _
    rw [← decide_not]
    exact decide_eq_decide.mpr (by omega)
  | _ => cases h
def spSaid : Sp := fun vs H Q _ => ∃ a b : Bool, vs = [.bl a, .bl b] ∧ Q (.bl (decide (a = b))) H
/-- Clock([..]) of some list: an instance comes out, nothing that stood is changed -/
def spClk (C : Addr) : Sp := fun vs H Q _ => ∃ (x dx p : Addr) (ts : List Addr) (dots : List (Int × Int)), vs = [.ref x, .ref p] ∧ H x = some (.ins C dx []) ∧ H p = some (.lst (ts.map V.ref)) ∧ Paired (fun t d => H t = some (.tup [.int d.1, .int d.2])) ts dots ∧ ts.length ≤ 900 ∧
  ∀ fs H', (∀ b o, b ≠ x → H b = some o → H' b = some o) → H' x = some (.ins C dx fs) → Q .non H'
end RH
namespace RH
open PySem L2
/-- what a loop asks, from its walk on -/
def ForGo (J : It) (g : TG) (tb : TS) (nx : St → Hp → Prop) (rt : VK) (σ : St) (H : Hp) : Prop :=
  ∃ W : Nat → Nat → St → Hp → Prop, (∃ m, W 0 m σ H) ∧ ∀ i m σ H, W i m σ H →
    (J.stop i H ∧ nx σ H) ∨ (J.go i H ∧ ∃ N : St → Hp → Prop, (∀ σ' H', N σ' H' → ∃ m', m' < m ∧ W (i + 1) m' σ' H') ∧ ∀ x H', J.yld i H x H' → g x σ H' fun σ2 H2 => tb ⟨N, rt, nx, N⟩ σ2 H2)
theorem r_for {wi : TI} {g : TG} {tb : TS} {nx bk ct : St → Hp → Prop} {rt : VK} {σ : St} {H : Hp} (h : wi σ H fun J H1 => ForGo J g tb nx rt σ H1) : tFor wi g tb ⟨nx, rt, bk, ct⟩ σ H := h
theorem r_rng1 {ta : TA} {σ : St} {H : Hp} {R : It → Hp → Prop} (h : ta σ H fun vs H1 => ∃ j : Int, vs = [.int j] ∧ -(2 ^ 62) ≤ j ∧ j < 2 ^ 62 ∧ R (Itr 0 j.toNat) H1) : iRng1 ta σ H R := h
theorem go_it {J : It} {n : Nat} {G : Hp → Prop} {Y : Nat → Hp → V → Hp → Prop} (w : Walk J n G Y) {g : TG} {tb : TS} {nx : St → Hp → Prop} {rt : VK} {σ : St} {H : Hp} (Pv : Nat → St → Hp → Prop) (h0 : Pv 0 σ H) (hG : ∀ i σ H, i ≤ n → Pv i σ H → G H)
    (hs : ∀ i x σ H H', i < n → Pv i σ H → Y i H x H' → g x σ H' fun σ2 H2 => tb ⟨Pv (i + 1), rt, nx, Pv (i + 1)⟩ σ2 H2) (hd : ∀ σ H, Pv n σ H → nx σ H) : ForGo J g tb nx rt σ H :=
  for_it (D := ⟨nx, rt, fun _ _ => False, fun _ _ => False⟩) w Pv h0 hG hs hd
theorem go_range {lo : Int} {n : Nat} {g : TG} {tb : TS} {nx : St → Hp → Prop} {rt : VK} {σ : St} {H : Hp} (Pv : Nat → St → Hp → Prop) (h0 : Pv 0 σ H)
    (hs : ∀ (i : Nat) (x : V) σ H, i < n → Pv i σ H → x = .int (lo + (i : Int)) → g x σ H fun σ2 H2 => tb ⟨Pv (i + 1), rt, nx, Pv (i + 1)⟩ σ2 H2) (hd : ∀ σ H, Pv n σ H → nx σ H) : ForGo (Itr lo n) g tb nx rt σ H :=
  go_it walk_range Pv h0 (fun _ _ _ _ _ => trivial) (fun i x σ H H' hi p y => by
    obtain ⟨rfl, e⟩ := y
    exact hs i x σ H' hi p e) hd
end RH
namespace RH
open PySem L2
theorem r_said {a b : Bool} {H : Hp} {Q : VK} {E : XK} (e : a = b) (q : Q (.bl true) H) : spSaid ([.bl a, .bl b] ++ []) H Q E := ⟨a, b, rfl, by rw [decide_eq_true e]; exact q⟩
theorem r_make {C : Addr} {sp : Sp} {dvs : List V} {E : XK} {t : TA} {σ : St} {H : Hp} {Q : VK} (h : t σ H fun vs H1 => ∀ x dx, H1 x = none → H1 dx = none → dx ≠ x → sp (.ref x :: (vs ++ dvs)) (upd (upd H1 dx (.own x)) x (.ins C dx [])) (fun v H2 => v = .non ∧ Q (.ref x) H2) E) : tMake C sp dvs E t σ H Q := h
end RH
namespace RH
open PySem PySem.Spec PyProof.Rows L2
/-! ### a law's def, run just where the head runs it: there nothing is under way -/
def AtTop (P : Program) (w : World) (K : PySem.W.Frag) (mg : Str → Option Value) (base : Heap) (f : Addr) (fd : FuncData) (ps : List Str) (sp : Sp) : Prop :=
  ∀ (s : Shared) (H : Hp) (args : Args) (us : List Value) (vs : List V) (Q : VK), Env0 P w K mg base callerA [] s H → BindsTo s fd args (ps.zip us) → Vals vs us → sp vs H Q E0 →
    codeAny (model P w) callerA (.call (.ref f) args) (CR CX0 [] P w H s Q E0) s
theorem roomTop {k : Nat} (hr : Room (k + 1) callerA) (env : Env) : Room k (callerA.deeper env) := hr.deeper env
theorem topGuards (env : Env) : (callerA.deeper env).guards = some [] := rfl
section
variable {P : Program} {w : World} {K : PySem.W.Frag} {mg : Str → Option Value} {base : Heap}
theorem top_of {x qual : Str} {st : Stmt} {f : Addr} {fd : FuncData} {N ps : List Str} {k : Nat} {sp : Sp} (F : Fun K x qual st f fd) (S : FnScope N ps (defScope st)) (room : Room (k + 1) callerA) (len : ∀ vs H Q E, sp vs H Q E → vs.length = ps.length)
    (body : ∀ (cdv : Value) (s : Shared) (H : Hp) (vs : List V) (Q : VK), Room k (callerA.deeper (envOfC qual (defScope st) s.heap.objs.size f cdv)) → sp vs H Q E0 →
      ∃ t, PSs (cxOf CX0 P w K mg base N qual (defScope st) f cdv callerA [] s H E0).nox (defBody st) t ∧ t { nx := fun _ H' => Q .non H', rt := Q } (start N vs) H) : AtTop P w K mg base f fd ps sp := by
  obtain ⟨oc, od, kV, doc, pm, an, cdv, ct, osl, rfl, lk, hcd⟩ := F.ex
  intro s H args us vs Q e0 bind r hsp
  have inK : K.In s.heap := e0.mod.kin.keeps fun b o e => (e0.bs b o e).1
  have lim : s.heap.NoLimit := e0.mod.nolimit.keeps fun b o e => (e0.bs b o e).1
  refine codeAny_call_function room.depth (inK _ _ lk) rfl S.co S.gen rfl (PySem.W.codeRec_of inK hcd) (bind _ _ _ _ ?_)
  refine wpAny_newFunctionEnv_cells S.kind (fun y hy => ?_) fun env he s1 inside => ?_
  · have q := S.par y.1 (List.of_mem_zip hy).1
    exact q.imp id fun c => ⟨c, PySem.W.cellsFrom_some _ _ _ (.inl c)⟩
  · subst he
    obtain ⟨t, ht, q⟩ := body cdv s H vs Q (roomTop room _) hsp
    have I := inv_start (CX := CX0) (E := E0) S room.hd e0 (len _ _ _ _ hsp) r inside
    refine ⟨lim.keeps inside.toInCall.keep, codeAny_func (wpAny_mono (ht.nox.run [] s1 (start N vs) H _ I q) (fun fl s' z => ?_) fun e s' z => z)⟩
    cases fl with
    | ret u =>
      obtain ⟨v, σ', H', J, rv, z⟩ := z
      exact ⟨v, H', J.os, J.bare, J.base, J.hok, rv, z⟩
    | next =>
      obtain ⟨σ', H', J, z⟩ := z
      exact ⟨V.non, H', J.os, J.bare, J.base, J.hok, rfl, z⟩
    | brk =>
      obtain ⟨_, _, _, z⟩ := z
      exact z.elim
    | cont =>
      obtain ⟨_, _, _, z⟩ := z
      exact z.elim
/-- the script alone is tracked, as an object that nobody changes -/
def frzAt (a : Addr) (o : Obj) (ns : List Int) : Hp := fun b => if b = a then some (.frz o (.lst (ns.map V.int))) else none
theorem frzAt_at (a : Addr) (o : Obj) (ns : List Int) : frzAt a o ns a = some (.frz o (.lst (ns.map V.int))) := if_pos rfl
theorem frzAt_ne {a b : Addr} (n : b ≠ a) (o : Obj) (ns : List Int) : frzAt a o ns b = none := if_neg n
/-- the object of a script -/
def scriptO (vs : List Value) : Obj := ⟨.type "list", none, .seq vs.toArray 0, #[]⟩
theorem top_core {mb : Str → Option Value} {fa a : Addr} {fd : FuncData} {sp : Sp} {s1 : Shared} {vs : List Value} {H : Hp} (inK : K.In s1.heap) (nsM : s1.heap.Ns mainGlobals mg) (nsB : s1.heap.Ns builtinsNs mb)
    (blt : ∀ x : Str, x ≠ "__name__" → mb x = bootBuiltins x) (lim : s1.heap.NoLimit) (noGen : s1.gens = #[]) (at1 : s1.heap.get? a = some (scriptO vs)) (hok : HOk P w H s1.heap)
    (only : ∀ b, H b ≠ none → b = a ∧ K.lookup a = none ∧ ∃ o xs, H a = some (.frz o (.lst xs)))
    (F : ∀ base : Heap, K.In base → base.Ns mainGlobals mg → AtTop P w K mg base fa fd ["script"] sp) (bind : ∀ (s : Shared) (u : Value), BindsTo s fd ⟨[u], []⟩ [("script", u)]) (hsp : sp [.ref a] H (fun v _ => v = .bl true) E0) :
    codeAny (model P w) callerA (.call (.ref fa) ⟨[.ref a], []⟩) (fun r s' => r = .ok (.ret (.bool true)) ∧ OldK s1.heap s'.heap ∧ s'.os = s1.os ∧ AllBare s'.gens) s1 := by
  have stays : ∀ {b : Addr} {o : Obj}, s1.heap.get? b = some o → (b = a → K.lookup a ≠ none) → (hidT s1.heap H).get? b = some o := fun {b o} e n => by
    refine hidT_get e ?_
    cases q : H b with
    | none => rfl
    | some u =>
      obtain ⟨z, lk, _⟩ := only b (by rw [q]; exact fun z => nomatch z)
      exact absurd lk (n z)
  have stayD : ∀ {b : Addr} {o : Obj} {es : Array DictEntry} {ep : Nat}, s1.heap.get? b = some o → o.data = .dict es ep → (hidT s1.heap H).get? b = some o := fun {b o es ep} e d => by
    refine hidT_get e ?_
    cases q : H b with
    | none => rfl
    | some u =>
      obtain ⟨rfl, _⟩ := only b (by rw [q]; exact fun z => nomatch z)
      rw [at1] at e
      cases e
      have d' : Data.seq vs.toArray 0 = Data.dict es ep := d
      cases d'
  have ns2 : ∀ {b : Addr} {m : Str → Option Value}, s1.heap.Ns b m → (hidT s1.heap H).Ns b m := fun {b m} n => by
    obtain ⟨o, es, ep, e, d, r⟩ := n
    exact ⟨o, es, ep, stayD e d, d, r⟩
  have inB : K.In (hidT s1.heap H) := fun b o e => stays (inK b o e) fun z lk => by
    rw [← z, e] at lk
    cases lk
  obtain ⟨mc, c1, c2⟩ := lim
  have e0 : Env0 P w K mg (hidT s1.heap H) callerA [] s1 H :=
    { frames := rfl
      mod := ⟨inB, ns2 nsM, ⟨mb, ns2 nsB, blt⟩, mc, ns2 c1, c2⟩
      bs := fun b o e => of_hidT e
      bsz := Nat.le_of_eq (hidT_size s1.heap H)
      funs := trivial
      frf := fun b m => nomatch m
      hok := hok
      bare := .of_eq noGen }
  refine codeAny_mono (F _ inB (ns2 nsM) s1 H ⟨[.ref a], []⟩ [.ref a] [.ref a] _ e0 (bind s1 (.ref a)) (.cons rfl .nil) hsp) fun r s' z => ?_
  cases r with
  | error e => exact False.elim z
  | ok fl =>
    cases fl with
    | next => exact False.elim z
    | brk => exact False.elim z
    | cont => exact False.elim z
    | ret u =>
      obtain ⟨v, H', os, bare, un, hok', rv, rfl⟩ := z
      obtain rfl : u = Value.bool true := rv
      refine ⟨rfl, OldK.of_keep fun b o e => ?_, os, bare⟩
      cases q : H b with
      | none => exact un.keep b o e q (fun m => nomatch m) (fun m => nomatch m)
      | some t =>
        obtain ⟨rfl, _, ob, xs, z⟩ := only b (by rw [q]; exact fun z => nomatch z)
        obtain ⟨e1, _⟩ := hok b _ z
        obtain ⟨e2, _⟩ := hok' b _ (un.frzs b ob _ z)
        rw [e] at e1
        cases e1
        exact e2
theorem top_call {mb : Str → Option Value} {fa a : Addr} {fd : FuncData} {sp : Sp} {s1 : Shared} {vs : List Value} {ns : List Int} (inK : K.In s1.heap) (nsM : s1.heap.Ns mainGlobals mg) (nsB : s1.heap.Ns builtinsNs mb)
    (blt : ∀ x : Str, x ≠ "__name__" → mb x = bootBuiltins x) (lim : s1.heap.NoLimit) (noGen : s1.gens = #[]) (at1 : s1.heap.get? a = some (scriptO vs)) (hi : IntsAre vs ns) (small : ns.length ≤ sizeLine)
    (F : ∀ base : Heap, K.In base → base.Ns mainGlobals mg → AtTop P w K mg base fa fd ["script"] sp) (bind : ∀ (s : Shared) (u : Value), BindsTo s fd ⟨[u], []⟩ [("script", u)])
    (hsp : ∀ H : Hp, SqL K H a (ns.map V.int) → sp [.ref a] H (fun v _ => v = .bl true) E0) :
    codeAny (model P w) callerA (.call (.ref fa) ⟨[.ref a], []⟩) (fun r s' => r = .ok (.ret (.bool true)) ∧ OldK s1.heap s'.heap ∧ s'.os = s1.os ∧ AllBare s'.gens) s1 := by
  have rv : Vals (ns.map V.int) vs := vals_ints hi
  have len : vs.length = ns.length := hi.length
  cases lk : K.lookup a with
  | some o =>
    have e := inK a o lk
    rw [at1] at e
    cases e
    refine top_core (H := fun _ => none) inK nsM nsB blt lim noGen at1 (fun b u z => nomatch z) (fun b z => absurd rfl z) F bind (hsp _ (.inr ⟨_, vs.toArray, _, lk, rfl, rfl, rfl, ?_, rv⟩))
    rw [List.size_toArray, len]
    exact small
  | none =>
    refine top_core (H := frzAt a (scriptO vs) ns) inK nsM nsB blt lim noGen at1 (fun b u z => ?_) (fun b z => ?_) F bind (hsp _ (.inl (.inr ⟨_, frzAt_at ..⟩)))
    · by_cases hb : b = a
      · subst hb
        rw [frzAt_at] at z
        cases z
        exact ⟨at1, by rw [List.length_map]; exact small, vs, 0, rv, at1⟩
      · rw [frzAt_ne hb] at z
        cases z
    · by_cases hb : b = a
      · exact ⟨hb, lk, _, _, frzAt_at ..⟩
      · exact absurd (frzAt_ne hb _ _) z
end
/-- the law's end -/
theorem top_walk {l : PySem.W.OpenLaw} {q : Program} {loose : List Str} {XP : (Str → Option Value) → Heap → Prop} {YP : World → Heap → Prop} {d : DefRec} {K : Params → PySem.W.Frag} {sp : PySem.W.Frag → Sp} {n : Nat} (hn : l.most = some n) (hn2 : n ≤ sizeLine) (hdf : d.params.defaults = [])
    (hY : ∀ (w : World) (h : Heap), YP w h → (K w.params).In h)
    (F : ∀ (w : World) (mg : Str → Option Value) (fa : Addr) (h : Heap), (K w.params).In h → h.Ns mainGlobals mg → mg d.name = some (.ref fa) →
      ∃ fd : FuncData, (∀ (s : Shared) (u : Value), BindsTo s fd ⟨[u], []⟩ [("script", u)]) ∧ ∀ base : Heap, (K w.params).In base → base.Ns mainGlobals mg → AtTop l.prog w (K w.params) mg base fa fd ["script"] (sp (K w.params)))
    (hsp : ∀ (K : PySem.W.Frag) (H : Hp) (a : Addr) (ns : List Int), ns.length ≤ n → SqL K H a (ns.map V.int) → sp K [.ref a] H (fun v _ => v = .bl true) E0) :
    PySem.W.WalkO q loose XP YP l.row.toRowW d [] (fun f vs => PySem.call f vs) := by
  refine Att.attach_call hn hdf fun w s0 s1 mg mb fa o pm cd doc a vs ns G Y ho hd hcd hmg hobj hints hlen hg => ?_
  obtain ⟨fd, bind, F'⟩ := F w mg fa _ (hY w _ Y) G.T.g hmg
  exact top_call (hY w _ Y) G.T.g G.T.b G.T.builtins G.T.nolimit hg hobj hints (Nat.le_trans hlen hn2) F' bind fun H hS => hsp _ H a ns hlen hS
/-! ### repr of lists within lists -/
def rRepr (K : PySem.W.Frag) : List V → Hp → VK → Prop := fun xs H Q => ∃ a d, xs = [V.ref a] ∧ Dp K H (.ref a) d ∧ d.showable = true ∧ d.hasDict = false ∧ d.depth ≤ 64 ∧ d.shown.length ≤ sizeLine ∧ Q (.str d.shown) H
theorem call_repr {X : Cx} (room : X.A.units + 65 < cLine) (hg : X.A.guards = some []) : CallR X (.builtin "repr") (rRepr X.K) := by
  intro pins s σ H xs us Q I r h
  obtain ⟨a, d, rfl, hd, hs, nd, dep, lim, q⟩ := h
  rw [Vals.ref1 r]
  obtain ⟨as, rd⟩ := Dp.reads I d (.ref a) (.ref a) hd rfl
  exact repr_of_reads' rd hs (PyData.noDict_hsm nd) hg (by omega) (fun _ _ e => e) (fun h' u tk k => ⟨.str d.shown, H, I.kept (t' := tk) k, ⟨u, rfl⟩, q⟩) lim
end RH
namespace RH
open PySem L2
section
variable {K : PySem.W.Frag} {CC : Addr → Prop} {H H' : Hp}
mutual
theorem dp_mono (s : Same H H') : ∀ (d : PyData) (v : V), Dp K H v d → Dp K H' v d
  | .none, _, h => by cases h; exact .non
  | .bool b, _, h => by cases h; exact .bl b
  | .int i, _, h => by cases h; exact .int i
  | .str x, _, h => by cases h; exact .str x
  | .list ds, _, h => by
    cases h with
    | lst a b => exact .lst (s.seq a) (dpAll_mono s ds _ b)
  | .tuple ds, _, h => by
    cases h with
    | tup a b => exact .tup (same_t s a) (dpAll_mono s ds _ b)
  | .dict ds, _, h => by cases h
theorem dpAll_mono (s : Same H H') : ∀ (ds : List PyData) (vs : List V), DpAll K H vs ds → DpAll K H' vs ds
  | [], _, h => by cases h; exact .nil
  | d :: ds, _, h => by
    cases h with
    | cons a b => exact .cons (dp_mono s d _ a) (dpAll_mono s ds _ b)
end
/-- data that repr shows: k what is nested -/
structure Shw (d : PyData) (k : Nat) : Prop where
  sh : d.showable = true
  nd : d.hasDict = false
  dep : d.depth ≤ k
  len : d.shown.length ≤ 3 * k + 3
theorem Shw.lst {d : PyData} {k : Nat} (h : Shw d k) : Shw (.list [d]) (k + 1) := by
  refine ⟨?_, ?_, ?_, ?_⟩
  · simp [PyData.showable, PyData.showableAll, h.sh]
  · simp [PyData.hasDict, PyData.hasDictAll, h.nd]
  · have := h.dep
    simp only [PyData.depth, PyData.depthAll]
    omega
  · have := h.len
    simp only [PyData.shown, PyData.shownAll]
    rw [PyProof.Rows.listText_one]
    simp only [Str.length_append]
    have e1 : (Str.ofString "[").length = 1 := by decide +kernel
    have e2 : (Str.ofString "").length = 0 := by decide +kernel
    have e3 : (Str.ofString "]").length = 1 := by decide +kernel
    omega
theorem Shw.tup {d : PyData} {k : Nat} (h : Shw d k) : Shw (.tuple [d]) (k + 1) := by
  refine ⟨?_, ?_, ?_, ?_⟩
  · simp [PyData.showable, PyData.showableAll, h.sh]
  · simp [PyData.hasDict, PyData.hasDictAll, h.nd]
  · have := h.dep
    simp only [PyData.depth, PyData.depthAll]
    omega
  · have := h.len
    simp only [PyData.shown, PyData.shownAll]
    rw [PyProof.Rows.tupleText_one]
    simp only [Str.length_append]
    have e1 : (Str.ofString "(").length = 1 := by decide +kernel
    have e3 : (Str.ofString ",)").length = 2 := by decide +kernel
    omega
theorem shw_a : Shw (.str "a") 1 := ⟨rfl, rfl, by decide, by decide +kernel⟩
theorem shw_0 : Shw (.int 0) 1 := ⟨by decide +kernel, rfl, by decide, by decide +kernel⟩
theorem shw_u : Shw (.tuple []) 1 := ⟨rfl, rfl, by decide, by decide +kernel⟩
theorem shw_n : Shw .none 1 := ⟨rfl, rfl, by decide, by decide +kernel⟩
/-- what repr shows of the thing at v, if it is a list -/
def Shown (K : PySem.W.Frag) (H : Hp) (v : V) (d : D) : Prop := ∀ xs, d = .lst xs → ∃ pd k, Dp K H v pd ∧ Shw pd k ∧ k ≤ 64
theorem Shown.mono {v : V} {d : D} (h : Shown K H v d) (s : Same H H') : Shown K H' v d := fun xs e => by
  obtain ⟨pd, k, a, b, c⟩ := h xs e
  exact ⟨pd, k, dp_mono s pd v a, b, c⟩
theorem Shown.no {v : V} {d : D} (h : ∀ xs, d ≠ .lst xs) : Shown K H v d := fun xs e => absurd e (h xs)
/-- the promise of what draws such a thing -/
def sp_oth (K : PySem.W.Frag) (CC : Addr → Prop) : Sp := fun vs H Q _ => ∃ r : Addr, vs = [.ref r] ∧ Row H r ∧ ∀ v d H', Fr r H H' → Row H' r → Rep K CC (fresh H H') v d → Shown K (fresh H H') v d → Q v H'
theorem hu65 {k : Nat} {A : Around} (r : Room k A) : A.units + 65 < cLine := by
  have := r.un
  omega
theorem r_repr {Q : VK} {a : Addr} {pd : PyData} {k : Nat} (h : Dp K H (.ref a) pd) (s : Shw pd k) (hk : k ≤ 64) (q : Q (.str pd.shown) H) : rRepr K [.ref a] H Q :=
  ⟨a, pd, rfl, h, s.sh, s.nd, Nat.le_trans s.dep hk, Nat.le_of_lt (small1000 (by have := s.len; omega)), q⟩
end
/-- str(i) -/
def rStrI : List V → Hp → VK → Prop := fun xs H Q => ∃ i : Int, xs = [.int i] ∧ i.natAbs.log2 < 1920 ∧ Q (.str (toString i)) H
theorem call_strI {X : Cx} : CallR X (.type "str") rStrI := call_str_int
def okStr (s : Str) : Bool := decide (s.length ≤ 1000) && s.cps.toList.all okc
theorem okS_of {s : Str} (h : okStr s = true) : OkS s := by
  unfold okStr at h
  rw [Bool.and_eq_true, List.all_eq_true] at h
  exact ⟨of_decide_eq_true h.1, h.2⟩
theorem okS_dig : (List.range 1000).all (fun n => okStr (toString (n : Int))) = true := by decide +kernel
theorem okS_int {i : Int} (h0 : 0 ≤ i) (h1 : i < 1000) : OkS (toString i) := by
  have h := List.all_eq_true.mp okS_dig i.toNat (List.mem_range.mpr (by omega))
  rw [show ((i.toNat : Nat) : Int) = i from Int.toNat_of_nonneg h0] at h
  exact okS_of h
theorem r_strI {Q : VK} {H : Hp} {i : Int} (h0 : 0 ≤ i) (h1 : i < 1000) (q : OkS (toString i) → Q (.str (toString i)) H) : rStrI [.int i] H Q := by
  refine ⟨i, rfl, ?_, q (okS_int h0 h1)⟩
  have h : i.natAbs < 2 ^ 1920 := Nat.lt_of_lt_of_le (show i.natAbs < 1000 by omega) (by decide)
  by_cases z : i.natAbs = 0
  · rw [z]
    decide
  · exact (Nat.log2_lt z).mpr h
end RH
namespace RH
open PySem L2
/-- Clock([(0, 1)]) -/
theorem r_clk01 {C r : Addr} {σ : St} {H : Hp} {Q : VK} {E : XK} (row : Row H r) (q : ∀ y dy fs H', Fr r H H' → Row H' r → H y = none → H' y = some (.ins C dy fs) → Q (.ref y) H') :
    tMake C (spClk C) [] E (tCons (tLst (tCons (tTup (tCons (tC (.int 0)) (tCons (tC (.int 1)) tNil))) tNil)) tNil) σ H Q := by
  refine r_make (r_cons (r_lst (r_cons (r_tup (r_cons (r_c (r_cons (r_c (r_nil ⟨szL rfl, fun p1 hp1 => r_nil ⟨szL rfl, fun p2 hp2 => r_nil ?_⟩⟩)))))))))
  intro y dy hy hdy nyd
  have n12 : p1 ≠ p2 := fun z => by rw [← z, upd_same] at hp2; cases hp2
  have n2y : p2 ≠ y := fun z => by rw [← z, upd_same] at hy; cases hy
  have n1y : p1 ≠ y := fun z => by rw [← z, upd_ne n12, upd_same] at hy; cases hy
  have n2d : p2 ≠ dy := fun z => by rw [← z, upd_same] at hdy; cases hdy
  have n1d : p1 ≠ dy := fun z => by rw [← z, upd_ne n12, upd_same] at hdy; cases hdy
  refine ⟨y, dy, p2, [p1], [(0, 1)], rfl, upd_same, by rw [upd_ne n2y, upd_ne n2d, upd_same]; rfl, .cons (by rw [upd_ne n1y, upd_ne n1d, upd_ne n12, upd_same]) .nil, Nat.le_of_ble_eq_true rfl, fun fs H5 k5 hy5 => ⟨rfl, ?_⟩⟩
  have all : ∀ b o, H b = some o → H5 b = some o := fun b o e => by
    have h1 : b ≠ p1 := ne_of_none e hp1
    have e1 : (upd H p1 (.tup [.int 0, .int 1])) b = some o := by rw [upd_ne h1]; exact e
    have h2 : b ≠ p2 := ne_of_none e1 hp2
    have e2 : (upd (upd H p1 (.tup [.int 0, .int 1])) p2 (.lst [.ref p1])) b = some o := by rw [upd_ne h2]; exact e1
    have h3 : b ≠ y := ne_of_none e2 hy
    have h4 : b ≠ dy := ne_of_none e2 hdy
    exact k5 b o h3 (by rw [upd_ne h3, upd_ne h4]; exact e2)
  have hyH : H y = none := by
    rw [upd_ne n2y.symm, upd_ne n1y.symm] at hy
    exact hy
  exact q y dy fs H5 (Fr.of all) (row.keep all) hyH hy5
end RH
namespace RH
open PySem L2
theorem okS_a1 : OkS ("a" : Str) := ⟨by decide +kernel, by decide +kernel⟩
theorem nest1 {K : PySem.W.Frag} {CC : Addr → Prop} {H : Hp} {v : V} {d : D} (R : Rep K CC H v d) {j : Nat} {x : V} {e : D} (hx : [v][j]? = some x) (he : [d][j]? = some e) : Rep K CC H x e := by
  cases j with
  | zero =>
    cases hx
    cases he
    exact R
  | succ j => cases hx
end RH
namespace RH
open PySem PySem.Spec PyProof.Rows L2 SrtO
section
variable {P : Program} {w : World} {A : Around} {E : Value → Shared → Prop} {s : Shared}
/-- a set as set.__new__ leaves it -/
def set0 (w : World) : Obj :=
  { cls := .type "set"
    dict := none
    data := .set #[] 0 (.fresh 0 0 (!w.params.followText "set-order")) }
/-- sorted(a), a set of ints of any size below the bound -/
theorem srt_setR {a : Addr} {S : Int → Bool} {n : Nat} {Q : Value → Shared → Prop} (R : SetR w s.heap a S n) (hh : A.handled = none)
    (hQ : ∀ s' p (out : Array Value) (c : Nat) (ns : List Int), (∀ b o, s.heap.get? b = some o → s'.heap.get? b = some o) → s'.gens = s.gens → s'.os = s.os →
      s.heap.objs.size ≤ p → s'.heap.get? p = some (seqObj "list" out c) → IntsAre out.toList ns → ns.Pairwise (· < ·) → (∀ k, k ∈ ns ↔ S k = true) → ns.length = n →
      Q (.ref p) s') : wpAny (model P w) A (call (.builtin "sorted") [.ref a]) Q E s := by
  obtain ⟨o, es, ep, t, ho, ex, hd, good, nod, mem, small, fit, num, rise, led⟩ := R
  have lim : n ≤ sizeLine := by
    rw [← num, sizeLine_eq]
    unfold scanBound at small
    omega
  refine Calls.call_function_entry kind_sorted plain_sorted entry_sorted (args_sorted1 _) ?_
  unfold Builtin.«sorted»
  refine wpAny_bind (m := checkCount "sorted" 1 1 _) (wpAny_pure ?_)
  refine wpAny_bind (collect_set (A := A.in1) hh ⟨o, ho, ex.1, hd⟩ fit small rise led fun s1 vs keep1 grow1 gen1 os1 perm1 => ?_)
  have lv : vs.length = n := by
    rw [perm1.length_eq, List.length_map, Array.length_toList]
    exact num
  have isI : IntsAre vs (vs.map iv) := ints_iv fun v hv => by
    obtain ⟨e, he, q⟩ := List.mem_map.mp (perm1.mem_iff.mp hv)
    obtain ⟨k, tk, e1, _⟩ := good e he
    rw [← q, e1]
    exact ⟨k, tk, rfl⟩
  have keys : es.toList.map (fun e => iv e.2) = es.toList.map keyOf := List.map_congr_left fun e he => by
    obtain ⟨k, tk, e1, _⟩ := good e he
    unfold keyOf
    rw [e1]
    rfl
  have perm2 : (vs.map iv).Perm (es.toList.map keyOf) := by
    have q := perm1.map iv
    rw [List.map_map] at q
    rw [← keys]
    exact q
  refine wpAny_bind (wpAny_newList ?_ (by rw [lv]; exact lim))
  have new1 : (s1.heap.push (seqObj "list" vs.toArray 0)).get? s1.heap.objs.size = some (seqObj "list" vs.toArray 0) := Heap.get?_push_size _ rfl
  refine wpAny_bind (wpAny_holding (wpAny_call_entry slot_list_sort ⟨_, new1, rfl⟩ entry_list_sort (list_sort_ord swo_int new1 (by rw [lv]; exact lim) (fun two => ints_sortable isI two) fun out so sb => ⟨_, rfl, ?_⟩) (args_list_sort _)))
  obtain ⟨i1, i2, i3⟩ := ints_out isI so sb
  obtain ⟨c, at1⟩ := sortedHeap_at (vs := vs) (out := out.toArray) new1
  have perm3 : (out.map iv).Perm (es.toList.map keyOf) := i2.trans perm2
  refine wpAny_pure ⟨_, rfl, hQ _ s1.heap.objs.size out.toArray c (out.map iv) (fun b u e => ?_) gen1 os1 grow1 at1 i1 (lt_of_le_nodup _ i3 (perm3.nodup_iff.mpr nod)) (fun k => by rw [perm3.mem_iff, mem k]) ?_⟩
  · have q := keep1 b u e
    have below := Heap.lt_size q
    show (sortedHeap (s1.heap.push (seqObj "list" vs.toArray 0)) s1.heap.objs.size vs out.toArray).get? b = some u
    rw [sortedHeap_old (Nat.ne_of_lt below) (by rw [size_push']; exact Nat.lt_succ_of_lt below)]
    exact Heap.get?_push_of_some _ q
  · rw [perm3.length_eq, List.length_map, Array.length_toList]
    exact num
/-- the promise of a call that ends by giving none, the set s0 filled -/
def Filled (w : World) (s : Shared) (ns : List Int) (v : Value) (s2 : Shared) : Prop :=
  v = .none ∧ ∃ h' tk c, s2 = { s with heap := h', toks := tk } ∧ SetR w h' s.heap.objs.size (fun j => decide (j ∈ ns)) c ∧ c ≤ ns.length ∧ ∀ b o, s.heap.get? b = some o → h'.get? b = some o
theorem push_at (h : Heap) (o : Obj) (f : o.isFreed = false) : (h.push o).get? h.objs.size = some o := Heap.get?_push_size _ f
/-- set(l) of a list of ints, with the table's form -/
theorem set_lstI {l : Addr} {items : Array Value} (ns : List Int) {Q : Value → Shared → Prop} (hh : A.handled = none) (hl : s.heap.IsList l items) (hi : IntsAre items.toList ns) (hb : ns.length + 1 < scanBound)
    (h : ∀ (h' : Heap) (tk c : Nat), SetR w h' s.heap.objs.size (fun j => decide (j ∈ ns)) c → c ≤ ns.length → (∀ b o, s.heap.get? b = some o → h'.get? b = some o) →
      Q (.ref s.heap.objs.size) { s with heap := h', toks := tk }) : wpAny (model P w) A (call (.type "set") [.ref l]) Q E s := by
  have size : items.size = ns.length := by
    have q := IntsAre.length hi
    rwa [Array.length_toList] at q
  obtain ⟨c, tl, mro⟩ := F.called_set.mro
  have made := F.called_set.made
  have isub := F.called_set.sub
  refine wpAny_call (codeAny_of_tree ?_)
  show wpAny _ _ (callAny (.type "set") ⟨[.ref l], []⟩) _ _ s
  refine wpAny_pure ⟨Code.quiet_builtin _ (by decide +kernel), codeAny_builtin F.entry_type_call ?_⟩
  rw [Around.under_plain (weight_type_call_type "set" [.ref l] []) rfl]
  have f1 := F.called_set.notType
  have f2 := F.called_set.canCreate
  have f3 := F.typeCall_set_1 (.ref l)
  repeat (any_goals (first | assumption | wp_step))

  refine codeAny_mono (code_set_led1 (.ref l) (E := E) (Q₁ := fun x t => x = .ref s.heap.objs.size ∧ t = { s with heap := s.heap.push (set0 w) }) ⟨rfl, rfl⟩) fun r t ht => ?_
  cases r with
  | error e => exact ht
  | ok fl =>
    cases fl with
    | ret obj =>
      obtain ⟨rfl, rfl⟩ := ht
      have at0 : (s.heap.push (set0 w)).get? s.heap.objs.size = some (set0 w) := push_at _ _ rfl
      have ty0 : Shared.TypeIs { s with heap := s.heap.push (set0 w) } (.ref s.heap.objs.size) "set" := ⟨_, at0, rfl⟩
      have i1 := F.called_set.init.lookup
      have i2 := F.called_set.init.bind (.ref s.heap.objs.size)
      repeat (any_goals (first | assumption | wp_step))

      refine codeAny_mono (codeAny_call_builtin (R := wants (Filled w s ns) E) F.called_set.init.plain F.entry_set_init (check_set_init_1 ty0 ?_)) fun r2 s2 h2 => ?_
      · obtain ⟨⟨oc, od, oda, osl⟩, ho, hc, nl, hd⟩ := hl
        simp only at hc hd
        subst hc; subst hd
        have atl : (s.heap.push (set0 w)).get? l = some ⟨.type "list", od, .seq items nl, osl⟩ := Heap.get?_push_of_some _ ho
        have g1 := F.sub_list_set
        have g2 := F.sub_list_frozenset
        have g3 : (Value.type "list" == Value.type "dict") = false := by decide
        have isl : (s.heap.push (set0 w)).IsList l items := ⟨_, atl, rfl, nl, rfl⟩
        unfold Builtin.«set.__init__» noKeywords Builtin.Frozenset.updateFrom
        generalize ePI : pyIter = PI
        wp_walk
        subst ePI
        refine wpAny_pyIter_list isl ?_
        refine wpAny_bind (wpAny_runValue ?_)
        have below : l < s.heap.objs.size := Heap.lt_size ho
        have calm3 : A.in1.in1.in1.handled = none := by simp [hh]
        have sz1 : (s.heap.push (set0 w)).objs.size = s.heap.objs.size + 1 := Heap.size_push ..
        have neI : l ≠ (s.heap.push (set0 w)).objs.size := Nat.ne_of_lt (by rw [sz1]; exact Nat.lt_succ_of_lt below)
        have notin : s.heap.objs.size ∉ [(s.heap.push (set0 w)).objs.size, l] := by
          rw [sz1]
          intro m
          rcases List.mem_cons.mp m with e | m
          · exact Nat.ne_of_lt (Nat.lt_succ_self _) e
          · exact Nat.ne_of_gt below (List.mem_singleton.mp m)
        have each : ∀ (i : Nat) (v : Value), items[i]? = some v → ∃ k t, ns[i]? = some k ∧ v = .int k t := fun i v hv => by
          obtain ⟨lt1, _⟩ := Array.getElem?_eq_some_iff.mp hv
          have lt2 : i < ns.length := by omega
          obtain ⟨t, e⟩ := PyProof.Rows.IntsAre.int_at hi i v (by rw [Array.getElem?_toList]; exact hv)
          refine ⟨ns[i], t, List.getElem?_eq_getElem lt2, ?_⟩
          rw [e, List.getD_eq_getElem?_getD, List.getElem?_eq_getElem lt2]
          rfl
        refine set_update_ints ((Walks.list calm3 _ l neI items).toS) s.heap.objs.size notin ns size hb each (items.size - 0) 0 _ (by omega) (Nat.zero_le _) ⟨⟨_, push_at _ _ rfl, rfl, rfl⟩, isl.push _⟩
          ⟨0, Nat.le_refl 0, setR_new_at (Heap.get?_push_of_some _ at0)⟩ fun s' c' moved le set => ?_
        obtain ⟨h', g', d', tk', os'⟩ := s'
        obtain rfl : g' = s.gens := moved.gens
        obtain rfl : d' = s.drawn := moved.drawn
        obtain rfl : os' = s.os := moved.os
        show wpAny _ _ _ _ _ _
        refine wpAny_pure ?_
        show wpAny _ _ (ret Value.none) _ _ _
        refine wpAny_pure ⟨rfl, h', tk', c', rfl, set, by omega, fun b o e => ?_⟩
        have b0 : b < s.heap.objs.size := Heap.lt_size e
        refine moved.heap b o ?_ (Heap.get?_push_of_some _ (Heap.get?_push_of_some _ e))
        rw [sz1]
        intro m
        rcases List.mem_cons.mp m with e | m
        · exact Nat.ne_of_lt b0 e
        · exact Nat.ne_of_lt (Nat.lt_succ_of_lt b0) (List.mem_singleton.mp m)
      · cases r2 with
        | error e => exact h2
        | ok f2 =>
          cases f2 with
          | ret r =>
            obtain ⟨rfl, h', tk, c', rfl, set, le, keep⟩ := h2
            repeat (any_goals (first | assumption | wp_step))
            exact h _ _ _ set le keep
          | _ => exact h2.elim
    | _ => exact ht.elim
end
section
variable {X : Cx}
/-- set(xs) of a list or tuple of ints -/
def rSetI (K : PySem.W.Frag) (w : World) : List V → Hp → VK → Prop := fun vs H Q => ∃ (p : Addr) (ns : List Int), vs = [V.ref p] ∧ (SqL K H p (ns.map V.int) ∨ SqT K H p (ns.map V.int)) ∧ ns.length ≤ 1000 ∧
  ∀ q c, c ≤ ns.length → H q = none → Q (.ref q) (upd H q (SetO w q (fun j => decide (j ∈ ns)) c))
theorem call_setI (hc : X.calm = true) : CallR X (.type "set") (rSetI X.K X.w) := by
  intro pins s σ H vs us Q I r h
  obtain ⟨p, ns, rfl, sq, le, q⟩ := h
  rw [Vals.ref1 r]
  have hd := I.ok.hd hc
  have free : H s.heap.objs.size = none := I.hok.fresh (Nat.le_refl _)
  have small : ns.length + 1 < scanBound := by
    unfold scanBound
    omega
  have fin : ∀ (h' : Heap) (tk c : Nat), SetR X.w h' s.heap.objs.size (fun j => decide (j ∈ ns)) c → c ≤ ns.length → (∀ b o, s.heap.get? b = some o → h'.get? b = some o) →
      EP X pins σ Q (.ref s.heap.objs.size) { s with heap := h', toks := tk } := fun h' tk c R lc k =>
    ⟨.ref s.heap.objs.size, upd H s.heap.objs.size (SetO X.w s.heap.objs.size (fun j => decide (j ∈ ns)) c), I.laid (t' := tk) k (Nat.le_refl _) (setO_new R), rfl, q _ c lc free⟩
  rcases sq with sq | sq
  · obtain ⟨its, rv, pl, _⟩ := I.list sq
    exact set_lstI ns hd pl.isList (ints_of_vals rv) small fin
  · obtain ⟨its, rv, pt, _⟩ := I.tuple sq
    exact call_set_tupI ns hd (show s.heap.IsTuple p its.toArray from pt) (ints_of_vals rv) small fin
/-- sorted(a) of a set of ints -/
def rSortSI (w : World) : List V → Hp → VK → Prop := fun vs H Q => ∃ (a : Addr) (S : Int → Bool) (n : Nat), vs = [V.ref a] ∧ H a = some (SetO w a S n) ∧ n ≤ 1000 ∧
  ∀ (ns : List Int) (p : Addr), ns.Pairwise (· < ·) → (∀ k, k ∈ ns ↔ S k = true) → ns.length ≤ 1000 → H p = none → Q (.ref p) (upd H p (.lst (ns.map V.int)))
theorem call_sortSI (hc : X.calm = true) : CallR X (.builtin "sorted") (rSortSI X.w) := by
  intro pins s σ H vs us Q I r h
  obtain ⟨a, S, n, rfl, ha, le, q⟩ := h
  rw [Vals.ref1 r]
  refine srt_setR (setO_get I ha) (I.ok.hd hc) fun s' p out c ns keep gen os hp at1 isI sorted mem len => ?_
  have lim : (ns.map V.int).length ≤ sizeLine := by
    rw [List.length_map]
    exact sz1000 (by omega)
  have free : H p = none := I.hok.fresh hp
  have J : Inv X pins σ (upd H p (.lst (ns.map V.int))) { s with heap := s'.heap, gens := s'.gens, drawn := s'.drawn, toks := s'.toks } :=
    I.call (ch := []) (Un.laid keep hp free) (I.hok.laid keep hp ⟨lim, out.toList, c, vals_of_ints isI, at1⟩) (by rw [gen]; exact I.bare) (fun _ z => nomatch z)
  obtain ⟨h', g', d', t', os'⟩ := s'
  obtain rfl : os' = s.os := os
  exact ⟨.ref p, _, J, rfl, q ns p sorted mem (by omega) free⟩
end
end RH
namespace RH
open PySem L2
/-! ### the numbers of one client: (upto, later) -/
/-- the form that only one pair has for a set of numbers -/
structure NF (u : Int) (l : List Int) : Prop where
  nn : 0 ≤ u
  asc : l.Pairwise (· < ·)
  gap : ∀ k ∈ l, u + 1 < k
def InP (u : Int) (l : List Int) (k : Int) : Prop := k ≤ u ∨ k ∈ l
def pkS (s : Int × List Int) (n : Int) : Int × List Int := if n = s.1 + 1 then (n, s.2) else if s.1 < n then (s.1, s.2 ++ [n]) else s
def pk (u : Int) (ns : List Int) : Int × List Int := ns.foldl pkS (u, [])
theorem pk_go : ∀ (ns : List Int) (s : Int × List Int), NF s.1 s.2 → ns.Pairwise (· < ·) → (∀ a ∈ s.2, ∀ b ∈ ns, a < b) →
    NF (ns.foldl pkS s).1 (ns.foldl pkS s).2 ∧ ∀ k, InP (ns.foldl pkS s).1 (ns.foldl pkS s).2 k ↔ InP s.1 s.2 k ∨ k ∈ ns
  | [], s, h, _, _ => ⟨h, fun k => by simp⟩
  | n :: ns, s, h, hp, hb => by
    obtain ⟨hn, hp2⟩ := List.pairwise_cons.mp hp
    have step : NF (pkS s n).1 (pkS s n).2 ∧ (∀ a ∈ (pkS s n).2, ∀ b ∈ ns, a < b) ∧ ∀ k, InP (pkS s n).1 (pkS s n).2 k ↔ InP s.1 s.2 k ∨ k = n := by
      obtain ⟨u, l⟩ := s
      have hl : ∀ a ∈ l, a < n := fun a ha => hb a ha n List.mem_cons_self
      have hlb : ∀ a ∈ l, ∀ b ∈ ns, a < b := fun a ha b hb2 => hb a ha b (List.mem_cons_of_mem _ hb2)
      have nn := h.nn
      unfold pkS InP
      dsimp only
      by_cases e : n = u + 1
      · rw [if_pos e]
        have hno : ∀ a, a ∉ l := fun a ha => by
          have h1 := h.gap a ha
          have h2 := hl a ha
          dsimp only at h1
          omega
        refine ⟨⟨by dsimp only at nn ⊢; omega, h.asc, fun k hk => absurd hk (hno k)⟩, hlb, fun k => ?_⟩
        dsimp only
        constructor
        · rintro (z | z)
          · by_cases q : k = n
            · exact .inr q
            · exact .inl (.inl (by omega))
          · exact .inl (.inr z)
        · rintro ((z | z) | z)
          · exact .inl (by omega)
          · exact .inr z
          · exact .inl (by omega)
      · rw [if_neg e]
        by_cases g : u < n
        · rw [if_pos g]
          refine ⟨⟨nn, List.pairwise_append.mpr ⟨h.asc, List.pairwise_singleton .., fun a ha b hb2 => by rw [List.mem_singleton.mp hb2]; exact hl a ha⟩, fun k hk => ?_⟩, fun a ha b hb2 => ?_, fun k => ?_⟩
          · rcases List.mem_append.mp hk with z | z
            · exact h.gap k z
            · rw [List.mem_singleton.mp z]
              dsimp only
              omega
          · rcases List.mem_append.mp ha with z | z
            · exact hlb a z b hb2
            · rw [List.mem_singleton.mp z]
              exact hn b hb2
          · dsimp only
            rw [List.mem_append, List.mem_singleton]
            exact or_assoc.symm
        · rw [if_neg g]
          refine ⟨h, hlb, fun k => ⟨.inl, ?_⟩⟩
          rintro (z | z)
          · exact z
          · exact .inl (by dsimp only; omega)
    obtain ⟨a, b, c⟩ := step
    obtain ⟨x, y⟩ := pk_go ns (pkS s n) a hp2 b
    refine ⟨x, fun k => ?_⟩
    rw [List.foldl_cons, y k, c k, List.mem_cons, or_assoc]
theorem pk_nf {u : Int} {ns : List Int} (h : 0 ≤ u) (hp : ns.Pairwise (· < ·)) : NF (pk u ns).1 (pk u ns).2 :=
  (pk_go ns (u, []) ⟨h, .nil, fun _ m => nomatch m⟩ hp (fun _ m => nomatch m)).1
theorem pk_in {u : Int} {ns : List Int} (h : 0 ≤ u) (hp : ns.Pairwise (· < ·)) (k : Int) : InP (pk u ns).1 (pk u ns).2 k ↔ k ≤ u ∨ k ∈ ns := by
  rw [show pk u ns = ns.foldl pkS (u, []) from rfl, (pk_go ns (u, []) ⟨h, .nil, fun _ m => nomatch m⟩ hp (fun _ m => nomatch m)).2 k]
  simp [InP]
/-- lists that ascend and have the same members are one -/
theorem asc_one : ∀ {a b : List Int}, a.Pairwise (· < ·) → b.Pairwise (· < ·) → (∀ k, k ∈ a ↔ k ∈ b) → a = b
  | [], [], _, _, _ => rfl
  | [], y :: b, _, _, h => absurd ((h y).mpr List.mem_cons_self) (fun z => nomatch z)
  | x :: a, [], _, _, h => absurd ((h x).mp List.mem_cons_self) (fun z => nomatch z)
  | x :: a, y :: b, ha, hb, h => by
    obtain ⟨h1, h2⟩ := List.pairwise_cons.mp ha
    obtain ⟨k1, k2⟩ := List.pairwise_cons.mp hb
    have e : x = y := by
      rcases List.mem_cons.mp ((h x).mp List.mem_cons_self) with z | z
      · exact z
      · rcases List.mem_cons.mp ((h y).mpr List.mem_cons_self) with w | w
        · exact w.symm
        · have := k1 x z
          have := h1 y w
          omega
    subst e
    rw [asc_one h2 k2 fun k => ?_]
    have q := h k
    rw [List.mem_cons, List.mem_cons] at q
    constructor
    · intro m
      rcases q.mp (.inr m) with z | z
      · have := h1 k m
        omega
      · exact z
    · intro m
      rcases q.mpr (.inr m) with z | z
      · have := k1 k m
        omega
      · exact z
/-- the same numbers from 1 on: the same pair -/
theorem nf_one {u v : Int} {l m : List Int} (a : NF u l) (b : NF v m) (h : ∀ k, 1 ≤ k → (InP u l k ↔ InP v m k)) : u = v ∧ l = m := by
  have up : ∀ {u v : Int} {l m : List Int}, NF u l → NF v m → (∀ k, 1 ≤ k → (InP u l k ↔ InP v m k)) → v ≤ u := fun {u v l m} a b h => by
    refine Int.not_lt.mp fun g => ?_
    rcases (h (u + 1) (by have := a.nn; omega)).mpr (.inl (by omega)) with z | z
    · omega
    · have := a.gap _ z
      omega
  have e : u = v := Int.le_antisymm (up b a fun k hk => (h k hk).symm) (up a b h)
  subst e
  refine ⟨rfl, asc_one a.asc b.asc fun k => ?_⟩
  constructor
  · intro z
    have g := a.gap k z
    rcases (h k (by have := a.nn; omega)).mp (.inr z) with w | w
    · omega
    · exact w
  · intro z
    have g := b.gap k z
    rcases (h k (by have := a.nn; omega)).mpr (.inr z) with w | w
    · omega
    · exact w
theorem pk_len : ∀ (ns : List Int) (s : Int × List Int), (ns.foldl pkS s).2.length ≤ s.2.length + ns.length
  | [], s => Nat.le_refl _
  | n :: ns, s => by
    have h := pk_len ns (pkS s n)
    have h2 : (pkS s n).2.length ≤ s.2.length + 1 := by
      unfold pkS
      split
      · exact Nat.le_succ _
      · split
        · simp
        · exact Nat.le_succ _
    rw [List.foldl_cons, List.length_cons]
    omega
end RH
namespace RH
open PySem L2
section
variable {K : PySem.W.Frag} {H H' : Hp} {σ : St} {Q : St → Hp → Prop}
theorem r_gtup {n : Nat} {t : TGs} {a : Addr} {xs : List V} (h : SqT K H a xs) (hl : xs.length = n) (q : t xs σ H Q) : gTup K n t (.ref a) σ H Q := ⟨a, xs, rfl, h, hl, q⟩
theorem r_gcons {t : TG} {u : TGs} {v : V} {vr : List V} (q : t v σ H fun σ1 H1 => u vr σ1 H1 Q) : gCons t u (v :: vr) σ H Q := ⟨v, vr, rfl, q⟩
theorem r_gnil (q : Q σ H) : gNil [] σ H Q := ⟨rfl, q⟩
/-- a client's pair (upto, later) -/
def RowAt (K : PySem.W.Frag) (H : Hp) (v : V) (u : Int) (l : List Int) : Prop := ∃ a b, v = .ref a ∧ SqT K H a [.int u, .ref b] ∧ SqT K H b (l.map V.int)
theorem RowAt.mono {v : V} {u : Int} {l : List Int} (h : RowAt K H v u l) (s : Same H H') : RowAt K H' v u l := by
  obtain ⟨a, b, rfl, h1, h2⟩ := h
  exact ⟨a, b, rfl, same_t s h1, same_t s h2⟩
end
/-- numbers of two pairs together -/
def InB (u v : Int) (l m : List Int) (k : Int) : Prop := InP u l k ∨ InP v m k
/-- the pair of a union: the only one of its numbers -/
theorem join_in {u v : Int} {l m so : List Int} (hu : 0 ≤ u) (hp : so.Pairwise (· < ·)) (hs : ∀ k, k ∈ so ↔ k ∈ l ++ m) (k : Int) : InP (pk (max u v) so).1 (pk (max u v) so).2 k ↔ InB u v l m k := by
  rw [pk_in (by omega) hp, hs k, List.mem_append]
  unfold InB InP
  constructor
  · rintro (z | z | z)
    · rcases Int.le_total u v with g | g
      · exact .inr (.inl (by omega))
      · exact .inl (.inl (by omega))
    · exact .inl (.inr z)
    · exact .inr (.inr z)
  · rintro ((z | z) | (z | z))
    · exact .inl (by omega)
    · exact .inr (.inl z)
    · exact .inl (by omega)
    · exact .inr (.inr z)
/-- _joined(row, other) -/
def spJoined (K : PySem.W.Frag) : Sp := fun vs H Q _ => ∃ (x y : V) (u v : Int) (l m : List Int), vs = [x, y] ∧ RowAt K H x u l ∧ RowAt K H y v m ∧ l.length + m.length ≤ 1000 ∧
  ∀ (so : List Int) q w H', so.Pairwise (· < ·) → (∀ k, k ∈ so ↔ k ∈ l ++ m) → Same H H' → H q = none → H' q = some (.tup [.int (pk (max u v) so).1, .ref w]) → H w = none → H' w = some (.tup ((pk (max u v) so).2.map V.int)) → Q (.ref q) H'
end RH
namespace RH
open PySem L2
/-! ### dict comprehensions over any walk -/
def DcGo (J : It) (g : TG) (tt : TT) (tk tv : TE) (vs : List Nat) (σ : St) (D : Addr) (Qd : Hp → Prop) (H1 : Hp) : Prop :=
  ∃ W : Nat → Nat → Hp → Prop, (∃ m, W 0 m (upd H1 D (.dK []))) ∧ ∀ i m H, W i m H →
    (J.stop i H ∧ Qd H) ∨ (J.go i H ∧ ∃ Nx : Hp → Prop, (∀ H', Nx H' → ∃ m', m' < m ∧ W (i + 1) m' H') ∧ ∀ x H', J.yld i H x H' → g x (wipe σ vs) H' fun σ2 H2 => wipe σ2 vs = wipe σ vs ∧ tt σ2 H2 fun b H3 =>
      if b = true then tk σ2 H3 fun y H4 => tv σ2 H4 fun z H5 => ∃ kvs k, y = kV k ∧ H5 D = some (.dK kvs) ∧ kvs.length < sizeLine ∧ Nx (upd H5 D (.dK (putK kvs k z))) else Nx H3)
theorem r_dc {wi : TI} {g : TG} {tt : TT} {tk tv : TE} {vs : List Nat} {σ : St} {H : Hp} {Q : VK} (h : wi σ H fun J H1 => ∀ D, H1 D = none → DcGo J g tt tk tv vs σ D (Q (.ref D)) H1) : tDc wi g tt tk tv vs σ H Q := h
theorem dc_it {J : It} {n : Nat} {G : Hp → Prop} {Y : Nat → Hp → V → Hp → Prop} (w : Walk J n G Y) {g : TG} {tt : TT} {tk tv : TE} {vs : List Nat} {σ : St} {H1 : Hp} {D : Addr} {Qd : Hp → Prop} (Pv : Nat → Hp → Prop) (h0 : Pv 0 (upd H1 D (.dK []))) (hG : ∀ i H, i ≤ n → Pv i H → G H)
    (hs : ∀ i x H H', i < n → Pv i H → Y i H x H' → g x (wipe σ vs) H' fun σ2 H2 => wipe σ2 vs = wipe σ vs ∧ tt σ2 H2 fun b H3 =>
      if b = true then tk σ2 H3 fun y H4 => tv σ2 H4 fun z H5 => ∃ kvs k, y = kV k ∧ H5 D = some (.dK kvs) ∧ kvs.length < sizeLine ∧ Pv (i + 1) (upd H5 D (.dK (putK kvs k z))) else Pv (i + 1) H3) (hd : ∀ H, Pv n H → Qd H) :
    DcGo J g tt tk tv vs σ D Qd H1 := by
  refine ⟨fun i m H => m = n - i ∧ i ≤ n ∧ Pv i H, ⟨n, by simp, Nat.zero_le _, h0⟩, ?_⟩
  rintro i m H ⟨rfl, hi, p⟩
  have q := hG i H hi p
  by_cases hlt : i < n
  · refine .inr ⟨w.goes i H hlt q, Pv (i + 1), fun H' p' => ⟨n - (i + 1), by omega, rfl, hlt, p'⟩, fun x H' y => hs i x H H' hlt p (w.yields i H x H' hlt q y)⟩
  · have e : i = n := by omega
    subst e
    exact .inl ⟨w.stops H q, hd H p⟩
/-- a block that captures nothing -/
theorem blkOk_nf {N : List Str} {sc scope : Scope} {own : List (Str × Nat)} (h : blkC N { kind := .function, names := [], isGenerator := false, isCoroutine := false } scope own = true) : BlkOk N sc scope own := by
  have b : BlkOk N { kind := .function, names := [], isGenerator := false, isCoroutine := false } scope own := blkOk_by h
  exact ⟨b.kind, b.uniq, b.ix, fun y hy e => (by rcases b.free y hy e with z | z <;> exact (nomatch z)), b.own⟩
section
variable {X : Cx} {K : PySem.W.Frag}
theorem pg_tupB {es : List Expr} {k : Nat} {pos : Pos} {t : TGs} {n : Nat} (hK : X.K = K) (hc : X.calm = true) (h : PGs X es t)
    (hn : (assignEach es X.env).length = n := by rfl) (hst : (assignEach es X.env).findIdx? (·.1) = none := by rfl) : PG X (.Tuple es k pos) (gTup K n t) := by
  subst hK
  exact pg_tup hc h hn hst
theorem pi_listB {tg l : Expr} {tl : TE} (hK : X.K = K) (hl : PE X l tl) : PI X tg l (iList K tl) := by
  subst hK
  exact pi_list hl
end
section
variable {K : PySem.W.Frag} {σ : St} {H : Hp} {Q : VK} {p q : Addr} {xs ys : List V}
theorem r_slice {r : V → Option Int → Option Int → Hp → VK → Prop} {te : TE} {tl th : TO} (h : te σ H fun x H1 => tl σ H1 fun l H2 => th σ H2 fun u H3 => r x l u H3 Q) : tSl r te tl th σ H Q := h
theorem r_part {te : TE} {Q : Option Int → Hp → Prop} (h : te σ H fun x H1 => ∃ i, x = V.int i ∧ Q (some i) H1) : tPart te σ H Q := h
theorem r_nopart {Q : Option Int → Hp → Prop} (h : Q none H) : tNoPart σ H Q := h
theorem r_yes {Q : Bool → Hp → Prop} (h : Q true H) : tYes σ H Q := h
theorem r_slL {lo hi : Option Int} (h : H p = some (.lst xs)) (k : ∀ l, H l = none → Q (.ref l) (upd H l (.lst (cutV xs lo hi)))) : rSlL K (.ref p) lo hi H Q := ⟨p, xs, rfl, SqL.of h, k⟩
theorem r_zip {ta : TA} {R : It → Hp → Prop} (h : ta σ H fun vs H1 => ∃ a b xs ys, vs = [V.ref a, .ref b] ∧ SqL K H1 a xs ∧ SqL K H1 b ys ∧ R (Itz K a b) H1) : iZip K ta σ H R := h
theorem r_list {tl : TE} {R : It → Hp → Prop} (h : tl σ H fun x H1 => ∃ a, x = V.ref a ∧ (∃ xs, SqL K H1 a xs) ∧ R (Itl K a) H1) : iList K tl σ H R := h
theorem r_cat (h1 : H p = some (.lst xs)) (h2 : H q = some (.lst ys)) (hl : xs.length + ys.length ≤ sizeLine) (k : ∀ l, H l = none → Q (.ref l) (upd H l (.lst (xs ++ ys)))) : rCat (.ref p) (.ref q) H Q := ⟨p, q, xs, ys, rfl, rfl, h1, h2, hl, k⟩
theorem cut_mem {lo hi : Option Int} {v : V} (h : v ∈ cutV xs lo hi) : v ∈ xs := by
  unfold cutV at h
  exact List.mem_of_mem_drop (List.mem_of_mem_take h)
end
/-- the two ints of the tuple at v -/
def kAt (H : Hp) : V → Int × Int
  | .ref t => match H t with
    | some (.tup [.int i, .int j]) => (i, j)
    | _ => (0, 0)
  | _ => (0, 0)
theorem kAt_at {H : Hp} {t : Addr} {d : Int × Int} (h : H t = some (.tup [.int d.1, .int d.2])) : kAt H (.ref t) = d := by
  unfold kAt
  dsimp only
  rw [h]
theorem paired_mem {α β : Type} {R : α → β → Prop} {as : List α} {bs : List β} (h : Paired R as bs) : ∀ a ∈ as, ∃ b ∈ bs, R a b := by
  induction h with
  | nil => exact fun _ m => nomatch m
  | cons r _ ih =>
    intro a ha
    rcases List.mem_cons.mp ha with rfl | ha
    · exact ⟨_, List.mem_cons_self, r⟩
    · obtain ⟨b, hb, q⟩ := ih a ha
      exact ⟨b, List.mem_cons_of_mem _ hb, q⟩
/-- a tuple of two ints at v, the same as long as all stays -/
def Tw (H : Hp) (v : V) : Prop := ∃ t i j, v = V.ref t ∧ H t = some (.tup [.int i, .int j])
/-- _rows_of(dots): a new dict, nothing that stood is changed -/
def spRows : Sp := fun vs H Q _ => ∃ (p : Addr) (xs : List V), vs = [.ref p] ∧ H p = some (.lst xs) ∧ (∀ x ∈ xs, Tw H x) ∧ xs.length ≤ 900 ∧
  ∀ D kvs H', Same H H' → H D = none → H' D = some (.dK kvs) → Q (.ref D) H'
/-- the starts: the places i that pass the test -/
theorem starts_of {n : Nat} {b : Nat → Bool} {v : V} (h : v ∈ ((((List.range n).map fun i => (b i, V.int (i : Int))).filter (·.1)).map (·.2))) : ∃ i : Nat, i < n ∧ v = .int i := by
  obtain ⟨z, hz, rfl⟩ := List.mem_map.mp h
  obtain ⟨y, hy, rfl⟩ := List.mem_map.mp (List.mem_filter.mp hz).1
  exact ⟨y, List.mem_range.mp hy, rfl⟩
end RH
namespace RH
open PySem L2
def top (i : Nat) : Stmt := PySem.Challenge.pw_ringheld_k01_integers_and_texts.main.body.getD i (.Pass ⟨0, 0, 0, 0⟩)
abbrev s_law : Stmt := top 26
theorem sc_law : FnScope ["script", "place", "row", "kind", "thing", "before"] ["script"] (defScope s_law) := ⟨rfl, rfl, rfl, by decide +kernel, rfl, by decide +kernel, by decide +kernel⟩
abbrev s_is_text : Stmt := top 6
theorem sc_is_text : FnScope ["thing", "sign"] ["thing"] (defScope s_is_text) := ⟨rfl, rfl, rfl, by decide +kernel, rfl, by decide +kernel, by decide +kernel⟩
abbrev s__is_sign : Stmt := top 8
theorem sc__is_sign : FnScope ["sign"] ["sign"] (defScope s__is_sign) := ⟨rfl, rfl, rfl, by decide +kernel, rfl, by decide +kernel, by decide +kernel⟩
abbrev s_is_number : Stmt := top 5
theorem sc_is_number : FnScope ["thing"] ["thing"] (defScope s_is_number) := ⟨rfl, rfl, rfl, by decide +kernel, rfl, by decide +kernel, by decide +kernel⟩
abbrev s_is_integer : Stmt := top 4
theorem sc_is_integer : FnScope ["thing"] ["thing"] (defScope s_is_integer) := ⟨rfl, rfl, rfl, by decide +kernel, rfl, by decide +kernel, by decide +kernel⟩
abbrev s_is_item : Stmt := top 7
theorem sc_is_item : FnScope ["thing"] ["thing"] (defScope s_is_item) := ⟨rfl, rfl, rfl, by decide +kernel, rfl, by decide +kernel, by decide +kernel⟩
abbrev s__law_whole : Stmt := top 19
theorem sc__law_whole : FnScope ["row", "kind", "sign"] ["row"] (defScope s__law_whole) := ⟨rfl, rfl, rfl, by decide +kernel, rfl, by decide +kernel, by decide +kernel⟩
abbrev s__law_draw : Stmt := top 17
theorem sc__law_draw : FnScope ["row", "bound", "digit", "first", "second"] ["row", "bound"] (defScope s__law_draw) := ⟨rfl, rfl, rfl, by decide +kernel, rfl, by decide +kernel, by decide +kernel⟩
abbrev s__law_string : Stmt := top 20
theorem sc__law_string : FnScope ["row", "size", "chars", "k"] ["row"] (defScope s__law_string) := ⟨rfl, rfl, rfl, by decide +kernel, rfl, by decide +kernel, by decide +kernel⟩
abbrev s__law_char : Stmt := top 18
theorem sc__law_char : FnScope ["draw", "chars"] ["draw"] (defScope s__law_char) := ⟨rfl, rfl, rfl, by decide +kernel, rfl, by decide +kernel, by decide +kernel⟩
abbrev s__law_said : Stmt := top 24
theorem sc__law_said : FnScope ["actual", "due"] ["actual", "due"] (defScope s__law_said) := ⟨rfl, rfl, rfl, by decide +kernel, rfl, by decide +kernel, by decide +kernel⟩
abbrev s__law_other : Stmt := top 25
theorem sc__law_other : FnScope ["row", "kind", "thing", "k"] ["row"] (defScope s__law_other) := ⟨rfl, rfl, rfl, by decide +kernel, rfl, by decide +kernel, by decide +kernel⟩
abbrev s_Clock___init__ : Stmt := inClass (top 11) 0
theorem sc_Clock___init__ : FnScope ["self", "dots"] ["self", "dots"] (defScope s_Clock___init__) := ⟨rfl, rfl, rfl, by decide +kernel, rfl, by decide +kernel, by decide +kernel⟩
abbrev s__rows_of : Stmt := top 12
theorem sc__rows_of : FnScope ["dots", "ordered", "starts", "ends", "at", "start", "end", "client", "number"] ["dots"] (defScope s__rows_of) := ⟨rfl, rfl, rfl, by decide +kernel, rfl, by decide +kernel, by decide +kernel⟩
abbrev s__packed : Stmt := top 13
theorem sc__packed : FnScope ["upto", "numbers", "later", "number"] ["upto", "numbers"] (defScope s__packed) := ⟨rfl, rfl, rfl, by decide +kernel, rfl, by decide +kernel, by decide +kernel⟩
abbrev s__law_open : Stmt := top 16
theorem sc__law_open : FnScope ["script", "place", "cell"] ["script", "place"] (defScope s__law_open) := ⟨rfl, rfl, rfl, by decide +kernel, rfl, by decide +kernel, by decide +kernel⟩
abbrev s__law_is_text : Stmt := top 23
theorem sc__law_is_text : FnScope ["thing"] ["thing"] (defScope s__law_is_text) := ⟨rfl, rfl, rfl, by decide +kernel, rfl, by decide +kernel, by decide +kernel⟩
abbrev s__law_is_number : Stmt := top 22
theorem sc__law_is_number : FnScope ["thing"] ["thing"] (defScope s__law_is_number) := ⟨rfl, rfl, rfl, by decide +kernel, rfl, by decide +kernel, by decide +kernel⟩
abbrev s__law_is_integer : Stmt := top 21
theorem sc__law_is_integer : FnScope ["thing"] ["thing"] (defScope s__law_is_integer) := ⟨rfl, rfl, rfl, by decide +kernel, rfl, by decide +kernel, by decide +kernel⟩
structure Txt (K : PySem.W.Frag) (mg : Str → Option Value) : Prop where
  g_LIMIT : ∃ u, mg "LIMIT" = some u ∧ RelV (.int (1000000000000)) u
  g_TEXT_LENGTH : ∃ u, mg "TEXT_LENGTH" = some u ∧ RelV (.int (60)) u
  z_abs : mg "abs" = none
  z_all : mg "all" = none
  z_bool : mg "bool" = none
  z_int : mg "int" = none
  z_isinstance : mg "isinstance" = none
  z_len : mg "len" = none
  z_list : mg "list" = none
  z_min : mg "min" = none
  z_ord : mg "ord" = none
  z_range : mg "range" = none
  z_repr : mg "repr" = none
  z_set : mg "set" = none
  z_sorted : mg "sorted" = none
  z_str : mg "str" = none
  z_tuple : mg "tuple" = none
  z_type : mg "type" = none
  z_zip : mg "zip" = none
end RH
namespace RH
open PySem L2
local macro_rules | `(tactic| walk_at "rdh") => `(tactic| first | assumption | exact upd_same | (rw [upd_ne (by assumption)]; assumption) | (rw [upd_ne (Ne.symm (by assumption))]; assumption))
local macro_rules | `(tactic| walk_at "rdc") => `(tactic| first | assumption | decide | omega | exact cmul_r (by decide) (by decide) | exact cmul_l (by decide) (by decide) | exact cpow (by decide) (by decide) (by decide) | exact cdiv (by decide) (by decide) | exact wide_div (b := 200) (by assumption) (by omega) (by decide) (by decide) | exact cmul_r (by omega) (by omega) | exact cmul_l (by omega) (by omega))
local macro_rules | `(tactic| walk_at "rd1") => `(tactic| first
  | with_reducible apply r_op | ((with_reducible apply r_var); exact rfl) | with_reducible apply r_c | with_reducible apply r_cons | with_reducible apply r_nil | with_reducible apply r_I0
  | with_reducible apply r_seq | with_reducible apply r_asg | with_reducible apply r_name | with_reducible apply r_cb | with_reducible apply r_test | with_reducible apply r_k
  | with_reducible apply r_ifS | with_reducible apply r_call | with_reducible apply r_ret | ((with_reducible apply r_I); walk_at "rdc") | ((with_reducible apply r_eq); exact rfl) | ((with_reducible apply r_ne); exact rfl)
  | ((with_reducible apply r_ixL); walk_at "rdh"; exact rfl) | ((with_reducible apply r_ixT); walk_at "rdh"; exact rfl) | with_reducible apply r_sub | ((with_reducible apply r_setL); walk_at "rdh"; exact rfl)
  | with_reducible apply r_un | with_reducible apply r_U | with_reducible apply r_B | with_reducible apply r_and | with_reducible apply r_or | with_reducible apply r_not
  | with_reducible apply r_andV | with_reducible apply r_orV | with_reducible apply r_notV | with_reducible apply r_if | with_reducible apply r_tup | with_reducible apply r_lst
  | ((with_reducible apply r_ixgT); walk_at "rdh"; exact rfl) | ((with_reducible apply r_ixgL); walk_at "rdh"; exact rfl)
  | with_reducible apply r_next | with_reducible apply r_drop | with_reducible apply r_int1 | with_reducible apply r_chain | with_reducible apply r_ord | with_reducible apply r_abs | with_reducible apply r_min2 | with_reducible apply r_max2
  | with_reducible apply r_leStr | with_reducible apply r_inSign | with_reducible apply r_notInSign | ((with_reducible apply r_isTy); assumption)
  | ((with_reducible apply r_lenL); walk_at "rdh") | ((with_reducible apply r_lenT); walk_at "rdh")
  | refine Rep.typ (by assumption) (fun _ _ => ?_) | refine r_isi (by assumption) (by assumption) (by decide) ?_)
local macro_rules | `(tactic| walk_at "rd") => `(tactic| repeat walk_at "rd1")

section
variable {P : Program} {w : World} {K : PySem.W.Frag} {mg : Str → Option Value} {base : Heap} {CC : Addr → Prop}
theorem ok__law_draw {f : Addr} {fd : FuncData} (F : Fun K "_law_draw" "_law_draw" s__law_draw f fd) (T : Txt K mg) : FnOk P w K mg base CX0 1 f fd ["row", "bound"] sp_draw := by
  refine F.ok sc__law_draw (fun vs H Q E h => ?_) (fun cdv A outer s H vs Q E hr h => ?_)
  · obtain ⟨r, n, rfl, _⟩ := h
    rfl
  · obtain ⟨r, n, rfl, hn, hb, ⟨a, b, c, e⟩, q⟩ := h
    refine ⟨_, (pss_cons (ps_if (pt_cmpR op_gt (pe_ix ix_list (pv 0) pe_int (fun _ _ => rfl)) pe_int (nomark _))
 (pss_cons (ps_set (i := 2) sc__law_draw.nd rfl (Or.inl rfl) (pe_op op_mod (pe_callTy call_int1G rfl T.z_int (by decide +kernel) (pa_cons (pe_ix ix_list (pv 0) pe_int (fun _ _ => rfl)) pa_nil)) (pv 1)))
 (pss_cons (ps_asg (pe_op op_fdivW (pe_ix ix_list (pv 0) pe_int (fun _ _ => rfl)) (pv 1)) (pg_sub (pv 0) pe_int set_list))
 (pss_one (ps_ret (pv 2)))))
 pss_nil)
 (pss_cons (ps_asg (pe_op op_add (pe_ix ix_list (pv 0) pe_int (fun _ _ => rfl)) pe_int) (pg_sub (pv 0) pe_int set_list))
 (pss_cons (ps_set (i := 3) sc__law_draw.nd rfl (Or.inl rfl) (pe_op op_mod (pe_callTy call_int1G rfl T.z_int (by decide +kernel) (pa_cons (pe_op op_add (pe_op op_add (pe_op op_mul (pe_ix ix_list (pv 0) pe_int (fun _ _ => rfl)) pe_int) (pe_op op_mul (pe_ix ix_list (pv 0) pe_int (fun _ _ => rfl)) pe_int)) pe_int) pa_nil)) pe_int))
 (pss_cons (ps_set (i := 4) sc__law_draw.nd rfl (Or.inl rfl) (pe_op op_mod (pe_callTy call_int1G rfl T.z_int (by decide +kernel) (pa_cons (pe_op op_add (pe_op op_mul (pv 3) (pv 3)) (pe_op op_mul (pe_ix ix_list (pv 0) pe_int (fun _ _ => rfl)) pe_int)) pa_nil)) pe_int))
 (pss_cons (ps_set (i := 3) sc__law_draw.nd rfl (Or.inl rfl) (pe_op op_mod (pe_callTy call_int1G rfl T.z_int (by decide +kernel) (pa_cons (pe_op op_add (pe_op op_mul (pv 4) pe_int) (pv 3)) pa_nil)) pe_int))
 (pss_one (ps_ret (pe_op op_mod (pe_callTy call_int1G rfl T.z_int (by decide +kernel) (pa_cons (pe_op op_fdiv (pe_op op_add (pe_op op_mul (pv 3) pe_int) (pv 4)) pe_int) pa_nil)) (pv 1))))))))), ?_⟩
    walk_at "rd"
    refine ite2 (fun h => ?_) (fun h => ?_)
    · have hb2 : n.natAbs < 2 ^ 200 := by omega
      walk_at "rd"
      exact q _ _ (Int.emod_nonneg _ (by omega)) (Int.emod_lt_of_pos _ hn) Fr.row ⟨_, _, _, upd_same⟩
    · walk_at "rd"
      exact q _ _ (Int.emod_nonneg _ (by omega)) (Int.emod_lt_of_pos _ hn) Fr.row ⟨_, _, _, upd_same⟩
theorem ok__law_open {f : Addr} {fd : FuncData} (F : Fun K "_law_open" "_law_open" s__law_open f fd) (T : Txt K mg) : FnOk P w K mg base CX0 1 f fd ["script", "place"] (sp_open K) := by
  refine F.ok sc__law_open (fun vs H Q E h => ?_) (fun cdv A outer s H vs Q E hr h => ?_)
  · obtain ⟨a, ns, i, rfl, _⟩ := h
    rfl
  · obtain ⟨a, ns, i, rfl, hS, hl, q⟩ := h
    refine ⟨_, (pss_cons (ps_set (i := 2) sc__law_open.nd rfl (Or.inl rfl) pe_int)
 (C8.pss_cut (ps_if (pt_cmpR op_gt (pe_callB call_lenG rfl T.z_len (by decide +kernel) (pa_cons (pv 0) pa_nil)) pe_int (nomark _))
 (pss_one (ps_set (i := 2) sc__law_open.nd rfl (Or.inl rfl) (pe_callB call_absG rfl T.z_abs (by decide +kernel) (pa_cons (pe_ix ix_list (pv 0) (pe_op op_mod (pe_callTy call_int1G rfl T.z_int (by decide +kernel) (pa_cons (pv 1) pa_nil)) (pe_callB call_lenG rfl T.z_len (by decide +kernel) (pa_cons (pv 0) pa_nil))) (fun _ _ => rfl)) pa_nil))))
 pss_nil)
 (pss_cons (ps_if (PW.pt (pw_and (pt_cmpR op_lt (pv 1) (pe_callB call_lenG rfl T.z_len (by decide +kernel) (pa_cons (pv 0) pa_nil)) (nomark _)) (pw_and1 (pt_cmpR op_ge (pv 2) (pe_op op_pow pe_int pe_int) (nomark _)))))
 (pss_one (ps_ret (pe_lst (pa_cons (pe_op op_sub (pv 2) (pe_op op_pow pe_int pe_int)) (pa_cons (pv 2) (pa_cons pe_int pa_nil))))))
 pss_nil)
 (pss_one (ps_ret (pe_lst (pa_cons pe_int (pa_cons (pe_op op_add (pv 2) (pe_op op_mul pe_int (pv 1))) (pa_cons pe_int pa_nil))))))))), ?_⟩
    walk_at "rd"
    refine r_cut (fun σ' H' => ∃ c : Int, σ' = [some (.ref a), some (.int i), some (.int c)] ∧ H' = H) ?_ ?_
    · walk_at "rd"
      refine r_lenQ hS ?_
      walk_at "rd"
      rw [List.length_map]
      refine ite2 (fun h => ?_) (fun h => ?_)
      · have h0 : (0 : Int) < ns.length := by have := of_decide_eq_true h; omega
        walk_at "rd"
        refine r_lenQ hS ?_
        rw [List.length_map]
        walk_at "rd"
        have h1 := Int.emod_nonneg i (show (ns.length : Int) ≠ 0 by omega)
        have h2 := Int.emod_lt_of_pos i h0
        obtain ⟨m, hm⟩ : ∃ m : Nat, i % (ns.length : Int) = (m : Int) := ⟨(i % (ns.length : Int)).toNat, by omega⟩
        rw [hm]
        have hlt : m < ns.length := by omega
        have hget : (ns.map V.int)[m]? = some (V.int ns[m]) := by
          rw [List.getElem?_map, List.getElem?_eq_getElem hlt]
          rfl
        refine r_ixQ hS (atI_nat hget) ?_
        walk_at "rd"
        exact ⟨_, rfl, rfl⟩
      · walk_at "rd"
        exact ⟨5, rfl, rfl⟩
    · rintro σ' H' ⟨c, rfl, rfl⟩
      walk_at "rd"
      refine r_lenQ hS ?_
      walk_at "rd"
      have fin : ∀ u v : Int, ∀ r, H' r = none → Q (.ref r) (upd H' r (.lst [.int u, .int v, .int 0])) := fun u v r hr => q r _ hr (same_new hr) ⟨_, _, _, upd_same⟩
      refine ite2 (fun h => ?_) (fun h => ?_)
      · walk_at "rd"
        refine ite2 (fun h => ?_) (fun h => ?_)
        · walk_at "rd"
          exact ⟨sz3, fin _ _⟩
        · walk_at "rd"
          exact ⟨sz3, fin _ _⟩
      · refine iteF ?_
        walk_at "rd"
        exact ⟨sz3, fin _ _⟩
theorem ok__law_char {f : Addr} {fd : FuncData} (F : Fun K "_law_char" "_law_char" s__law_char f fd) (T : Txt K mg) : FnOk P w K mg base CX0 1 f fd ["draw"] sp_char := by
  refine F.ok sc__law_char (fun vs H Q E h => ?_) (fun cdv A outer s H vs Q E hr h => ?_)
  · obtain ⟨i, rfl, _⟩ := h
    rfl
  · obtain ⟨i, rfl, q⟩ := h
    refine ⟨_, (pss_cons (ps_set (i := 1) sc__law_char.nd rfl (Or.inl rfl) pe_str)
 (pss_cons (ps_set (i := 1) sc__law_char.nd rfl (Or.inl rfl) (pe_op op_addStrG (pv 1) pe_str))
 (pss_one (ps_ret (pe_ix ix_str (pv 1) (pe_op op_mod (pe_callTy call_int1G rfl T.z_int (by decide +kernel) (pa_cons (pv 0) pa_nil)) pe_int) (fun _ _ => rfl)))))), ?_⟩
    walk_at "rd"
    refine r_addStr (by decide +kernel) ?_
    walk_at "rd"
    refine r_char i q
theorem ok__law_whole {f : Addr} {fd : FuncData} (F : Fun K "_law_whole" "_law_whole" s__law_whole f fd) (T : Txt K mg) (c__law_draw : C8.Cal P w K mg base 1 "_law_draw" sp_draw []) : FnOk P w K mg base CX0 2 f fd ["row"] sp_int := by
  refine F.ok sc__law_whole (fun vs H Q E h => ?_) (fun cdv A outer s H vs Q E hr h => ?_)
  · obtain ⟨i, rfl, _⟩ := h
    rfl
  · obtain ⟨r, rfl, row, q⟩ := h
    refine ⟨_, (pss_cons (ps_set (i := 1) sc__law_whole.nd rfl (Or.inl rfl) (C8.pe_c c__law_draw hr (by decide) rfl (pa_cons (pv 0) (pa_cons pe_int pa_nil))))
 (pss_cons (ps_set (i := 2) sc__law_whole.nd rfl (Or.inl rfl) pe_int)
 (C8.pss_cut (ps_if (pt_cmpR op_eq (C8.pe_c c__law_draw hr (by decide) rfl (pa_cons (pv 0) (pa_cons pe_int pa_nil))) pe_int (nomark _))
 (pss_one (ps_set (i := 2) sc__law_whole.nd rfl (Or.inl rfl) (pe_un un_neg pe_int)))
 pss_nil)
 (pss_cons (ps_if (pt_cmpR op_eq (pv 1) pe_int (nomark _))
 (pss_one (ps_ret (pe_op op_mul (pv 2) (pe_op op_sub (pe_op op_add (pe_op op_pow pe_int pe_int) (C8.pe_c c__law_draw hr (by decide) rfl (pa_cons (pv 0) (pa_cons pe_int pa_nil)))) pe_int))))
 pss_nil)
 (pss_cons (ps_if (pt_cmpR op_eq (pv 1) pe_int (nomark _))
 (pss_one (ps_ret (pe_op op_mul (pv 2) (C8.pe_c c__law_draw hr (by decide) rfl (pa_cons (pv 0) (pa_cons (pe_op op_add (pe_op op_pow pe_int pe_int) pe_int) pa_nil))))))
 pss_nil)
 (pss_cons (ps_if (pt_cmpR op_eq (pv 1) pe_int (nomark _))
 (pss_one (ps_ret (pe_op op_mul (pv 2) (C8.pe_c c__law_draw hr (by decide) rfl (pa_cons (pv 0) (pa_cons (pe_op op_pow pe_int pe_int) pa_nil))))))
 pss_nil)
 (pss_one (ps_ret (pe_op op_mul (pv 2) (C8.pe_c c__law_draw hr (by decide) rfl (pa_cons (pv 0) (pa_cons pe_int pa_nil)))))))))))), ?_⟩
    walk_at "rd"
    refine r_draw row (by decide) (by decide) fun d1 H1 l1 u1 f1 row1 => ?_
    walk_at "rd"
    refine r_cut (fun σ' H' => ∃ c : Int, σ' = [some (.ref r), some (.int d1), some (.int c)] ∧ (c = 1 ∨ c = -1) ∧ Fr r H H' ∧ Row H' r) ?_ ?_
    · walk_at "rd"
      refine r_draw row1 (by decide) (by decide) fun d2 H2 l2 u2 f2 row2 => ?_
      walk_at "rd"
      refine ite2 (fun h => ?_) (fun h => ?_)
      · walk_at "rd"
        exact ⟨-1, rfl, .inr rfl, f1.trans f2, row2⟩
      · walk_at "rd"
        exact ⟨1, rfl, .inl rfl, f1.trans f2, row2⟩
    · rintro σ' H2 ⟨c, rfl, hc, f2, row2⟩
      have c1 : -(2 ^ 64) < c := by omega
      have c2 : c < 2 ^ 64 := by omega
      walk_at "rd"
      refine ite2 (fun h => ?_) (fun h => ?_)
      · walk_at "rd"
        refine r_draw row2 (by decide) (by decide) fun d3 H3 l3 u3 f3 row3 => ?_
        walk_at "rd"
        exact q _ _ (f2.trans f3) row3
      · walk_at "rd"
        refine ite2 (fun h => ?_) (fun h => ?_)
        · walk_at "rd"
          refine r_draw row2 (by decide) (by decide) fun d3 H3 l3 u3 f3 row3 => ?_
          walk_at "rd"
          exact q _ _ (f2.trans f3) row3
        · walk_at "rd"
          refine ite2 (fun h => ?_) (fun h => ?_)
          · walk_at "rd"
            refine r_draw row2 (by decide) (by decide) fun d3 H3 l3 u3 f3 row3 => ?_
            walk_at "rd"
            exact q _ _ (f2.trans f3) row3
          · walk_at "rd"
            refine r_draw row2 (by decide) (by decide) fun d3 H3 l3 u3 f3 row3 => ?_
            walk_at "rd"
            exact q _ _ (f2.trans f3) row3
end
end RH
namespace RH
open PySem L2
local macro_rules | `(tactic| walk_at "rdh") => `(tactic| first | assumption | exact upd_same | (rw [upd_ne (by assumption)]; assumption) | (rw [upd_ne (Ne.symm (by assumption))]; assumption))
local macro_rules | `(tactic| walk_at "rdc") => `(tactic| first | assumption | decide | omega | exact cmul_r (by decide) (by decide) | exact cmul_l (by decide) (by decide) | exact cpow (by decide) (by decide) (by decide) | exact cdiv (by decide) (by decide) | exact wide_div (b := 200) (by assumption) (by omega) (by decide) (by decide) | exact cmul_r (by omega) (by omega) | exact cmul_l (by omega) (by omega))
local macro_rules | `(tactic| walk_at "rd1") => `(tactic| first
  | with_reducible apply r_op | ((with_reducible apply r_var); exact rfl) | with_reducible apply r_c | with_reducible apply r_cons | with_reducible apply r_nil | with_reducible apply r_I0
  | with_reducible apply r_seq | with_reducible apply r_asg | with_reducible apply r_name | with_reducible apply r_cb | with_reducible apply r_test | with_reducible apply r_k
  | with_reducible apply r_ifS | with_reducible apply r_call | with_reducible apply r_ret | ((with_reducible apply r_I); walk_at "rdc") | ((with_reducible apply r_eq); exact rfl) | ((with_reducible apply r_ne); exact rfl)
  | ((with_reducible apply r_ixL); walk_at "rdh"; exact rfl) | ((with_reducible apply r_ixT); walk_at "rdh"; exact rfl) | with_reducible apply r_sub | ((with_reducible apply r_setL); walk_at "rdh"; exact rfl)
  | with_reducible apply r_un | with_reducible apply r_U | with_reducible apply r_B | with_reducible apply r_and | with_reducible apply r_or | with_reducible apply r_not
  | with_reducible apply r_andV | with_reducible apply r_orV | with_reducible apply r_notV | with_reducible apply r_if | with_reducible apply r_tup | with_reducible apply r_lst
  | ((with_reducible apply r_ixgT); walk_at "rdh"; exact rfl) | ((with_reducible apply r_ixgL); walk_at "rdh"; exact rfl)
  | with_reducible apply r_next | with_reducible apply r_drop | with_reducible apply r_int1 | with_reducible apply r_chain | with_reducible apply r_ord | with_reducible apply r_abs | with_reducible apply r_min2 | with_reducible apply r_max2
  | with_reducible apply r_leStr | with_reducible apply r_inSign | with_reducible apply r_notInSign | ((with_reducible apply r_isTy); assumption)
  | ((with_reducible apply r_lenL); walk_at "rdh") | ((with_reducible apply r_lenT); walk_at "rdh")
  | refine Rep.typ (by assumption) (fun _ _ => ?_) | refine r_isi (by assumption) (by assumption) (by decide) ?_)
local macro_rules | `(tactic| walk_at "rd") => `(tactic| repeat walk_at "rd1")

section
variable {P : Program} {w : World} {K : PySem.W.Frag} {mg : Str → Option Value} {base : Heap} {CC : Addr → Prop}
theorem ok__law_string {f : Addr} {fd : FuncData} (F : Fun K "_law_string" "_law_string" s__law_string f fd) (T : Txt K mg) (c__law_draw : C8.Cal P w K mg base 1 "_law_draw" sp_draw []) (c__law_char : C8.Cal P w K mg base 1 "_law_char" sp_char []) : FnOk P w K mg base CX0 2 f fd ["row"] sp_str := by
  refine F.ok sc__law_string (fun vs H Q E h => ?_) (fun cdv A outer s H vs Q E hr h => ?_)
  · obtain ⟨i, rfl, _⟩ := h
    rfl
  · obtain ⟨r, rfl, row, q⟩ := h
    refine ⟨_, (pss_cons (ps_set (i := 1) sc__law_string.nd rfl (Or.inl rfl) (C8.pe_c c__law_draw hr (by decide) rfl (pa_cons (pv 0) (pa_cons pe_int pa_nil))))
 (C8.pss_cut (ps_if (pt_cmpR op_eq (C8.pe_c c__law_draw hr (by decide) rfl (pa_cons (pv 0) (pa_cons pe_int pa_nil))) pe_int (nomark _))
 (pss_one (ps_set (i := 1) sc__law_string.nd rfl (Or.inl rfl) (pe_ix ix_tup (pe_tup (pa_cons pe_int (pa_cons pe_int (pa_cons pe_int (pa_cons pe_int (pa_cons pe_int (pa_cons pe_int (pa_cons pe_int (pa_cons pe_int pa_nil))))))))) (C8.pe_c c__law_draw hr (by decide) rfl (pa_cons (pv 0) (pa_cons pe_int pa_nil))) (fun _ _ => rfl))))
 pss_nil)
 (pss_cons (ps_setLc (i := 2) (own := [("k", 3)]) rfl sc__law_string.nd rfl rfl (sw_true rfl rfl rfl (by decide +kernel)) (pi_range1 rfl T.z_range (pa_cons (pv 1) pa_nil)) (blkOk_by (sc := defScope s__law_string) (N := ["row", "size", "chars", "k"]) (by decide +kernel)) (fun _ _ _ _ _ => (pg_name (i := 3) sc__law_string.nd rfl (Or.inl rfl))) (fun _ _ _ _ _ => pts_nil) (fun _ _ _ _ _ => (C8.pe_c c__law_char hr (by decide) rfl (pa_cons (C8.pe_c c__law_draw hr (by decide) rfl (pa_cons (pv 0) (pa_cons pe_int pa_nil))) pa_nil))))
 (C8.pss_cut (ps_if (PW.pt (pw_and (pt_cmpR op_gt (pv 1) pe_int (nomark _)) (pw_and1 (pt_cmpR op_eq (C8.pe_c c__law_draw hr (by decide) rfl (pa_cons (pv 0) (pa_cons pe_int pa_nil))) pe_int (nomark _)))))
 (pss_one (ps_asg (pe_ix ix_tup (pe_tup (pa_cons pe_str (pa_cons pe_str pa_nil))) (C8.pe_c c__law_draw hr (by decide) rfl (pa_cons (pv 0) (pa_cons pe_int pa_nil))) (fun _ _ => rfl)) (pg_sub (pv 2) (C8.pe_c c__law_draw hr (by decide) rfl (pa_cons (pv 0) (pa_cons (pv 1) pa_nil))) set_list)))
 pss_nil)
 (pss_one (ps_ret (pe_joinG pe_str (pv 2)))))))), ?_⟩
    walk_at "rd"
    refine r_draw row (by decide) (by decide) fun d1 H1 l1 u1 f1 row1 => ?_
    walk_at "rd"
    refine r_cut (fun σ' H' => ∃ c : Int, σ' = [some (.ref r), some (.int c), none, none] ∧ 0 ≤ c ∧ c ≤ 62 ∧ Fr r H H' ∧ Row H' r) ?_ ?_
    · walk_at "rd"
      refine r_draw row1 (by decide) (by decide) fun d2 H2 l2 u2 f2 row2 => ?_
      walk_at "rd"
      refine ite2 (fun h => ?_) (fun h => ?_)
      · walk_at "rd"
        refine ⟨szL rfl, fun p hp => ?_⟩
        walk_at "rd"
        refine r_draw (row2.upd hp) (by decide) (by decide) fun d3 H3 l3 u3 f3 row3 => ?_
        have pr : p ≠ r := fun z => row2.ne (z ▸ hp)
        have hT := f3 p _ pr upd_same
        obtain ⟨v, hv, e⟩ := atI_in (xs := [.int 0, .int 1, .int 19, .int 20, .int 21, .int 59, .int 60, .int 61]) l3 u3
        refine r_ixT hT e ?_
        walk_at "rd"
        have : ∃ c : Int, v = .int c ∧ 0 ≤ c ∧ c ≤ 62 := by
          simp only [List.mem_cons, List.not_mem_nil, or_false] at hv
          rcases hv with rfl | rfl | rfl | rfl | rfl | rfl | rfl | rfl <;> exact ⟨_, rfl, by decide, by decide⟩
        obtain ⟨c, rfl, hc0, hc1⟩ := this
        exact ⟨c, rfl, hc0, hc1, ((f1.trans f2).trans (Fr.new hp)).trans f3, row3⟩
      · walk_at "rd"
        exact ⟨d1, rfl, l1, by omega, f1.trans f2, row2⟩
    · rintro σ' H2 ⟨n, rfl, hn0, hn1, f2, row2⟩
      walk_at "rd"
      refine r_lc ⟨_, rfl, n, rfl, by omega, by omega, r_rng (r := r) (n := n) (by omega) row2 (fun _ y => ∃ c : Nat, okc c = true ∧ y = sg c) (fun _ _ _ _ h => h) (fun _ => rfl) ?_ ?_⟩
      · intro i H3 f3 row3 Q1 q1
        walk_at "rd"
        refine r_draw row3 (by decide) (by decide) fun d4 H4 l4 u4 f4 row4 => ?_
        walk_at "rd"
        exact ⟨_, rfl, fun c hc => q1 _ H4 f4 row4 ⟨c, hc, rfl⟩⟩
      · intro D H3 ys hl hD f3 row3 hL hP
        obtain ⟨cs, rfl, hcs⟩ := signs_of hP
        rw [List.length_map] at hl
        have Dr : D ≠ r := fun z => row2.ne (z ▸ hD)
        have hD0 : H D = none := f2.dom row2 D hD
        walk_at "rd"
        refine r_cut (fun σ' H' => ∃ cs : List Nat, (∃ u v, σ' = [some (.ref r), u, some (.ref D), v]) ∧ H' D = some (.lst (cs.map sg)) ∧ cs.length ≤ 62 ∧ (∀ c, c ∈ cs → okc c = true) ∧ Fr r H H' ∧ Row H' r) ?_ ?_
        · walk_at "rd"
          refine ite2 (fun h => ?_) (fun h => ?_)
          · have h0 : 0 < n := of_decide_eq_true h
            walk_at "rd"
            refine r_draw row3 (by decide) (by decide) fun d4 H4 l4 u4 f4 row4 => ?_
            walk_at "rd"
            refine ite2 (fun h => ?_) (fun h => ?_)
            · walk_at "rd"
              refine ⟨szL rfl, fun p hp => ?_⟩
              walk_at "rd"
              refine r_draw (row4.upd hp) (by decide) (by decide) fun d5 H5 l5 u5 f5 row5 => ?_
              have pr : p ≠ r := fun z => row4.ne (z ▸ hp)
              have hT := f5 p _ pr upd_same
              obtain ⟨v, hv, e⟩ := atI_in (xs := [.str "\n", .str "\t"]) l5 u5
              refine r_ixT hT e ?_
              walk_at "rd"
              refine r_draw row5 h0 (by omega) fun d6 H6 l6 u6 f6 row6 => ?_
              have fA : Fr r H3 H6 := ((f4.trans (Fr.new hp)).trans f5).trans f6
              have hL6 := fA D _ Dr hL
              have : ∃ c : Nat, v = sg c ∧ okc c = true := by
                simp only [List.mem_cons, List.not_mem_nil, or_false] at hv
                rcases hv with rfl | rfl
                · exact ⟨10, rfl, rfl⟩
                · exact ⟨9, rfl, rfl⟩
              obtain ⟨c, rfl, hc⟩ := this
              refine r_setL hL6 (m := d6.toNat) (by rw [List.length_map]; exact ixN_in l6 (by omega)) ?_
              walk_at "rd"
              refine ⟨cs.set d6.toNat c, ⟨_, _, rfl⟩, ?_, by rw [List.length_set]; omega, fun z hz => ?_, ((f2.trans f3).trans fA).mut hD0, ?_⟩
              · rw [upd_same, List.map_set]
              · rcases List.mem_or_eq_of_mem_set hz with h | h
                · exact hcs z h
                · rw [h]; exact hc
              · obtain ⟨a, b, c, e⟩ := row6
                exact ⟨a, b, c, by rw [upd_ne Dr.symm]; exact e⟩
            · walk_at "rd"
              exact ⟨cs, ⟨_, _, rfl⟩, f4 D _ Dr hL, by omega, hcs, (f2.trans f3).trans f4, row4⟩
          · refine iteF ?_
            walk_at "rd"
            exact ⟨cs, ⟨_, _, rfl⟩, hL, by omega, hcs, f2.trans f3, row3⟩
        · rintro σ' H4 ⟨cs, ⟨u, v, rfl⟩, hL4, hl4, hcs, f4, row4⟩
          walk_at "rd"
          refine r_join rfl hL4 (by omega) ?_
          exact q _ H4 (okS_S hcs (by omega)) f4 row4
end
end RH
namespace RH
open PySem L2
local macro_rules | `(tactic| walk_at "rdh") => `(tactic| first | assumption | exact upd_same | (rw [upd_ne (by assumption)]; assumption) | (rw [upd_ne (Ne.symm (by assumption))]; assumption))
local macro_rules | `(tactic| walk_at "rdc") => `(tactic| first | assumption | decide | omega | exact cmul_r (by decide) (by decide) | exact cmul_l (by decide) (by decide) | exact cpow (by decide) (by decide) (by decide) | exact cdiv (by decide) (by decide) | exact wide_div (b := 200) (by assumption) (by omega) (by decide) (by decide) | exact cmul_r (by omega) (by omega) | exact cmul_l (by omega) (by omega))
local macro_rules | `(tactic| walk_at "rd1") => `(tactic| first
  | with_reducible apply r_op | ((with_reducible apply r_var); exact rfl) | with_reducible apply r_c | with_reducible apply r_cons | with_reducible apply r_nil | with_reducible apply r_I0
  | with_reducible apply r_seq | with_reducible apply r_asg | with_reducible apply r_name | with_reducible apply r_cb | with_reducible apply r_test | with_reducible apply r_k
  | with_reducible apply r_ifS | with_reducible apply r_call | with_reducible apply r_ret | ((with_reducible apply r_I); walk_at "rdc") | ((with_reducible apply r_eq); exact rfl) | ((with_reducible apply r_ne); exact rfl)
  | ((with_reducible apply r_ixL); walk_at "rdh"; exact rfl) | ((with_reducible apply r_ixT); walk_at "rdh"; exact rfl) | with_reducible apply r_sub | ((with_reducible apply r_setL); walk_at "rdh"; exact rfl)
  | with_reducible apply r_un | with_reducible apply r_U | with_reducible apply r_B | with_reducible apply r_and | with_reducible apply r_or | with_reducible apply r_not
  | with_reducible apply r_andV | with_reducible apply r_orV | with_reducible apply r_notV | with_reducible apply r_if | with_reducible apply r_tup | with_reducible apply r_lst
  | ((with_reducible apply r_ixgT); walk_at "rdh"; exact rfl) | ((with_reducible apply r_ixgL); walk_at "rdh"; exact rfl)
  | with_reducible apply r_next | with_reducible apply r_drop | with_reducible apply r_int1 | with_reducible apply r_chain | with_reducible apply r_ord | with_reducible apply r_abs | with_reducible apply r_min2 | with_reducible apply r_max2
  | with_reducible apply r_leStr | with_reducible apply r_inSign | with_reducible apply r_notInSign | ((with_reducible apply r_isTy); assumption)
  | ((with_reducible apply r_lenL); walk_at "rdh") | ((with_reducible apply r_lenT); walk_at "rdh")
  | refine Rep.typ (by assumption) (fun _ _ => ?_) | refine r_isi (by assumption) (by assumption) (by decide) ?_)
local macro_rules | `(tactic| walk_at "rd") => `(tactic| repeat walk_at "rd1")

section
variable {P : Program} {w : World} {K : PySem.W.Frag} {mg : Str → Option Value} {base : Heap} {CC : Addr → Prop}
theorem spB_len {f : D → Bool} : ∀ vs H Q E, spB K CC f vs H Q E → vs.length = 1 := by
  rintro vs H Q E ⟨x, d, rfl, _⟩
  rfl
theorem ok_is_integer {f : Addr} {fd : FuncData} (F : Fun K "is_integer" "is_integer" s_is_integer f fd) (T : Txt K mg) : FnOk P w K mg base CX0 1 f fd ["thing"] (spB K CC isInt) := by
  refine F.ok sc_is_integer spB_len (fun cdv A outer s H vs Q E hr h => ?_)
  obtain ⟨x, d, rfl, R, q⟩ := h
  refine ⟨_, (pss_one (ps_ret (pe_and (pe_cmpR op_isTyG (pe_callTy call_typeG rfl T.z_type (by decide +kernel) (pa_cons (pv 0) pa_nil)) (pe_bltn (v := .ty "int") (u := .type "int") rfl T.z_int (by decide +kernel) rfl) (nomark _)) (pe_one (pe_chain op_le op_le (pe_un un_neg (C8.pe_gc rfl T.g_LIMIT)) (pv 0) (C8.pe_gc rfl T.g_LIMIT)))))), ?_⟩
  walk_at "rd"
  refine ite2 (fun e => ?_) (fun e => ?_)
  · obtain ⟨i, rfl⟩ := tyB_int e
    cases R
    walk_at "rd"
    refine ite2 (fun e => ?_) (fun e => ?_)
    · walk_at "rd"
      have := q H (Same.refl H)
      rw [show isInt (.int i) = decide (i ≤ 1000000000000) by show limI i = _; unfold limI; rw [e, Bool.true_and]] at this
      exact this
    · have := q H (Same.refl H)
      rw [show isInt (.int i) = false by show limI i = _; unfold limI; rw [Bool.eq_false_iff.mpr e, Bool.false_and]] at this
      exact this
  · have := q H (Same.refl H)
    rw [nint e] at this
    exact this
theorem ok_is_number {f : Addr} {fd : FuncData} (F : Fun K "is_number" "is_number" s_is_number f fd) (T : Txt K mg) (c_is_integer : C8.Cal P w K mg base 1 "is_integer" (spB K CC isInt) []) : FnOk P w K mg base CX0 2 f fd ["thing"] (spB K CC isNum) := by
  refine F.ok sc_is_number spB_len (fun cdv A outer s H vs Q E hr h => ?_)
  obtain ⟨x, d, rfl, R, q⟩ := h
  refine ⟨_, (pss_one (ps_ret (pe_and (C8.pe_c c_is_integer hr (by decide) rfl (pa_cons (pv 0) pa_nil)) (pe_one (pe_cmpR op_ge (pv 0) pe_int (nomark _)))))), ?_⟩
  walk_at "rd"
  refine ⟨_, _, rfl, R, fun H1 s1 => ?_⟩
  walk_at "rd"
  have q1 := q H1 s1
  refine ite2 (fun e => ?_) (fun e => ?_)
  · cases R with
    | int i =>
      walk_at "rd"
      rw [show isNum (.int i) = decide (0 ≤ i) by show (limI i && _) = _; rw [show limI i = true from e, Bool.true_and]] at q1
      exact q1
    | _ => cases e
  · cases R with
    | int i =>
      rw [show isNum (.int i) = false by show (limI i && _) = _; rw [show limI i = false from Bool.eq_false_iff.mpr e, Bool.false_and]] at q1
      exact q1
    | _ => exact q1
theorem ok__is_sign {f : Addr} {fd : FuncData} (F : Fun K "_is_sign" "_is_sign" s__is_sign f fd) (T : Txt K mg) : FnOk P w K mg base CX0 1 f fd ["sign"] spSign := by
  refine F.ok sc__is_sign (fun vs H Q E h => ?_) (fun cdv A outer s H vs Q E hr h => ?_)
  · obtain ⟨c, rfl, _⟩ := h
    rfl
  obtain ⟨c, rfl, q⟩ := h
  refine ⟨_, (pss_one (ps_ret (pe_and (pe_chain op_le op_le pe_int (pe_callB call_ordG rfl T.z_ord (by decide +kernel) (pa_cons (pv 0) pa_nil)) pe_int) (pe_one (pe_cmpR op_ne (pe_callB call_ordG rfl T.z_ord (by decide +kernel) (pa_cons (pv 0) pa_nil)) pe_int (nomark _)))))), ?_⟩
  walk_at "rd"
  refine ite2 (fun e => ?_) (fun e => ?_)
  · walk_at "rd"
    refine ite2 (fun e2 => ?_) (fun e2 => ?_)
    · walk_at "rd"
      refine qbl q ?_
      have h1 : 32 ≤ c := by have := of_decide_eq_true e; omega
      have h2 : c ≤ 126 := by have := of_decide_eq_true e2; omega
      unfold sgn
      rw [decide_eq_true h1, decide_eq_true h2]
      by_cases h3 : c = 37
      · subst h3; rfl
      · have h4 : ¬ (V.int (c : Int) = V.int 37) := fun z => h3 (by have := V.int.inj z; omega)
        rw [decide_eq_true h3, decide_eq_false h4]; rfl
    · walk_at "rd"
      refine qbl q ?_
      have h2 : ¬ c ≤ 126 := fun z => e2 (decide_eq_true (by omega))
      unfold sgn
      rw [decide_eq_false h2, Bool.and_false, Bool.false_and]
  · walk_at "rd"
    refine iteF ?_
    refine qbl q ?_
    have h2 : ¬ 32 ≤ c := fun z => e (decide_eq_true (by omega))
    unfold sgn
    rw [decide_eq_false h2, Bool.false_and, Bool.false_and]
theorem ok_is_text {f : Addr} {fd : FuncData} (F : Fun K "is_text" "is_text" s_is_text f fd) (T : Txt K mg) (c__is_sign : C8.Cal P w K mg base 1 "_is_sign" spSign []) : FnOk P w K mg base CX0 2 f fd ["thing"] (spB K CC isText) := by
  refine F.ok sc_is_text spB_len (fun cdv A outer s H vs Q E hr h => ?_)
  obtain ⟨x, d, rfl, R, q⟩ := h
  refine ⟨_, (pss_one (ps_ret (pe_and (pe_cmpR op_isTyG (pe_callTy call_typeG rfl T.z_type (by decide +kernel) (pa_cons (pv 0) pa_nil)) (pe_bltn (v := .ty "str") (u := .type "str") rfl T.z_str (by decide +kernel) rfl) (nomark _)) (pe_and (pe_cmpR op_le (pe_callB call_lenG rfl T.z_len (by decide +kernel) (pa_cons (pv 0) pa_nil)) (C8.pe_gc rfl T.g_TEXT_LENGTH) (nomark _)) (pe_one (pe_callB (cr_all rfl) rfl T.z_all (by decide +kernel) (pa_cons (pe_lc (own := [("sign", 1)]) rfl sc_is_text.nd (pi_str (pv 0)) (blkOk_by (sc := defScope s_is_text) (N := ["thing", "sign"]) (by decide +kernel)) (fun _ _ _ _ _ => (pg_name (i := 1) sc_is_text.nd rfl (Or.inl rfl))) (fun _ _ _ _ _ => pts_nil) (fun _ _ _ _ _ => (C8.pe_c c__is_sign hr (by decide) rfl (pa_cons (pv 1) pa_nil)))) pa_nil))))))), ?_⟩
  walk_at "rd"
  refine ite2 (fun e => ?_) (fun e => ?_)
  · obtain ⟨z, rfl⟩ := tyB_str e
    obtain ⟨rfl, ok⟩ : x = .str z ∧ OkS z := by cases R with | str _ ok => exact ⟨rfl, ok⟩
    walk_at "rd"
    refine r_lenS (sz1000 ok.len) ?_
    walk_at "rd"
    refine ite2 (fun e => ?_) (fun e => ?_)
    · refine r_allS rfl ok.len (fun _ => rfl) (fun c H1 s1 Q1 q1 => ?_) (fun H1 s1 => ?_) (f := sgn)
      · walk_at "rd"
        exact ⟨c, rfl, q1 H1 (Same.refl H1)⟩
      · refine qbl (q H1 s1) ?_
        show (decide (z.length ≤ 60) && _) = _
        rw [show decide (z.length ≤ 60) = true from decide_eq_true (by have := of_decide_eq_true e; omega), Bool.true_and]
    · refine qbl (q H (Same.refl H)) ?_
      show (decide (z.length ≤ 60) && _) = _
      rw [show decide (z.length ≤ 60) = false from decide_eq_false (fun w => e (decide_eq_true (by omega))), Bool.false_and]
  · exact qbl (q H (Same.refl H)) (nstrT e)
end
end RH
namespace RH
open PySem L2
local macro_rules | `(tactic| walk_at "rdh") => `(tactic| first | assumption | exact upd_same | (rw [upd_ne (by assumption)]; assumption) | (rw [upd_ne (Ne.symm (by assumption))]; assumption))
local macro_rules | `(tactic| walk_at "rdc") => `(tactic| first | assumption | decide | omega | exact cmul_r (by decide) (by decide) | exact cmul_l (by decide) (by decide) | exact cpow (by decide) (by decide) (by decide) | exact cdiv (by decide) (by decide) | exact wide_div (b := 200) (by assumption) (by omega) (by decide) (by decide) | exact cmul_r (by omega) (by omega) | exact cmul_l (by omega) (by omega))
local macro_rules | `(tactic| walk_at "rd1") => `(tactic| first
  | with_reducible apply r_op | ((with_reducible apply r_var); exact rfl) | with_reducible apply r_c | with_reducible apply r_cons | with_reducible apply r_nil | with_reducible apply r_I0
  | with_reducible apply r_seq | with_reducible apply r_asg | with_reducible apply r_name | with_reducible apply r_cb | with_reducible apply r_test | with_reducible apply r_k
  | with_reducible apply r_ifS | with_reducible apply r_call | with_reducible apply r_ret | ((with_reducible apply r_I); walk_at "rdc") | ((with_reducible apply r_eq); exact rfl) | ((with_reducible apply r_ne); exact rfl)
  | ((with_reducible apply r_ixL); walk_at "rdh"; exact rfl) | ((with_reducible apply r_ixT); walk_at "rdh"; exact rfl) | with_reducible apply r_sub | ((with_reducible apply r_setL); walk_at "rdh"; exact rfl)
  | with_reducible apply r_un | with_reducible apply r_U | with_reducible apply r_B | with_reducible apply r_and | with_reducible apply r_or | with_reducible apply r_not
  | with_reducible apply r_andV | with_reducible apply r_orV | with_reducible apply r_notV | with_reducible apply r_if | with_reducible apply r_tup | with_reducible apply r_lst
  | ((with_reducible apply r_ixgT); walk_at "rdh"; exact rfl) | ((with_reducible apply r_ixgL); walk_at "rdh"; exact rfl)
  | with_reducible apply r_next | with_reducible apply r_drop | with_reducible apply r_int1 | with_reducible apply r_chain | with_reducible apply r_ord | with_reducible apply r_abs | with_reducible apply r_min2 | with_reducible apply r_max2
  | with_reducible apply r_leStr | with_reducible apply r_inSign | with_reducible apply r_notInSign | ((with_reducible apply r_isTy); assumption)
  | ((with_reducible apply r_lenL); walk_at "rdh") | ((with_reducible apply r_lenT); walk_at "rdh")
  | refine Rep.typ (by assumption) (fun _ _ => ?_) | refine r_isi (by assumption) (by assumption) (by decide) ?_)
local macro_rules | `(tactic| walk_at "rd") => `(tactic| repeat walk_at "rd1")

section
variable {P : Program} {w : World} {K : PySem.W.Frag} {mg : Str → Option Value} {base : Heap} {CC : Addr → Prop}
theorem ok__law_is_integer {f : Addr} {fd : FuncData} (F : Fun K "_law_is_integer" "_law_is_integer" s__law_is_integer f fd) (T : Txt K mg) (hC : ∀ C, CC C → ClsI K C) : FnOk P w K mg base CX0 1 f fd ["thing"] (spB K CC isInt) := by
  refine F.ok sc__law_is_integer spB_len (fun cdv A outer s H vs Q E hr h => ?_)
  obtain ⟨x, d, rfl, R, q⟩ := h
  have q0 := q H (Same.refl H)
  refine ⟨_, (pss_cons (ps_if (PW.pt (pw_or (pt_not (pt_val (pe_callB call_isi rfl T.z_isinstance (by decide +kernel) (pa_cons (pv 0) (pa_cons (pe_bltn (v := .ty "int") (u := .type "int") rfl T.z_int (by decide +kernel) rfl) pa_nil))))) (pw_or1 (pt_val (pe_callB call_isi rfl T.z_isinstance (by decide +kernel) (pa_cons (pv 0) (pa_cons (pe_bltn (v := .ty "bool") (u := .type "bool") rfl T.z_bool (by decide +kernel) rfl) pa_nil)))))))
 (pss_one (ps_ret pe_bl))
 pss_nil)
 (pss_one (ps_ret (pe_and (pe_cmpR op_le (pe_un un_neg (pe_op op_pow pe_int pe_int)) (pv 0) (nomark _)) (pe_one (pe_cmpR op_le (pv 0) (pe_op op_pow pe_int pe_int) (nomark _))))))), ?_⟩
  walk_at "rd"
  refine ite2 (fun e => ?_) (fun e => ?_)
  · refine iteT ?_
    walk_at "rd"
    exact qbl q0 (isD_intF e)
  · walk_at "rd"
    refine ite2 (fun e2 => ?_) (fun e2 => ?_)
    · walk_at "rd"
      exact qbl q0 (isD_boolF e2)
    · obtain ⟨i, rfl⟩ := isD_intT e e2
      cases R
      walk_at "rd"
      refine ite2 (fun e => ?_) (fun e => ?_)
      · walk_at "rd"
        refine qbl q0 ?_
        show limI i = _
        unfold limI
        rw [show decide (-1000000000000 ≤ i) = true from e, Bool.true_and]; rfl
      · refine qbl q0 ?_
        show limI i = _
        unfold limI
        rw [show decide (-1000000000000 ≤ i) = false from Bool.eq_false_iff.mpr e, Bool.false_and]
theorem ok__law_is_number {f : Addr} {fd : FuncData} (F : Fun K "_law_is_number" "_law_is_number" s__law_is_number f fd) (T : Txt K mg) (c__law_is_integer : C8.Cal P w K mg base 1 "_law_is_integer" (spB K CC isInt) []) : FnOk P w K mg base CX0 2 f fd ["thing"] (spB K CC isNum) := by
  refine F.ok sc__law_is_number spB_len (fun cdv A outer s H vs Q E hr h => ?_)
  obtain ⟨x, d, rfl, R, q⟩ := h
  refine ⟨_, (pss_one (ps_ret (pe_and (C8.pe_c c__law_is_integer hr (by decide) rfl (pa_cons (pv 0) pa_nil)) (pe_one (pe_cmpR op_ge (pv 0) pe_int (nomark _)))))), ?_⟩
  walk_at "rd"
  refine ⟨_, _, rfl, R, fun H1 s1 => ?_⟩
  walk_at "rd"
  have q1 := q H1 s1
  refine ite2 (fun e => ?_) (fun e => ?_)
  · cases R with
    | int i =>
      walk_at "rd"
      rw [show isNum (.int i) = decide (0 ≤ i) by show (limI i && _) = _; rw [show limI i = true from e, Bool.true_and]] at q1
      exact q1
    | _ => cases e
  · cases R with
    | int i =>
      rw [show isNum (.int i) = false by show (limI i && _) = _; rw [show limI i = false from Bool.eq_false_iff.mpr e, Bool.false_and]] at q1
      exact q1
    | _ => exact q1
theorem ok__law_is_text {f : Addr} {fd : FuncData} (F : Fun K "_law_is_text" "_law_is_text" s__law_is_text f fd) (T : Txt K mg) (hC : ∀ C, CC C → ClsI K C) : FnOk P w K mg base CX0 1 f fd ["thing"] (spB K CC isText) := by
  refine F.ok sc__law_is_text spB_len (fun cdv A outer s H vs Q E hr h => ?_)
  obtain ⟨x, d, rfl, R, q⟩ := h
  have q0 := q H (Same.refl H)
  refine ⟨_, (pss_one (ps_ret (pe_and (pe_callB call_isi rfl T.z_isinstance (by decide +kernel) (pa_cons (pv 0) (pa_cons (pe_bltn (v := .ty "str") (u := .type "str") rfl T.z_str (by decide +kernel) rfl) pa_nil))) (pe_and (pe_cmpR op_le (pe_callB call_lenG rfl T.z_len (by decide +kernel) (pa_cons (pv 0) pa_nil)) pe_int (nomark _)) (pe_and (pe_cmpR op_notInSignG pe_str (pv 0) rfl) (pe_one (pe_cmpR op_notInSignG pe_str (pv 0) rfl))))))), ?_⟩
  walk_at "rd"
  refine ite2 (fun e => ?_) (fun e => ?_)
  · obtain ⟨z, rfl⟩ := isD_str e
    obtain ⟨rfl, ok⟩ : x = .str z ∧ OkS z := by cases R with | str _ ok => exact ⟨rfl, ok⟩
    walk_at "rd"
    refine r_lenS (sz1000 ok.len) ?_
    walk_at "rd"
    have en : isText (.str z) = (decide (z.length ≤ 60) && ((!decide (10 ∈ z.cps.toList)) && !decide (9 ∈ z.cps.toList))) := by rw [← text_all ok]; rfl
    refine ite2 (fun e1 => ?_) (fun e1 => ?_)
    · rw [en, show decide (z.length ≤ 60) = true from decide_eq_true (by have := of_decide_eq_true e1; omega), Bool.true_and] at q0
      walk_at "rd"
      refine ⟨10, z, rfl, rfl, ?_⟩
      walk_at "rd"
      refine ite2 (fun e2 => ?_) (fun e2 => ?_)
      · rw [e2, Bool.true_and] at q0
        walk_at "rd"
        exact ⟨9, z, rfl, rfl, q0⟩
      · rw [Bool.eq_false_iff.mpr e2, Bool.false_and] at q0
        exact q0
    · refine qbl q0 ?_
      rw [en, show decide (z.length ≤ 60) = false from decide_eq_false (fun w => e1 (decide_eq_true (by omega))), Bool.false_and]
  · exact qbl q0 (isD_strN2 e).2
end
end RH
namespace RH
open PySem L2
local macro_rules | `(tactic| walk_at "rdh") => `(tactic| first | assumption | exact upd_same | (rw [upd_ne (by assumption)]; assumption) | (rw [upd_ne (Ne.symm (by assumption))]; assumption))
local macro_rules | `(tactic| walk_at "rdc") => `(tactic| first | assumption | decide | omega | exact cmul_r (by decide) (by decide) | exact cmul_l (by decide) (by decide) | exact cpow (by decide) (by decide) (by decide) | exact cdiv (by decide) (by decide) | exact wide_div (b := 200) (by assumption) (by omega) (by decide) (by decide) | exact cmul_r (by omega) (by omega) | exact cmul_l (by omega) (by omega))
local macro_rules | `(tactic| walk_at "rd1") => `(tactic| first
  | with_reducible apply r_op | ((with_reducible apply r_var); exact rfl) | with_reducible apply r_c | with_reducible apply r_cons | with_reducible apply r_nil | with_reducible apply r_I0
  | with_reducible apply r_seq | with_reducible apply r_asg | with_reducible apply r_name | with_reducible apply r_cb | with_reducible apply r_test | with_reducible apply r_k
  | with_reducible apply r_ifS | with_reducible apply r_call | with_reducible apply r_ret | ((with_reducible apply r_I); walk_at "rdc") | ((with_reducible apply r_eq); exact rfl) | ((with_reducible apply r_ne); exact rfl)
  | ((with_reducible apply r_ixL); walk_at "rdh"; exact rfl) | ((with_reducible apply r_ixT); walk_at "rdh"; exact rfl) | with_reducible apply r_sub | ((with_reducible apply r_setL); walk_at "rdh"; exact rfl)
  | with_reducible apply r_un | with_reducible apply r_U | with_reducible apply r_B | with_reducible apply r_and | with_reducible apply r_or | with_reducible apply r_not
  | with_reducible apply r_andV | with_reducible apply r_orV | with_reducible apply r_notV | with_reducible apply r_if | with_reducible apply r_tup | with_reducible apply r_lst
  | ((with_reducible apply r_ixgT); walk_at "rdh"; exact rfl) | ((with_reducible apply r_ixgL); walk_at "rdh"; exact rfl)
  | with_reducible apply r_next | with_reducible apply r_drop | with_reducible apply r_int1 | with_reducible apply r_chain | with_reducible apply r_ord | with_reducible apply r_abs | with_reducible apply r_min2 | with_reducible apply r_max2
  | with_reducible apply r_leStr | with_reducible apply r_inSign | with_reducible apply r_notInSign | ((with_reducible apply r_isTy); assumption)
  | ((with_reducible apply r_lenL); walk_at "rdh") | ((with_reducible apply r_lenT); walk_at "rdh")
  | refine Rep.typ (by assumption) (fun _ _ => ?_) | refine r_isi (by assumption) (by assumption) (by decide) ?_)
local macro_rules | `(tactic| walk_at "rd") => `(tactic| repeat walk_at "rd1")

section
variable {P : Program} {w : World} {K : PySem.W.Frag} {mg : Str → Option Value} {base : Heap} {CC : Addr → Prop}
theorem cps_low : (("abcdefghijklmnopqrstuvwxyz" : Str).cps.toList) = (List.range 26).map (97 + ·) := by decide +kernel
theorem mem_low (c : Nat) : decide (c ∈ (("abcdefghijklmnopqrstuvwxyz" : Str).cps.toList)) = low c := by
  rw [cps_low]
  unfold low
  rw [← Bool.decide_and]
  refine decide_eq_decide.mpr ?_
  rw [List.mem_map]
  constructor
  · rintro ⟨a, ha, rfl⟩
    have := List.mem_range.mp ha
    omega
  · rintro ⟨h1, h2⟩
    exact ⟨c - 97, List.mem_range.mpr (by omega), by omega⟩
theorem ok__law_said {f : Addr} {fd : FuncData} (F : Fun K "_law_said" "_law_said" s__law_said f fd) (T : Txt K mg) (hC : ∀ C, CC C → ClsI K C) :
    FnOk P w K mg base CX0 1 f fd ["actual", "due"] spSaid := by
  refine F.ok sc__law_said (fun vs H Q E h => ?_) (fun cdv A outer s H vs Q E hr h => ?_)
  · obtain ⟨a, b, rfl, _⟩ := h
    rfl
  obtain ⟨a, b, rfl, q⟩ := h
  have R : Rep K CC H (.bl a) (.bl a) := .bl a
  refine ⟨_, (pss_one (ps_ret (pe_and (pe_callB call_isi rfl T.z_isinstance (by decide +kernel) (pa_cons (pv 0) (pa_cons (pe_bltn (v := .ty "bool") (u := .type "bool") rfl T.z_bool (by decide +kernel) rfl) pa_nil))) (pe_one (pe_cmpR op_eq (pv 0) (pv 1) (nomark _)))))), ?_⟩
  walk_at "rd"
  refine ite2 (fun e => ?_) (fun e => ?_)
  · walk_at "rd"
    exact qbl q (decide_eq_decide.mpr ⟨fun z => by rw [z], fun z => V.bl.inj z⟩)
  · exact absurd rfl e
end
end RH
namespace RH
open PySem L2
local macro_rules | `(tactic| walk_at "rdh") => `(tactic| first | assumption | exact upd_same | (rw [upd_ne (by assumption)]; assumption) | (rw [upd_ne (Ne.symm (by assumption))]; assumption))
local macro_rules | `(tactic| walk_at "rdc") => `(tactic| first | assumption | decide | omega | exact cmul_r (by decide) (by decide) | exact cmul_l (by decide) (by decide) | exact cpow (by decide) (by decide) (by decide) | exact cdiv (by decide) (by decide) | exact wide_div (b := 200) (by assumption) (by omega) (by decide) (by decide) | exact cmul_r (by omega) (by omega) | exact cmul_l (by omega) (by omega))
local macro_rules | `(tactic| walk_at "rd1") => `(tactic| first
  | with_reducible apply r_op | ((with_reducible apply r_var); exact rfl) | with_reducible apply r_c | with_reducible apply r_cons | with_reducible apply r_nil | with_reducible apply r_I0
  | with_reducible apply r_seq | with_reducible apply r_asg | with_reducible apply r_name | with_reducible apply r_cb | with_reducible apply r_test | with_reducible apply r_k
  | with_reducible apply r_ifS | with_reducible apply r_call | with_reducible apply r_ret | ((with_reducible apply r_I); walk_at "rdc") | ((with_reducible apply r_eq); exact rfl) | ((with_reducible apply r_ne); exact rfl)
  | ((with_reducible apply r_ixL); walk_at "rdh"; exact rfl) | ((with_reducible apply r_ixT); walk_at "rdh"; exact rfl) | with_reducible apply r_sub | ((with_reducible apply r_setL); walk_at "rdh"; exact rfl)
  | with_reducible apply r_un | with_reducible apply r_U | with_reducible apply r_B | with_reducible apply r_and | with_reducible apply r_or | with_reducible apply r_not
  | with_reducible apply r_andV | with_reducible apply r_orV | with_reducible apply r_notV | with_reducible apply r_if | with_reducible apply r_tup | with_reducible apply r_lst
  | ((with_reducible apply r_ixgT); walk_at "rdh"; exact rfl) | ((with_reducible apply r_ixgL); walk_at "rdh"; exact rfl)
  | with_reducible apply r_next | with_reducible apply r_drop | with_reducible apply r_int1 | with_reducible apply r_chain | with_reducible apply r_ord | with_reducible apply r_abs | with_reducible apply r_min2 | with_reducible apply r_max2
  | with_reducible apply r_leStr | with_reducible apply r_inSign | with_reducible apply r_notInSign | ((with_reducible apply r_isTy); assumption)
  | ((with_reducible apply r_lenL); walk_at "rdh") | ((with_reducible apply r_lenT); walk_at "rdh")
  | refine Rep.typ (by assumption) (fun _ _ => ?_) | refine r_isi (by assumption) (by assumption) (by decide) ?_)
local macro_rules | `(tactic| walk_at "rd") => `(tactic| repeat walk_at "rd1")

/-- _packed(upto, numbers) -/
def spPacked (K : PySem.W.Frag) : Sp := fun vs H Q _ => ∃ (u : Int) (p : Addr) (ns : List Int), vs = [.int u, .ref p] ∧ (SqL K H p (ns.map V.int) ∨ SqT K H p (ns.map V.int)) ∧ ns.length ≤ 1000 ∧
  ∀ (so : List Int) q l H', so.Pairwise (· < ·) → (∀ k, k ∈ so ↔ k ∈ ns) → Same H H' → H q = none → H' q = some (.tup [.int (pk u so).1, .ref l]) → H l = none → H' l = some (.tup ((pk u so).2.map V.int)) → Q (.ref q) H'
section
variable {P : Program} {w : World} {K : PySem.W.Frag} {mg : Str → Option Value} {base : Heap} {CC : Addr → Prop}
theorem ok__packed {f : Addr} {fd : FuncData} (F : Fun K "_packed" "_packed" s__packed f fd) (T : Txt K mg) : FnOk P w K mg base CX0 1 f fd ["upto", "numbers"] (spPacked K) := by
  refine F.ok sc__packed (fun vs H Q E h => ?_) (fun cdv A outer s H vs Q E hr h => ?_)
  · obtain ⟨u, p, ns, rfl, _⟩ := h
    rfl
  · obtain ⟨u, p, ns, rfl, hsq, hl, q⟩ := h
    refine ⟨_, (pss_cons (ps_set (i := 2) sc__packed.nd rfl (Or.inl rfl) (pe_lst pa_nil))
 (pss_cons (ps_for PassesOwn.never rfl (pi_list (pe_callB (call_sortSI rfl) rfl T.z_sorted (by decide +kernel) (pa_cons (pe_callTy (call_setI rfl) rfl T.z_set (by decide +kernel) (pa_cons (pv 1) pa_nil)) pa_nil))) (pg_name (i := 3) sc__packed.nd rfl (Or.inl rfl))
 (pss_one (ps_if (pt_cmpR op_eq (pv 3) (pe_op op_add (pv 0) pe_int) (nomark _))
 (pss_one (ps_set (i := 0) sc__packed.nd rfl (Or.inl rfl) (pv 3)))
 (pss_one (ps_if (pt_cmpR op_gt (pv 3) (pv 0) (nomark _))
 (pss_one (ps_expr (pe_bm PySem.F.plainAttrs_list PySem.F.slot_list_append PySem.F.type_list_append mt_append (pv 2) (pa_cons (pv 3) pa_nil))))
 pss_nil)))))
 (pss_one (ps_ret (pe_tup (pa_cons (pv 0) (pa_cons (pe_callTy call_tupleG rfl T.z_tuple (by decide +kernel) (pa_cons (pv 2) pa_nil)) pa_nil))))))), ?_⟩
    walk_at "rd"
    refine ⟨szL rfl, fun l0 hl0 => ?_⟩
    walk_at "rd"
    have s0 : Same H (upd H l0 (.lst [])) := same_new hl0
    have hsq0 : SqL K (upd H l0 (.lst [])) p (ns.map V.int) ∨ SqT K (upd H l0 (.lst [])) p (ns.map V.int) := hsq.imp s0.seq (same_t s0)
    refine r_for ?_
    walk_at "rd"
    show tCB _ _ _ _ _
    walk_at "rd"
    refine ⟨p, ns, rfl, hsq0, hl, fun q1 c hc hq1 => ?_⟩
    walk_at "rd"
    refine ⟨q1, _, c, rfl, upd_same, Nat.le_trans hc hl, fun so p1 asc mem len hp1 => ?_⟩
    have n1 : q1 ≠ l0 := fun z => by rw [z, upd_same] at hq1; cases hq1
    have n2 : p1 ≠ q1 := fun z => by rw [z, upd_same] at hp1; cases hp1
    have n3 : p1 ≠ l0 := fun z => by rw [z, upd_ne n1.symm, upd_same] at hp1; cases hp1
    refine ⟨p1, rfl, ⟨_, SqL.of upd_same⟩, ?_⟩
    have mem2 : ∀ k, k ∈ so ↔ k ∈ ns := fun k => (mem k).trans decide_eq_true_iff
    generalize hH3 : upd (upd (upd H l0 (.lst [])) q1 (SetO _ q1 (fun j => decide (j ∈ ns)) c)) p1 (.lst (so.map V.int)) = H3
    have at1 : H3 p1 = some (.lst (so.map V.int)) := by rw [← hH3]; exact upd_same
    have at0 : H3 l0 = some (.lst []) := by rw [← hH3, upd_ne n3.symm, upd_ne n1.symm]; exact upd_same
    have keep3 : Same H H3 := by
      rw [← hH3]
      exact (s0.trans (same_new hq1)).trans (same_new hp1)
    clear hH3 hp1 hq1 n1 n2
    have go : Walk (Itl K p1) (so.map V.int).length (fun H => SqL K H p1 (so.map V.int)) (YAt (so.map V.int)) := walk_list
    rw [List.length_map] at go
    refine go_it go (fun i σ' H' => ∃ w st, st = (so.take i).foldl pkS (u, []) ∧ σ' = [some (.int st.1), some (.ref p), some (.ref l0), w] ∧ (∀ b o, b ≠ l0 → H3 b = some o → H' b = some o) ∧ H' l0 = some (.lst (st.2.map V.int)))
      ⟨_, _, rfl, rfl, fun _ _ _ e => e, at0⟩ ?_ ?_ ?_
    · rintro i σ' H' hi ⟨w, st, _, _, k, _⟩
      exact SqL.of (k _ _ n3 at1)
    · rintro i x σ' H' H4 hi ⟨w, st, est, rfl, k, hl4⟩ ⟨rfl, hx⟩
      obtain ⟨n, hn, rfl⟩ : ∃ n, so[i]? = some n ∧ x = .int n := by
        rw [List.getElem?_map] at hx
        cases z : so[i]? with
        | none => rw [z] at hx; cases hx
        | some n => rw [z] at hx; exact ⟨n, rfl, (Option.some.inj hx).symm⟩
      have est2 : pkS st n = (so.take (i + 1)).foldl pkS (u, []) := by
        rw [List.take_add_one, hn, Option.toList_some, List.foldl_append, ← est]
        rfl
      walk_at "rd"
      refine ite2 (fun e => ?_) (fun e => ?_)
      · have e1 : n = st.1 + 1 := V.int.inj (of_decide_eq_true e)
        walk_at "rd"
        refine ⟨some (.int n), pkS st n, est2, ?_, k, ?_⟩
        · unfold pkS
          rw [if_pos e1]
          rfl
        · unfold pkS
          rw [if_pos e1]
          exact hl4
      · have e1 : ¬ n = st.1 + 1 := fun z => e (decide_eq_true (congrArg V.int z))
        walk_at "rd"
        refine ite2 (fun g => ?_) (fun g => ?_)
        · have g1 : st.1 < n := of_decide_eq_true g
          have lim : st.2.length ≤ 1000 := by
            have h1 := pk_len (so.take i) (u, [])
            have h2 : (so.take i).length ≤ so.length := by rw [List.length_take]; exact Nat.min_le_right _ _
            rw [← est] at h1
            dsimp only [List.length_nil] at h1
            omega
          walk_at "rd"
          refine r_bmL rfl hl4 ?_
          walk_at "rd"
          refine r_append hl4 (by rw [List.length_map]; exact small1000 lim) ?_
          refine ⟨some (.int n), pkS st n, est2, ?_, fun b o hb e => by rw [upd_ne hb]; exact k b o hb e, ?_⟩
          · unfold pkS
            rw [if_neg e1, if_pos g1]
            rfl
          · unfold pkS
            rw [if_neg e1, if_pos g1, upd_same]
            simp
        · have g1 : ¬ st.1 < n := fun z => g (decide_eq_true z)
          walk_at "rd"
          refine ⟨some (.int n), pkS st n, est2, ?_, k, ?_⟩
          · unfold pkS
            rw [if_neg e1, if_neg g1]
            rfl
          · unfold pkS
            rw [if_neg e1, if_neg g1]
            exact hl4
    · rintro σ' H4 ⟨w, st, est, rfl, k, hl4⟩
      rw [List.take_length] at est
      walk_at "rd"
      refine r_tupL hl4 fun l1 hl1 => ?_
      walk_at "rd"
      refine ⟨szL rfl, fun q2 hq2 => ?_⟩
      have n4 : l1 ≠ q2 := fun z => by rw [← z, upd_same] at hq2; cases hq2
      have keep4 : Same H H4 := fun b o e => k b o (ne_of_none e hl0) (keep3 b o e)
      have keep5 := keep4.trans (same_new (o := .tup (st.2.map V.int)) hl1)
      have keep6 := keep5.trans (same_new (o := .tup [.int st.1, .ref l1]) hq2)
      refine q so q2 l1 _ asc mem2 keep6 (keep5.free hq2) ?_ (keep4.free hl1) ?_
      · rw [upd_same, est]
        rfl
      · rw [upd_ne n4, upd_same, est]
        rfl
end
end RH
namespace RH
open PySem L2
local macro_rules | `(tactic| walk_at "rdh") => `(tactic| first | assumption | exact upd_same | (rw [upd_ne (by assumption)]; assumption) | (rw [upd_ne (Ne.symm (by assumption))]; assumption))
local macro_rules | `(tactic| walk_at "rdc") => `(tactic| first | assumption | decide | omega | exact cmul_r (by decide) (by decide) | exact cmul_l (by decide) (by decide) | exact cpow (by decide) (by decide) (by decide) | exact cdiv (by decide) (by decide) | exact wide_div (b := 200) (by assumption) (by omega) (by decide) (by decide) | exact cmul_r (by omega) (by omega) | exact cmul_l (by omega) (by omega))
local macro_rules | `(tactic| walk_at "rd1") => `(tactic| first
  | with_reducible apply r_op | ((with_reducible apply r_var); exact rfl) | with_reducible apply r_c | with_reducible apply r_cons | with_reducible apply r_nil | with_reducible apply r_I0
  | with_reducible apply r_seq | with_reducible apply r_asg | with_reducible apply r_name | with_reducible apply r_cb | with_reducible apply r_test | with_reducible apply r_k
  | with_reducible apply r_ifS | with_reducible apply r_call | with_reducible apply r_ret | ((with_reducible apply r_I); walk_at "rdc") | ((with_reducible apply r_eq); exact rfl) | ((with_reducible apply r_ne); exact rfl)
  | ((with_reducible apply r_ixL); walk_at "rdh"; exact rfl) | ((with_reducible apply r_ixT); walk_at "rdh"; exact rfl) | with_reducible apply r_sub | ((with_reducible apply r_setL); walk_at "rdh"; exact rfl)
  | with_reducible apply r_un | with_reducible apply r_U | with_reducible apply r_B | with_reducible apply r_and | with_reducible apply r_or | with_reducible apply r_not
  | with_reducible apply r_andV | with_reducible apply r_orV | with_reducible apply r_notV | with_reducible apply r_if | with_reducible apply r_tup | with_reducible apply r_lst
  | ((with_reducible apply r_ixgT); walk_at "rdh"; exact rfl) | ((with_reducible apply r_ixgL); walk_at "rdh"; exact rfl)
  | with_reducible apply r_next | with_reducible apply r_drop | with_reducible apply r_int1 | with_reducible apply r_chain | with_reducible apply r_ord | with_reducible apply r_abs | with_reducible apply r_min2 | with_reducible apply r_max2
  | with_reducible apply r_leStr | with_reducible apply r_inSign | with_reducible apply r_notInSign | ((with_reducible apply r_isTy); assumption)
  | ((with_reducible apply r_lenL); walk_at "rdh") | ((with_reducible apply r_lenT); walk_at "rdh")
  | refine Rep.typ (by assumption) (fun _ _ => ?_) | refine r_isi (by assumption) (by assumption) (by decide) ?_)
local macro_rules | `(tactic| walk_at "rd") => `(tactic| repeat walk_at "rd1")

section
variable {P : Program} {w : World} {K : PySem.W.Frag} {mg : Str → Option Value} {base : Heap} {CC : Addr → Prop}
theorem ok__rows_of {f : Addr} {fd : FuncData} (F : Fun K "_rows_of" "_rows_of" s__rows_of f fd) (T : Txt K mg) (c__packed : C8.Cal P w K mg base 1 "_packed" (spPacked K) []) : FnOk P w K mg base CX0 2 f fd ["dots"] spRows := by
  refine F.ok sc__rows_of (fun vs H Q E h => ?_) (fun cdv A outer s H vs Q E hr h => ?_)
  · obtain ⟨p, xs, rfl, _⟩ := h
    rfl
  · obtain ⟨p, xs, rfl, hp, htw, hl, q⟩ := h
    refine ⟨_, (pss_cons (ps_set (i := 1) sc__rows_of.nd rfl (Or.inr rfl) (pe_callB cr_sortedPO rfl T.z_sorted (by decide +kernel) (pa_cons (pv 0) pa_nil)))
 (pss_cons (ps_setLc (i := 2) (own := [("at", 4)]) rfl sc__rows_of.nd rfl rfl (sw_true rfl rfl rfl (by decide +kernel)) (pi_range1 rfl T.z_range (pa_cons (pe_callB call_lenG rfl T.z_len (by decide +kernel) (pa_cons (pv 1) pa_nil)) pa_nil)) (blkOk_by (sc := defScope s__rows_of) (N := ["dots", "ordered", "starts", "ends", "at", "start", "end", "client", "number"]) (by decide +kernel)) (fun _ _ _ _ _ => (pg_name (i := 4) sc__rows_of.nd rfl (Or.inl rfl))) (fun _ _ _ _ _ => (pts_one (PW.pt (pw_or (pt_cmpR op_eq (pv 4) pe_int (nomark _)) (pw_or1 (pt_cmpR op_ne (pe_ix (r := rIx K) ix_seq (pe_ix (r := rIxL K) ix_list (pv 1) (pe_op op_sub (pv 4) pe_int) (fun _ _ => rfl)) pe_int (fun _ _ => rfl)) (pe_ix (r := rIx K) ix_seq (pe_ix (r := rIxL K) ix_list (pv 1) (pv 4) (fun _ _ => rfl)) pe_int (fun _ _ => rfl)) (nomark _))))))) (fun _ _ _ _ _ => (pv 4)))
 (pss_cons (ps_set (i := 3) sc__rows_of.nd rfl (Or.inl rfl) (pe_op op_cat (pe_slice sl_list (pv 2) (po_some pe_int) po_none) (pe_lst (pa_cons (pe_callB call_lenG rfl T.z_len (by decide +kernel) (pa_cons (pv 1) pa_nil)) pa_nil))))
 (pss_one (ps_ret (pe_dc (own := [("start", 5), ("end", 6)]) rfl sc__rows_of.nd (pi_zip rfl T.z_zip (pa_cons (pv 2) (pa_cons (pv 3) pa_nil))) (blkOk_by (sc := defScope s__rows_of) (N := ["dots", "ordered", "starts", "ends", "at", "start", "end", "client", "number"]) (by decide +kernel)) (fun _ _ _ _ _ => by exact (pg_tupB (K := K) (n := 2) rfl rfl (pgs_cons (pg_name (i := 5) sc__rows_of.nd rfl (Or.inl rfl)) (pgs_cons (pg_name (i := 6) sc__rows_of.nd rfl (Or.inl rfl)) pgs_nil)))) (fun _ _ _ _ _ => pts_nil) (fun _ _ _ _ _ => by exact (pe_ix (r := rIx K) ix_seq (pe_ix (r := rIxL K) ix_list (pv 1) (pv 5) (fun _ _ => rfl)) pe_int (fun _ _ => rfl))) (fun _ _ _ _ _ => by exact (C8.pe_c c__packed hr (by decide) rfl (pa_cons pe_int (pa_cons (pe_lc (own := [("client", 7), ("number", 8)]) rfl sc__rows_of.nd (pi_listB (K := K) rfl (pe_slice (r := rSlL K) sl_list (pv 1) (po_some (pv 5)) (po_some (pv 6)))) (blkOk_nf (N := ["dots", "ordered", "starts", "ends", "at", "start", "end", "client", "number"]) (by decide +kernel)) (fun _ _ _ _ _ => by exact (pg_tupB (K := K) (n := 2) rfl rfl (pgs_cons (pg_name (i := 7) sc__rows_of.nd rfl (Or.inl rfl)) (pgs_cons (pg_name (i := 8) sc__rows_of.nd rfl (Or.inl rfl)) pgs_nil)))) (fun _ _ _ _ _ => pts_nil) (fun _ _ _ _ _ => by exact (pv 8))) pa_nil)))))))))), ?_⟩
    walk_at "rd"
    refine ⟨p, xs, kAt H, rfl, SqL.of hp, fun x hx => ?_, fun ys o _ stb ho => ?_⟩
    · obtain ⟨t, i, j, rfl, e⟩ := htw x hx
      exact ⟨t, rfl, by rw [kAt_at (d := (i, j)) e]; exact e⟩
    have hn : ys.length = xs.length := stb.perm.length_eq
    have htw2 : ∀ y ∈ ys, Tw H y := fun y hy => htw y (stb.perm.mem_iff.mp hy)
    clear stb htw
    have s1 : Same H (upd H o (.lst ys)) := same_new ho
    generalize hH1 : upd H o (.lst ys) = H1 at s1
    have ho1 : H1 o = some (.lst ys) := by rw [← hH1]; exact upd_same
    clear hH1
    have htw1 : ∀ y ∈ ys, Tw H1 y := fun y hy => by
      obtain ⟨t, i, j, rfl, e⟩ := htw2 y hy
      exact ⟨t, i, j, rfl, s1 _ _ e⟩
    clear htw2
    have get : ∀ i : Nat, i < ys.length → ∃ t a b, ys[i]? = some (V.ref t) ∧ H1 t = some (.tup [.int a, .int b]) := fun i hi => by
      obtain ⟨t, a, b, e, h⟩ := htw1 ys[i] (List.getElem_mem hi)
      exact ⟨t, a, b, by rw [List.getElem?_eq_getElem hi, e], h⟩
    walk_at "rd"
    refine r_lc ?_
    refine r_rng1 ?_
    walk_at "rd"
    refine ⟨_, rfl, by omega, by omega, fun D1 hD1 => ?_⟩
    rw [show ((ys.length : Nat) : Int).toNat = ys.length from Int.toNat_natCast _]
    obtain ⟨bt, hbt⟩ : ∃ bt : Nat → Bool, ∀ i, bt i = (decide (V.int (i : Int) = V.int 0) || !decide (V.int (kAt H1 (ys.getD (i - 1) .non)).1 = V.int (kAt H1 (ys.getD i .non)).1)) := ⟨_, fun _ => rfl⟩
    have hmap : ∀ {i : Nat} {z : Bool × V}, ((List.range ys.length).map fun i => (bt i, V.int (i : Int)))[i]? = some z → i < ys.length ∧ z = (bt i, V.int (i : Int)) := fun {i z} h => by
      rw [List.getElem?_map, Option.map_eq_some_iff] at h
      obtain ⟨a, h1, h2⟩ := h
      obtain ⟨h3, h4⟩ := List.getElem?_eq_some_iff.mp h1
      rw [List.getElem_range] at h4
      subst h4
      exact ⟨by simpa using h3, h2.symm⟩
    have key : ∀ i : Nat, i < ys.length → ∃ t a b, atI ys (i : Int) = some (V.ref t) ∧ H1 t = some (.tup [.int a, .int b]) ∧ (kAt H1 (ys.getD i .non)).1 = a := fun i hi => by
      obtain ⟨t, a, b, e, h⟩ := get i hi
      refine ⟨t, a, b, atI_nat e, h, ?_⟩
      rw [List.getD_eq_getElem?_getD, e, Option.getD_some, kAt_at (d := (a, b)) h]
    refine lc_filter (walk_range (lo := 0) (n := ys.length)) (Y' := fun i x => x = .int (0 + i)) (fun i H x H' y => y) ((List.range ys.length).map fun i => (bt i, V.int (i : Int))) (by simp) (by omega) hD1 (fun _ _ => trivial) (fun _ => rfl) ?_ ?_ ?_
    · rintro i x b y H2 rfl hy s2 Q2 q2
      obtain ⟨hi, ez⟩ := hmap hy
      obtain ⟨rfl, rfl⟩ := Prod.mk.inj ez
      rw [Int.zero_add]
      have e0 := hbt i
      walk_at "rd"
      refine ite2 (fun e => ?_) (fun e => ?_)
      · rw [e, Bool.true_or] at e0
        rw [← e0]
        exact q2 H2 (Same.refl H2)
      · rw [Bool.eq_false_iff.mpr e, Bool.false_or] at e0
        have i0 : 0 < i := by
          rcases Nat.eq_zero_or_pos i with z | z
          · exact absurd (by rw [z]; exact decide_eq_true rfl) e
          · exact z
        obtain ⟨t1, a1, b1, g1, h1, k1⟩ := key (i - 1) (by omega)
        obtain ⟨t2, a2, b2, g2, h2, k2⟩ := key i hi
        have ho2 := s2 _ _ ho1
        have h12 := s2 _ _ h1
        have h22 := s2 _ _ h2
        rw [show ((i - 1 : Nat) : Int) = (i : Int) - 1 by omega] at g1
        walk_at "rd"
        refine r_ixL ho2 g1 ?_
        walk_at "rd"
        refine r_ixL ho2 g2 ?_
        walk_at "rd"
        rw [k1, k2] at e0
        rw [← e0]
        exact q2 H2 (Same.refl H2)
    · rintro i x y H2 rfl hy s2 Q2 q2
      obtain ⟨hi, ez⟩ := hmap hy
      obtain ⟨_, rfl⟩ := Prod.mk.inj ez
      rw [Int.zero_add]
      walk_at "rd"
      exact q2 H2 (Same.refl H2)
    · intro H2 s2 hL2
      generalize hS : (((List.range ys.length).map fun i => (bt i, V.int (i : Int))).filter (·.1)).map (·.2) = S at hL2
      have memS : ∀ v ∈ S, ∃ i : Nat, i < ys.length ∧ v = .int i := fun v hv => by
        rw [← hS] at hv
        exact starts_of hv
      have lenS : S.length ≤ ys.length := by
        rw [← hS, List.length_map]
        exact Nat.le_trans (List.length_filter_le ..) (by simp)
      clear hS hbt hmap
      have ho2 := s2 _ _ ho1
      walk_at "rd"
      refine r_slice ?_
      walk_at "rd"
      refine r_part (r_c ⟨1, rfl, r_nopart (r_slL hL2 fun D2 hD2 => ?_)⟩)
      generalize hT : cutV S (some 1) none = S1
      have memS1 : ∀ v ∈ S1, v ∈ S := fun v hv => by rw [← hT] at hv; exact cut_mem hv
      have lenS1 : S1.length ≤ S.length := by rw [← hT]; exact cutV_length ..
      clear hT
      have s3 : Same H2 (upd H2 D2 (.lst S1)) := same_new hD2
      have at3 : (upd H2 D2 (.lst S1)) D2 = some (.lst S1) := upd_same
      generalize upd H2 D2 (.lst S1) = H3 at s3 at3
      have ho3 := s3 _ _ ho2
      walk_at "rd"
      refine ⟨szL rfl, fun D3 hD3 => ?_⟩
      have n23 : D2 ≠ D3 := fun z => by rw [z, hD3] at at3; cases at3
      refine r_cat (by rw [upd_ne n23]; exact at3) upd_same (sz1000 (by rw [List.length_singleton]; omega)) fun D4 hD4 => ?_
      have s5 : Same H1 (upd (upd H3 D3 (.lst [V.int (ys.length : Int)])) D4 (.lst (S1 ++ [V.int (ys.length : Int)]))) := ((s2.trans s3).trans (same_new hD3)).trans (same_new hD4)
      have at5 : (upd (upd H3 D3 (.lst [V.int (ys.length : Int)])) D4 (.lst (S1 ++ [V.int (ys.length : Int)]))) D4 = some (.lst (S1 ++ [V.int (ys.length : Int)])) := upd_same
      have at5S : (upd (upd H3 D3 (.lst [V.int (ys.length : Int)])) D4 (.lst (S1 ++ [V.int (ys.length : Int)]))) D1 = some (.lst S) := (same_new hD4) _ _ ((same_new hD3) _ _ (s3 _ _ hL2))
      generalize hE : S1 ++ [V.int (ys.length : Int)] = E1 at at5 at5S s5
      have memE : ∀ v ∈ E1, ∃ i : Nat, i ≤ ys.length ∧ v = .int i := fun v hv => by
        rw [← hE] at hv
        rcases List.mem_append.mp hv with z | z
        · obtain ⟨i, h1, h2⟩ := memS v (memS1 v z)
          exact ⟨i, by omega, h2⟩
        · exact ⟨ys.length, Nat.le_refl _, by simpa using z⟩
      generalize upd (upd H3 D3 (.lst [V.int (ys.length : Int)])) D4 (.lst E1) = H5 at s5 at5 at5S
      clear hE memS1 s3 at3 ho3 hD3 hD4 n23 hD2 lenS1 hL2 s2 ho2
      walk_at "rd"
      refine r_dc ?_
      refine r_zip ?_
      walk_at "rd"
      refine ⟨D1, D4, S, E1, rfl, SqL.of at5S, SqL.of at5, fun D hD => ?_⟩
      have nD1 : D1 ≠ D := ne_of_none at5S hD
      have nD4 : D4 ≠ D := ne_of_none at5 hD
      refine dc_it (walk_zip rfl) (fun i H' => Same H5 H' ∧ ∃ kvs, H' D = some (.dK kvs) ∧ kvs.length ≤ i) ⟨same_new hD, [], upd_same, Nat.le_refl _⟩ (fun i H' _ h => ⟨SqL.of (h.1 _ _ at5S), SqL.of (h.1 _ _ at5)⟩) ?_ ?_
      · rintro i x H6 H7 hi ⟨s6, kvs, hkv, lkv⟩ ⟨t, xa, xb, rfl, ht, rfl, ea, eb⟩
        obtain ⟨ia, la, rfl⟩ := memS xa (List.mem_of_getElem? ea)
        obtain ⟨ib, lb, rfl⟩ := memE xb (List.mem_of_getElem? eb)
        refine r_gtup (SqT.of upd_same) rfl (r_gcons (r_name (r_gcons (r_name (r_gnil ?_)))))
        refine ⟨rfl, ?_⟩
        have s7 : Same H5 (upd H6 t (.tup [V.int ia, V.int ib])) := s6.trans (same_new ht)
        have kv7 : (upd H6 t (.tup [V.int ia, V.int ib])) D = some (.dK kvs) := same_new ht _ _ hkv
        generalize upd H6 t (.tup [V.int ia, V.int ib]) = H7 at s7 kv7
        obtain ⟨t1, a1, b1, g1, h1, _⟩ := key ia la
        have ho7 := s7 _ _ (s5 _ _ ho1)
        have h17 := s7 _ _ (s5 _ _ h1)
        refine r_yes ?_
        rw [if_pos rfl]
        walk_at "rd"
        refine r_ixL ho7 g1 ?_
        walk_at "rd"
        refine r_lc (r_list (r_slice ?_))
        walk_at "rd"
        refine r_part ?_
        walk_at "rd"
        refine ⟨_, rfl, r_part ?_⟩
        walk_at "rd"
        refine ⟨_, rfl, r_slL ho7 fun D5 hD5 => ?_⟩
        have memC : ∀ v ∈ cutV ys (some (ia : Int)) (some (ib : Int)), v ∈ ys := fun v hv => cut_mem hv
        have lenC : (cutV ys (some (ia : Int)) (some (ib : Int))).length ≤ ys.length := cutV_length ..
        generalize cutV ys (some (ia : Int)) (some (ib : Int)) = C at memC lenC
        have s8 : Same H7 (upd H7 D5 (.lst C)) := same_new hD5
        have at8 : (upd H7 D5 (.lst C)) D5 = some (.lst C) := upd_same
        generalize upd H7 D5 (.lst C) = H8 at s8 at8
        refine ⟨D5, rfl, ⟨_, SqL.of at8⟩, fun D6 hD6 => ?_⟩
        have n56 : D5 ≠ D6 := ne_of_none at8 hD6
        refine lc_it walk_list (fun j H' => Same H8 H' ∧ ∃ ns : List Int, ns.length = j ∧ H' D6 = some (.lst (ns.map V.int))) ⟨same_new hD6, [], rfl, upd_same⟩ (fun j H' _ h => SqL.of (h.1 _ _ at8)) ?_ ?_
        · rintro j x H9 H10 hj ⟨s9, ns, lns, hns⟩ ⟨rfl, ex⟩
          obtain ⟨t2, a2, b2, rfl, h2⟩ := htw1 x (memC x (List.mem_of_getElem? ex))
          have h29 := s9 _ _ (s8 _ _ (s7 _ _ (s5 _ _ h2)))
          refine r_gtup (SqT.of h29) rfl (r_gcons (r_name (r_gcons (r_name (r_gnil ?_)))))
          refine ⟨rfl, ?_⟩
          refine r_yes ?_
          rw [if_pos rfl]
          walk_at "rd"
          refine ⟨ns.map V.int, hns, by rw [List.length_map]; exact small1000 (by omega), fun b o e => ?_, ns ++ [b2], by simp [lns], ?_⟩
          · rw [upd_ne (ne_of_none e hD6)]
            exact s9 _ _ e
          · rw [upd_same, List.map_append]
            rfl
        · rintro H9 ⟨s9, ns, lns, hns⟩
          walk_at "rd"
          refine ⟨0, D6, ns, rfl, .inl (SqL.of hns), by omega, fun so q1 l1 H10 _ _ s10 hq1 _ _ _ => ?_⟩
          have s710 : Same H7 H10 := (s8.trans s9).trans s10
          have kv10 := s710 _ _ kv7
          refine ⟨kvs, .inl a1, rfl, kv10, small1000 (by omega), fun b o e => ?_, putK kvs (.inl a1) (.ref q1), upd_same, ?_⟩
          · rw [upd_ne (ne_of_none e hD)]
            exact s710 _ _ (s7 _ _ e)
          · have := length_putK kvs (.inl a1) (V.ref q1)
            omega
      · rintro H6 ⟨s6, kvs, hkv, _⟩
        refine q D kvs H6 (fun b o e => s6 _ _ (s5 _ _ (s1 _ _ e))) ?_ hkv
        exact s1.free (s5.free hD)
end
end RH
namespace RH
open PySem L2
local macro_rules | `(tactic| walk_at "rdh") => `(tactic| first | assumption | exact upd_same | (rw [upd_ne (by assumption)]; assumption) | (rw [upd_ne (Ne.symm (by assumption))]; assumption))
local macro_rules | `(tactic| walk_at "rdc") => `(tactic| first | assumption | decide | omega | exact cmul_r (by decide) (by decide) | exact cmul_l (by decide) (by decide) | exact cpow (by decide) (by decide) (by decide) | exact cdiv (by decide) (by decide) | exact wide_div (b := 200) (by assumption) (by omega) (by decide) (by decide) | exact cmul_r (by omega) (by omega) | exact cmul_l (by omega) (by omega))
local macro_rules | `(tactic| walk_at "rd1") => `(tactic| first
  | with_reducible apply r_op | ((with_reducible apply r_var); exact rfl) | with_reducible apply r_c | with_reducible apply r_cons | with_reducible apply r_nil | with_reducible apply r_I0
  | with_reducible apply r_seq | with_reducible apply r_asg | with_reducible apply r_name | with_reducible apply r_cb | with_reducible apply r_test | with_reducible apply r_k
  | with_reducible apply r_ifS | with_reducible apply r_call | with_reducible apply r_ret | ((with_reducible apply r_I); walk_at "rdc") | ((with_reducible apply r_eq); exact rfl) | ((with_reducible apply r_ne); exact rfl)
  | ((with_reducible apply r_ixL); walk_at "rdh"; exact rfl) | ((with_reducible apply r_ixT); walk_at "rdh"; exact rfl) | with_reducible apply r_sub | ((with_reducible apply r_setL); walk_at "rdh"; exact rfl)
  | with_reducible apply r_un | with_reducible apply r_U | with_reducible apply r_B | with_reducible apply r_and | with_reducible apply r_or | with_reducible apply r_not
  | with_reducible apply r_andV | with_reducible apply r_orV | with_reducible apply r_notV | with_reducible apply r_if | with_reducible apply r_tup | with_reducible apply r_lst
  | ((with_reducible apply r_ixgT); walk_at "rdh"; exact rfl) | ((with_reducible apply r_ixgL); walk_at "rdh"; exact rfl)
  | with_reducible apply r_next | with_reducible apply r_drop | with_reducible apply r_int1 | with_reducible apply r_chain | with_reducible apply r_ord | with_reducible apply r_abs | with_reducible apply r_min2 | with_reducible apply r_max2
  | with_reducible apply r_leStr | with_reducible apply r_inSign | with_reducible apply r_notInSign | ((with_reducible apply r_isTy); assumption)
  | ((with_reducible apply r_lenL); walk_at "rdh") | ((with_reducible apply r_lenT); walk_at "rdh")
  | refine Rep.typ (by assumption) (fun _ _ => ?_) | refine r_isi (by assumption) (by assumption) (by decide) ?_)
local macro_rules | `(tactic| walk_at "rd") => `(tactic| repeat walk_at "rd1")

section
variable {P : Program} {w : World} {K : PySem.W.Frag} {mg : Str → Option Value} {base : Heap} {CC : Addr → Prop}
theorem ok_Clock___init__ {f C : Addr} {fd : FuncData} (F : Fun K "__init__" "Clock.__init__" s_Clock___init__ f fd) (T : Txt K mg) (cl_Clock : Cls K C) (na_Clock__rows : NoAttr K C "_rows") (c__rows_of : C8.Cal P w K mg base 2 "_rows_of" spRows []) : FnOk P w K mg base CX0 3 f fd ["self", "dots"] (spClk C) := by
  refine F.ok sc_Clock___init__ (fun vs H Q E h => ?_) (fun cdv A outer s H vs Q E hr h => ?_)
  · obtain ⟨x, dx, p, ts, dots, rfl, _⟩ := h
    rfl
  · obtain ⟨x, dx, p, ts, dots, rfl, hx, hp, hd, hl, q⟩ := h
    refine ⟨_, (pss_one (ps_fld (pv 0) (C8.pe_c c__rows_of hr (by decide) rfl (pa_cons (pv 1) pa_nil)) rfl)), ?_⟩
    show tCall spRows [] C8.E0 (tCons (tVar 1) tNil) _ _ _
    walk_at "rd"
    refine ⟨p, ts.map V.ref, rfl, hp, fun v hv => ?_, by rw [List.length_map]; exact hl, fun D kvs H1 s1 _ _ => ?_⟩
    · obtain ⟨t, ht, rfl⟩ := List.mem_map.mp hv
      obtain ⟨d, _, e⟩ := paired_mem hd t ht
      exact ⟨t, d.1, d.2, rfl, e⟩
    · walk_at "rd"
      refine ⟨x, C, dx, [], rfl, s1 _ _ hx, cl_Clock, na_Clock__rows, by decide, ?_⟩
      refine q _ _ (fun b o n e => ?_) upd_same
      rw [upd_ne n]
      exact s1 _ _ e
end
end RH
namespace RH
open PySem L2
local macro_rules | `(tactic| walk_at "rdh") => `(tactic| first | assumption | exact upd_same | (rw [upd_ne (by assumption)]; assumption) | (rw [upd_ne (Ne.symm (by assumption))]; assumption))
local macro_rules | `(tactic| walk_at "rdc") => `(tactic| first | assumption | decide | omega | exact cmul_r (by decide) (by decide) | exact cmul_l (by decide) (by decide) | exact cpow (by decide) (by decide) (by decide) | exact cdiv (by decide) (by decide) | exact wide_div (b := 200) (by assumption) (by omega) (by decide) (by decide) | exact cmul_r (by omega) (by omega) | exact cmul_l (by omega) (by omega))
local macro_rules | `(tactic| walk_at "rd1") => `(tactic| first
  | with_reducible apply r_op | ((with_reducible apply r_var); exact rfl) | with_reducible apply r_c | with_reducible apply r_cons | with_reducible apply r_nil | with_reducible apply r_I0
  | with_reducible apply r_seq | with_reducible apply r_asg | with_reducible apply r_name | with_reducible apply r_cb | with_reducible apply r_test | with_reducible apply r_k
  | with_reducible apply r_ifS | with_reducible apply r_call | with_reducible apply r_ret | ((with_reducible apply r_I); walk_at "rdc") | ((with_reducible apply r_eq); exact rfl) | ((with_reducible apply r_ne); exact rfl)
  | ((with_reducible apply r_ixL); walk_at "rdh"; exact rfl) | ((with_reducible apply r_ixT); walk_at "rdh"; exact rfl) | with_reducible apply r_sub | ((with_reducible apply r_setL); walk_at "rdh"; exact rfl)
  | with_reducible apply r_un | with_reducible apply r_U | with_reducible apply r_B | with_reducible apply r_and | with_reducible apply r_or | with_reducible apply r_not
  | with_reducible apply r_andV | with_reducible apply r_orV | with_reducible apply r_notV | with_reducible apply r_if | with_reducible apply r_tup | with_reducible apply r_lst
  | ((with_reducible apply r_ixgT); walk_at "rdh"; exact rfl) | ((with_reducible apply r_ixgL); walk_at "rdh"; exact rfl)
  | with_reducible apply r_next | with_reducible apply r_drop | with_reducible apply r_int1 | with_reducible apply r_chain | with_reducible apply r_ord | with_reducible apply r_abs | with_reducible apply r_min2 | with_reducible apply r_max2
  | with_reducible apply r_leStr | with_reducible apply r_inSign | with_reducible apply r_notInSign | ((with_reducible apply r_isTy); assumption)
  | ((with_reducible apply r_lenL); walk_at "rdh") | ((with_reducible apply r_lenT); walk_at "rdh")
  | refine Rep.typ (by assumption) (fun _ _ => ?_) | refine r_isi (by assumption) (by assumption) (by decide) ?_)
local macro_rules | `(tactic| walk_at "rd") => `(tactic| repeat walk_at "rd1")

section
variable {P : Program} {w : World} {K : PySem.W.Frag} {mg : Str → Option Value} {base : Heap} {CC : Addr → Prop}
theorem is_item_len {f : D → Bool} : ∀ vs H Q E, spB K CC f vs H Q E → vs.length = 1 := by
  rintro vs H Q E ⟨x, d, rfl, _⟩
  rfl
theorem ok_is_item {f : Addr} {fd : FuncData} (F : Fun K "is_item" "is_item" s_is_item f fd) (T : Txt K mg) (c_is_integer : C8.Cal P w K mg base 1 "is_integer" (spB K CC isInt) []) (c_is_text : C8.Cal P w K mg base 2 "is_text" (spB K CC isText) []) : FnOk P w K mg base CX0 3 f fd ["thing"] (spB K CC isItem) := by
  refine F.ok sc_is_item is_item_len (fun cdv A outer s H vs Q E hr h => ?_)
  obtain ⟨x, d, rfl, R, q⟩ := h
  refine ⟨_, (pss_one (ps_ret (pe_or (C8.pe_c c_is_integer hr (by decide) rfl (pa_cons (pv 0) pa_nil)) (pe_one (C8.pe_c c_is_text hr (by decide) rfl (pa_cons (pv 0) pa_nil)))))), ?_⟩
  walk_at "rd"
  refine ⟨_, _, rfl, R, fun H1 s1 => ?_⟩
  walk_at "rd"
  refine ite2 (fun e => ?_) (fun e => ?_)
  · exact qbl (q H1 s1) (by unfold isItem; rw [e, Bool.true_or])
  · walk_at "rd"
    refine ⟨_, _, rfl, R.mono s1, fun H2 s2 => ?_⟩
    exact qbl (q H2 (s1.trans s2)) (by unfold isItem; rw [Bool.eq_false_iff.mpr e, Bool.false_or])
theorem ok__law_other {f C : Addr} {fd : FuncData} (F : Fun K "_law_other" "_law_other" s__law_other f fd) (T : Txt K mg) (CC1 : CC C) (c__law_draw : C8.Cal P w K mg base 1 "_law_draw" sp_draw []) (m_Clock : C8.Mak P w K mg base 3 "Clock" C (spClk C) []) :
    FnOk P w K mg base CX0 5 f fd ["row"] (sp_oth K CC) := by
  refine F.ok sc__law_other (fun vs H Q E h => ?_) (fun cdv A outer s H vs Q E hr h => ?_)
  · obtain ⟨i, rfl, _⟩ := h
    rfl
  · obtain ⟨r, rfl, row, q⟩ := h
    refine ⟨_, (pss_cons (ps_set (i := 1) sc__law_other.nd rfl (Or.inl rfl) (C8.pe_c c__law_draw hr (by decide) rfl (pa_cons (pv 0) (pa_cons pe_int pa_nil))))
 (pss_cons (ps_if (pt_cmpR op_lt (pv 1) pe_int (nomark _))
 (pss_one (ps_ret (pe_ix ix_tup (pe_tup (pa_cons pe_bl (pa_cons pe_bl (pa_cons pe_non (pa_cons (C8.pe_mk m_Clock hr (by decide) rfl (pa_cons (pe_lst (pa_cons (pe_tup (pa_cons pe_int (pa_cons pe_int pa_nil))) pa_nil)) pa_nil)) pa_nil))))) (pv 1) (fun _ _ => rfl))))
 pss_nil)
 (pss_cons (ps_if (pt_cmpR op_eq (pv 1) pe_int (nomark _))
 (pss_one (ps_ret (pe_disp (pps_cons pe_str (C8.pe_c c__law_draw hr (by decide) rfl (pa_cons (pv 0) (pa_cons pe_int pa_nil))) pps_nil) rfl rfl (List.cons_ne_nil _ _) (by decide))))
 pss_nil)
 (pss_cons (ps_if (pt_cmpR op_eq (pv 1) pe_int (nomark _))
 (pss_one (ps_ret (pe_callTy call_strI rfl T.z_str (by decide +kernel) (pa_cons (C8.pe_c c__law_draw hr (by decide) rfl (pa_cons (pv 0) (pa_cons pe_int pa_nil))) pa_nil))))
 pss_nil)
 (pss_cons (ps_set (i := 2) sc__law_other.nd rfl (Or.inl rfl) (pe_ix ix_tup (pe_tup (pa_cons pe_str (pa_cons pe_int (pa_cons (pe_tup pa_nil) (pa_cons pe_non pa_nil))))) (C8.pe_c c__law_draw hr (by decide) rfl (pa_cons (pv 0) (pa_cons pe_int pa_nil))) (fun _ _ => rfl)))
 (pss_cons (ps_for PassesOwn.never rfl (pi_range1 rfl T.z_range (pa_cons (pe_op op_add pe_int (C8.pe_c c__law_draw hr (by decide) rfl (pa_cons (pv 0) (pa_cons pe_int pa_nil)))) pa_nil)) (pg_name (i := 3) sc__law_other.nd rfl (Or.inl rfl))
 (pss_one (ps_if (pt_cmpR op_eq (pv 1) pe_int (nomark _))
 (pss_one (ps_set (i := 2) sc__law_other.nd rfl (Or.inl rfl) (pe_tup (pa_cons (pv 2) pa_nil))))
 (pss_one (ps_set (i := 2) sc__law_other.nd rfl (Or.inl rfl) (pe_lst (pa_cons (pv 2) pa_nil)))))))
 (pss_one (ps_ret (pv 2))))))))), ?_⟩
    walk_at "rd"
    refine r_draw row (by decide) (by decide) fun kd H1 l1 u1 f1 row1 => ?_
    walk_at "rd"
    refine ite2 (fun e1 => ?_) (fun e1 => ?_)
    · walk_at "rd"
      refine r_clk01 row1 fun y dy fs H2 f2 row2 hy hy2 => ?_
      walk_at "rd"
      refine ⟨szL rfl, fun p hp => ?_⟩
      walk_at "rd"
      have f12 := f1.trans f2
      have row3 := row2.upd (o := .tup [.bl true, .bl false, .non, .ref y]) hp
      have f3 : Fr r H (upd H2 p (.tup [.bl true, .bl false, .non, .ref y])) := f12.trans (Fr.new hp)
      have k4 : kd < 4 := of_decide_eq_true e1
      obtain ⟨v, hv, e⟩ := atI_in (xs := [.bl true, .bl false, .non, .ref y]) l1 k4
      refine r_ixT upd_same e ?_
      simp only [List.mem_cons, List.not_mem_nil, or_false] at hv
      rcases hv with rfl | rfl | rfl | rfl
      · exact q _ _ _ f3 row3 (.bl true) (.no fun xs => nofun)
      · exact q _ _ _ f3 row3 (.bl false) (.no fun xs => nofun)
      · exact q _ _ _ f3 row3 .non (.no fun xs => nofun)
      · have nyp : y ≠ p := ne_of_none hy2 hp
        have hyH : H y = none := by
          cases z : H y with
          | none => rfl
          | some o =>
            by_cases yr : y = r
            · obtain ⟨a, b, c, w1⟩ := row1
              rw [yr, w1] at hy
              cases hy
            · rw [f1 y o yr z] at hy
              cases hy
        exact q _ .oth _ f3 row3 (.oth (fresh_of hyH (by rw [upd_ne nyp]; exact hy2)) CC1) (.no fun xs => nofun)
    · walk_at "rd"
      refine ite2 (fun e2 => ?_) (fun e2 => ?_)
      · walk_at "rd"
        intro p hp
        show tC (.str "a") _ _ _
        walk_at "rd"
        have row1p := row1.upd (o := .dK []) hp
        have pr : p ≠ r := row1.ne_of hp
        refine r_draw row1p (by decide) (by decide) fun d2 H2 l2 u2 f2 row2 => ?_
        have hp2 : H2 p = some (.dK []) := f2 p _ pr upd_same
        refine ⟨hp2, [(.inr "a", .int d2)], rfl, Nat.le_of_ble_eq_true rfl, ?_⟩
        have hpH : H p = none := by
          cases z : H p with
          | none => rfl
          | some o =>
            rw [f1 p o pr z] at hp
            cases hp
        have row3 : Row (upd H2 p (.dK [(.inr "a", .int d2)])) r := by
          obtain ⟨x1, x2, x3, e⟩ := row2
          exact ⟨x1, x2, x3, by rw [upd_ne pr.symm]; exact e⟩
        exact q _ .dct _ ((f1.trans ((Fr.new hp).trans f2)).mut hpH) row3 (.dct (fresh_of hpH upd_same)) (.no fun xs => nofun)
      · walk_at "rd"
        refine ite2 (fun e3 => ?_) (fun e3 => ?_)
        · walk_at "rd"
          refine r_draw row1 (by decide) (by decide) fun d2 H2 l2 u2 f2 row2 => ?_
          walk_at "rd"
          refine r_strI l2 u2 fun ok => ?_
          exact q _ _ _ (f1.trans f2) row2 (.str _ ok) (.no fun xs => nofun)
        · walk_at "rd"
          refine ⟨szL rfl, fun p1 hp1 => ?_⟩
          walk_at "rd"
          refine ⟨szL rfl, fun p2 hp2 => ?_⟩
          walk_at "rd"
          have row1a := (row1.upd (o := .tup []) hp1).upd (o := .tup [.str "a", .int 0, .ref p1, .non]) hp2
          refine r_draw row1a (by decide) (by decide) fun d2 H2 l2 u2 f2 row2 => ?_
          have p2r : p2 ≠ r := (row1.upd hp1).ne_of hp2
          have p1r : p1 ≠ r := row1.ne_of hp1
          have n12 : p1 ≠ p2 := fun z => by rw [← z, upd_same] at hp2; cases hp2
          have a2 : H2 p2 = some (.tup [.str "a", .int 0, .ref p1, .non]) := f2 _ _ p2r upd_same
          have a1 : H2 p1 = some (.tup []) := f2 _ _ p1r (by rw [upd_ne n12]; exact upd_same)
          have fA : Fr r H H2 := f1.trans ((Fr.new hp1).trans ((Fr.new hp2).trans f2))
          have h1H : H p1 = none := by
            cases z : H p1 with
            | none => rfl
            | some o =>
              rw [f1 p1 o p1r z] at hp1
              cases hp1
          obtain ⟨v, hv, e⟩ := atI_in (xs := [.str "a", .int 0, .ref p1, .non]) l2 u2
          refine r_ixT a2 e ?_
          walk_at "rd"
          simp only [List.mem_cons, List.not_mem_nil, or_false] at hv
          obtain ⟨dv, pd, R0, D0, S0⟩ : ∃ d pd, Rep K CC (fresh H H2) v d ∧ Dp K (fresh H H2) v pd ∧ Shw pd 1 := by
            rcases hv with rfl | rfl | rfl | rfl
            · exact ⟨_, _, .str _ okS_a1, .str _, shw_a⟩
            · exact ⟨_, _, .int 0, .int 0, shw_0⟩
            · have at1 := fresh_of h1H a1
              exact ⟨_, _, .tup (ds := []) at1 rfl (by decide) (fun i x d z => by simp at z), .tup (SqT.of at1) .nil, shw_u⟩
            · exact ⟨_, _, .non, .non, shw_n⟩
          refine r_for (r_rng1 ?_)
          walk_at "rd"
          refine r_draw row2 (by decide) (by decide) fun d3 H3 l3 u3 f3 row3 => ?_
          walk_at "rd"
          refine ⟨_, rfl, by omega, by omega, ?_⟩
          have hrow : H r ≠ none := row.ne
          have s23 : Same (fresh H H2) (fresh H H3) := fresh_fr (Dom.refl H) hrow f3
          refine go_range (fun i σ' H' => (∃ v d pd u4, σ' = [some (.ref r), some (.int kd), some v, u4] ∧ Rep K CC (fresh H H') v d ∧ Dp K (fresh H H') v pd ∧ Shw pd (i + 1)) ∧ Fr r H H' ∧ Row H' r) ⟨⟨v, dv, pd, _, rfl, R0.mono s23, dp_mono s23 _ _ D0, S0⟩, fA.trans f3, row3⟩ ?_ ?_
          · rintro i x σ' H4 hi ⟨⟨v4, d4, pd4, u4, rfl, R4, D4, S4⟩, f4, row4⟩ rfl
            walk_at "rd"
            have d4H : Dom H H4 := f4.dom row4
            refine ite2 (fun e6 => ?_) (fun e6 => ?_)
            · walk_at "rd"
              refine ⟨szL rfl, fun p5 hp5 => ?_⟩
              walk_at "rd"
              have sN : Same (fresh H H4) (fresh H (upd H4 p5 (.tup [v4]))) := fresh_fr (Dom.refl H) hrow (Fr.new hp5)
              have at5 : fresh H (upd H4 p5 (.tup [v4])) p5 = some (.tup [v4]) := fresh_of (d4H _ hp5) upd_same
              refine ⟨⟨_, .tup [d4], .tuple [pd4], _, rfl, .tup at5 rfl (by simp) (fun j x d hx hd => ?_), .tup (SqT.of at5) (.cons (dp_mono sN _ _ D4) .nil), S4.tup⟩, f4.trans (Fr.new hp5), row4.upd hp5⟩
              exact nest1 (R4.mono sN) hx hd
            · walk_at "rd"
              refine ⟨szL rfl, fun p5 hp5 => ?_⟩
              walk_at "rd"
              have sN : Same (fresh H H4) (fresh H (upd H4 p5 (.lst [v4]))) := fresh_fr (Dom.refl H) hrow (Fr.new hp5)
              have at5 : fresh H (upd H4 p5 (.lst [v4])) p5 = some (.lst [v4]) := fresh_of (d4H _ hp5) upd_same
              refine ⟨⟨_, .lst [d4], .list [pd4], _, rfl, .lst at5 rfl (by simp) (fun j x d hx hd => ?_), .lst (SqL.of at5) (.cons (dp_mono sN _ _ D4) .nil), S4.lst⟩, f4.trans (Fr.new hp5), row4.upd hp5⟩
              exact nest1 (R4.mono sN) hx hd
          · rintro σ' H4 ⟨⟨v4, d4, pd4, u4, rfl, R4, D4, S4⟩, f4, row4⟩
            walk_at "rd"
            exact q v4 d4 H4 f4 row4 R4 fun xs _ => ⟨pd4, _, D4, S4, by omega⟩
end
end RH
namespace RH
open PySem L2
local macro_rules | `(tactic| walk_at "rdh") => `(tactic| first | assumption | exact upd_same | (rw [upd_ne (by assumption)]; assumption) | (rw [upd_ne (Ne.symm (by assumption))]; assumption))
local macro_rules | `(tactic| walk_at "rdc") => `(tactic| first | assumption | decide | omega | exact cmul_r (by decide) (by decide) | exact cmul_l (by decide) (by decide) | exact cpow (by decide) (by decide) (by decide) | exact cdiv (by decide) (by decide) | exact wide_div (b := 200) (by assumption) (by omega) (by decide) (by decide) | exact cmul_r (by omega) (by omega) | exact cmul_l (by omega) (by omega))
local macro_rules | `(tactic| walk_at "rd1") => `(tactic| first
  | with_reducible apply r_op | ((with_reducible apply r_var); exact rfl) | with_reducible apply r_c | with_reducible apply r_cons | with_reducible apply r_nil | with_reducible apply r_I0
  | with_reducible apply r_seq | with_reducible apply r_asg | with_reducible apply r_name | with_reducible apply r_cb | with_reducible apply r_test | with_reducible apply r_k
  | with_reducible apply r_ifS | with_reducible apply r_call | with_reducible apply r_ret | ((with_reducible apply r_I); walk_at "rdc") | ((with_reducible apply r_eq); exact rfl) | ((with_reducible apply r_ne); exact rfl)
  | ((with_reducible apply r_ixL); walk_at "rdh"; exact rfl) | ((with_reducible apply r_ixT); walk_at "rdh"; exact rfl) | with_reducible apply r_sub | ((with_reducible apply r_setL); walk_at "rdh"; exact rfl)
  | with_reducible apply r_un | with_reducible apply r_U | with_reducible apply r_B | with_reducible apply r_and | with_reducible apply r_or | with_reducible apply r_not
  | with_reducible apply r_andV | with_reducible apply r_orV | with_reducible apply r_notV | with_reducible apply r_if | with_reducible apply r_tup | with_reducible apply r_lst
  | ((with_reducible apply r_ixgT); walk_at "rdh"; exact rfl) | ((with_reducible apply r_ixgL); walk_at "rdh"; exact rfl)
  | with_reducible apply r_next | with_reducible apply r_drop | with_reducible apply r_int1 | with_reducible apply r_chain | with_reducible apply r_ord | with_reducible apply r_abs | with_reducible apply r_min2 | with_reducible apply r_max2
  | with_reducible apply r_leStr | with_reducible apply r_inSign | with_reducible apply r_notInSign | ((with_reducible apply r_isTy); assumption)
  | ((with_reducible apply r_lenL); walk_at "rdh") | ((with_reducible apply r_lenT); walk_at "rdh")
  | refine Rep.typ (by assumption) (fun _ _ => ?_) | refine r_isi (by assumption) (by assumption) (by decide) ?_)
local macro_rules | `(tactic| walk_at "rd") => `(tactic| repeat walk_at "rd1")

/-- z is what repr shows of the thing at v, if it is a list -/
def ShownZ (K : PySem.W.Frag) (H : Hp) (v : V) (d : D) (z : Str) : Prop := ∀ xs, d = .lst xs → ∃ pd k, Dp K H v pd ∧ Shw pd k ∧ k ≤ 64 ∧ z = pd.shown
theorem ShownZ.mono {K : PySem.W.Frag} {H H' : Hp} {v : V} {d : D} {z : Str} (h : ShownZ K H v d z) (s : Same H H') : ShownZ K H' v d z := fun xs e => by
  obtain ⟨pd, k, a, b, c, f⟩ := h xs e
  exact ⟨pd, k, dp_mono s pd v a, b, c, f⟩
theorem isD_lstT {d : D} (h : isD d "list" = true) : ∃ xs, d = .lst xs := by
  cases d with
  | lst xs => exact ⟨xs, rfl⟩
  | _ => cases h
section
variable {P : Program} {w : World} {K : PySem.W.Frag} {mg : Str → Option Value} {base : Heap} {CC : Addr → Prop}
theorem ok_law {f : Addr} {fd : FuncData} (F : Fun K "law" "law" s_law f fd) (T : Txt K mg) (hC : ∀ C, CC C → ClsI K C)
    (c__law_open : C8.Cal P w K mg base 1 "_law_open" (sp_open K) []) (c__law_draw : C8.Cal P w K mg base 1 "_law_draw" sp_draw []) (c__law_whole : C8.Cal P w K mg base 2 "_law_whole" sp_int [])
    (c__law_string : C8.Cal P w K mg base 2 "_law_string" sp_str []) (c__law_other : C8.Cal P w K mg base 5 "_law_other" (sp_oth K CC) [])
    (c_is_integer : C8.Cal P w K mg base 1 "is_integer" (spB K CC isInt) []) (c__law_is_integer : C8.Cal P w K mg base 1 "_law_is_integer" (spB K CC isInt) [])
    (c_is_number : C8.Cal P w K mg base 2 "is_number" (spB K CC isNum) []) (c__law_is_number : C8.Cal P w K mg base 2 "_law_is_number" (spB K CC isNum) [])
    (c_is_text : C8.Cal P w K mg base 2 "is_text" (spB K CC isText) []) (c__law_is_text : C8.Cal P w K mg base 1 "_law_is_text" (spB K CC isText) [])
    (c_is_item : C8.Cal P w K mg base 3 "is_item" (spB K CC isItem) []) (c__law_said : C8.Cal P w K mg base 1 "_law_said" spSaid []) :
    AtTop P w K mg base f fd ["script"] (spLaw K) := by
  refine top_of (k := 6) F sc_law ⟨rfl, by decide, by decide⟩ (fun vs H Q E h => ?_) (fun cdv s H vs Q hr h => ?_)
  · obtain ⟨i, ns, rfl, _⟩ := h
    rfl
  · obtain ⟨a, ns, rfl, hS, hl, q⟩ := h
    refine ⟨_, (pss_cons (ps_for PassesOwn.never rfl (pi_range1 rfl T.z_range (pa_cons (pe_op op_add pe_int (pe_callB (call_min2G rfl) rfl T.z_min (by decide +kernel) (pa_cons (pe_callB call_lenG rfl T.z_len (by decide +kernel) (pa_cons (pv 0) pa_nil)) (pa_cons pe_int pa_nil)))) pa_nil)) (pg_name (i := 1) sc_law.nd rfl (Or.inl rfl))
 (pss_cons (ps_set (i := 2) sc_law.nd rfl (Or.inl rfl) (C8.pe_c c__law_open hr (by decide) rfl (pa_cons (pv 0) (pa_cons (pv 1) pa_nil))))
 (pss_cons (ps_set (i := 3) sc_law.nd rfl (Or.inl rfl) (C8.pe_c c__law_draw hr (by decide) rfl (pa_cons (pv 2) (pa_cons pe_int pa_nil))))
 (C8.pss_cut (ps_if (pt_cmpR op_lt (pv 3) pe_int (nomark _))
 (pss_one (ps_set (i := 4) sc_law.nd rfl (Or.inl rfl) (C8.pe_c c__law_whole hr (by decide) rfl (pa_cons (pv 2) pa_nil))))
 (pss_one (ps_if (pt_cmpR op_lt (pv 3) pe_int (nomark _))
 (pss_one (ps_set (i := 4) sc_law.nd rfl (Or.inl rfl) (C8.pe_c c__law_string hr (by decide) rfl (pa_cons (pv 2) pa_nil))))
 (pss_one (ps_set (i := 4) sc_law.nd rfl (Or.inl rfl) (C8.pe_c c__law_other hr (by decide) rfl (pa_cons (pv 2) pa_nil)))))))
 (pss_cons (ps_set (i := 5) sc_law.nd rfl (Or.inl rfl) pe_str)
 (C8.pss_cut (ps_if (pt_val (pe_callB call_isi rfl T.z_isinstance (by decide +kernel) (pa_cons (pv 4) (pa_cons (pe_bltn (v := .ty "list") (u := .type "list") rfl T.z_list (by decide +kernel) rfl) pa_nil))))
 (pss_one (ps_set (i := 5) sc_law.nd rfl (Or.inl rfl) (pe_callB (call_repr (hu65 hr) rfl) rfl T.z_repr (by decide +kernel) (pa_cons (pv 4) pa_nil))))
 pss_nil)
 (pss_cons (ps_if (pt_not (pt_val (C8.pe_c c__law_said hr (by decide) rfl (pa_cons (C8.pe_c c_is_integer hr (by decide) rfl (pa_cons (pv 4) pa_nil)) (pa_cons (C8.pe_c c__law_is_integer hr (by decide) rfl (pa_cons (pv 4) pa_nil)) pa_nil)))))
 (pss_one (ps_ret pe_bl))
 pss_nil)
 (pss_cons (ps_if (pt_not (pt_val (C8.pe_c c__law_said hr (by decide) rfl (pa_cons (C8.pe_c c_is_number hr (by decide) rfl (pa_cons (pv 4) pa_nil)) (pa_cons (C8.pe_c c__law_is_number hr (by decide) rfl (pa_cons (pv 4) pa_nil)) pa_nil)))))
 (pss_one (ps_ret pe_bl))
 pss_nil)
 (pss_cons (ps_if (pt_not (pt_val (C8.pe_c c__law_said hr (by decide) rfl (pa_cons (C8.pe_c c_is_text hr (by decide) rfl (pa_cons (pv 4) pa_nil)) (pa_cons (C8.pe_c c__law_is_text hr (by decide) rfl (pa_cons (pv 4) pa_nil)) pa_nil)))))
 (pss_one (ps_ret pe_bl))
 pss_nil)
 (C8.pss_cut (ps_if (pt_not (pt_val (C8.pe_c c__law_said hr (by decide) rfl (pa_cons (C8.pe_c c_is_item hr (by decide) rfl (pa_cons (pv 4) pa_nil)) (pa_cons (pe_or (C8.pe_c c__law_is_integer hr (by decide) rfl (pa_cons (pv 4) pa_nil)) (pe_one (C8.pe_c c__law_is_text hr (by decide) rfl (pa_cons (pv 4) pa_nil)))) pa_nil)))))
 (pss_one (ps_ret pe_bl))
 pss_nil)
 (pss_one (ps_if (PW.pt (pw_and (pt_val (pe_callB call_isi rfl T.z_isinstance (by decide +kernel) (pa_cons (pv 4) (pa_cons (pe_bltn (v := .ty "list") (u := .type "list") rfl T.z_list (by decide +kernel) rfl) pa_nil)))) (pw_and1 (pt_cmpR op_ne (pe_callB (call_repr (hu65 hr) rfl) rfl T.z_repr (by decide +kernel) (pa_cons (pv 4) pa_nil)) (pv 5) (nomark _)))))
 (pss_one (ps_ret pe_bl))
 pss_nil))))))))))))
 (pss_one (ps_ret pe_bl))), ?_⟩
    walk_at "rd"
    refine r_for (r_rng1 ?_)
    walk_at "rd"
    refine r_lenQ hS ?_
    walk_at "rd"
    rw [List.length_map]
    refine ⟨_, rfl, by split <;> omega, by split <;> omega, ?_⟩
    refine go_range (fun i σ' H' => (∃ u1 u2 u3 u4 u5, σ' = [some (.ref a), u1, u2, u3, u4, u5]) ∧ Same H H') ⟨⟨_, _, _, _, _, rfl⟩, Same.refl H⟩ ?_ ?_
    · rintro i x σ' H1 hi ⟨⟨u1, u2, u3, u4, u5, rfl⟩, s1⟩ rfl
      walk_at "rd"
      refine ⟨a, ns, _, rfl, s1.seq hS, hl, fun r H2 hr0 s2 row2 => ?_⟩
      walk_at "rd"
      refine r_draw row2 (by decide) (by decide) fun kd H3 l3 u3 f3 row3 => ?_
      walk_at "rd"
      refine r_cut (fun σ' H' => ∃ v d u1 u2 u3 u5, σ' = [some (.ref a), u1, u2, u3, some v, u5] ∧ Rep K CC H' v d ∧ Shown K H' v d ∧ Same H1 H') ?_ ?_
      · walk_at "rd"
        refine ite2 (fun h => ?_) (fun h => ?_)
        · walk_at "rd"
          refine ⟨r, rfl, row3, fun i H4 f4 row4 => ?_⟩
          walk_at "rd"
          exact ⟨_, _, _, _, _, _, rfl, .int i, .no (fun xs => nofun), Fr.same hr0 s2 (f3.trans f4)⟩
        · walk_at "rd"
          refine ite2 (fun h => ?_) (fun h => ?_)
          · walk_at "rd"
            refine ⟨r, rfl, row3, fun s H4 ok f4 row4 => ?_⟩
            walk_at "rd"
            exact ⟨_, _, _, _, _, _, rfl, .str s ok, .no (fun xs => nofun), Fr.same hr0 s2 (f3.trans f4)⟩
          · walk_at "rd"
            refine ⟨r, rfl, row3, fun v d H4 f4 row4 R S => ?_⟩
            walk_at "rd"
            exact ⟨v, d, _, _, _, _, rfl, R.mono (fresh_same _ _), S.mono (fresh_same _ _), Fr.same hr0 s2 (f3.trans f4)⟩
      · rintro σ' H4 ⟨v, d, w1, w2, w3, w5, rfl, R, S, s4⟩
        walk_at "rd"
        refine r_cut (fun σ' H' => ∃ z, σ' = [some (.ref a), w1, w2, w3, some v, some (.str z)] ∧ Rep K CC H' v d ∧ ShownZ K H' v d z ∧ Same H1 H') ?_ ?_
        · walk_at "rd"
          refine ite2 (fun e => ?_) (fun e => ?_)
          · obtain ⟨xs, rfl⟩ := isD_lstT e
            obtain ⟨pd, k, D1, S1, hk⟩ := S xs rfl
            cases R with
            | @lst p xs _ ha hl2 hs hi =>
            walk_at "rd"
            refine r_repr D1 S1 hk ?_
            walk_at "rd"
            exact ⟨_, rfl, .lst ha hl2 hs hi, fun _ _ => ⟨pd, k, D1, S1, hk, rfl⟩, s4⟩
          · walk_at "rd"
            exact ⟨_, rfl, R, fun xs z => absurd (show isD d "list" = true by rw [z]; rfl) e, s4⟩
        · clear R S s4
          rintro σ' H5 ⟨z, rfl, R, S, s4⟩
          walk_at "rd"
          refine ⟨_, _, rfl, R, fun H6 s6 => ?_⟩
          walk_at "rd"
          refine ⟨_, _, rfl, R.mono s6, fun H7 s7 => ?_⟩
          walk_at "rd"
          refine r_said rfl ?_
          walk_at "rd"
          refine iteF ?_
          have R7 := (R.mono s6).mono s7
          walk_at "rd"
          refine ⟨_, _, rfl, R7, fun H8 s8 => ?_⟩
          walk_at "rd"
          refine ⟨_, _, rfl, R7.mono s8, fun H9 s9 => ?_⟩
          walk_at "rd"
          refine r_said rfl ?_
          walk_at "rd"
          refine iteF ?_
          have R9 := (R7.mono s8).mono s9
          walk_at "rd"
          refine ⟨_, _, rfl, R9, fun H10 s10 => ?_⟩
          walk_at "rd"
          refine ⟨_, _, rfl, R9.mono s10, fun H11 s11 => ?_⟩
          walk_at "rd"
          refine r_said rfl ?_
          walk_at "rd"
          refine iteF ?_
          have R11 := (R9.mono s10).mono s11
          have s511 := ((((s6.trans s7).trans s8).trans s9).trans s10).trans s11
          have S11 : ShownZ K H11 v d z := S.mono s511
          have s411 := s4.trans s511
          clear R R7 R9 S s4 s6 s7 s8 s9 s10 s11 s511
          refine r_cut (fun σ' H' => σ' = [some (.ref a), w1, w2, w3, some v, some (.str z)] ∧ Rep K CC H' v d ∧ ShownZ K H' v d z ∧ Same H1 H') ?_ ?_
          · walk_at "rd"
            refine ⟨_, _, rfl, R11, fun H12 s12 => ?_⟩
            walk_at "rd"
            refine ⟨_, _, rfl, R11.mono s12, fun H13 s13 => ?_⟩
            walk_at "rd"
            refine ite2 (fun e => ?_) (fun e => ?_)
            · walk_at "rd"
              refine r_said (by unfold isItem; rw [e, Bool.true_or]) ?_
              walk_at "rd"
              refine iteF ?_
              walk_at "rd"
              have s1213 := s12.trans s13
              exact ⟨rfl, R11.mono s1213, S11.mono s1213, s411.trans s1213⟩
            · walk_at "rd"
              refine ⟨_, _, rfl, (R11.mono s12).mono s13, fun H14 s14 => ?_⟩
              walk_at "rd"
              refine r_said (by unfold isItem; rw [Bool.eq_false_iff.mpr e, Bool.false_or]) ?_
              walk_at "rd"
              refine iteF ?_
              walk_at "rd"
              have s1214 := (s12.trans s13).trans s14
              exact ⟨rfl, R11.mono s1214, S11.mono s1214, s411.trans s1214⟩
          · clear R11 S11 s411
            rintro σ' H14 ⟨rfl, R, S, s4⟩
            walk_at "rd"
            refine ite2 (fun e => ?_) (fun e => ?_)
            · obtain ⟨xs, rfl⟩ := isD_lstT e
              obtain ⟨pd, k, D1, S1, hk, rfl⟩ := S xs rfl
              cases R with
              | @lst p xs _ ha hl2 hs hi =>
              walk_at "rd"
              refine r_repr D1 S1 hk ?_
              walk_at "rd"
              rw [decide_eq_true rfl]
              refine iteF ?_
              walk_at "rd"
              exact ⟨⟨_, _, _, _, _, rfl⟩, s1.trans s4⟩
            · walk_at "rd"
              refine iteF ?_
              walk_at "rd"
              exact ⟨⟨_, _, _, _, _, rfl⟩, s1.trans s4⟩
    · rintro σ' H1 ⟨⟨u1, u2, u3, u4, u5, rfl⟩, s1⟩
      walk_at "rd"
      exact q H1
end
end RH
namespace RH
open PySem L2
/-! ### what the top has written, the head -/
theorem all_mk {l : PySem.W.OpenLaw} {w : World} {K : PySem.W.Frag} {h : Heap} {mg : Str → Option Value} (X : K.In h) (G : h.Ns mainGlobals mg) {fa C_Clock f__law_draw f__law_open f__law_char f__law_whole f__law_string f_is_integer f_is_number f__is_sign f_is_text f__law_is_integer f__law_is_number f__law_is_text f__law_said f__packed f__rows_of f_Clock___init__ f_is_item f__law_other f_law : Addr} {od__law_draw an__law_draw od__law_open an__law_open od__law_char an__law_char od__law_whole an__law_whole od__law_string an__law_string od_is_integer an_is_integer od_is_number an_is_number od__is_sign an__is_sign od_is_text an_is_text od__law_is_integer an__law_is_integer od__law_is_number an__law_is_number od__law_is_text an__law_is_text od__law_said an__law_said od__packed an__packed od__rows_of an__rows_of od_Clock___init__ an_Clock___init__ od_is_item an_is_item od__law_other an__law_other od_law an_law : Option Addr} {sl__law_draw sl__law_open sl__law_char sl__law_whole sl__law_string sl_is_integer sl_is_number sl__is_sign sl_is_text sl__law_is_integer sl__law_is_number sl__law_is_text sl__law_said sl__packed sl__rows_of sl_Clock___init__ sl_is_item sl__law_other sl_law : Array (Option Value)} {oc__law_draw kV__law_draw dc__law_draw pm__law_draw cd__law_draw ct__law_draw oc__law_open kV__law_open dc__law_open pm__law_open cd__law_open ct__law_open oc__law_char kV__law_char dc__law_char pm__law_char cd__law_char ct__law_char oc__law_whole kV__law_whole dc__law_whole pm__law_whole cd__law_whole ct__law_whole oc__law_string kV__law_string dc__law_string pm__law_string cd__law_string ct__law_string oc_is_integer kV_is_integer dc_is_integer pm_is_integer cd_is_integer ct_is_integer oc_is_number kV_is_number dc_is_number pm_is_number cd_is_number ct_is_number oc__is_sign kV__is_sign dc__is_sign pm__is_sign cd__is_sign ct__is_sign oc_is_text kV_is_text dc_is_text pm_is_text cd_is_text ct_is_text oc__law_is_integer kV__law_is_integer dc__law_is_integer pm__law_is_integer cd__law_is_integer ct__law_is_integer oc__law_is_number kV__law_is_number dc__law_is_number pm__law_is_number cd__law_is_number ct__law_is_number oc__law_is_text kV__law_is_text dc__law_is_text pm__law_is_text cd__law_is_text ct__law_is_text oc__law_said kV__law_said dc__law_said pm__law_said cd__law_said ct__law_said oc__packed kV__packed dc__packed pm__packed cd__packed ct__packed oc__rows_of kV__rows_of dc__rows_of pm__rows_of cd__rows_of ct__rows_of oc_Clock___init__ kV_Clock___init__ dc_Clock___init__ pm_Clock___init__ cd_Clock___init__ ct_Clock___init__ oc_is_item kV_is_item dc_is_item pm_is_item cd_is_item ct_is_item oc__law_other kV__law_other dc__law_other pm__law_other cd__law_other ct__law_other oc_law kV_law dc_law pm_law cd_law ct_law : Value} {tg_LIMIT : Tok} {tg_TEXT_LENGTH : Tok}
    (hfa : mg "law" = some (.ref fa))
    (a_Clock : PySem.W.nsIn K mainGlobals "Clock" = some (some (.ref C_Clock)))
    (pg_Clock : PySem.W.plainGet K C_Clock Str.empty = true)
    (hd_Clock : PySem.W.hasDictIn K C_Clock = true)
    (po_Clock : PySem.W.plainOver K C_Clock = true)
    (sa_Clock : PySem.W.findIn K (.ref C_Clock) "__setattr__" = some (some (.builtin "object.__setattr__")))
    (mk_Clock : PySem.W.makesIn K C_Clock = true)
    (kc_Clock : PySem.W.keepIn K (.ref C_Clock) = true)
    (ha_Clock : PySem.W.findIn K (.ref C_Clock) "__class__" = some (some (.builtin "object.__class__")))
    (hn_Clock : PySem.W.specialIn K (.builtin "object.__class__") "__get__" = some (some (.builtin "getset_descriptor.__get__")))
    (ht_Clock : PySem.W.takesIn K (.builtin "object.__class__") = some true)
    (hm_Clock : PySem.W.mroIn K C_Clock (.type "object") = some true)
    (kint_Clock : PySem.W.mroIn K C_Clock (.type "int") = some false)
    (kbool_Clock : PySem.W.mroIn K C_Clock (.type "bool") = some false)
    (kstr_Clock : PySem.W.mroIn K C_Clock (.type "str") = some false)
    (ktuple_Clock : PySem.W.mroIn K C_Clock (.type "tuple") = some false)
    (klist_Clock : PySem.W.mroIn K C_Clock (.type "list") = some false)
    (n_Clock__rows : PySem.W.findIn K (.ref C_Clock) "_rows" = some none)
    (na_Clock__rows : PySem.W.findIn K (.ref C_Clock) "_rows" = some none)
    (a__law_draw : PySem.W.nsIn K mainGlobals "_law_draw" = some (some (.ref f__law_draw)))
    (l__law_draw : K.lookup f__law_draw = some ⟨oc__law_draw, od__law_draw, .func (PySem.W.fnOf "_law_draw" "_law_draw" (defArgs s__law_draw) (defBody s__law_draw) (defScope s__law_draw) .none kV__law_draw dc__law_draw pm__law_draw an__law_draw cd__law_draw ct__law_draw), sl__law_draw⟩)
    (c__law_draw : PySem.W.codeIn K cd__law_draw "_law_draw" = true)
    (k__law_draw : PySem.W.keepIn K (.ref f__law_draw) = true)
    (a__law_open : PySem.W.nsIn K mainGlobals "_law_open" = some (some (.ref f__law_open)))
    (l__law_open : K.lookup f__law_open = some ⟨oc__law_open, od__law_open, .func (PySem.W.fnOf "_law_open" "_law_open" (defArgs s__law_open) (defBody s__law_open) (defScope s__law_open) .none kV__law_open dc__law_open pm__law_open an__law_open cd__law_open ct__law_open), sl__law_open⟩)
    (c__law_open : PySem.W.codeIn K cd__law_open "_law_open" = true)
    (k__law_open : PySem.W.keepIn K (.ref f__law_open) = true)
    (a__law_char : PySem.W.nsIn K mainGlobals "_law_char" = some (some (.ref f__law_char)))
    (l__law_char : K.lookup f__law_char = some ⟨oc__law_char, od__law_char, .func (PySem.W.fnOf "_law_char" "_law_char" (defArgs s__law_char) (defBody s__law_char) (defScope s__law_char) .none kV__law_char dc__law_char pm__law_char an__law_char cd__law_char ct__law_char), sl__law_char⟩)
    (c__law_char : PySem.W.codeIn K cd__law_char "_law_char" = true)
    (k__law_char : PySem.W.keepIn K (.ref f__law_char) = true)
    (a__law_whole : PySem.W.nsIn K mainGlobals "_law_whole" = some (some (.ref f__law_whole)))
    (l__law_whole : K.lookup f__law_whole = some ⟨oc__law_whole, od__law_whole, .func (PySem.W.fnOf "_law_whole" "_law_whole" (defArgs s__law_whole) (defBody s__law_whole) (defScope s__law_whole) .none kV__law_whole dc__law_whole pm__law_whole an__law_whole cd__law_whole ct__law_whole), sl__law_whole⟩)
    (c__law_whole : PySem.W.codeIn K cd__law_whole "_law_whole" = true)
    (k__law_whole : PySem.W.keepIn K (.ref f__law_whole) = true)
    (a__law_string : PySem.W.nsIn K mainGlobals "_law_string" = some (some (.ref f__law_string)))
    (l__law_string : K.lookup f__law_string = some ⟨oc__law_string, od__law_string, .func (PySem.W.fnOf "_law_string" "_law_string" (defArgs s__law_string) (defBody s__law_string) (defScope s__law_string) .none kV__law_string dc__law_string pm__law_string an__law_string cd__law_string ct__law_string), sl__law_string⟩)
    (c__law_string : PySem.W.codeIn K cd__law_string "_law_string" = true)
    (k__law_string : PySem.W.keepIn K (.ref f__law_string) = true)
    (a_is_integer : PySem.W.nsIn K mainGlobals "is_integer" = some (some (.ref f_is_integer)))
    (l_is_integer : K.lookup f_is_integer = some ⟨oc_is_integer, od_is_integer, .func (PySem.W.fnOf "is_integer" "is_integer" (defArgs s_is_integer) (defBody s_is_integer) (defScope s_is_integer) .none kV_is_integer dc_is_integer pm_is_integer an_is_integer cd_is_integer ct_is_integer), sl_is_integer⟩)
    (c_is_integer : PySem.W.codeIn K cd_is_integer "is_integer" = true)
    (k_is_integer : PySem.W.keepIn K (.ref f_is_integer) = true)
    (a_is_number : PySem.W.nsIn K mainGlobals "is_number" = some (some (.ref f_is_number)))
    (l_is_number : K.lookup f_is_number = some ⟨oc_is_number, od_is_number, .func (PySem.W.fnOf "is_number" "is_number" (defArgs s_is_number) (defBody s_is_number) (defScope s_is_number) .none kV_is_number dc_is_number pm_is_number an_is_number cd_is_number ct_is_number), sl_is_number⟩)
    (c_is_number : PySem.W.codeIn K cd_is_number "is_number" = true)
    (k_is_number : PySem.W.keepIn K (.ref f_is_number) = true)
    (a__is_sign : PySem.W.nsIn K mainGlobals "_is_sign" = some (some (.ref f__is_sign)))
    (l__is_sign : K.lookup f__is_sign = some ⟨oc__is_sign, od__is_sign, .func (PySem.W.fnOf "_is_sign" "_is_sign" (defArgs s__is_sign) (defBody s__is_sign) (defScope s__is_sign) .none kV__is_sign dc__is_sign pm__is_sign an__is_sign cd__is_sign ct__is_sign), sl__is_sign⟩)
    (c__is_sign : PySem.W.codeIn K cd__is_sign "_is_sign" = true)
    (k__is_sign : PySem.W.keepIn K (.ref f__is_sign) = true)
    (a_is_text : PySem.W.nsIn K mainGlobals "is_text" = some (some (.ref f_is_text)))
    (l_is_text : K.lookup f_is_text = some ⟨oc_is_text, od_is_text, .func (PySem.W.fnOf "is_text" "is_text" (defArgs s_is_text) (defBody s_is_text) (defScope s_is_text) .none kV_is_text dc_is_text pm_is_text an_is_text cd_is_text ct_is_text), sl_is_text⟩)
    (c_is_text : PySem.W.codeIn K cd_is_text "is_text" = true)
    (k_is_text : PySem.W.keepIn K (.ref f_is_text) = true)
    (a__law_is_integer : PySem.W.nsIn K mainGlobals "_law_is_integer" = some (some (.ref f__law_is_integer)))
    (l__law_is_integer : K.lookup f__law_is_integer = some ⟨oc__law_is_integer, od__law_is_integer, .func (PySem.W.fnOf "_law_is_integer" "_law_is_integer" (defArgs s__law_is_integer) (defBody s__law_is_integer) (defScope s__law_is_integer) .none kV__law_is_integer dc__law_is_integer pm__law_is_integer an__law_is_integer cd__law_is_integer ct__law_is_integer), sl__law_is_integer⟩)
    (c__law_is_integer : PySem.W.codeIn K cd__law_is_integer "_law_is_integer" = true)
    (k__law_is_integer : PySem.W.keepIn K (.ref f__law_is_integer) = true)
    (a__law_is_number : PySem.W.nsIn K mainGlobals "_law_is_number" = some (some (.ref f__law_is_number)))
    (l__law_is_number : K.lookup f__law_is_number = some ⟨oc__law_is_number, od__law_is_number, .func (PySem.W.fnOf "_law_is_number" "_law_is_number" (defArgs s__law_is_number) (defBody s__law_is_number) (defScope s__law_is_number) .none kV__law_is_number dc__law_is_number pm__law_is_number an__law_is_number cd__law_is_number ct__law_is_number), sl__law_is_number⟩)
    (c__law_is_number : PySem.W.codeIn K cd__law_is_number "_law_is_number" = true)
    (k__law_is_number : PySem.W.keepIn K (.ref f__law_is_number) = true)
    (a__law_is_text : PySem.W.nsIn K mainGlobals "_law_is_text" = some (some (.ref f__law_is_text)))
    (l__law_is_text : K.lookup f__law_is_text = some ⟨oc__law_is_text, od__law_is_text, .func (PySem.W.fnOf "_law_is_text" "_law_is_text" (defArgs s__law_is_text) (defBody s__law_is_text) (defScope s__law_is_text) .none kV__law_is_text dc__law_is_text pm__law_is_text an__law_is_text cd__law_is_text ct__law_is_text), sl__law_is_text⟩)
    (c__law_is_text : PySem.W.codeIn K cd__law_is_text "_law_is_text" = true)
    (k__law_is_text : PySem.W.keepIn K (.ref f__law_is_text) = true)
    (a__law_said : PySem.W.nsIn K mainGlobals "_law_said" = some (some (.ref f__law_said)))
    (l__law_said : K.lookup f__law_said = some ⟨oc__law_said, od__law_said, .func (PySem.W.fnOf "_law_said" "_law_said" (defArgs s__law_said) (defBody s__law_said) (defScope s__law_said) .none kV__law_said dc__law_said pm__law_said an__law_said cd__law_said ct__law_said), sl__law_said⟩)
    (c__law_said : PySem.W.codeIn K cd__law_said "_law_said" = true)
    (k__law_said : PySem.W.keepIn K (.ref f__law_said) = true)
    (a__packed : PySem.W.nsIn K mainGlobals "_packed" = some (some (.ref f__packed)))
    (l__packed : K.lookup f__packed = some ⟨oc__packed, od__packed, .func (PySem.W.fnOf "_packed" "_packed" (defArgs s__packed) (defBody s__packed) (defScope s__packed) .none kV__packed dc__packed pm__packed an__packed cd__packed ct__packed), sl__packed⟩)
    (c__packed : PySem.W.codeIn K cd__packed "_packed" = true)
    (k__packed : PySem.W.keepIn K (.ref f__packed) = true)
    (a__rows_of : PySem.W.nsIn K mainGlobals "_rows_of" = some (some (.ref f__rows_of)))
    (l__rows_of : K.lookup f__rows_of = some ⟨oc__rows_of, od__rows_of, .func (PySem.W.fnOf "_rows_of" "_rows_of" (defArgs s__rows_of) (defBody s__rows_of) (defScope s__rows_of) .none kV__rows_of dc__rows_of pm__rows_of an__rows_of cd__rows_of ct__rows_of), sl__rows_of⟩)
    (c__rows_of : PySem.W.codeIn K cd__rows_of "_rows_of" = true)
    (k__rows_of : PySem.W.keepIn K (.ref f__rows_of) = true)
    (a_Clock___init__ : PySem.W.findIn K (.ref C_Clock) "__init__" = some (some (.ref f_Clock___init__)))
    (i_Clock___init__ : PySem.W.isFn K (.ref f_Clock___init__) = true)
    (l_Clock___init__ : K.lookup f_Clock___init__ = some ⟨oc_Clock___init__, od_Clock___init__, .func (PySem.W.fnOf "__init__" "Clock.__init__" (defArgs s_Clock___init__) (defBody s_Clock___init__) (defScope s_Clock___init__) .none kV_Clock___init__ dc_Clock___init__ pm_Clock___init__ an_Clock___init__ cd_Clock___init__ ct_Clock___init__), sl_Clock___init__⟩)
    (c_Clock___init__ : PySem.W.codeIn K cd_Clock___init__ "Clock.__init__" = true)
    (k_Clock___init__ : PySem.W.keepIn K (.ref f_Clock___init__) = true)
    (a_is_item : PySem.W.nsIn K mainGlobals "is_item" = some (some (.ref f_is_item)))
    (l_is_item : K.lookup f_is_item = some ⟨oc_is_item, od_is_item, .func (PySem.W.fnOf "is_item" "is_item" (defArgs s_is_item) (defBody s_is_item) (defScope s_is_item) .none kV_is_item dc_is_item pm_is_item an_is_item cd_is_item ct_is_item), sl_is_item⟩)
    (c_is_item : PySem.W.codeIn K cd_is_item "is_item" = true)
    (k_is_item : PySem.W.keepIn K (.ref f_is_item) = true)
    (a__law_other : PySem.W.nsIn K mainGlobals "_law_other" = some (some (.ref f__law_other)))
    (l__law_other : K.lookup f__law_other = some ⟨oc__law_other, od__law_other, .func (PySem.W.fnOf "_law_other" "_law_other" (defArgs s__law_other) (defBody s__law_other) (defScope s__law_other) .none kV__law_other dc__law_other pm__law_other an__law_other cd__law_other ct__law_other), sl__law_other⟩)
    (c__law_other : PySem.W.codeIn K cd__law_other "_law_other" = true)
    (k__law_other : PySem.W.keepIn K (.ref f__law_other) = true)
    (a_law : PySem.W.nsIn K mainGlobals "law" = some (some (.ref f_law)))
    (l_law : K.lookup f_law = some ⟨oc_law, od_law, .func (PySem.W.fnOf "law" "law" (defArgs s_law) (defBody s_law) (defScope s_law) .none kV_law dc_law pm_law an_law cd_law ct_law), sl_law⟩)
    (c_law : PySem.W.codeIn K cd_law "law" = true)
    (k_law : PySem.W.keepIn K (.ref f_law) = true)
    (g_LIMIT : PySem.W.nsIn K mainGlobals "LIMIT" = some (some (.int (1000000000000) tg_LIMIT)))
    (g_TEXT_LENGTH : PySem.W.nsIn K mainGlobals "TEXT_LENGTH" = some (some (.int (60) tg_TEXT_LENGTH)))
    (z_abs : PySem.W.nsIn K mainGlobals "abs" = some none)
    (z_all : PySem.W.nsIn K mainGlobals "all" = some none)
    (z_bool : PySem.W.nsIn K mainGlobals "bool" = some none)
    (z_int : PySem.W.nsIn K mainGlobals "int" = some none)
    (z_isinstance : PySem.W.nsIn K mainGlobals "isinstance" = some none)
    (z_len : PySem.W.nsIn K mainGlobals "len" = some none)
    (z_list : PySem.W.nsIn K mainGlobals "list" = some none)
    (z_min : PySem.W.nsIn K mainGlobals "min" = some none)
    (z_ord : PySem.W.nsIn K mainGlobals "ord" = some none)
    (z_range : PySem.W.nsIn K mainGlobals "range" = some none)
    (z_repr : PySem.W.nsIn K mainGlobals "repr" = some none)
    (z_set : PySem.W.nsIn K mainGlobals "set" = some none)
    (z_sorted : PySem.W.nsIn K mainGlobals "sorted" = some none)
    (z_str : PySem.W.nsIn K mainGlobals "str" = some none)
    (z_tuple : PySem.W.nsIn K mainGlobals "tuple" = some none)
    (z_type : PySem.W.nsIn K mainGlobals "type" = some none)
    (z_zip : PySem.W.nsIn K mainGlobals "zip" = some none)
    : ∃ fd : FuncData, (∀ (s : Shared) (v : Value), BindsTo s fd ⟨[v], []⟩ [("script", v)]) ∧ ∀ base : Heap, K.In base → base.Ns mainGlobals mg → AtTop l.prog w K mg base fa fd ["script"] (spLaw K) := by
  have e := hfa.symm.trans (PySem.W.mg_of X G a_law)
  cases e
  have T : Txt K mg := ⟨⟨_, PySem.W.mg_of X G g_LIMIT, ⟨_, rfl⟩⟩, ⟨_, PySem.W.mg_of X G g_TEXT_LENGTH, ⟨_, rfl⟩⟩, PySem.W.mg_none_of X G z_abs, PySem.W.mg_none_of X G z_all, PySem.W.mg_none_of X G z_bool, PySem.W.mg_none_of X G z_int, PySem.W.mg_none_of X G z_isinstance, PySem.W.mg_none_of X G z_len, PySem.W.mg_none_of X G z_list, PySem.W.mg_none_of X G z_min, PySem.W.mg_none_of X G z_ord, PySem.W.mg_none_of X G z_range, PySem.W.mg_none_of X G z_repr, PySem.W.mg_none_of X G z_set, PySem.W.mg_none_of X G z_sorted, PySem.W.mg_none_of X G z_str, PySem.W.mg_none_of X G z_tuple, PySem.W.mg_none_of X G z_type, PySem.W.mg_none_of X G z_zip⟩
  let CC : Addr → Prop := fun A => A = C_Clock
  have I_Clock : ClsI K C_Clock := ⟨⟨pg_Clock, hd_Clock, po_Clock, sa_Clock⟩, ha_Clock, hn_Clock, ht_Clock, hm_Clock, kit_ref kint_Clock (by decide +kernel), kit_ref kbool_Clock (by decide +kernel), kit_ref kstr_Clock (by decide +kernel), kit_ref ktuple_Clock (by decide +kernel), kit_ref klist_Clock (by decide +kernel)⟩
  have hC : ∀ C, CC C → ClsI K C := fun C e => by cases e; exact I_Clock
  have cl_Clock : Cls K C_Clock := ⟨pg_Clock, hd_Clock, po_Clock, sa_Clock⟩
  have mg_Clock := PySem.W.mg_of X G a_Clock
  have CC1 : CC C_Clock := rfl
  have F__law_draw := fun_mk (st := s__law_draw) l__law_draw c__law_draw k__law_draw
  have b__law_draw := F__law_draw.binds (ps := ["row", "bound"]) fun _ _ _ _ _ _ us hl => match us, hl with | [_, _], _ => rfl
  have F__law_open := fun_mk (st := s__law_open) l__law_open c__law_open k__law_open
  have b__law_open := F__law_open.binds (ps := ["script", "place"]) fun _ _ _ _ _ _ us hl => match us, hl with | [_, _], _ => rfl
  have F__law_char := fun_mk (st := s__law_char) l__law_char c__law_char k__law_char
  have b__law_char := F__law_char.binds (ps := ["draw"]) fun _ _ _ _ _ _ us hl => match us, hl with | [_], _ => rfl
  have F__law_whole := fun_mk (st := s__law_whole) l__law_whole c__law_whole k__law_whole
  have b__law_whole := F__law_whole.binds (ps := ["row"]) fun _ _ _ _ _ _ us hl => match us, hl with | [_], _ => rfl
  have F__law_string := fun_mk (st := s__law_string) l__law_string c__law_string k__law_string
  have b__law_string := F__law_string.binds (ps := ["row"]) fun _ _ _ _ _ _ us hl => match us, hl with | [_], _ => rfl
  have F_is_integer := fun_mk (st := s_is_integer) l_is_integer c_is_integer k_is_integer
  have b_is_integer := F_is_integer.binds (ps := ["thing"]) fun _ _ _ _ _ _ us hl => match us, hl with | [_], _ => rfl
  have F_is_number := fun_mk (st := s_is_number) l_is_number c_is_number k_is_number
  have b_is_number := F_is_number.binds (ps := ["thing"]) fun _ _ _ _ _ _ us hl => match us, hl with | [_], _ => rfl
  have F__is_sign := fun_mk (st := s__is_sign) l__is_sign c__is_sign k__is_sign
  have b__is_sign := F__is_sign.binds (ps := ["sign"]) fun _ _ _ _ _ _ us hl => match us, hl with | [_], _ => rfl
  have F_is_text := fun_mk (st := s_is_text) l_is_text c_is_text k_is_text
  have b_is_text := F_is_text.binds (ps := ["thing"]) fun _ _ _ _ _ _ us hl => match us, hl with | [_], _ => rfl
  have F__law_is_integer := fun_mk (st := s__law_is_integer) l__law_is_integer c__law_is_integer k__law_is_integer
  have b__law_is_integer := F__law_is_integer.binds (ps := ["thing"]) fun _ _ _ _ _ _ us hl => match us, hl with | [_], _ => rfl
  have F__law_is_number := fun_mk (st := s__law_is_number) l__law_is_number c__law_is_number k__law_is_number
  have b__law_is_number := F__law_is_number.binds (ps := ["thing"]) fun _ _ _ _ _ _ us hl => match us, hl with | [_], _ => rfl
  have F__law_is_text := fun_mk (st := s__law_is_text) l__law_is_text c__law_is_text k__law_is_text
  have b__law_is_text := F__law_is_text.binds (ps := ["thing"]) fun _ _ _ _ _ _ us hl => match us, hl with | [_], _ => rfl
  have F__law_said := fun_mk (st := s__law_said) l__law_said c__law_said k__law_said
  have b__law_said := F__law_said.binds (ps := ["actual", "due"]) fun _ _ _ _ _ _ us hl => match us, hl with | [_, _], _ => rfl
  have F__packed := fun_mk (st := s__packed) l__packed c__packed k__packed
  have b__packed := F__packed.binds (ps := ["upto", "numbers"]) fun _ _ _ _ _ _ us hl => match us, hl with | [_, _], _ => rfl
  have F__rows_of := fun_mk (st := s__rows_of) l__rows_of c__rows_of k__rows_of
  have b__rows_of := F__rows_of.binds (ps := ["dots"]) fun _ _ _ _ _ _ us hl => match us, hl with | [_], _ => rfl
  have F_Clock___init__ := fun_mk (st := s_Clock___init__) l_Clock___init__ c_Clock___init__ k_Clock___init__
  have b_Clock___init__ := F_Clock___init__.binds (ps := ["self", "dots"]) fun _ _ _ _ _ _ us hl => match us, hl with | [_, _], _ => rfl
  have F_is_item := fun_mk (st := s_is_item) l_is_item c_is_item k_is_item
  have b_is_item := F_is_item.binds (ps := ["thing"]) fun _ _ _ _ _ _ us hl => match us, hl with | [_], _ => rfl
  have F__law_other := fun_mk (st := s__law_other) l__law_other c__law_other k__law_other
  have b__law_other := F__law_other.binds (ps := ["row"]) fun _ _ _ _ _ _ us hl => match us, hl with | [_], _ => rfl
  have F_law := fun_mk (st := s_law) l_law c_law k_law
  refine ⟨PySem.W.fnOf "law" "law" (defArgs s_law) (defBody s_law) (defScope s_law) .none kV_law dc_law pm_law an_law cd_law ct_law, fun s v => .of_eq rfl, fun base _ _ => ?_⟩
  have c__law_draw : C8.Cal l.prog w K mg base 1 "_law_draw" sp_draw [] := ⟨_, _, _, [], ok__law_draw F__law_draw T, PySem.W.mg_of X G a__law_draw, k__law_draw, b__law_draw, .nil⟩
  have c__law_open : C8.Cal l.prog w K mg base 1 "_law_open" (sp_open K) [] := ⟨_, _, _, [], ok__law_open F__law_open T, PySem.W.mg_of X G a__law_open, k__law_open, b__law_open, .nil⟩
  have c__law_char : C8.Cal l.prog w K mg base 1 "_law_char" sp_char [] := ⟨_, _, _, [], ok__law_char F__law_char T, PySem.W.mg_of X G a__law_char, k__law_char, b__law_char, .nil⟩
  have c__law_whole : C8.Cal l.prog w K mg base 2 "_law_whole" sp_int [] := ⟨_, _, _, [], ok__law_whole F__law_whole T c__law_draw, PySem.W.mg_of X G a__law_whole, k__law_whole, b__law_whole, .nil⟩
  have c__law_string : C8.Cal l.prog w K mg base 2 "_law_string" sp_str [] := ⟨_, _, _, [], ok__law_string F__law_string T c__law_draw c__law_char, PySem.W.mg_of X G a__law_string, k__law_string, b__law_string, .nil⟩
  have c_is_integer : C8.Cal l.prog w K mg base 1 "is_integer" (spB K CC isInt) [] := ⟨_, _, _, [], ok_is_integer F_is_integer T, PySem.W.mg_of X G a_is_integer, k_is_integer, b_is_integer, .nil⟩
  have c_is_number : C8.Cal l.prog w K mg base 2 "is_number" (spB K CC isNum) [] := ⟨_, _, _, [], ok_is_number F_is_number T c_is_integer, PySem.W.mg_of X G a_is_number, k_is_number, b_is_number, .nil⟩
  have c__is_sign : C8.Cal l.prog w K mg base 1 "_is_sign" spSign [] := ⟨_, _, _, [], ok__is_sign F__is_sign T, PySem.W.mg_of X G a__is_sign, k__is_sign, b__is_sign, .nil⟩
  have c_is_text : C8.Cal l.prog w K mg base 2 "is_text" (spB K CC isText) [] := ⟨_, _, _, [], ok_is_text F_is_text T c__is_sign, PySem.W.mg_of X G a_is_text, k_is_text, b_is_text, .nil⟩
  have c__law_is_integer : C8.Cal l.prog w K mg base 1 "_law_is_integer" (spB K CC isInt) [] := ⟨_, _, _, [], ok__law_is_integer F__law_is_integer T hC, PySem.W.mg_of X G a__law_is_integer, k__law_is_integer, b__law_is_integer, .nil⟩
  have c__law_is_number : C8.Cal l.prog w K mg base 2 "_law_is_number" (spB K CC isNum) [] := ⟨_, _, _, [], ok__law_is_number F__law_is_number T c__law_is_integer, PySem.W.mg_of X G a__law_is_number, k__law_is_number, b__law_is_number, .nil⟩
  have c__law_is_text : C8.Cal l.prog w K mg base 1 "_law_is_text" (spB K CC isText) [] := ⟨_, _, _, [], ok__law_is_text F__law_is_text T hC, PySem.W.mg_of X G a__law_is_text, k__law_is_text, b__law_is_text, .nil⟩
  have c__law_said : C8.Cal l.prog w K mg base 1 "_law_said" spSaid [] := ⟨_, _, _, [], ok__law_said F__law_said T hC, PySem.W.mg_of X G a__law_said, k__law_said, b__law_said, .nil⟩
  have c__packed : C8.Cal l.prog w K mg base 1 "_packed" (spPacked K) [] := ⟨_, _, _, [], ok__packed F__packed T, PySem.W.mg_of X G a__packed, k__packed, b__packed, .nil⟩
  have c__rows_of : C8.Cal l.prog w K mg base 2 "_rows_of" spRows [] := ⟨_, _, _, [], ok__rows_of F__rows_of T c__packed, PySem.W.mg_of X G a__rows_of, k__rows_of, b__rows_of, .nil⟩
  have m_Clock : C8.Mak l.prog w K mg base 3 "Clock" C_Clock (spClk C_Clock) [] := ⟨_, _, _, [], ⟨mk_Clock, a_Clock___init__, i_Clock___init__, kc_Clock⟩, ok_Clock___init__ F_Clock___init__ T cl_Clock na_Clock__rows c__rows_of, mg_Clock, b_Clock___init__, .nil⟩
  have c_is_item : C8.Cal l.prog w K mg base 3 "is_item" (spB K CC isItem) [] := ⟨_, _, _, [], ok_is_item F_is_item T c_is_integer c_is_text, PySem.W.mg_of X G a_is_item, k_is_item, b_is_item, .nil⟩
  have c__law_other : C8.Cal l.prog w K mg base 5 "_law_other" (sp_oth K CC) [] := ⟨_, _, _, [], ok__law_other F__law_other T CC1 c__law_draw m_Clock, PySem.W.mg_of X G a__law_other, k__law_other, b__law_other, .nil⟩
  exact ok_law F_law T hC c__law_open c__law_draw c__law_whole c__law_string c__law_other c_is_integer c__law_is_integer c_is_number c__law_is_number c_is_text c__law_is_text c_is_item c__law_said
theorem walk {l : PySem.W.OpenLaw} {q : Program} {loose : List Str} {XP : (Str → Option Value) → Heap → Prop} {YP : World → Heap → Prop} {d : DefRec} {K : Params → PySem.W.Frag} (hn : l.most = some 63) (hdf : d.params.defaults = [])
    (hY : ∀ (w : World) (h : Heap), YP w h → (K w.params).In h)
    (F : ∀ (w : World) (mg : Str → Option Value) (fa : Addr) (h : Heap), (K w.params).In h → h.Ns mainGlobals mg → mg d.name = some (.ref fa) →
      ∃ fd : FuncData, (∀ (s : Shared) (u : Value), BindsTo s fd ⟨[u], []⟩ [("script", u)]) ∧ ∀ base : Heap, (K w.params).In base → base.Ns mainGlobals mg → AtTop l.prog w (K w.params) mg base fa fd ["script"] (spLaw (K w.params))) :
    PySem.W.WalkO q loose XP YP l.row.toRowW d [] (fun f vs => PySem.call f vs) :=
  top_walk (n := 63) (sp := spLaw) hn (by decide) hdf hY F fun _ _ a ns hl hS => ⟨a, ns, rfl, hS, hl, fun _ => rfl⟩
end RH
open PySem PySem.W PyProof.Rows
set_option maxRecDepth 100000 in
set_option maxHeartbeats 0 in
theorem PySem.Challenge.cw_ringheld_k01_integers_and_texts_holds : PySem.Challenge.rw_ringheld_k01_integers_and_texts.Holds := by
  w_on; o_law; k_head; (case hw => w_witness2)
  k_fill
  refine RH.walk (l := PySem.Challenge.rw_ringheld_k01_integers_and_texts) rfl rfl (fun w h Y => PySem.W.kIn_of Y) ?F
  case F =>
    intro w mg fa h KX G hmg
    refine' RH.all_mk KX G hmg ?a_Clock ?pg_Clock ?hd_Clock ?po_Clock ?sa_Clock ?mk_Clock ?kc_Clock ?ha_Clock ?hn_Clock ?ht_Clock ?hm_Clock ?kint_Clock ?kbool_Clock ?kstr_Clock ?ktuple_Clock ?klist_Clock ?n_Clock__rows ?na_Clock__rows ?a__law_draw ?l__law_draw ?c__law_draw ?k__law_draw ?a__law_open ?l__law_open ?c__law_open ?k__law_open ?a__law_char ?l__law_char ?c__law_char ?k__law_char ?a__law_whole ?l__law_whole ?c__law_whole ?k__law_whole ?a__law_string ?l__law_string ?c__law_string ?k__law_string ?a_is_integer ?l_is_integer ?c_is_integer ?k_is_integer ?a_is_number ?l_is_number ?c_is_number ?k_is_number ?a__is_sign ?l__is_sign ?c__is_sign ?k__is_sign ?a_is_text ?l_is_text ?c_is_text ?k_is_text ?a__law_is_integer ?l__law_is_integer ?c__law_is_integer ?k__law_is_integer ?a__law_is_number ?l__law_is_number ?c__law_is_number ?k__law_is_number ?a__law_is_text ?l__law_is_text ?c__law_is_text ?k__law_is_text ?a__law_said ?l__law_said ?c__law_said ?k__law_said ?a__packed ?l__packed ?c__packed ?k__packed ?a__rows_of ?l__rows_of ?c__rows_of ?k__rows_of ?a_Clock___init__ ?i_Clock___init__ ?l_Clock___init__ ?c_Clock___init__ ?k_Clock___init__ ?a_is_item ?l_is_item ?c_is_item ?k_is_item ?a__law_other ?l__law_other ?c__law_other ?k__law_other ?a_law ?l_law ?c_law ?k_law ?g_LIMIT ?g_TEXT_LENGTH ?z_abs ?z_all ?z_bool ?z_int ?z_isinstance ?z_len ?z_list ?z_min ?z_ord ?z_range ?z_repr ?z_set ?z_sorted ?z_str ?z_tuple ?z_type ?z_zip
    (case a_Clock => k_is)
    (case pg_Clock => k_is)
    (case hd_Clock => k_is)
    (case po_Clock => k_is)
    (case sa_Clock => k_is)
    (case mk_Clock => k_is)
    (case kc_Clock => k_is)
    (case ha_Clock => k_is)
    (case hn_Clock => k_is)
    (case ht_Clock => k_is)
    (case hm_Clock => k_is)
    (case kint_Clock => k_is)
    (case kbool_Clock => k_is)
    (case kstr_Clock => k_is)
    (case ktuple_Clock => k_is)
    (case klist_Clock => k_is)
    (case n_Clock__rows => k_is)
    (case na_Clock__rows => k_is)
    (case a__law_draw => k_is)
    (case l__law_draw => k_is)
    (case c__law_draw => k_is)
    (case k__law_draw => k_is)
    (case a__law_open => k_is)
    (case l__law_open => k_is)
    (case c__law_open => k_is)
    (case k__law_open => k_is)
    (case a__law_char => k_is)
    (case l__law_char => k_is)
    (case c__law_char => k_is)
    (case k__law_char => k_is)
    (case a__law_whole => k_is)
    (case l__law_whole => k_is)
    (case c__law_whole => k_is)
    (case k__law_whole => k_is)
    (case a__law_string => k_is)
    (case l__law_string => k_is)
    (case c__law_string => k_is)
    (case k__law_string => k_is)
    (case a_is_integer => k_is)
    (case l_is_integer => k_is)
    (case c_is_integer => k_is)
    (case k_is_integer => k_is)
    (case a_is_number => k_is)
    (case l_is_number => k_is)
    (case c_is_number => k_is)
    (case k_is_number => k_is)
    (case a__is_sign => k_is)
    (case l__is_sign => k_is)
    (case c__is_sign => k_is)
    (case k__is_sign => k_is)
    (case a_is_text => k_is)
    (case l_is_text => k_is)
    (case c_is_text => k_is)
    (case k_is_text => k_is)
    (case a__law_is_integer => k_is)
    (case l__law_is_integer => k_is)
    (case c__law_is_integer => k_is)
    (case k__law_is_integer => k_is)
    (case a__law_is_number => k_is)
    (case l__law_is_number => k_is)
    (case c__law_is_number => k_is)
    (case k__law_is_number => k_is)
    (case a__law_is_text => k_is)
    (case l__law_is_text => k_is)
    (case c__law_is_text => k_is)
    (case k__law_is_text => k_is)
    (case a__law_said => k_is)
    (case l__law_said => k_is)
    (case c__law_said => k_is)
    (case k__law_said => k_is)
    (case a__packed => k_is)
    (case l__packed => k_is)
    (case c__packed => k_is)
    (case k__packed => k_is)
    (case a__rows_of => k_is)
    (case l__rows_of => k_is)
    (case c__rows_of => k_is)
    (case k__rows_of => k_is)
    (case a_Clock___init__ => k_is)
    (case i_Clock___init__ => k_is)
    (case l_Clock___init__ => k_is)
    (case c_Clock___init__ => k_is)
    (case k_Clock___init__ => k_is)
    (case a_is_item => k_is)
    (case l_is_item => k_is)
    (case c_is_item => k_is)
    (case k_is_item => k_is)
    (case a__law_other => k_is)
    (case l__law_other => k_is)
    (case c__law_other => k_is)
    (case k__law_other => k_is)
    (case a_law => k_is)
    (case l_law => k_is)
    (case c_law => k_is)
    (case k_law => k_is)
    (case g_LIMIT => k_is)
    (case g_TEXT_LENGTH => k_is)
    (case z_abs => k_is)
    (case z_all => k_is)
    (case z_bool => k_is)
    (case z_int => k_is)
    (case z_isinstance => k_is)
    (case z_len => k_is)
    (case z_list => k_is)
    (case z_min => k_is)
    (case z_ord => k_is)
    (case z_range => k_is)
    (case z_repr => k_is)
    (case z_set => k_is)
    (case z_sorted => k_is)
    (case z_str => k_is)
    (case z_tuple => k_is)
    (case z_type => k_is)
    (case z_zip => k_is)
