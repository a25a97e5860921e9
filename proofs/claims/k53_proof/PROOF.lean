import PyProof.Rows.All
import Wide.All
import OpenK.AllK
import Wide.FinOn
import HandS.ForMost
import HandS.Evl
import HandS.IsInst
import HandS.FStr
import HandS.WideBits
import HandS.Wide
import HandS.EndBits
import HandS.Exc
import HandS.TupAny
import PyProof.StrOps2
import HandS.ExcOwn
import HandS.ExcIs
import HandS.ExcCtx
import HandS.SuiteRaise
import HandS.RaiseFrom
import HandS.ExcValue
import HandS.ExcValueFrom
import HandS.WordsExc
import HandS.Replace
import HandS.ReplaceLit
import HandS.NoneIn
import HandS.StrMore
import HandS.TupLe
import HandS.Sort
import HandS.SortKw
import HandS.Lambda
import HandS.EndTab
import KE.KNestM
import KE.SortKeyHeap
import KE.SortData
import HandS.Iter
import KE.GoesMore
import KE.GoesEnum
import HandS.SetTxt0
import HandS.Set
import HandS.Strs
import HandS.Star
import HandS.Zip
import KE.KDictZip
import PySem.Challenge.RW_versiontables_k53_evaluate


set_option Elab.async false
set_option linter.all false
set_option maxRecDepth 100000
set_option maxHeartbeats 400000

namespace Vt
open PySem PySem.Spec PyProof.Rows L2 Evl

def topS (i : Nat) : Stmt := PySem.Challenge.pw_versiontables_k53_evaluate.main.body.getD i (.Pass ⟨0, 0, 0, 0⟩)

abbrev s_law_cell : Stmt := topS 8

theorem sc_law_cell : FnScope ["script", "k"] ["script", "k"] (defScope s_law_cell) := ⟨rfl, rfl, rfl, by decide +kernel, rfl, by decide +kernel, by decide +kernel⟩

abbrev s_law_draws : Stmt := topS 10

theorem sc_law_draws : FnScope ["cell", "salt", "count", "base", "rest", "numbers", "k", "mixed"] ["cell", "salt", "count", "base"] (defScope s_law_draws) := ⟨rfl, rfl, rfl, by decide +kernel, rfl, by decide +kernel, by decide +kernel⟩

abbrev s_law_char : Stmt := topS 11

theorem sc_law_char : FnScope ["number", "chars"] ["number"] (defScope s_law_char) := ⟨rfl, rfl, rfl, by decide +kernel, rfl, by decide +kernel, by decide +kernel⟩

abbrev s_law_text : Stmt := topS 12

theorem sc_law_text : FnScope ["cell", "choice", "rest", "length", "number"] ["cell"] (defScope s_law_text) := ⟨rfl, rfl, rfl, by decide +kernel, rfl, by decide +kernel, by decide +kernel⟩

abbrev s_law_literal : Stmt := topS 18

theorem sc_law_literal : FnScope ["kind", "cell", "choice", "rest"] ["kind", "cell"] (defScope s_law_literal) := ⟨rfl, rfl, rfl, by decide +kernel, rfl, by decide +kernel, by decide +kernel⟩

abbrev s_law_operator : Stmt := topS 20

theorem sc_law_operator : FnScope ["left", "right", "number", "words"] ["left", "right", "number"] (defScope s_law_operator) := ⟨rfl, rfl, rfl, by decide +kernel, rfl, by decide +kernel, by decide +kernel⟩

abbrev s_law_turned : Stmt := topS 21

theorem sc_law_turned : FnScope ["entry", "number", "tree", "kind"] ["entry", "number"] (defScope s_law_turned) := ⟨rfl, rfl, rfl, by decide +kernel, rfl, by decide +kernel, by decide +kernel⟩

abbrev s_law_drawn : Stmt := topS 22

theorem sc_law_drawn : FnScope ["cells", "columns", "stack", "cell", "numbers", "choice", "word", "right", "left", "kind", "column"] ["cells", "columns"] (defScope s_law_drawn) := ⟨rfl, rfl, rfl, by decide +kernel, rfl, by decide +kernel, by decide +kernel⟩

abbrev s_law_compared : Stmt := topS 23

theorem sc_law_compared : FnScope ["word", "left", "right"] ["word", "left", "right"] (defScope s_law_compared) := ⟨rfl, rfl, rfl, by decide +kernel, rfl, by decide +kernel, by decide +kernel⟩

abbrev s_law_evaluated : Stmt := topS 24

theorem sc_law_evaluated : FnScope ["tree", "columns", "row", "word", "k", "values", "part", "unknown", "value", "number"] ["tree", "columns", "row"] (defScope s_law_evaluated) := ⟨rfl, rfl, rfl, by decide +kernel, rfl, by decide +kernel, by decide +kernel⟩

abbrev s_law_is_value : Stmt := topS 25

theorem sc_law_is_value : FnScope ["actual", "expected"] ["actual", "expected"] (defScope s_law_is_value) := ⟨rfl, rfl, rfl, by decide +kernel, rfl, by decide +kernel, by decide +kernel⟩

abbrev s_law_integer : Stmt := topS 13

theorem sc_law_integer : FnScope ["cell", "choice", "rest"] ["cell"] (defScope s_law_integer) := ⟨rfl, rfl, rfl, by decide +kernel, rfl, by decide +kernel, by decide +kernel⟩

abbrev s_law_small : Stmt := topS 19

theorem sc_law_small : FnScope ["kind", "cell", "choice", "rest"] ["kind", "cell"] (defScope s_law_small) := ⟨rfl, rfl, rfl, by decide +kernel, rfl, by decide +kernel, by decide +kernel⟩

abbrev s_law_thing : Stmt := topS 9

theorem sc_law_thing : FnScope ["script", "k"] ["script", "k"] (defScope s_law_thing) := ⟨rfl, rfl, rfl, by decide +kernel, rfl, by decide +kernel, by decide +kernel⟩

abbrev s_law_free : Stmt := topS 16

theorem sc_law_free : FnScope ["name", "taken", "reserved", "letters", "k"] ["name", "taken"] (defScope s_law_free) := ⟨rfl, rfl, rfl, by decide +kernel, rfl, by decide +kernel, by decide +kernel⟩

abbrev s_law_name : Stmt := topS 14

theorem sc_law_name : FnScope ["cell", "letters", "length", "number"] ["cell"] (defScope s_law_name) := ⟨rfl, rfl, rfl, by decide +kernel, rfl, by decide +kernel, by decide +kernel⟩

abbrev s_law_names : Stmt := topS 15

theorem sc_law_names : FnScope ["cells", "letters", "names", "cell", "choice", "rest", "name", "place", "k"] ["cells"] (defScope s_law_names) := ⟨rfl, rfl, rfl, by decide +kernel, rfl, by decide +kernel, by decide +kernel⟩

abbrev s_law_words : Stmt := topS 17

theorem sc_law_words : FnScope ["cells", "names", "name"] ["cells"] (defScope s_law_words) := ⟨rfl, rfl, rfl, by decide +kernel, rfl, by decide +kernel, by decide +kernel⟩

abbrev s_bounded : Stmt := topS 5

theorem sc_bounded : FnScope ["number"] ["number"] (defScope s_bounded) := ⟨rfl, rfl, rfl, by decide +kernel, rfl, by decide +kernel, by decide +kernel⟩

abbrev s_compare : Stmt := topS 6

theorem sc_compare : FnScope ["word", "left", "right"] ["word", "left", "right"] (defScope s_compare) := ⟨rfl, rfl, rfl, by decide +kernel, rfl, by decide +kernel, by decide +kernel⟩

abbrev s_compute : Stmt := topS 4

theorem sc_compute : FnScope ["word", "values", "left", "right"] ["word", "values"] (defScope s_compute) := ⟨rfl, rfl, rfl, by decide +kernel, rfl, by decide +kernel, by decide +kernel⟩

abbrev s_place : Stmt := topS 3

theorem sc_place : FnScope ["columns", "name", "column"] ["columns", "name"] (defScope s_place) := ⟨rfl, rfl, rfl, by decide +kernel, rfl, by decide +kernel, by decide +kernel⟩

abbrev s_evaluate : Stmt := topS 2

theorem sc_evaluate : FnScope ["tree", "columns", "row", "word", "values", "operand", "deciding"] ["tree", "columns", "row"] (defScope s_evaluate) := ⟨rfl, rfl, rfl, by decide +kernel, rfl, by decide +kernel, by decide +kernel⟩

abbrev s_law : Stmt := topS 26

theorem sc_law : FnScope ["script", "head", "names", "k", "columns", "entries", "parts", "row", "j", "tree", "kind"] ["script"] (defScope s_law) := ⟨rfl, rfl, rfl, by decide +kernel, rfl, by decide +kernel, by decide +kernel⟩

structure Txt (K : PySem.W.Frag) (mg : Str → Option Value) where
  f_law_cell : Addr
  d_law_cell : FuncData
  F_law_cell : Fun K "_law_cell" "_law_cell" s_law_cell f_law_cell d_law_cell
  b_law_cell : Binds K d_law_cell ["script", "k"] []
  g_law_cell : mg "_law_cell" = some (.ref f_law_cell)
  f_law_draws : Addr
  d_law_draws : FuncData
  F_law_draws : Fun K "_law_draws" "_law_draws" s_law_draws f_law_draws d_law_draws
  b_law_draws : Binds K d_law_draws ["cell", "salt", "count", "base"] []
  g_law_draws : mg "_law_draws" = some (.ref f_law_draws)
  f_law_char : Addr
  d_law_char : FuncData
  F_law_char : Fun K "_law_char" "_law_char" s_law_char f_law_char d_law_char
  b_law_char : Binds K d_law_char ["number"] []
  g_law_char : mg "_law_char" = some (.ref f_law_char)
  f_law_text : Addr
  d_law_text : FuncData
  F_law_text : Fun K "_law_text" "_law_text" s_law_text f_law_text d_law_text
  b_law_text : Binds K d_law_text ["cell"] []
  g_law_text : mg "_law_text" = some (.ref f_law_text)
  f_law_literal : Addr
  d_law_literal : FuncData
  F_law_literal : Fun K "_law_literal" "_law_literal" s_law_literal f_law_literal d_law_literal
  b_law_literal : Binds K d_law_literal ["kind", "cell"] []
  g_law_literal : mg "_law_literal" = some (.ref f_law_literal)
  f_law_operator : Addr
  d_law_operator : FuncData
  F_law_operator : Fun K "_law_operator" "_law_operator" s_law_operator f_law_operator d_law_operator
  b_law_operator : Binds K d_law_operator ["left", "right", "number"] []
  g_law_operator : mg "_law_operator" = some (.ref f_law_operator)
  f_law_turned : Addr
  d_law_turned : FuncData
  F_law_turned : Fun K "_law_turned" "_law_turned" s_law_turned f_law_turned d_law_turned
  b_law_turned : Binds K d_law_turned ["entry", "number"] []
  g_law_turned : mg "_law_turned" = some (.ref f_law_turned)
  f_law_drawn : Addr
  d_law_drawn : FuncData
  F_law_drawn : Fun K "_law_drawn" "_law_drawn" s_law_drawn f_law_drawn d_law_drawn
  b_law_drawn : Binds K d_law_drawn ["cells", "columns"] []
  g_law_drawn : mg "_law_drawn" = some (.ref f_law_drawn)
  f_law_compared : Addr
  d_law_compared : FuncData
  F_law_compared : Fun K "_law_compared" "_law_compared" s_law_compared f_law_compared d_law_compared
  b_law_compared : Binds K d_law_compared ["word", "left", "right"] []
  g_law_compared : mg "_law_compared" = some (.ref f_law_compared)
  f_law_evaluated : Addr
  d_law_evaluated : FuncData
  F_law_evaluated : Fun K "_law_evaluated" "_law_evaluated" s_law_evaluated f_law_evaluated d_law_evaluated
  b_law_evaluated : Binds K d_law_evaluated ["tree", "columns", "row"] []
  g_law_evaluated : mg "_law_evaluated" = some (.ref f_law_evaluated)
  f_law_is_value : Addr
  d_law_is_value : FuncData
  F_law_is_value : Fun K "_law_is_value" "_law_is_value" s_law_is_value f_law_is_value d_law_is_value
  b_law_is_value : Binds K d_law_is_value ["actual", "expected"] []
  g_law_is_value : mg "_law_is_value" = some (.ref f_law_is_value)
  f_law_integer : Addr
  d_law_integer : FuncData
  F_law_integer : Fun K "_law_integer" "_law_integer" s_law_integer f_law_integer d_law_integer
  b_law_integer : Binds K d_law_integer ["cell"] []
  g_law_integer : mg "_law_integer" = some (.ref f_law_integer)
  f_law_small : Addr
  d_law_small : FuncData
  F_law_small : Fun K "_law_small" "_law_small" s_law_small f_law_small d_law_small
  b_law_small : Binds K d_law_small ["kind", "cell"] []
  g_law_small : mg "_law_small" = some (.ref f_law_small)
  f_law_thing : Addr
  d_law_thing : FuncData
  F_law_thing : Fun K "_law_thing" "_law_thing" s_law_thing f_law_thing d_law_thing
  b_law_thing : Binds K d_law_thing ["script", "k"] []
  g_law_thing : mg "_law_thing" = some (.ref f_law_thing)
  f_law_free : Addr
  d_law_free : FuncData
  F_law_free : Fun K "_law_free" "_law_free" s_law_free f_law_free d_law_free
  b_law_free : Binds K d_law_free ["name", "taken"] []
  g_law_free : mg "_law_free" = some (.ref f_law_free)
  f_law_name : Addr
  d_law_name : FuncData
  F_law_name : Fun K "_law_name" "_law_name" s_law_name f_law_name d_law_name
  b_law_name : Binds K d_law_name ["cell"] []
  g_law_name : mg "_law_name" = some (.ref f_law_name)
  f_law_names : Addr
  d_law_names : FuncData
  F_law_names : Fun K "_law_names" "_law_names" s_law_names f_law_names d_law_names
  b_law_names : Binds K d_law_names ["cells"] []
  g_law_names : mg "_law_names" = some (.ref f_law_names)
  f_law_words : Addr
  d_law_words : FuncData
  F_law_words : Fun K "_law_words" "_law_words" s_law_words f_law_words d_law_words
  b_law_words : Binds K d_law_words ["cells"] []
  g_law_words : mg "_law_words" = some (.ref f_law_words)
  f_bounded : Addr
  d_bounded : FuncData
  F_bounded : Fun K "_bounded" "_bounded" s_bounded f_bounded d_bounded
  b_bounded : Binds K d_bounded ["number"] []
  g_bounded : mg "_bounded" = some (.ref f_bounded)
  f_compare : Addr
  d_compare : FuncData
  F_compare : Fun K "_compare" "_compare" s_compare f_compare d_compare
  b_compare : Binds K d_compare ["word", "left", "right"] []
  g_compare : mg "_compare" = some (.ref f_compare)
  f_compute : Addr
  d_compute : FuncData
  F_compute : Fun K "_compute" "_compute" s_compute f_compute d_compute
  b_compute : Binds K d_compute ["word", "values"] []
  g_compute : mg "_compute" = some (.ref f_compute)
  f_place : Addr
  d_place : FuncData
  F_place : Fun K "_place" "_place" s_place f_place d_place
  b_place : Binds K d_place ["columns", "name"] []
  g_place : mg "_place" = some (.ref f_place)
  f_evaluate : Addr
  d_evaluate : FuncData
  F_evaluate : Fun K "evaluate" "evaluate" s_evaluate f_evaluate d_evaluate
  b_evaluate : Binds K d_evaluate ["tree", "columns", "row"] []
  g_evaluate : mg "evaluate" = some (.ref f_evaluate)
  f_law : Addr
  d_law : FuncData
  F_law : Fun K "law" "law" s_law f_law d_law
  b_law : Binds K d_law ["script"] []
  g_law : mg "law" = some (.ref f_law)
  m_abs : mg "abs" = none
  m_bool : mg "bool" = none
  m_int : mg "int" = none
  m_isinstance : mg "isinstance" = none
  m_len : mg "len" = none
  m_range : mg "range" = none
  m_str : mg "str" = none
  m_tuple : mg "tuple" = none
  t_BOUND : Tok
  k_BOUND : mg "BOUND" = some (.int 1000000000000000000000000000000000000000000000000000000000000 t_BOUND)

/-! ### sizes of ints -/
/-- an int of at most some million bits -/
structure Wd (n : Int) : Prop where
  h : n.natAbs.log2 < 1100000
theorem log2_mono {a b : Nat} (h : a ≤ b) : a.log2 ≤ b.log2 := by
  by_cases ha : a = 0
  · subst ha
    exact Nat.le_trans (Nat.le_of_eq (by decide)) (Nat.zero_le _)
  · refine Nat.lt_succ_iff.mp ((Nat.log2_lt ha).mpr (Nat.lt_of_le_of_lt h Nat.lt_log2_self))
theorem Wd.le {n m : Int} (h : Wd n) (e : m.natAbs ≤ n.natAbs) : Wd m := ⟨Nat.lt_of_le_of_lt (log2_mono e) h.h⟩
theorem Wd.lt {n : Int} (h : n.natAbs < 2 ^ 9000) : Wd n := ⟨Nat.lt_trans (PySem.Flt.log2_lt_of (by decide) h) (by decide)⟩
theorem Wd.lit {n : Int} (h : n.natAbs < 2 ^ 256) : Wd n := ⟨Nat.lt_trans (PySem.Flt.log2_lt_of (by decide) h) (by decide)⟩
theorem Wd.bits {n : Int} (h : Builtin.Int.intBits n ≤ 1048576) : Wd n := by
  unfold Builtin.Int.intBits at h
  by_cases e : n = 0
  · subst e
    exact Wd.lit (by decide)
  · rw [if_neg (by simpa using e)] at h
    exact ⟨by omega⟩
theorem Wd.small {n : Int} (h1 : -(2 ^ 64) < n) (h2 : n < 2 ^ 64) : Wd n := Wd.lit (by
  have : n.natAbs < 2 ^ 64 := by omega
  exact Nat.lt_of_lt_of_le this (by decide))
theorem Wd.div {n b : Int} (h : Wd n) : Wd (n / b) := h.le (Int.natAbs_ediv_le_natAbs n b)
theorem Wd.mod {n b : Int} (hb : 0 < b) (h : Wd b) : Wd (n % b) := h.le (by
  have h1 := Int.emod_nonneg n (by omega : b ≠ 0)
  have h2 := Int.emod_lt_of_pos n hb
  omega)
theorem Wd.neg {n : Int} (h : Wd n) : Wd (-n) := h.le (by omega)
theorem bits_log (n : Int) : Builtin.Int.intBits n ≤ n.natAbs.log2 + 1 := by
  unfold Builtin.Int.intBits
  split <;> omega
theorem Wd.mul {i j : Int} (hi : Wd i) (hj : Wd j) : CMulX i j := by
  have a := bits_log i
  have b := bits_log j
  have c := hi.h
  have d := hj.h
  unfold CMulX
  omega
/-- what falls to a comparison of two ints -/
theorem dec_int {i j : Int} : decide (V.int i = V.int j) = decide (i = j) := by
  by_cases h : i = j
  · rw [decide_eq_true h, decide_eq_true (congrArg V.int h)]
  · rw [decide_eq_false h, decide_eq_false fun e => h (V.int.inj e)]
theorem dec_str {i j : Str} : decide (V.str i = V.str j) = decide (i = j) := by
  by_cases h : i = j
  · rw [decide_eq_true h, decide_eq_true (congrArg V.str h)]
  · rw [decide_eq_false h, decide_eq_false fun e => h (V.str.inj e)]
theorem dec_bl {i j : Bool} : decide (V.bl i = V.bl j) = decide (i = j) := by
  by_cases h : i = j
  · rw [decide_eq_true h, decide_eq_true (congrArg V.bl h)]
  · rw [decide_eq_false h, decide_eq_false fun e => h (V.bl.inj e)]
/-- len, tuple of a list or tuple -/
abbrev rLenQ (K : PySem.W.Frag) : List V → Hp → VK → Prop := fun xs H Q => ∃ p ys, xs = [V.ref p] ∧ (SqL K H p ys ∨ SqT K H p ys) ∧ Q (.int ys.length) H
abbrev rTupOf (K : PySem.W.Frag) : List V → Hp → VK → Prop := fun xs H Q => ∃ p ys, xs = [V.ref p] ∧ ((SqL K H p ys ∧ ∀ l, H l = none → Q (.ref l) (upd H l (.tup ys))) ∨ (SqT K H p ys ∧ Q (.ref p) H))
/-! ### more of what evaluates -/
section
variable {K : PySem.W.Frag} {σ : L2.St} {H : Hp} {ta tb te : TE}
theorem ev_eqI {i j : Int} (ha : Ev ta σ H (.int i)) (hb : Ev tb σ H (.int j)) : Ev (tOp rEq ta tb) σ H (.bl (decide (i = j))) := ev_is (ev_op ha hb (rv_eq rfl)) (congrArg V.bl dec_int)
theorem ev_neI {i j : Int} (ha : Ev ta σ H (.int i)) (hb : Ev tb σ H (.int j)) : Ev (tOp rNe ta tb) σ H (.bl (!decide (i = j))) := ev_is (ev_op ha hb (rv_ne rfl)) (congrArg (fun b => V.bl (!b)) dec_int)
theorem ev_eqS {i j : Str} (ha : Ev ta σ H (.str i)) (hb : Ev tb σ H (.str j)) : Ev (tOp rEq ta tb) σ H (.bl (decide (i = j))) := ev_is (ev_op ha hb (rv_eq rfl)) (congrArg V.bl dec_str)
theorem ev_neS {i j : Str} (ha : Ev ta σ H (.str i)) (hb : Ev tb σ H (.str j)) : Ev (tOp rNe ta tb) σ H (.bl (!decide (i = j))) := ev_is (ev_op ha hb (rv_ne rfl)) (congrArg (fun b => V.bl (!b)) dec_str)
theorem ev_eqB {i j : Bool} (ha : Ev ta σ H (.bl i)) (hb : Ev tb σ H (.bl j)) : Ev (tOp rEq ta tb) σ H (.bl (decide (i = j))) := ev_is (ev_op ha hb (rv_eq rfl)) (congrArg V.bl dec_bl)
theorem ev_neB {i j : Bool} (ha : Ev ta σ H (.bl i)) (hb : Ev tb σ H (.bl j)) : Ev (tOp rNe ta tb) σ H (.bl (!decide (i = j))) := ev_is (ev_op ha hb (rv_ne rfl)) (congrArg (fun b => V.bl (!b)) dec_bl)
theorem ev_bin {C : Int → Int → Prop} {g : Int → Int → V} {i j : Int} (ha : Ev ta σ H (.int i)) (hb : Ev tb σ H (.int j)) (hc : C i j) : Ev (tOp (rI C g) ta tb) σ H (g i j) := ev_op ha hb (rv_I hc)
theorem ev_bin0 {g : Int → Int → V} {i j : Int} (ha : Ev ta σ H (.int i)) (hb : Ev tb σ H (.int j)) : Ev (tOp (rI0 g) ta tb) σ H (g i j) := ev_op ha hb rv_I0
theorem ev_intI {i : Int} (h : Ev te σ H (.int i)) : Ev (tCB (fun xs H Q => (∃ i, xs = [V.int i] ∧ Q (.int i) H) ∨ ∃ k, xs = [V.bl k] ∧ Q (.int (if k = true then 1 else 0)) H) (tCons te tNil)) σ H (.int i) := fun H1 e Q q =>
  h H1 e _ fun H2 e2 => .inl ⟨i, rfl, q H2 e2⟩
theorem ev_lenS {z : Str} (h : Ev te σ H (.str z)) (hz : z.length ≤ 100000) : Ev (tCB (fun xs H Q => ∃ z, xs = [V.str z] ∧ z.length ≤ sizeLine ∧ Q (.int z.length) H) (tCons te tNil)) σ H (.int (z.length : Int)) := fun H1 e Q q =>
  h H1 e _ fun H2 e2 => ⟨z, rfl, sz_of hz, q H2 e2⟩
theorem ev_lenQ {p : Addr} {xs : List V} (ha : Ev ta σ H (.ref p)) (h : SqL K H p xs) : Ev (tCB (fun xs H Q => ∃ p ys, xs = [V.ref p] ∧ (SqL K H p ys ∨ SqT K H p ys) ∧ Q (.int ys.length) H) (tCons ta tNil)) σ H (.int (xs.length : Int)) := fun H1 e Q q =>
  ha H1 e _ fun H2 e2 => ⟨p, xs, rfl, Or.inl (ex_l (e.trans e2) h), q H2 e2⟩
theorem ev_lenT {p : Addr} {xs : List V} (ha : Ev ta σ H (.ref p)) (h : SqT K H p xs) : Ev (tCB (fun xs H Q => ∃ p ys, xs = [V.ref p] ∧ (SqL K H p ys ∨ SqT K H p ys) ∧ Q (.int ys.length) H) (tCons ta tNil)) σ H (.int (xs.length : Int)) := fun H1 e Q q =>
  ha H1 e _ fun H2 e2 => ⟨p, xs, rfl, Or.inr (ex_t (e.trans e2) h), q H2 e2⟩
theorem ev_ixL {p : Addr} {xs : List V} {i : Int} {v : V} (ha : Ev ta σ H (.ref p)) (hb : Ev tb σ H (.int i)) (h : SqL K H p xs) (hi : atI xs i = some v) : Ev (tOp (rIxL K) ta tb) σ H v := ev_op ha hb (rv_ixL h hi)
theorem ev_ixT {p : Addr} {xs : List V} {i : Int} {v : V} (ha : Ev ta σ H (.ref p)) (hb : Ev tb σ H (.int i)) (h : SqT K H p xs) (hi : atI xs i = some v) : Ev (tOp (rIxT K) ta tb) σ H v := ev_op ha hb (rv_ixT h hi)
/-- an item of a list that is written there -/
theorem ev_ixN {xs : List V} {i : Int} {v : V} (ha : EvL ta σ H xs) (hb : ∀ H1, Ex H H1 → Ev tb σ H1 (.int i)) (hi : atI xs i = some v) : Ev (tOp (rIxL K) ta tb) σ H v := ev_opL1 ha hb fun p H1 h1 _ => rv_ixL (sq_of h1) hi
theorem ev_ixS {z : Str} {i : Int} {c : Nat} (ha : Ev ta σ H (.str z)) (hb : Ev tb σ H (.int i)) (hz : z.length ≤ 100000) (hi : atI z.cps.toList i = some c) : Ev (tOp rIxS ta tb) σ H (.str ⟨#[c]⟩) := ev_op ha hb (rv_ixS hz hi)
theorem ev_addS {x y : Str} (ha : Ev ta σ H (.str x)) (hb : Ev tb σ H (.str y)) (hz : x.length + y.length ≤ 16777216) : Ev (tOp (fun x y H Q => ∃ i j, x = V.str i ∧ y = V.str j ∧ i.length + j.length ≤ sizeLine ∧ Q (.str (i ++ j)) H) ta tb) σ H (.str (x ++ y)) :=
  ev_op ha hb fun H1 _ Q q => ⟨x, y, rfl, rfl, by rw [sizeLine_eq]; exact hz, q H1 (Ex.refl H1)⟩
theorem ev_neg {i : Int} (h : Ev te σ H (.int i)) : Ev (tUn (rU fun i => .int (-i)) te) σ H (.int (-i)) := ev_un h ru_neg
theorem ev_isN {v : V} (h : Ev te σ H v) : Ev (tOp (fun x y H Q => y = .non ∧ Q (.bl (decide (x = .non))) H) te (tC .non)) σ H (.bl (decide (v = .non))) := fun H1 e Q q => h H1 e _ fun H2 e2 => ⟨rfl, q H2 e2⟩
end
section
variable {σ : L2.St} {H : Hp} {te : TE}
theorem ev_isNt (h : Ev te σ H .non) : Ev (tOp (fun x y H Q => y = .non ∧ Q (.bl (decide (x = .non))) H) te (tC .non)) σ H (.bl true) := ev_is (ev_isN h) (congrArg V.bl (decide_eq_true rfl))
theorem ev_isNf {v : V} (h : Ev te σ H v) (hv : v ≠ .non := by intro z; cases z) : Ev (tOp (fun x y H Q => y = .non ∧ Q (.bl (decide (x = .non))) H) te (tC .non)) σ H (.bl false) := ev_is (ev_isN h) (congrArg V.bl (decide_eq_false hv))
end
theorem at_nat {xs : List V} {j : Nat} {v : V} (h : xs[j]? = some v) : atI xs (j : Int) = some v := atI_nat h
theorem sizeOk {n : Nat} (h : n ≤ 16777216) : n ≤ sizeLine := by rw [sizeLine_eq]; exact h

/-! ### texts, joins, comprehensions -/
theorem str_ext {a b : Str} (h : a.cps.toList = b.cps.toList) : a = b := by
  obtain ⟨a⟩ := a
  obtain ⟨b⟩ := b
  exact congrArg Str.mk (Array.toList_inj.mp h)
/-- the join of one-sign texts -/
theorem join_signs (l : List Nat) : Txt.join (Str.ofString "") (l.map fun c => (⟨#[c]⟩ : Str)) = ⟨l.toArray⟩ := by
  rw [TL.join_eq]
  refine str_ext ?_
  have key : ∀ l : List Nat, TL.joinL [] (l.map fun c => [c]) = l := fun l => by
    induction l with
    | nil => rfl
    | cons a r ih =>
      cases r with
      | nil => rfl
      | cons b r =>
        show [a] ++ ([] ++ TL.joinL [] ((b :: r).map fun c => [c])) = a :: b :: r
        rw [ih] <;> rfl
  have h := TL.tl_join (Str.ofString "") (l.map fun c => (⟨#[c]⟩ : Str))
  have e1 : TL.tl (Str.ofString "") = [] := by decide +kernel
  rw [e1, List.map_map] at h
  exact h.trans (key l)
theorem sum_ones (l : List Nat) : ((l.map fun c => (⟨#[c]⟩ : Str)).map (·.length)).sum = l.length := by
  induction l with
  | nil => rfl
  | cons a r ih =>
    rw [List.map_cons, List.map_cons, List.sum_cons, ih, List.length_cons]
    show 1 + r.length = r.length + 1
    omega
/-- a join of a new list of texts -/
theorem ev_joinN {K : PySem.W.Frag} {σ : L2.St} {H : Hp} {to te : TE} {a : Str} {ys : List Str} (h0 : Ev to σ H (.str a)) (h : EvL te σ H (ys.map V.str)) (hz : (ys.map (·.length)).sum + ys.length * a.length ≤ 16777216) :
    Ev (tM1 (fun x xs H Q => ∃ a p, ∃ ys : List Str, x = .str a ∧ xs = [.ref p] ∧ (SqL K H p (ys.map V.str) ∨ SqT K H p (ys.map V.str)) ∧ (ys.map (·.length)).sum + ys.length * a.length ≤ 16777216 ∧ Q (.str (Txt.join a ys)) H) to te) σ H (.str (Txt.join a ys)) :=
  fun H1 e Q q => h0 H1 e _ fun H2 e2 => ⟨⟨a, rfl⟩, h H2 (e.trans e2) _ fun p H3 hp e3 hl => ⟨a, p, ys, rfl, rfl, .inl (sq_of hl), hz, q H3 (e2.trans e3)⟩⟩
theorem given_all {n : Nat} {v : Nat → V} {xs : List V} (hn : xs.length = n) (h : ∀ i, i < n → xs[i]? = some (v i)) : given n (fun _ => true) v = xs := by
  unfold given
  rw [List.filter_eq_self.mpr (fun _ _ => rfl)]
  refine List.ext_getElem? fun i => ?_
  rw [List.getElem?_map]
  by_cases hi : i < n
  · rw [List.getElem?_range hi, h i hi] <;> rfl
  · rw [List.getElem?_eq_none (by rw [List.length_range]; omega), List.getElem?_eq_none (by omega)] <;> rfl
/-- [f(x) for x in a new list of ints] -/
theorem el_mapN {K : PySem.W.Frag} {σ : L2.St} {H : Hp} {tl te : TE} {j : Nat} {vs : List Nat} {ns : List Int} {f : Int → V} (h : EvL tl σ H (ns.map V.int)) (hz : ns.length ≤ 40000) (hw : ∀ x, wipe ((wipe σ vs).set j (some x)) vs = wipe σ vs)
    (he : ∀ n ∈ ns, ∀ H1, Ex H H1 → Ev te ((wipe σ vs).set j (some (.int n))) H1 (f n)) : EvL (tLc (iList K tl) (gName j) tYes te vs) σ H (ns.map f) := by
  have g : given (ns.map V.int).length (fun _ => true) (fun i => f (ns.getD i 0)) = ns.map f := given_all (by rw [List.length_map, List.length_map]) fun i hi => by
    rw [List.length_map] at hi
    rw [List.getElem?_map, List.getElem?_eq_getElem hi, List.getD_eq_getElem?_getD, List.getElem?_eq_getElem hi] <;> rfl
  rw [← g]
  refine el_lcNL (fun _ => true) (fun i => f (ns.getD i 0)) h (by rw [List.length_map]; exact hz) hw (fun i x H1 e1 hx => ?_) (fun i x H1 e1 hx _ => ?_)
  · exact fun H2 e2 Q q => q H2 (Ex.refl H2)
  · rw [List.getElem?_map] at hx
    cases e : ns[i]? with
    | none =>
      rw [e] at hx
      cases hx
    | some n =>
      rw [e] at hx
      have ex : x = .int n := (Option.some.inj hx).symm
      rw [ex, List.getD_eq_getElem?_getD, e]
      exact he n (List.mem_of_getElem? e) H1 e1
theorem atI_of {xs : List V} {n : Int} {v : V} (h0 : 0 ≤ n) (h : xs[n.toNat]? = some v) : atI xs n = some v := by
  have e : n = ((n.toNat : Nat) : Int) := by omega
  rw [e]
  exact atI_nat (by simpa using h)
theorem at_cps {z : Str} {l : List Nat} (h : z.cps.toList = l) {n : Int} (h0 : 0 ≤ n) (h1 : n < l.length) : atI z.cps.toList n = some (l.getD n.toNat 0) := by
  rw [h]
  have e : n = ((n.toNat : Nat) : Int) := by omega
  have h3 : n.toNat < l.length := by omega
  have h4 : ixN l.length n = some n.toNat := by rw [e]; exact ixN_nat (by omega)
  unfold atI
  rw [h4]
  show l[n.toNat]? = some (l.getD n.toNat 0)
  rw [List.getElem?_eq_getElem h3, List.getD_eq_getElem?_getD, List.getElem?_eq_getElem h3]
  all_goals rfl

/-- the join of texts by their codes -/
theorem join_codes (l : List (List Nat)) : Txt.join (Str.ofString "") (l.map fun c => (⟨c.toArray⟩ : Str)) = ⟨l.flatten.toArray⟩ := by
  rw [TL.join_eq]
  refine str_ext ?_
  have key : ∀ l : List (List Nat), TL.joinL [] l = l.flatten := fun l => by
    induction l with
    | nil => rfl
    | cons a r ih =>
      cases r with
      | nil => simp [TL.joinL]
      | cons b r =>
        show a ++ ([] ++ TL.joinL [] (b :: r)) = (a :: b :: r).flatten
        rw [ih, List.nil_append]
        exact List.flatten_cons.symm
  have h := TL.tl_join (Str.ofString "") (l.map fun c => (⟨c.toArray⟩ : Str))
  have e1 : TL.tl (Str.ofString "") = [] := by decide +kernel
  have e2 : (l.map fun c => (⟨c.toArray⟩ : Str)).map TL.tl = l := by
    rw [List.map_map]
    exact List.map_id l
  rw [e1, e2] at h
  exact h.trans (key l)
theorem sum_codes (l : List (List Nat)) : ((l.map fun c => (⟨c.toArray⟩ : Str)).map (·.length)).sum = l.flatten.length := by
  induction l with
  | nil => rfl
  | cons a r ih =>
    rw [List.map_cons, List.map_cons, List.sum_cons, ih, List.flatten_cons, List.length_append] <;> rfl
/-- [f(x) for x in a tuple] -/
theorem el_mapT {K : PySem.W.Frag} {σ : L2.St} {H : Hp} {tl te : TE} {j : Nat} {vs : List Nat} {a : Addr} {xs ys : List V} (h : Ev tl σ H (.ref a)) (hx : SqT K H a xs) (hz : xs.length ≤ 40000) (hw : ∀ x, wipe ((wipe σ vs).set j (some x)) vs = wipe σ vs) (hl : ys.length = xs.length)
    (he : ∀ (i : Nat) (x y : V), xs[i]? = some x → ys[i]? = some y → ∀ H1, Ex H H1 → Ev te ((wipe σ vs).set j (some x)) H1 y) : EvL (tLc (iTup K tl) (gName j) tYes te vs) σ H ys := by
  intro H0 e Q q
  refine h H0 e _ fun H1 e1 => ⟨a, rfl, ⟨xs, ex_t (e.trans e1) hx⟩, fun Dl hD => ?_⟩
  refine lc_tup (xs := xs) (fun i H' => H1 Dl = none ∧ Ex H1 H' ∧ H' Dl = some (.lst (ys.take i))) ⟨hD, Ex.new hD, upd_same⟩ (fun i H' _ p => ex_t ((e.trans e1).trans p.2.1) hx) (fun i x H' hi p => ⟨hw x, ?_⟩) (fun H' p => ?_)
  · obtain ⟨p1, p2, p3⟩ := p
    have hi2 : i < ys.length := by
      have := (List.getElem?_eq_some_iff.mp hi).1
      omega
    have hy : ys[i]? = some ys[i] := List.getElem?_eq_getElem hi2
    show te ((wipe σ vs).set j (some x)) H' _
    refine he i x ys[i] hi hy H1 (e.trans e1) H' p2 _ fun H4 e4 => ⟨ys.take i, e4 Dl _ p3, sz_lt (by rw [List.length_take]; omega), p1, (p2.trans e4).mut p1, ?_⟩
    rw [upd_same, List.take_add_one, hy] <;> rfl
  · obtain ⟨p1, p2, p3⟩ := p
    rw [← hl, List.take_length] at p3
    exact q Dl H' (fresh_back e1 p1) (e1.trans p2) p3
/-- [f(x) for x in a list] -/
theorem el_mapL {K : PySem.W.Frag} {σ : L2.St} {H : Hp} {tl te : TE} {j : Nat} {vs : List Nat} {a : Addr} {xs ys : List V} (h : Ev tl σ H (.ref a)) (hx : SqL K H a xs) (hz : xs.length ≤ 40000) (hw : ∀ x, wipe ((wipe σ vs).set j (some x)) vs = wipe σ vs) (hl : ys.length = xs.length)
    (he : ∀ (i : Nat) (x y : V), xs[i]? = some x → ys[i]? = some y → ∀ H1, Ex H H1 → Ev te ((wipe σ vs).set j (some x)) H1 y) : EvL (tLc (iList K tl) (gName j) tYes te vs) σ H ys := by
  intro H0 e Q q
  refine h H0 e _ fun H1 e1 => ⟨a, rfl, ⟨xs, ex_l (e.trans e1) hx⟩, fun Dl hD => ?_⟩
  refine lc_list (xs := xs) (fun i H' => H1 Dl = none ∧ Ex H1 H' ∧ H' Dl = some (.lst (ys.take i))) ⟨hD, Ex.new hD, upd_same⟩ (fun i H' _ p => ex_l ((e.trans e1).trans p.2.1) hx) (fun i x H' hi p => ⟨hw x, ?_⟩) (fun H' p => ?_)
  · obtain ⟨p1, p2, p3⟩ := p
    have hi2 : i < ys.length := by
      have := (List.getElem?_eq_some_iff.mp hi).1
      omega
    have hy : ys[i]? = some ys[i] := List.getElem?_eq_getElem hi2
    show te ((wipe σ vs).set j (some x)) H' _
    refine he i x ys[i] hi hy H1 (e.trans e1) H' p2 _ fun H4 e4 => ⟨ys.take i, e4 Dl _ p3, sz_lt (by rw [List.length_take]; omega), p1, (p2.trans e4).mut p1, ?_⟩
    rw [upd_same, List.take_add_one, hy] <;> rfl
  · obtain ⟨p1, p2, p3⟩ := p
    rw [← hl, List.take_length] at p3
    exact q Dl H' (fresh_back e1 p1) (e1.trans p2) p3
/-- [f(k) for k in range(n)] -/
theorem el_mapR {σ : L2.St} {H : Hp} {ta : TA} {te : TE} {j : Nat} {vs : List Nat} {n : Nat} {ys : List V} (h : EvA ta σ H [.int (n : Int)]) (hz : n ≤ 40000) (hw : ∀ x, wipe ((wipe σ vs).set j (some x)) vs = wipe σ vs) (hl : ys.length = n)
    (he : ∀ (i : Nat) (y : V), i < n → ys[i]? = some y → ∀ H1, Ex H H1 → Ev te ((wipe σ vs).set j (some (.int (i : Int)))) H1 y) : EvL (tLc (iRng1 ta) (gName j) tYes te vs) σ H ys := by
  have g : given (n : Int).toNat (fun _ => true) (fun i => ys.getD i .non) = ys := given_all (by omega) fun i hi => by
    have hi2 : i < ys.length := by omega
    rw [List.getElem?_eq_getElem hi2, List.getD_eq_getElem?_getD, List.getElem?_eq_getElem hi2] <;> rfl
  rw [← g]
  refine el_lcR1 (fun _ => true) (fun i => ys.getD i .non) h (by omega) hw (fun i H1 e1 hi => ?_) (fun i H1 e1 hi _ => ?_)
  · exact fun H2 e2 Q q => q H2 (Ex.refl H2)
  · have hi2 : i < ys.length := by omega
    have hy : ys[i]? = some (ys.getD i .non) := by rw [List.getElem?_eq_getElem hi2, List.getD_eq_getElem?_getD, List.getElem?_eq_getElem hi2] <;> rfl
    exact he i _ (by omega) hy H1 e1
/-- for c in a text -/
theorem s_forS {σ : L2.St} {H : Hp} {te : TE} {tu : TS} {D : Ends} {j : Nat} {z : Str} (h : Ev te σ H (.str z)) (Pv : Nat → L2.St → Hp → Prop) (h0 : ∀ H1, Ex H H1 → Pv 0 σ H1)
    (hs : ∀ i c σ' H', z.cps.toList[i]? = some c → Pv i σ' H' → tu { D with nx := Pv (i + 1), ct := Pv (i + 1), bk := D.nx } (σ'.set j (some (.str ⟨#[c]⟩))) H') (hd : ∀ σ' H', Pv z.cps.toList.length σ' H' → D.nx σ' H') : tFor (iStr te) (gName j) tu D σ H := by
  refine h H (Ex.refl H) _ fun H1 e => ⟨z, rfl, fun i m σ' H' => m = z.cps.toList.length - i ∧ i ≤ z.cps.toList.length ∧ Pv i σ' H', ⟨_, rfl, Nat.zero_le _, h0 H1 e⟩, ?_⟩
  rintro i m σ' H' ⟨rfl, hi, p⟩
  by_cases hlt : i < z.cps.toList.length
  · refine .inr ⟨(by show i < z.cps.size; simpa using hlt), Pv (i + 1), fun σ2 H2 p2 => ⟨_, by omega, rfl, hlt, p2⟩, fun x H2 y => ?_⟩
    obtain ⟨rfl, c, hc, rfl⟩ := y
    exact hs i c σ' H2 (by simpa using hc) p
  · have ei : i = z.cps.toList.length := by omega
    subst ei
    exact .inl ⟨(by show z.cps.size ≤ z.cps.toList.length; simp), hd σ' H' p⟩
theorem q_forS {σ : L2.St} {H : Hp} {te : TE} {tu tz : TS} {D : Ends} {j : Nat} {z : Str} (h : Ev te σ H (.str z)) (Pv : Nat → L2.St → Hp → Prop) (h0 : ∀ H1, Ex H H1 → Pv 0 σ H1)
    (hs : ∀ i c σ' H', z.cps.toList[i]? = some c → Pv i σ' H' → tu { D with nx := Pv (i + 1), ct := Pv (i + 1), bk := tz D } (σ'.set j (some (.str ⟨#[c]⟩))) H') (hd : ∀ σ' H', Pv z.cps.toList.length σ' H' → tz D σ' H') : tSeq (tFor (iStr te) (gName j) tu) tz D σ H :=
  s_forS (D := { D with nx := tz D }) h Pv h0 hs hd
/-! ### isinstance against a built-in type; f-strings -/
theorem tyx_tup {K : PySem.W.Frag} {H : Hp} {a : Addr} {xs : List V} (h : SqT K H a xs) : TyX K H (.ref a) (.type "tuple") := by
  rcases h with (h | ⟨o, h⟩) | ⟨o, its, n, h, hc, _⟩
  · exact .base (.tup h)
  · exact .fTuple h
  · exact .kTuple h hc
theorem ev_isi {K : PySem.W.Frag} {σ : L2.St} {H : Hp} {te : TE} {x : V} {a b : String} {r : Bool} (h : Ev te σ H x) (ht : ∀ H1, Ex H H1 → TyX K H1 x (.type a)) (hk : kitB a b = some r) : Ev (tCB (rIsi K) (tCons te (tCons (tC (.ty b)) tNil))) σ H (.bl r) := fun H1 e Q q =>
  h H1 e _ fun H2 e2 => ⟨x, .ty b, .type a, .type b, r, rfl, .ty b, ht H2 (e.trans e2), kit_ty hk, q H2 e2⟩
/-- parts that evaluate to texts -/
inductive EvJ (σ : L2.St) (H : Hp) : List TE → List Str → Prop where
  | nil : EvJ σ H [] []
  | cons {t : TE} {ts : List TE} {y : Str} {ys : List Str} (h : Ev t σ H (.str y)) (r : EvJ σ H ts ys) : EvJ σ H (t :: ts) (y :: ys)
theorem evj_run {σ : L2.St} {H : Hp} {ts : List TE} {ys : List Str} (h : EvJ σ H ts ys) : ∀ (acc : Str) (H1 : Hp) (Q : Str → Hp → Prop), Ex H H1 → acc.length + (ys.map (·.length)).sum ≤ 16777216 → (∀ H2, Ex H1 H2 → Q (ys.foldl (· ++ ·) acc) H2) → tJs ts acc σ H1 Q := by
  induction h with
  | nil => exact fun acc H1 Q _ _ q => q H1 (Ex.refl H1)
  | @cons t ts y ys h r ih =>
    intro acc H1 Q e hz q
    rw [List.map_cons, List.sum_cons] at hz
    have el : (acc ++ y).length = acc.length + y.length := by
      show (acc.cps ++ y.cps).size = acc.cps.size + y.cps.size
      exact Array.size_append
    refine h H1 e _ fun H2 e2 => ⟨y, rfl, sizeOk (by rw [el]; omega), ih (acc ++ y) H2 Q (e.trans e2) (by rw [el]; omega) fun H3 e3 => q H3 (e2.trans e3)⟩
theorem ev_joined {σ : L2.St} {H : Hp} {ts : List TE} {ys : List Str} (h : EvJ σ H ts ys) (hz : (ys.map (·.length)).sum ≤ 16777216) : Ev (fun σ H Q => tJs ts Str.empty σ H fun out H1 => Q (.str out) H1) σ H (.str (ys.foldl (· ++ ·) Str.empty)) := fun H1 e Q q =>
  evj_run h Str.empty H1 _ e (by show 0 + _ ≤ _; omega) fun H2 e2 => q H2 e2
theorem ev_fmtS {σ : L2.St} {H : Hp} {te : TE} {y : Str} (h : Ev te σ H (.str y)) (hz : y.length ≤ 16777216) : Ev (tFmt te) σ H (.str y) := fun H1 e Q q => h H1 e _ fun H2 e2 => .inl ⟨y, rfl, sizeOk hz, q H2 e2⟩
theorem ev_fmtI {σ : L2.St} {H : Hp} {te : TE} {i : Int} (h : Ev te σ H (.int i)) (hz : i.natAbs.log2 < 1920) : Ev (tFmt te) σ H (.str (toString i)) := fun H1 e Q q => h H1 e _ fun H2 e2 => .inr ⟨i, rfl, hz, q H2 e2⟩
theorem ev_strI {σ : L2.St} {H : Hp} {te : TE} {i : Int} (h : Ev te σ H (.int i)) (hz : i.natAbs.log2 < 1920) : Ev (tCB (fun xs H Q => ∃ i : Int, xs = [V.int i] ∧ i.natAbs.log2 < 1920 ∧ Q (.str (toString i)) H) (tCons te tNil)) σ H (.str (toString i)) := fun H1 e Q q => h H1 e _ fun H2 e2 => ⟨i, rfl, hz, q H2 e2⟩
theorem ev_ordS {σ : L2.St} {H : Hp} {te : TE} {c : Nat} (h : Ev te σ H (.str ⟨#[c]⟩)) : Ev (tCB (fun xs H Q => ∃ x : Str, xs = [V.str x] ∧ x.length = 1 ∧ Q (.int (x.cps.getD 0 0 : Nat)) H) (tCons te tNil)) σ H (.int (c : Int)) := fun H1 e Q q => h H1 e _ fun H2 e2 => ⟨_, rfl, rfl, q H2 e2⟩
theorem ev_ends {σ : L2.St} {H : Hp} {to te : TE} {a b : Str} (h0 : Ev to σ H (.str a)) (h : Ev te σ H (.str b)) : Ev (tM1 (fun x xs H Q => ∃ a b, x = V.str a ∧ xs = [V.str b] ∧ Q (.bl (Txt.endswith a b)) H) to te) σ H (.bl (Txt.endswith a b)) := fun H1 e Q q =>
  h0 H1 e _ fun H2 e2 => ⟨⟨a, rfl⟩, h H2 (e.trans e2) _ fun H3 e3 => ⟨a, b, rfl, rfl, q H3 (e2.trans e3)⟩⟩
theorem ev_slS {σ : L2.St} {H : Hp} {te : TE} {tl th : TO} {z : Str} {lo hi : Option Int} (h : Ev te σ H (.str z)) (h1 : EvO tl σ H lo) (h2 : EvO th σ H hi) (hz : z.length ≤ 100000) : Ev (tSl rSlS te tl th) σ H (.str (cutS z lo hi)) := fun H1 e Q q =>
  h H1 e _ fun H2 e2 => h1 H2 (e.trans e2) _ fun H3 e3 => h2 H3 ((e.trans e2).trans e3) _ fun H4 e4 => ⟨z, rfl, sz_of hz, q H4 ((e2.trans e3).trans e4)⟩
/-- tuple(a new list) -/
theorem eu_ofN {K : PySem.W.Frag} {σ : L2.St} {H : Hp} {te : TE} {xs : List V} (h : EvL te σ H xs) : EvU (tCB (fun xs H Q => ∃ p ys, xs = [V.ref p] ∧ ((SqL K H p ys ∧ ∀ l, H l = none → Q (.ref l) (upd H l (.tup ys))) ∨ (SqT K H p ys ∧ Q (.ref p) H))) (tCons te tNil)) σ H xs := fun H1 e Q q =>
  h H1 e _ fun p H2 _ e2 hp => ⟨p, xs, rfl, .inl ⟨sq_of hp, fun l hl => q l _ (fresh_back e2 hl) (e2.trans (Ex.new hl)) upd_same⟩⟩
theorem eu_ofL {K : PySem.W.Frag} {σ : L2.St} {H : Hp} {te : TE} {p : Addr} {xs : List V} (h : Ev te σ H (.ref p)) (hx : SqL K H p xs) : EvU (tCB (fun xs H Q => ∃ p ys, xs = [V.ref p] ∧ ((SqL K H p ys ∧ ∀ l, H l = none → Q (.ref l) (upd H l (.tup ys))) ∨ (SqT K H p ys ∧ Q (.ref p) H))) (tCons te tNil)) σ H xs := fun H1 e Q q =>
  h H1 e _ fun H2 e2 => ⟨p, xs, rfl, .inl ⟨ex_l (e.trans e2) hx, fun l hl => q l _ (fresh_back e2 hl) (e2.trans (Ex.new hl)) upd_same⟩⟩
/-- a def that hands back a new tuple -/
def SpU (sp : Sp) (vs : List V) (H : Hp) (xs : List V) : Prop := ∀ H1, Ex H H1 → ∀ Q : VK, (∀ p H2, Ex H1 H2 → H2 p = some (.tup xs) → Q (.ref p) H2) → ∀ E : XK, sp vs H1 Q E
theorem q_callU {sp : Sp} {dvs vs xs : List V} {E : XK} {ta : TA} {σ : L2.St} {H : Hp} {tz : TS} {D : Ends} {i : Nat} (h : EvA ta σ H vs) (hs : SpU sp (vs ++ dvs) H xs) (k : ∀ p H1, Ex H H1 → H1 p = some (.tup xs) → tz D (σ.set i (some (.ref p))) H1) : tSeq (tAsg (tCall sp dvs E ta) (gName i)) tz D σ H :=
  h H (Ex.refl H) _ fun H2 e2 => hs H2 e2 _ (fun p H3 e3 hp => k p H3 (e2.trans e3) hp) E
theorem s_callU {sp : Sp} {dvs vs xs : List V} {E : XK} {ta : TA} {σ : L2.St} {H : Hp} {D : Ends} {i : Nat} (h : EvA ta σ H vs) (hs : SpU sp (vs ++ dvs) H xs) (k : ∀ p H1, Ex H H1 → H1 p = some (.tup xs) → D.nx (σ.set i (some (.ref p))) H1) : tAsg (tCall sp dvs E ta) (gName i) D σ H :=
  h H (Ex.refl H) _ fun H2 e2 => hs H2 e2 _ (fun p H3 e3 hp => k p H3 (e2.trans e3) hp) E
/-- a call whose one argument is a new tuple -/
theorem ev_callU {sp : Sp} {dvs xs : List V} {z : V} {E : XK} {te : TE} {σ : L2.St} {H : Hp} (h : EvU te σ H xs) (hs : ∀ p H1, H1 p = some (.tup xs) → Ex H H1 → SpV sp ([.ref p] ++ dvs) H1 z) : Ev (tCall sp dvs E (tCons te tNil)) σ H z := fun H1 e Q q =>
  h H1 e _ fun p H2 _ e2 hp => hs p H2 hp (e.trans e2) H2 (Ex.refl H2) Q (fun H3 e3 => q H3 (e2.trans e3)) E
/-- written tuples, one behind the other -/
def EvP (ta : TA) (σ : L2.St) (H : Hp) (xss : List (List V)) : Prop := ∀ H1, Ex H H1 → ∀ Q : List V → Hp → Prop, (∀ (ps : List Addr) H2, Ex H1 H2 → Paired (fun p xs => H2 p = some (.tup xs)) ps xss → Q (ps.map V.ref) H2) → ta σ H1 Q
theorem paired_mono {H H' : Hp} (e : Ex H H') : ∀ {ps : List Addr} {xss : List (List V)}, Paired (fun p xs => H p = some (.tup xs)) ps xss → Paired (fun p xs => H' p = some (.tup xs)) ps xss
  | _, _, .nil => .nil
  | _, _, .cons h r => .cons (e _ _ h) (paired_mono e r)
theorem ep_nil {σ : L2.St} {H : Hp} : EvP tNil σ H [] := fun H1 e Q q => q [] H1 (Ex.refl H1) .nil
theorem ep_cons {σ : L2.St} {H : Hp} {te : TE} {tr : TA} {xs : List V} {xss : List (List V)} (h : EvU te σ H xs) (r : EvP tr σ H xss) : EvP (tCons te tr) σ H (xs :: xss) := fun H1 e Q q =>
  h H1 e _ fun p H2 _ e2 hp => r H2 (e.trans e2) _ fun ps H3 e3 hr => q (p :: ps) H3 (e2.trans e3) (.cons (e3 p _ hp) hr)
theorem q_asgLP {ta : TA} {xss : List (List V)} {σ : L2.St} {H : Hp} {tz : TS} {D : Ends} {i : Nat} (h : EvP ta σ H xss) (hz : xss.length ≤ 100000) (k : ∀ p ps H1, Ex H H1 → H1 p = some (.lst (ps.map V.ref)) → Paired (fun p xs => H1 p = some (.tup xs)) ps xss → tz D (σ.set i (some (.ref p))) H1) :
    tSeq (tAsg (tLst ta) (gName i)) tz D σ H := h H (Ex.refl H) _ fun ps H1 e1 hps => by
  have el : ∀ {as : List Addr} {bs : List (List V)}, Paired (fun p xs => H1 p = some (.tup xs)) as bs → as.length = bs.length := fun h => by
    induction h with
    | nil => rfl
    | cons _ _ ih => exact congrArg (· + 1) ih
  exact ⟨sz_of (by rw [List.length_map, el hps]; exact hz), fun p hp => k p ps _ (e1.trans (Ex.new hp)) upd_same (paired_mono (Ex.new hp) hps)⟩
theorem paired_at {H : Hp} : ∀ {ps : List Addr} {xss : List (List V)}, Paired (fun p xs => H p = some (.tup xs)) ps xss → ∀ {i : Nat} {xs : List V}, xss[i]? = some xs → ∃ p, ps[i]? = some p ∧ H p = some (.tup xs)
  | _, _, .cons h _, 0, xs, e => by
    have e := Option.some.inj e
    subst e
    exact ⟨_, rfl, h⟩
  | _, _, .cons _ r, i + 1, xs, e => by
    obtain ⟨p, h1, h2⟩ := paired_at r (i := i) (by simpa using e)
    exact ⟨p, by simpa using h1, h2⟩
theorem paired_len {α β : Type} {R : α → β → Prop} : ∀ {as : List α} {bs : List β}, Paired R as bs → as.length = bs.length
  | _, _, .nil => rfl
  | _, _, .cons _ r => congrArg (· + 1) (paired_len r)
/-- a list that is tracked, and a new one behind it -/
theorem el_catV {K : PySem.W.Frag} {σ : L2.St} {H : Hp} {ta tb : TE} {p : Addr} {xs ys : List V} (ha : Ev ta σ H (.ref p)) (hp : H p = some (.lst xs)) (hb : EvL tb σ H ys) (hz : xs.length + ys.length ≤ 100000) : EvL (tOp rCat ta tb) σ H (xs ++ ys) := fun H1 e Q q =>
  ha H1 e _ fun H2 e2 => hb H2 (e.trans e2) _ fun r H3 hr e3 h3 => ⟨p, r, xs, ys, rfl, rfl, ((e.trans e2).trans e3) p _ hp, h3, sz_of hz, fun l hl => q l _ (fresh_back (e2.trans e3) hl) ((e2.trans e3).trans (Ex.new hl)) upd_same⟩
theorem codes_app {a b : Str} {x y : List Nat} (ha : a.cps.toList = x) (hb : b.cps.toList = y) : (a ++ b).cps.toList = x ++ y := by
  show (a.cps ++ b.cps).toList = x ++ y
  rw [Array.toList_append, ha, hb]
theorem str_len (z : Str) : z.length = z.cps.toList.length := by simp [Str.length]
theorem mk_of {z : Str} {l : List Nat} (h : z.cps.toList = l) : z = ⟨l.toArray⟩ := str_ext h
/-- long texts -/
theorem ev_lenB {σ : L2.St} {H : Hp} {te : TE} {z : Str} (h : Ev te σ H (.str z)) (hz : z.length ≤ 16777216) : Ev (tCB (fun xs H Q => ∃ z, xs = [V.str z] ∧ z.length ≤ sizeLine ∧ Q (.int z.length) H) (tCons te tNil)) σ H (.int (z.length : Int)) := fun H1 e Q q =>
  h H1 e _ fun H2 e2 => ⟨z, rfl, sizeOk hz, q H2 e2⟩
theorem ev_ixB {σ : L2.St} {H : Hp} {ta tb : TE} {z : Str} {i : Int} {c : Nat} (ha : Ev ta σ H (.str z)) (hb : Ev tb σ H (.int i)) (hz : z.length ≤ 16777216) (hi : atI z.cps.toList i = some c) : Ev (tOp rIxS ta tb) σ H (.str ⟨#[c]⟩) :=
  ev_op ha hb fun H1 _ _ q => ⟨z, i, c, rfl, rfl, sizeOk hz, hi, q H1 (Ex.refl H1)⟩
theorem ev_slB {σ : L2.St} {H : Hp} {te : TE} {tl th : TO} {z : Str} {lo hi : Option Int} (h : Ev te σ H (.str z)) (h1 : EvO tl σ H lo) (h2 : EvO th σ H hi) (hz : z.length ≤ 16777216) : Ev (tSl rSlS te tl th) σ H (.str (cutS z lo hi)) := fun H1 e Q q =>
  h H1 e _ fun H2 e2 => h1 H2 (e.trans e2) _ fun H3 e3 => h2 H3 ((e.trans e2).trans e3) _ fun H4 e4 => ⟨z, rfl, sizeOk hz, q H4 ((e2.trans e3).trans e4)⟩
theorem at_natS {l : List Nat} {j c : Nat} (h : l[j]? = some c) : atI l (j : Int) = some c := by
  have hj := (List.getElem?_eq_some_iff.mp h).1
  unfold atI
  rw [ixN_nat hj]
  exact h
theorem q_asgAug {σ : L2.St} {H : Hp} {te : TE} {tz : TS} {D : Ends} {i : Nat} {a b : Int} (hx : σ[i]? = some (some (.int a))) (h : Ev te σ H (.int b)) (k : ∀ H1, Ex H H1 → tz D (σ.set i (some (.int (a + b)))) H1) : tSeq (tAug i te (ipI fun i j => i + j)) tz D σ H := q_aug hx h k
theorem q_callV {sp : Sp} {dvs vs : List V} {E : XK} {ta : TA} {σ : L2.St} {H : Hp} {tz : TS} {D : Ends} {i : Nat} (h : EvA ta σ H vs) (k : ∀ H1, Ex H H1 → sp (vs ++ dvs) H1 (fun v H2 => tz D (σ.set i (some v)) H2) E) : tSeq (tAsg (tCall sp dvs E ta) (gName i)) tz D σ H := h H (Ex.refl H) _ fun H1 e1 => k H1 e1
/-! ### a small tactic: what an expression evaluates to -/
local macro_rules | `(tactic| walk_at "side") => `(tactic| first | assumption | decide | (show (0 : Int) < _; omega) | omega | (show CDivW _ _; exact ⟨by first | decide | omega, by decide⟩) | (show CPow _ _; exact ⟨by decide, by decide, by decide⟩) | (show CMulX _ _; (refine Wd.mul ?_ ?_ <;> walk_at "wd")))
local macro_rules | `(tactic| walk_at "wd") => `(tactic| first | assumption | exact Wd.lit (by decide) | exact Wd.small (by omega) (by omega) | (refine Wd.div ?_; walk_at "wd") | (refine Wd.mod ?_ ?_; (first | decide | omega); (walk_at "wd")) | (refine Wd.neg ?_; walk_at "wd"))
local macro_rules | `(tactic| walk_at "call") => `(tactic| fail "no call")
local macro_rules | `(tactic| walk_at "seq") => `(tactic| first | assumption | (refine ex_l ?_ ?_ <;> assumption) | exact sq_of (by assumption))
local macro_rules | `(tactic| walk_at "ev") => `(tactic| first
  | with_reducible exact ev_c
  | exact ev_var rfl
  | (refine ev_intI ?_; walk_at "ev")
  | (refine ev_bin0 ?_ ?_; (walk_at "ev"); (walk_at "ev"))
  | (refine ev_bin ?_ ?_ ?_; (walk_at "ev"); (walk_at "ev"); (walk_at "side"))
  | (refine ev_eqI ?_ ?_; (walk_at "ev"); (walk_at "ev"))
  | (refine ev_neI ?_ ?_; (walk_at "ev"); (walk_at "ev"))
  | (refine ev_eqS ?_ ?_; (walk_at "ev"); (walk_at "ev"))
  | (refine ev_neS ?_ ?_; (walk_at "ev"); (walk_at "ev"))
  | (refine ev_neg ?_; walk_at "ev")
  | walk_at "call")
local macro_rules | `(tactic| walk_at "et") => `(tactic| first
  | (refine et_test ?_; walk_at "ev")
  | (refine et_B ?_; walk_at "ev")
  | (refine et_not ?_; walk_at "et"))
local macro_rules | `(tactic| walk_at "ea") => `(tactic| first | exact ea_nil | (refine ea_cons ?_ ?_; (walk_at "ev"); (walk_at "ea")))


/-! ### a text times a number -/
theorem foldl_reps (a : Array Nat) : ∀ (m : Nat) (acc : Array Nat), ((List.replicate m a).foldl (· ++ ·) acc).toList = acc.toList ++ (List.replicate m a.toList).flatten
  | 0, acc => by simp
  | m + 1, acc => by
    rw [List.replicate_succ, List.replicate_succ, List.foldl_cons, foldl_reps a m (acc ++ a), Array.toList_append, List.flatten_cons, List.append_assoc]
def repC (z : Str) (n : Nat) : List Nat := (List.replicate n z.cps.toList).flatten
theorem op_repS {X : Cx} : OpR X (binaryOp .Mult) (fun x y H Q => ∃ (z : Str) (k : Int), x = V.str z ∧ y = V.int k ∧ 0 ≤ k ∧ z.length * k.toNat ≤ 16777216 ∧ k < 2 ^ 60 ∧ Q (.str ⟨(repC z k.toNat).toArray⟩) H) := by
  intro pins s σ H x y v u Q I rx ry h
  obtain ⟨z, k, rfl, rfl, h0, hz, hk, q⟩ := h
  obtain ⟨t, rfl⟩ := rx
  obtain ⟨t', rfl⟩ := ry
  have ez : z.length = z.cps.toList.length := by simp [Str.length]
  have hzi : (z.length : Int) * k ≤ 16777216 := by
    have e : ((z.length * k.toNat : Nat) : Int) = (z.length : Int) * k := by
      rw [Int.natCast_mul, Int.toNat_of_nonneg h0]
    omega
  refine PySem.P.mul_str ?_ (fun h1 _ z2 => ?_) (fun h1 _ => ?_) ?_
  · rw [decide_eq_false (by omega), decide_eq_false (by omega)] <;> rfl
  · have h3 : (z.length : Int) ≤ (2 ^ 63 - 1) / k := Int.le_ediv_of_mul_le (by omega) (by omega)
    omega
  · have : ¬ z.length * k.toNat > sizeLine := by
      rw [sizeLine_eq]
      omega
    unfold Builtin.Str.tooLong
    exact decide_eq_false this
  · have e1 : ∀ y : Str, y.cps.toList = repC z k.toNat → y = ⟨(repC z k.toNat).toArray⟩ := fun y hy => by
      obtain ⟨y⟩ := y
      exact congrArg Str.mk (Array.toList_inj.mp (hy.trans rfl))
    have er : (repC z k.toNat).length = k.toNat * z.length := by
      unfold repC
      rw [List.length_flatten, List.map_replicate, List.sum_replicate_nat, ez]
    split
    · have e2 : Str.empty = (⟨(repC z k.toNat).toArray⟩ : Str) := e1 _ (by
        have : k.toNat = 0 := by omega
        unfold repC
        rw [this] <;> rfl)
      refine ⟨by decide, ?_⟩
      rw [e2]
      exact ⟨.str ⟨(repC z k.toNat).toArray⟩, H, I.tok _, ⟨_, rfl⟩, q⟩
    · split
      · rename_i h1 h2
        have e2 : z = (⟨(repC z k.toNat).toArray⟩ : Str) := e1 _ (by
          unfold repC
          rw [Bool.or_eq_true, beq_iff_eq, beq_iff_eq] at h2
          rcases h2 with h2 | h2
          · rw [h2]
            show _ = (List.replicate 1 _).flatten
            simp
          · have : z.cps.toList = [] := List.length_eq_zero_iff.mp (by omega)
            rw [this]
            simp)
        show EP X pins σ Q _ _
        rw [← e2] at q
        exact ⟨.str z, H, I, ⟨t, rfl⟩, q⟩
      · have e2 : (⟨(List.replicate k.toNat z.cps).foldl (· ++ ·) #[]⟩ : Str) = ⟨(repC z k.toNat).toArray⟩ := e1 _ (by
          show ((List.replicate k.toNat z.cps).foldl (· ++ ·) #[]).toList = _
          rw [foldl_reps] <;> rfl)
        rw [e2]
        refine ⟨?_, ⟨.str ⟨(repC z k.toNat).toArray⟩, H, I.tok _, ⟨_, rfl⟩, q⟩⟩
        show (repC z k.toNat).toArray.size ≤ sizeLine
        rw [List.size_toArray, er, sizeLine_eq, Nat.mul_comm]
        exact hz
theorem ev_repS {σ : L2.St} {H : Hp} {ta tb : TE} {z : Str} {n : Nat} (ha : Ev ta σ H (.str z)) (hb : Ev tb σ H (.int (n : Int))) (hz : z.length * n ≤ 16777216) (hn : n ≤ 16777216) : Ev (tOp (fun x y H Q => ∃ (z : Str) (k : Int), x = V.str z ∧ y = V.int k ∧ 0 ≤ k ∧ z.length * k.toNat ≤ 16777216 ∧ k < 2 ^ 60 ∧ Q (.str ⟨(repC z k.toNat).toArray⟩) H) ta tb) σ H (.str ⟨(repC z n).toArray⟩) :=
  ev_op ha hb fun H1 _ Q q => ⟨z, n, rfl, rfl, by omega, hz, by omega, q H1 (Ex.refl H1)⟩


/-! ### items and their written form -/
inductive It where
  | non
  | int (i : Int)
  | str (z : Str)
  | tup (xs : List It)
def numC (i : Int) : List Nat := (toString i : Str).cps.toList
mutual
/-- the codes of the written item -/
def encC : It → List Nat
  | .non => [110]
  | .int i => 105 :: (numC i ++ [59])
  | .str z => 116 :: (numC (z.length : Int) ++ (58 :: z.cps.toList))
  | .tup xs => 40 :: (encL xs ++ [41])
def encL : List It → List Nat
  | [] => []
  | d :: ds => encC d ++ encL ds
end
theorem encL_flat : ∀ ds : List It, encL ds = (ds.map encC).flatten
  | [] => rfl
  | d :: ds => by
    show encC d ++ encL ds = _
    rw [encL_flat ds, List.map_cons, List.flatten_cons]
theorem encL_app : ∀ a b : List It, encL (a ++ b) = encL a ++ encL b
  | [], b => rfl
  | x :: a, b => by
    show encC x ++ encL (a ++ b) = encC x ++ encL a ++ encL b
    rw [encL_app a b, List.append_assoc]
theorem encC_pos (d : It) : 1 ≤ (encC d).length := by
  cases d with
  | non => exact Nat.le_refl 1
  | int i => show 1 ≤ (105 :: _).length; simp
  | str z => show 1 ≤ (116 :: _).length; simp
  | tup xs => show 1 ≤ (40 :: _).length; simp
theorem encL_mem : ∀ {ds : List It} {d : It}, d ∈ ds → (encC d).length ≤ (encL ds).length
  | d' :: ds, d, h => by
    show _ ≤ (encC d' ++ encL ds).length
    rw [List.length_append]
    rcases List.mem_cons.mp h with e | e
    · rw [e]; omega
    · have := encL_mem e; omega
mutual
/-- the value v of the heap is the item -/
inductive Dv (K : PySem.W.Frag) (H : Hp) : V → It → Prop
  | non : Dv K H .non .non
  | int (i : Int) : Dv K H (.int i) (.int i)
  | str (z : Str) : Dv K H (.str z) (.str z)
  | tup {a : Addr} {xs : List V} {ds : List It} (h : SqT K H a xs) (r : DvL K H xs ds) : Dv K H (.ref a) (.tup ds)
inductive DvL (K : PySem.W.Frag) (H : Hp) : List V → List It → Prop
  | nil : DvL K H [] []
  | cons {v : V} {vs : List V} {d : It} {ds : List It} (h : Dv K H v d) (r : DvL K H vs ds) : DvL K H (v :: vs) (d :: ds)
end
/-- all but lists stands as it stood -/
def ExN (H H' : Hp) : Prop := ∀ a o, H a = some o → (∀ xs, o ≠ .lst xs) → H' a = some o
theorem exN_t {K : PySem.W.Frag} {H H' : Hp} {a : Addr} {xs : List V} (e : ExN H H') (h : SqT K H a xs) : SqT K H' a xs := by
  rcases h with (h | ⟨o, h⟩) | h
  · exact .inl (.inl (e _ _ h fun _ z => nomatch z))
  · exact .inl (.inr ⟨o, e _ _ h fun _ z => nomatch z⟩)
  · exact .inr h
theorem Ex.n {H H' : Hp} (e : Ex H H') : ExN H H' := fun a o h _ => e a o h
theorem ExN.trans {H H1 H2 : Hp} (a : ExN H H1) (b : ExN H1 H2) : ExN H H2 := fun x o h n => b x o (a x o h n) n
theorem ExN.upd {H : Hp} {p : Addr} {xs : List V} {o : HO} (h : H p = some (.lst xs)) : ExN H (upd H p o) := fun a u e n => by
  rw [upd_ne (fun z => n xs (by rw [z, h] at e; exact (Option.some.inj e).symm))]
  exact e
mutual
theorem Dv.monoN {K : PySem.W.Frag} {H H' : Hp} (e : ExN H H') : ∀ {v : V} {d : It}, Dv K H v d → Dv K H' v d
  | _, _, .non => .non
  | _, _, .int i => .int i
  | _, _, .str z => .str z
  | _, _, .tup h r => .tup (exN_t e h) (DvL.monoN e r)
theorem DvL.monoN {K : PySem.W.Frag} {H H' : Hp} (e : ExN H H') : ∀ {vs : List V} {ds : List It}, DvL K H vs ds → DvL K H' vs ds
  | _, _, .nil => .nil
  | _, _, .cons h r => .cons (Dv.monoN e h) (DvL.monoN e r)
end
theorem Dv.mono {K : PySem.W.Frag} {H H' : Hp} (e : Ex H H') {v : V} {d : It} (h : Dv K H v d) : Dv K H' v d := h.monoN (Ex.n e)
theorem DvL.mono {K : PySem.W.Frag} {H H' : Hp} (e : Ex H H') {vs : List V} {ds : List It} (h : DvL K H vs ds) : DvL K H' vs ds := h.monoN (Ex.n e)
theorem DvL.app {K : PySem.W.Frag} {H : Hp} : ∀ {vs us : List V} {ds es : List It}, DvL K H vs ds → DvL K H us es → DvL K H (vs ++ us) (ds ++ es)
  | _, _, _, _, .nil, h => h
  | _, _, _, _, .cons a r, h => .cons a (r.app h)
theorem DvL.take {K : PySem.W.Frag} {H : Hp} : ∀ {vs : List V} {ds : List It} (n : Nat), DvL K H vs ds → DvL K H (vs.take n) (ds.take n)
  | _, _, 0, _ => .nil
  | _, _, _ + 1, .nil => .nil
  | _, _, n + 1, .cons a r => .cons a (r.take n)
theorem DvL.drop {K : PySem.W.Frag} {H : Hp} : ∀ {vs : List V} {ds : List It} (n : Nat), DvL K H vs ds → DvL K H (vs.drop n) (ds.drop n)
  | _, _, 0, h => h
  | _, _, _ + 1, .nil => .nil
  | _, _, n + 1, .cons _ r => r.drop n
theorem DvL.len {K : PySem.W.Frag} {H : Hp} : ∀ {vs : List V} {ds : List It}, DvL K H vs ds → vs.length = ds.length
  | _, _, .nil => rfl
  | _, _, .cons _ r => congrArg (· + 1) r.len
theorem DvL.at {K : PySem.W.Frag} {H : Hp} : ∀ {vs : List V} {ds : List It}, DvL K H vs ds → ∀ {i : Nat} {v : V} {d : It}, vs[i]? = some v → ds[i]? = some d → Dv K H v d
  | _, _, .cons h _, 0, v, d, e1, e2 => by
    have e1 := Option.some.inj e1
    have e2 := Option.some.inj e2
    subst e1 e2
    exact h
  | _, _, .cons _ r, i + 1, v, d, e1, e2 => r.at (i := i) (by simpa using e1) (by simpa using e2)
/-- depth, width and sizes -/
def It.fit : Nat → It → Prop
  | 0, x => match x with
    | .non => True
    | .int i => -(10 ^ 60) < i ∧ i < 10 ^ 60
    | .str z => z.length ≤ 999999
    | .tup _ => False
  | n + 1, x => match x with
    | .non => True
    | .int i => -(10 ^ 60) < i ∧ i < 10 ^ 60
    | .str z => z.length ≤ 999999
    | .tup xs => xs.length ≤ 1000 ∧ ∀ y ∈ xs, It.fit n y
theorem log60 {i : Int} (h : -(10 ^ 60) < i ∧ i < 10 ^ 60) : i.natAbs.log2 < 1920 := by
  have e60 : (10 : Int) ^ 60 = 1000000000000000000000000000000000000000000000000000000000000 := by decide
  rw [e60] at h
  exact Nat.lt_of_lt_of_le (PySem.Flt.log2_lt_of (k := 256) (by decide) (by omega)) (by decide)
theorem fit_int60 {n : Nat} {i : Int} (h : It.fit n (.int i)) : -(10 ^ 60) < i ∧ i < 10 ^ 60 := by cases n <;> exact h
theorem fit_int {n : Nat} {i : Int} (h : It.fit n (.int i)) : i.natAbs.log2 < 1920 := log60 (fit_int60 h)
theorem fit_str {n : Nat} {z : Str} (h : It.fit n (.str z)) : z.length ≤ 999999 := by cases n <;> exact h
theorem It.fit_mono : ∀ {n m : Nat} {d : It}, It.fit n d → n ≤ m → It.fit m d
  | n, m, .non, _, _ => by cases m <;> trivial
  | n, m, .int i, h, _ => by
    have := fit_int60 h
    cases m <;> exact this
  | n, m, .str z, h, _ => by
    have := fit_str h
    cases m <;> exact this
  | 0, m, .tup xs, h, _ => h.elim
  | n + 1, 0, .tup xs, h, e => by omega
  | n + 1, m + 1, .tup xs, h, e => ⟨h.1, fun y hy => It.fit_mono (h.2 y hy) (by omega)⟩
def spEnc (K : PySem.W.Frag) (n : Nat) : Sp := fun vs H Q _ => ∃ (v : V) (d : It), vs = [v] ∧ Dv K H v d ∧ d.fit n ∧ (encC d).length ≤ 16000000 ∧ ∀ H', Ex H H' → Q (.str ⟨(encC d).toArray⟩) H'
theorem cv_enc {K : PySem.W.Frag} {n : Nat} {v : V} {d : It} {H : Hp} (h : Dv K H v d) (hf : d.fit n) (hz : (encC d).length ≤ 16000000) : SpV (spEnc K n) [v] H (.str ⟨(encC d).toArray⟩) := fun H1 e Q q E => ⟨v, d, rfl, h.mono e, hf, hz, fun H2 e2 => q H2 e2⟩
/-- '(' + ''.join([f(part) for part in item]) + ')' -/
theorem ev_parts {K : PySem.W.Frag} {σ : L2.St} {H : Hp} {te tl : TE} {j : Nat} {vs : List Nat} {a : Addr} {xs : List V} {ds : List It} {n : Nat} (hl : Ev tl σ H (.ref a)) (h : SqT K H a xs) (r : DvL K H xs ds) (hf : It.fit (n + 1) (.tup ds)) (hz : (encC (.tup ds)).length ≤ 16000000)
    (hw : ∀ x, wipe ((wipe σ vs).set j (some x)) vs = wipe σ vs)
    (he : ∀ (x : V) (d : It) H1, Ex H H1 → Dv K H1 x d → d.fit n → (encC d).length ≤ 16000000 → Ev te ((wipe σ vs).set j (some x)) H1 (.str ⟨(encC d).toArray⟩)) :
    Ev (tOp (fun x y H Q => ∃ i j, x = V.str i ∧ y = V.str j ∧ i.length + j.length ≤ sizeLine ∧ Q (.str (i ++ j)) H) (tOp (fun x y H Q => ∃ i j, x = V.str i ∧ y = V.str j ∧ i.length + j.length ≤ sizeLine ∧ Q (.str (i ++ j)) H) (tC (.str (Str.ofString "(")))
      (tM1 (fun x xs H Q => ∃ a p, ∃ ys : List Str, x = .str a ∧ xs = [.ref p] ∧ (SqL K H p (ys.map V.str) ∨ SqT K H p (ys.map V.str)) ∧ (ys.map (·.length)).sum + ys.length * a.length ≤ 16777216 ∧ Q (.str (Txt.join a ys)) H) (tC (.str (Str.ofString ""))) (tLc (iTup K tl) (gName j) tYes te vs)))
      (tC (.str (Str.ofString ")")))) σ H (.str ⟨(encC (.tup ds)).toArray⟩) := by
  have ez : (encC (.tup ds)).length = (encL ds).length + 2 := by
    show (40 :: (encL ds ++ [41])).length = _
    rw [List.length_cons, List.length_append] <;> rfl
  have ef : (encL ds) = (ds.map encC).flatten := encL_flat ds
  have ej : Txt.join (Str.ofString "") ((ds.map encC).map fun c => (⟨c.toArray⟩ : Str)) = ⟨(encL ds).toArray⟩ := by rw [join_codes, ef]
  have e1 : (⟨(encC (.tup ds)).toArray⟩ : Str) = Str.ofString "(" ++ Txt.join (Str.ofString "") ((ds.map encC).map fun c => (⟨c.toArray⟩ : Str)) ++ Str.ofString ")" := by
    refine str_ext ?_
    rw [ej]
    have a1 : (Str.ofString "(").cps.toList = [40] := by decide +kernel
    have a2 : (Str.ofString ")").cps.toList = [41] := by decide +kernel
    rw [codes_app (codes_app a1 rfl) a2]
    show 40 :: (encL ds ++ [41]) = _
    simp
  rw [e1]
  have l1 : (Str.ofString "(").length = 1 := by decide +kernel
  have l2 : (Str.ofString ")").length = 1 := by decide +kernel
  have l3 : (Str.ofString "(" ++ Txt.join (Str.ofString "") ((ds.map encC).map fun c => (⟨c.toArray⟩ : Str))).length = 1 + (encL ds).length := by
    rw [ej, str_len, codes_app (x := [40]) (by decide +kernel) rfl, List.length_append]
    simp
  have l4 : (Txt.join (Str.ofString "") ((ds.map encC).map fun c => (⟨c.toArray⟩ : Str))).length = (encL ds).length := by
    rw [ej, str_len]
  refine ev_addS (ev_addS ev_c (ev_joinN (K := K) ev_c (el_mapT (K := K) hl h ?_ hw ?_ fun i x y hx hy H1 ex => ?_) ?_) ?_) ev_c ?_
  · have := hf.1
    rw [r.len]; omega
  · rw [List.length_map, List.length_map, List.length_map, r.len]
  · rw [List.getElem?_map, List.getElem?_map, List.getElem?_map] at hy
    cases e : ds[i]? with
    | none =>
      rw [e] at hy
      cases hy
    | some d =>
      rw [e] at hy
      have ey : y = .str ⟨(encC d).toArray⟩ := (Option.some.inj hy).symm
      have hm := List.mem_of_getElem? e
      rw [ey]
      have := encL_mem hm
      exact he x d H1 ex ((r.at hx e).mono ex) (hf.2 d hm) (by omega)
  · rw [sum_codes, ← ef]
    show _ + _ * 0 ≤ 16777216
    omega
  · rw [l1, l4]; omega
  · rw [l3, l2]; omega
/-- return f'i{item};' -/
theorem enc_int {n : Nat} {i : Int} {σ : L2.St} {H : Hp} {D : Ends} (hf : It.fit n (.int i)) (hz : (encC (.int i)).length ≤ 16000000) (q : ∀ H1, Ex H H1 → D.rt (.str ⟨(encC (.int i)).toArray⟩) H1) {te : TE} (he : Ev te σ H (.int i) := by exact ev_var rfl) :
    tRet (fun σ H Q => tJs [tC (.str (Str.ofString "i")), tFmt te, tC (.str (Str.ofString ";"))] Str.empty σ H fun out H1 => Q (.str out) H1) D σ H := by
  have a1 : (Str.ofString "i").cps.toList = [105] := by decide +kernel
  have a2 : (Str.ofString ";").cps.toList = [59] := by decide +kernel
  have a0 : (Str.empty).cps.toList = [] := by decide +kernel
  have ey : ([Str.ofString "i", (toString i : Str), Str.ofString ";"].foldl (· ++ ·) Str.empty : Str) = ⟨(encC (.int i)).toArray⟩ := mk_of (by
    show (((Str.empty ++ Str.ofString "i") ++ (toString i : Str)) ++ Str.ofString ";").cps.toList = _
    rw [codes_app (codes_app (codes_app a0 a1) rfl) a2]
    show _ = 105 :: (numC i ++ [59])
    simp [numC])
  refine s_ret (ev_is (ev_joined (.cons ev_c (.cons (ev_fmtI he (fit_int hf)) (.cons ev_c .nil))) ?_) (congrArg V.str ey)) q
  have e1 : (encC (.int i)).length = 2 + (numC i).length := by
    show (105 :: (numC i ++ [59])).length = _
    rw [List.length_cons, List.length_append, List.length_singleton]
    omega
  have e2 : ([Str.ofString "i", (toString i : Str), Str.ofString ";"].map (·.length)).sum = 1 + ((numC i).length + (1 + 0)) := by
    show (Str.ofString "i").length + ((toString i : Str).length + ((Str.ofString ";").length + 0)) = _
    rw [str_len, str_len, str_len, a1, a2] <;> rfl
  omega
/-- return f't{len(item)}:{item}' -/
theorem enc_str {n : Nat} {z : Str} {σ : L2.St} {H : Hp} {D : Ends} (hf : It.fit n (.str z)) (hz : (encC (.str z)).length ≤ 16000000) (q : ∀ H1, Ex H H1 → D.rt (.str ⟨(encC (.str z)).toArray⟩) H1) {te : TE} (he : Ev te σ H (.str z) := by exact ev_var rfl) :
    tRet (fun σ H Q => tJs [tC (.str (Str.ofString "t")), tFmt (tCB (fun xs H Q => ∃ z, xs = [V.str z] ∧ z.length ≤ sizeLine ∧ Q (.int z.length) H) (tCons te tNil)), tC (.str (Str.ofString ":")), tFmt te] Str.empty σ H fun out H1 => Q (.str out) H1) D σ H := by
  have a1 : (Str.ofString "t").cps.toList = [116] := by decide +kernel
  have a2 : (Str.ofString ":").cps.toList = [58] := by decide +kernel
  have a0 : (Str.empty).cps.toList = [] := by decide +kernel
  have hl := fit_str hf
  have hl2 : z.length ≤ sizeLine := sizeOk (by omega)
  have hs : ((z.length : Int)).natAbs.log2 < 1920 := Nat.lt_of_lt_of_le (PySem.Flt.log2_lt_of (k := 64) (by decide) (by omega)) (by decide)
  have ey : ([Str.ofString "t", (toString (z.length : Int) : Str), Str.ofString ":", z].foldl (· ++ ·) Str.empty : Str) = ⟨(encC (.str z)).toArray⟩ := mk_of (by
    show ((((Str.empty ++ Str.ofString "t") ++ (toString (z.length : Int) : Str)) ++ Str.ofString ":") ++ z).cps.toList = _
    rw [codes_app (codes_app (codes_app (codes_app a0 a1) rfl) a2) rfl]
    show _ = 116 :: (numC (z.length : Int) ++ (58 :: z.cps.toList))
    simp [numC])
  refine s_ret (ev_is (ev_joined (.cons ev_c (.cons (ev_fmtI (fun H1 e Q q => he H1 e _ fun H2 e2 => ⟨z, rfl, hl2, q H2 e2⟩) hs) (.cons ev_c (.cons (ev_fmtS he (by omega)) .nil)))) ?_) (congrArg V.str ey)) q
  have e1 : (encC (.str z)).length = 2 + (numC (z.length : Int)).length + z.cps.toList.length := by
    show (116 :: (numC (z.length : Int) ++ (58 :: z.cps.toList))).length = _
    rw [List.length_cons, List.length_append, List.length_cons]
    omega
  have e2 : ([Str.ofString "t", (toString (z.length : Int) : Str), Str.ofString ":", z].map (·.length)).sum = 1 + ((numC (z.length : Int)).length + (1 + (z.cps.toList.length + 0))) := by
    show (Str.ofString "t").length + ((toString (z.length : Int) : Str).length + ((Str.ofString ":").length + (z.length + 0))) = _
    rw [str_len, str_len (toString _ : Str), str_len (Str.ofString ":"), str_len z, a1, a2] <;> rfl
  omega

def rCatS' : R2 := fun x y H Q => ∃ i j, x = V.str i ∧ y = V.str j ∧ i.length + j.length ≤ sizeLine ∧ Q (.str (i ++ j)) H
/-- return 'i' + str(item) + ';' -/
theorem wr_int {n : Nat} {i : Int} {σ : L2.St} {H : Hp} {D : Ends} (hf : It.fit n (.int i)) (hz : (encC (.int i)).length ≤ 16000000) (q : ∀ H1, Ex H H1 → D.rt (.str ⟨(encC (.int i)).toArray⟩) H1) {te : TE} (he : Ev te σ H (.int i) := by exact ev_var rfl) :
    tRet (tOp rCatS' (tOp rCatS' (tC (.str (Str.ofString "i"))) (tCB (fun xs H Q => ∃ i : Int, xs = [V.int i] ∧ i.natAbs.log2 < 1920 ∧ Q (.str (toString i)) H) (tCons te tNil))) (tC (.str (Str.ofString ";")))) D σ H := by
  have a1 : (Str.ofString "i").cps.toList = [105] := by decide +kernel
  have a2 : (Str.ofString ";").cps.toList = [59] := by decide +kernel
  have ey : ((Str.ofString "i" ++ (toString i : Str)) ++ Str.ofString ";") = (⟨(encC (.int i)).toArray⟩ : Str) := mk_of (by
    rw [codes_app (codes_app a1 rfl) a2]
    show _ = 105 :: (numC i ++ [59])
    simp [numC])
  have e1 : (encC (.int i)).length = 2 + (numC i).length := by
    show (105 :: (numC i ++ [59])).length = _
    rw [List.length_cons, List.length_append, List.length_singleton]
    omega
  have e3 : (toString i : Str).length = (numC i).length := str_len _
  have e2 : (Str.ofString "i" ++ (toString i : Str)).length = 1 + (numC i).length := by
    rw [str_len, codes_app a1 rfl, List.length_append] <;> rfl
  have l1 : (Str.ofString "i").length = 1 := by decide +kernel
  have l2 : (Str.ofString ";").length = 1 := by decide +kernel
  refine s_ret (ev_is (ev_addS (ev_addS ev_c (ev_strI he (fit_int hf)) ?_) ev_c ?_) (congrArg V.str ey)) q
  · rw [l1, e3]; omega
  · rw [e2, l2]; omega
/-- return 't' + str(len(item)) + ':' + item -/
theorem wr_str {n : Nat} {z : Str} {σ : L2.St} {H : Hp} {D : Ends} (hf : It.fit n (.str z)) (hz : (encC (.str z)).length ≤ 16000000) (q : ∀ H1, Ex H H1 → D.rt (.str ⟨(encC (.str z)).toArray⟩) H1) {te : TE} (he : Ev te σ H (.str z) := by exact ev_var rfl) :
    tRet (tOp rCatS' (tOp rCatS' (tOp rCatS' (tC (.str (Str.ofString "t"))) (tCB (fun xs H Q => ∃ i : Int, xs = [V.int i] ∧ i.natAbs.log2 < 1920 ∧ Q (.str (toString i)) H) (tCons (tCB (fun xs H Q => ∃ z, xs = [V.str z] ∧ z.length ≤ sizeLine ∧ Q (.int z.length) H) (tCons te tNil)) tNil))) (tC (.str (Str.ofString ":")))) te) D σ H := by
  have a1 : (Str.ofString "t").cps.toList = [116] := by decide +kernel
  have a2 : (Str.ofString ":").cps.toList = [58] := by decide +kernel
  have hl := fit_str hf
  have hl2 : z.length ≤ sizeLine := sizeOk (by omega)
  have hs : ((z.length : Int)).natAbs.log2 < 1920 := Nat.lt_of_lt_of_le (PySem.Flt.log2_lt_of (k := 64) (by decide) (by omega)) (by decide)
  have ey : (((Str.ofString "t" ++ (toString (z.length : Int) : Str)) ++ Str.ofString ":") ++ z) = (⟨(encC (.str z)).toArray⟩ : Str) := mk_of (by
    rw [codes_app (codes_app (codes_app a1 rfl) a2) rfl]
    show _ = 116 :: (numC (z.length : Int) ++ (58 :: z.cps.toList))
    simp [numC])
  have e1 : (encC (.str z)).length = 2 + (numC (z.length : Int)).length + z.cps.toList.length := by
    show (116 :: (numC (z.length : Int) ++ (58 :: z.cps.toList))).length = _
    rw [List.length_cons, List.length_append, List.length_cons]
    omega
  have e3 : (toString (z.length : Int) : Str).length = (numC (z.length : Int)).length := str_len _
  have e2 : (Str.ofString "t" ++ (toString (z.length : Int) : Str)).length = 1 + (numC (z.length : Int)).length := by
    rw [str_len, codes_app a1 rfl, List.length_append] <;> rfl
  have e4 : ((Str.ofString "t" ++ (toString (z.length : Int) : Str)) ++ Str.ofString ":").length = 2 + (numC (z.length : Int)).length := by
    rw [str_len, codes_app (codes_app a1 rfl) a2, List.length_append, List.length_append]
    show 1 + _ + 1 = _
    unfold numC
    omega
  have l1 : (Str.ofString "t").length = 1 := by decide +kernel
  have l2 : (Str.ofString ":").length = 1 := by decide +kernel
  have l4 := str_len z
  refine s_ret (ev_is (ev_addS (ev_addS (ev_addS ev_c (ev_strI (fun H1 e Q q => he H1 e _ fun H2 e2 => ⟨z, rfl, hl2, q H2 e2⟩) hs) ?_) ev_c ?_) he ?_) (congrArg V.str ey)) q
  · rw [l1, e3]; omega
  · rw [e2, l2]; omega
  · rw [e4]; omega
/-! ### sizes -/
theorem numC_len {i : Int} (h : i.natAbs.log2 < 1920) : (numC i).length ≤ 1921 := by
  have e := int_text_length_le (k := 1920) (by decide) h
  have e2 : (numC i).length = (toString i : Str).length := (str_len _).symm
  rw [e2]
  show (Str.ofString (toString i)).length ≤ 1921
  rw [PySem.ofString_length]
  exact e
theorem enc_int_len {i : Int} (h : i.natAbs.log2 < 1920) : (encC (.int i)).length ≤ 1923 := by
  have := numC_len h
  show (105 :: (numC i ++ [59])).length ≤ _
  rw [List.length_cons, List.length_append, List.length_singleton]
  omega
theorem enc_str_len {z : Str} (h : z.length ≤ 1000000) : (encC (.str z)).length ≤ 1923 + z.length := by
  have hs : ((z.length : Int)).natAbs.log2 < 1920 := Nat.lt_of_lt_of_le (PySem.Flt.log2_lt_of (k := 64) (by decide) (by omega)) (by decide)
  have := numC_len hs
  have e := str_len z
  show (116 :: (numC (z.length : Int) ++ (58 :: z.cps.toList))).length ≤ _
  rw [List.length_cons, List.length_append, List.length_cons]
  omega
/-- a value of the document: None, an int below 10 ** 60, a text of some signs -/
def It.sc : It → Prop
  | .non => True
  | .int i => -(10 ^ 60) < i ∧ i < 10 ^ 60
  | .str z => z.length ≤ 200
  | .tup _ => False
def vz : It → V
  | .non => .non
  | .int i => .int i
  | .str z => .str z
  | .tup _ => .non
theorem It.sc_fit {d : It} (h : d.sc) (n : Nat) : d.fit n := by
  cases d with
  | non => cases n <;> trivial
  | int i => cases n <;> exact h
  | str z =>
    have h : z.length ≤ 200 := h
    cases n <;> (show z.length ≤ 999999; omega)
  | tup xs => exact h.elim
theorem It.sc_len {d : It} (h : d.sc) : (encC d).length ≤ 2200 := by
  cases d with
  | non => show 1 ≤ 2200; decide
  | int i => exact Nat.le_trans (enc_int_len (log60 h)) (by decide)
  | str z =>
    have h : z.length ≤ 200 := h
    have := enc_str_len (z := z) (by omega)
    omega
  | tup xs => exact h.elim
theorem Dv.sc {K : PySem.W.Frag} {H : Hp} {d : It} (h : d.sc) : Dv K H (vz d) d := by
  cases d with
  | non => exact .non
  | int i => exact .int i
  | str z => exact .str z
  | tup xs => exact h.elim
theorem DvL.sc {K : PySem.W.Frag} {H : Hp} : ∀ {ds : List It}, (∀ d ∈ ds, d.sc) → DvL K H (ds.map vz) ds
  | [], _ => .nil
  | d :: ds, h => .cons (.sc (h d (List.mem_cons_self ..))) (.sc fun x hx => h x (List.mem_cons_of_mem _ hx))
theorem encL_len : ∀ {ds : List It} {m : Nat}, (∀ d ∈ ds, (encC d).length ≤ m) → (encL ds).length ≤ ds.length * m
  | [], m, _ => Nat.zero_le _
  | d :: ds, m, h => by
    have h1 := h d (List.mem_cons_self ..)
    have h2 := encL_len (ds := ds) (m := m) fun x hx => h x (List.mem_cons_of_mem _ hx)
    show (encC d ++ encL ds).length ≤ (ds.length + 1) * m
    rw [List.length_append, Nat.add_mul]
    omega
theorem enc_tup_len (ds : List It) : (encC (.tup ds)).length = (encL ds).length + 2 := by
  show (40 :: (encL ds ++ [41])).length = _
  rw [List.length_cons, List.length_append] <;> rfl


/-- the digest -/
def digS (t : Int) (c : Nat) : Int := (31 * t + (c : Int)) % 1000003
def digZ (l : List Nat) : Int := l.foldl digS 7
theorem digZ_succ {l : List Nat} {i c : Nat} (h : l[i]? = some c) : digZ (l.take (i + 1)) = (31 * digZ (l.take i) + (c : Int)) % 1000003 := by
  unfold digZ
  rw [List.take_add_one, h]
  show ((l.take i) ++ [c]).foldl digS 7 = _
  rw [List.foldl_append] <;> rfl
theorem digZ_ge : ∀ (l : List Nat), 0 ≤ digZ l ∧ digZ l < 1000003 := by
  intro l
  unfold digZ
  have key : ∀ (l : List Nat) (t : Int), 0 ≤ t ∧ t < 1000003 → 0 ≤ l.foldl digS t ∧ l.foldl digS t < 1000003 := by
    intro l
    induction l with
    | nil => exact fun t h => h
    | cons a r ih => exact fun t _ => ih (digS t a) ⟨Int.emod_nonneg (31 * t + (a : Int)) (by decide : (1000003 : Int) ≠ 0), Int.emod_lt_of_pos (31 * t + (a : Int)) (by decide : (0 : Int) < 1000003)⟩
  exact key l 7 ⟨by decide, by decide⟩
def spDig : Sp := fun vs H Q _ => ∃ z : Str, vs = [.str z] ∧ ∀ H', Ex H H' → Q (.int (digZ z.cps.toList)) H'
theorem cv_dig {z : Str} {H : Hp} : SpV spDig [.str z] H (.int (digZ z.cps.toList)) := fun H1 e Q q E => ⟨z, rfl, fun H2 e2 => q H2 e2⟩


/-! ### what is read back -/
theorem numC_nat (n : Nat) : numC ((n : Nat) : Int) = TL.numL n := TL.tl_num n
theorem neg_text (n : Nat) : (toString (Int.negSucc n) : String) = "-" ++ toString ((n + 1 : Nat) : Int) := rfl
theorem ofString_app (a b : String) : Str.ofString (a ++ b) = Str.ofString a ++ Str.ofString b := by
  refine str_ext ?_
  rw [codes_app (signs_ofString a) (signs_ofString b), signs_ofString, String.toList_append, List.map_append]
theorem numC_neg (n : Nat) : numC (Int.negSucc n) = 45 :: TL.numL (n + 1) := by
  show (Str.ofString (toString (Int.negSucc n))).cps.toList = _
  rw [neg_text, ofString_app, codes_app (x := [45]) (by decide +kernel) rfl]
  exact congrArg (List.cons 45) (numC_nat (n + 1))
/-- digits without a leading zero -/
structure Digs (ds : List Nat) (most : Nat) : Prop where
  all : ∀ c ∈ ds, 48 ≤ c ∧ c ≤ 57
  ne : ds ≠ []
  len : ds.length ≤ most
  lead : ds.length = 1 ∨ ds.head? ≠ some 48
theorem numL_head : ∀ n : Nat, (TL.numL n).length = 1 ∨ (TL.numL n).head? ≠ some 48 := by
  intro n
  induction n using Nat.strongRecOn with
  | _ n ih =>
    by_cases h : n < 10
    · exact .inl (by rw [TL.numL_lt h] <;> rfl)
    · refine .inr ?_
      have h10 : 10 ≤ n := by omega
      rw [TL.numL_step h10]
      have hne := TL.numL_ne (n / 10)
      cases e : TL.numL (n / 10) with
      | nil => exact absurd e hne
      | cons c r =>
        show some c ≠ some 48
        rcases ih (n / 10) (by omega) with h1 | h1
        · rw [e] at h1
          have hr : r = [] := List.length_eq_zero_iff.mp (by simpa using h1)
          subst hr
          have hq : n / 10 < 10 := by
            by_cases hq : n / 10 < 10
            · exact hq
            · rw [TL.numL_step (by omega)] at e
              have := congrArg List.length e
              have h3 := List.length_pos_iff.mpr (TL.numL_ne (n / 10 / 10))
              rw [List.length_append, List.length_singleton, List.length_singleton] at this
              omega
          rw [TL.numL_lt hq] at e
          have e2 : 48 + n / 10 = c := by simpa using e
          intro z
          have := Option.some.inj z
          omega
        · rw [e] at h1
          exact h1
theorem digs_num {n most : Nat} (hm : 0 < most) (h : n < 10 ^ most) : Digs (TL.numL n) most := ⟨TL.numL_digits n, TL.numL_ne n, TL.numL_len hm h, numL_head n⟩
theorem slice_app {l a b c : List Nat} (h : l = a ++ (b ++ c)) : (l.drop a.length).take b.length = b := by
  rw [h, List.drop_left, List.take_left]
/-- text[i:j] of a text that is known there -/
theorem cutS_at {z : Str} {a b c : List Nat} (h : z.cps.toList = a ++ (b ++ c)) : cutS z (some (a.length : Int)) (some ((a.length + b.length : Nat) : Int)) = ⟨b.toArray⟩ := by
  have el : z.length = a.length + (b.length + c.length) := by rw [str_len, h, List.length_append, List.length_append]
  unfold cutS
  rw [HT.sIx_nat, HT.sIx_nat, Nat.min_eq_left (by omega), Nat.min_eq_left (by omega), Nat.add_sub_cancel_left, slice_app h]
theorem int_at {i : Int} (h : -(10 ^ 60) < i ∧ i < 10 ^ 60) : intText? (⟨(numC i).toArray⟩ : Str) = some i ∧ (⟨(numC i).toArray⟩ : Str).length ≤ 640 := by
  have e60 : (10 : Int) ^ 60 = 1000000000000000000000000000000000000000000000000000000000000 := by decide
  have n60 : (10 : Nat) ^ 60 = 1000000000000000000000000000000000000000000000000000000000000 := by decide
  rw [e60] at h
  cases i with
  | ofNat n =>
    have hn : n < 10 ^ 60 := by
      rw [n60]
      have := h.2
      simp at this
      omega
    have hl := TL.numL_len (by decide) hn
    have e : (⟨(numC (Int.ofNat n)).toArray⟩ : Str) = Str.ofString (toString ((n : Nat) : Int)) := str_ext rfl
    refine ⟨?_, ?_⟩
    · rw [e]
      exact TL.int_num (by omega)
    · rw [str_len]
      show (numC ((n : Nat) : Int)).length ≤ 640
      rw [numC_nat]
      omega
  | negSucc n =>
    have hn : n + 1 < 10 ^ 60 := by
      rw [n60]
      have := h.1
      omega
    have hl := TL.numL_len (by decide) hn
    have ec : (⟨(numC (Int.negSucc n)).toArray⟩ : Str).cps.toList = 45 :: TL.numL (n + 1) := numC_neg n
    have ln : (⟨(numC (Int.negSucc n)).toArray⟩ : Str).length = (TL.numL (n + 1)).length + 1 := by rw [str_len, ec] <;> rfl
    refine ⟨?_, by omega⟩
    have := PySem.intText_neg ec (TL.numL_digits _) (TL.numL_ne _) (by omega)
    rw [TL.numL_val] at this
    rw [this]
    exact congrArg some (by omega)
/-! ### a chain of two comparisons of texts -/
theorem le_str1 (a c : Nat) : (!decide ((⟨#[c]⟩ : Str).cps.toList < (⟨#[a]⟩ : Str).cps.toList)) = decide (a ≤ c) := by
  have e : ((⟨#[c]⟩ : Str).cps.toList < (⟨#[a]⟩ : Str).cps.toList) ↔ c < a := by
    show ([c] : List Nat) < [a] ↔ c < a
    constructor
    · intro h
      cases h with
      | rel h => exact h
      | cons h => cases h
    · intro h
      exact List.Lex.rel h
  by_cases h : c < a
  · rw [decide_eq_true (e.mpr h), decide_eq_false (by omega)] <;> rfl
  · rw [decide_eq_false (fun z => h (e.mp z)), decide_eq_true (by omega)] <;> rfl
abbrev rLeS : R2 := fun x y H Q => ∃ i j, x = .str i ∧ y = .str j ∧ Q (.bl (!decide (j.cps.toList < i.cps.toList))) H
theorem et_dig {σ : L2.St} {H : Hp} {tb : TE} {c : Nat} (hb : Ev tb σ H (.str ⟨#[c]⟩)) : EvT (tTest (tChain rLeS rLeS (tC (.str (Str.ofString "0"))) tb (tC (.str (Str.ofString "9"))))) σ H (decide (48 ≤ c ∧ c ≤ 57)) := fun H1 e Q q => by
  have e0 : (Str.ofString "0") = ⟨#[48]⟩ := by decide +kernel
  have e9 : (Str.ofString "9") = ⟨#[57]⟩ := by decide +kernel
  refine hb H1 e _ fun H2 e2 => ⟨_, _, rfl, rfl, decide (48 ≤ c), ?_, ?_⟩
  · rw [e0]
    exact congrArg V.bl (le_str1 48 c)
  · by_cases h : 48 ≤ c
    · rw [decide_eq_true h]
      refine iteT ⟨_, _, rfl, rfl, decide (c ≤ 57), ?_, ?_⟩
      · rw [e9]
        exact congrArg V.bl (le_str1 c 57)
      · have : decide (48 ≤ c ∧ c ≤ 57) = decide (c ≤ 57) := decide_eq_decide.mpr ⟨fun z => z.2, fun z => ⟨h, z⟩⟩
        rw [← this]
        exact q H2 e2
    · rw [decide_eq_false h]
      refine iteF ⟨false, rfl, ?_⟩
      have : decide (48 ≤ c ∧ c ≤ 57) = false := decide_eq_false fun z => h z.1
      rw [← this]
      exact q H2 e2
theorem str1_eq {a c : Nat} : decide ((⟨#[c]⟩ : Str) = ⟨#[a]⟩) = decide (c = a) := decide_eq_decide.mpr ⟨fun h => by
  have := congrArg (fun s : Str => s.cps.toList) h
  simpa using this, fun h => by rw [h]⟩
def spDec (K : PySem.W.Frag) : Sp := fun vs H Q _ => ∃ (z : Str) (d : It), vs = [.str z] ∧ z = ⟨(encC d).toArray⟩ ∧ d.fit 12 ∧ (encC d).length ≤ 16000000 ∧ ∀ v H', Ex H H' → Dv K H' v d → Q v H'


/-! ### kinds -/
def kIn (k : Str) (xs : List String) : Bool := inV (.str k) (xs.map fun x => V.str (Str.ofString x))
def baseT (k : Str) : Str := if kIn k ["int", "int?"] then Str.ofString "int" else Str.ofString "text"
theorem ev_kinU {K : PySem.W.Frag} {σ : L2.St} {H : Hp} {ta tb : TE} {k : Str} {xs : List String} (ha : Ev ta σ H (.str k)) (hb : EvU tb σ H (xs.map fun x => V.str (Str.ofString x))) (hf : (xs.map fun x => V.str (Str.ofString x)).all flatV = true := by rfl) : Ev (tOp (rIn K false) ta tb) σ H (.bl (kIn k xs)) := ev_inU ha hb rfl hf
theorem ev_kinL {K : PySem.W.Frag} {σ : L2.St} {H : Hp} {ta tb : TE} {k : Str} {xs : List String} (ha : Ev ta σ H (.str k)) (hb : EvL tb σ H (xs.map fun x => V.str (Str.ofString x))) (hf : (xs.map fun x => V.str (Str.ofString x)).all flatV = true := by rfl) : Ev (tOp (rIn K false) ta tb) σ H (.bl (kIn k xs)) := ev_opL ha hb fun _ _ h _ => rv_isL (sq_of h) rfl hf
/-- None, an integer or a text -/
inductive Sc : V → Prop
  | non : Sc .non
  | int (i : Int) : Sc (.int i)
  | str (z : Str) : Sc (.str z)
def accB (k : Str) : V → Bool
  | .non => kIn k ["int?", "text?"]
  | .int _ => decide (baseT k = Str.ofString "int")
  | _ => !decide (baseT k = Str.ofString "int")


/-! ### names: a comprehension over a text, all, chains -/
theorem el_lcS {σ : L2.St} {H : Hp} {te tl : TE} {z : Str} {j : Nat} {vs : List Nat} {ys : List V} (h : Ev te σ H (.str z)) (hz : z.cps.toList.length ≤ 40000) (hw : ∀ x, wipe ((wipe σ vs).set j (some x)) vs = wipe σ vs) (hl : ys.length = z.cps.toList.length)
    (he : ∀ (i c : Nat) (y : V), z.cps.toList[i]? = some c → ys[i]? = some y → ∀ H1, Ex H H1 → Ev tl ((wipe σ vs).set j (some (.str ⟨#[c]⟩))) H1 y) : EvL (tLc (iStr te) (gName j) tYes tl vs) σ H ys := fun H0 e Q q => h H0 e _ fun H1 e1 => ⟨z, rfl, fun D hD => by
  have g : given z.cps.toList.length (fun _ => true) (fun i => ys.getD i .non) = ys := given_all hl fun i hi => by
    have hi2 : i < ys.length := by omega
    rw [List.getElem?_eq_getElem hi2, List.getD_eq_getElem?_getD, List.getElem?_eq_getElem hi2] <;> rfl
  refine ⟨fun i m H' => m = z.cps.toList.length - i ∧ i ≤ z.cps.toList.length ∧ Cw H1 (fun _ => true) (fun i => ys.getD i .non) D i H', ⟨_, rfl, Nat.zero_le _, hD, Ex.new hD, upd_same⟩, ?_⟩
  rintro i m H' ⟨rfl, hi, p⟩
  by_cases hlt : i < z.cps.toList.length
  · refine .inr ⟨(by show i < z.cps.size; simpa using hlt), Cw H1 (fun _ => true) (fun i => ys.getD i .non) D (i + 1), fun H2 p2 => ⟨_, by omega, rfl, hlt, p2⟩, fun x H2 y => ?_⟩
    obtain ⟨rfl, c, hc, rfl⟩ := y
    have hc' : z.cps.toList[i]? = some c := by simpa using hc
    have hi2 : i < ys.length := by omega
    have hy : ys[i]? = some (ys.getD i .non) := by rw [List.getElem?_eq_getElem hi2, List.getD_eq_getElem?_getD, List.getElem?_eq_getElem hi2] <;> rfl
    exact ⟨hw _, cw_turn p (by omega) (fun H3 e3 Q q => q H3 (Ex.refl H3)) fun _ => (he i c _ hc' hy H1 (e.trans e1))⟩
  · have ei : i = z.cps.toList.length := by omega
    subst ei
    refine .inl ⟨(by show z.cps.size ≤ z.cps.toList.length; simp), ?_⟩
    have p2 := p.2.2
    rw [g] at p2
    exact q D H' (fresh_back e1 p.1) (e1.trans p.2.1) p2⟩
theorem ev_allN {K : PySem.W.Frag} {σ : L2.St} {H : Hp} {te : TE} {bs : List Bool} (h : EvL te σ H (bs.map V.bl)) : Ev (tCB (rAll K) (tCons te tNil)) σ H (.bl (bs.all id)) := fun H1 e Q q =>
  h H1 e _ fun p H2 _ e2 hp => ⟨p, bs, rfl, sq_of hp, q H2 e2⟩
theorem ev_chainI {f g : Int → Int → V} {σ : L2.St} {H : Hp} {tb : TE} {i j k : Int} {a b : Bool} (hb : Ev tb σ H (.int j)) (hf : f i j = .bl a) (hg : g j k = .bl b) : Ev (tChain (rI0 f) (rI0 g) (tC (.int i)) tb (tC (.int k))) σ H (.bl (a && b)) := fun H1 e Q q =>
  hb H1 e _ fun H2 e2 => ⟨i, j, rfl, rfl, a, hf, by
    cases a with
    | true => exact iteT ⟨j, k, rfl, rfl, by rw [hg]; exact q H2 e2⟩
    | false => exact iteF (q H2 e2)⟩
theorem ev_chainS {σ : L2.St} {H : Hp} {tb : TE} {x y c : Nat} {sx sy : Str} (hx : sx = ⟨#[x]⟩) (hy : sy = ⟨#[y]⟩) (hb : Ev tb σ H (.str ⟨#[c]⟩)) : Ev (tChain rLeS rLeS (tC (.str sx)) tb (tC (.str sy))) σ H (.bl (decide (x ≤ c ∧ c ≤ y))) := fun H1 e Q q => by
  subst hx hy
  refine hb H1 e _ fun H2 e2 => ⟨_, _, rfl, rfl, decide (x ≤ c), congrArg V.bl (le_str1 x c), ?_⟩
  by_cases h : x ≤ c
  · rw [decide_eq_true h]
    refine iteT ⟨_, _, rfl, rfl, ?_⟩
    rw [le_str1 c y]
    have : decide (x ≤ c ∧ c ≤ y) = decide (c ≤ y) := decide_eq_decide.mpr ⟨fun z => z.2, fun z => ⟨h, z⟩⟩
    rw [← this]
    exact q H2 e2
  · rw [decide_eq_false h]
    refine iteF ?_
    have : decide (x ≤ c ∧ c ≤ y) = false := decide_eq_false fun z => h z.1
    rw [← this]
    exact q H2 e2
def lowerC (c : Nat) : Bool := decide (97 ≤ c ∧ c ≤ 122)
def nameB (z : Str) : Bool := decide (1 ≤ z.length ∧ z.length ≤ 12) && z.cps.toList.all lowerC


/-! ### data of the heap -/
mutual
theorem dp_mono {K : PySem.W.Frag} {H H' : Hp} (e : Ex H H') : ∀ {v : V} {d : PyData}, Dp K H v d → Dp K H' v d
  | _, _, .non => .non
  | _, _, .bl b => .bl b
  | _, _, .int i => .int i
  | _, _, .str z => .str z
  | _, _, .lst h r => .lst (ex_l e h) (dpa_mono e r)
  | _, _, .tup h r => .tup (ex_t e h) (dpa_mono e r)
theorem dpa_mono {K : PySem.W.Frag} {H H' : Hp} (e : Ex H H') : ∀ {vs : List V} {ds : List PyData}, DpAll K H vs ds → DpAll K H' vs ds
  | _, _, .nil => .nil
  | _, _, .cons h r => .cons (dp_mono e h) (dpa_mono e r)
end
theorem dpa_len {K : PySem.W.Frag} {H : Hp} : ∀ {vs : List V} {ds : List PyData}, DpAll K H vs ds → vs.length = ds.length
  | _, _, .nil => rfl
  | _, _, .cons _ r => congrArg (· + 1) (dpa_len r)
theorem dpa_app {K : PySem.W.Frag} {H : Hp} : ∀ {vs us : List V} {ds es : List PyData}, DpAll K H vs ds → DpAll K H us es → DpAll K H (vs ++ us) (ds ++ es)
  | _, _, _, _, .nil, h => h
  | _, _, _, _, .cons a r, h => .cons a (dpa_app r h)
theorem dpa_at {K : PySem.W.Frag} {H : Hp} : ∀ {vs : List V} {ds : List PyData}, DpAll K H vs ds → ∀ {i : Nat} {v : V}, vs[i]? = some v → ∃ d, ds[i]? = some d ∧ Dp K H v d
  | _, _, .cons h _, 0, v, e => by
    cases Option.some.inj e
    exact ⟨_, rfl, h⟩
  | _, _, .cons _ r, i + 1, v, e => by
    obtain ⟨d, h1, h2⟩ := dpa_at r (i := i) (by simpa using e)
    exact ⟨d, by simpa using h1, h2⟩
theorem dpa_get {K : PySem.W.Frag} {H : Hp} : ∀ {vs : List V} {ds : List PyData}, DpAll K H vs ds → ∀ {i : Nat} {d : PyData}, ds[i]? = some d → ∃ v, vs[i]? = some v ∧ Dp K H v d
  | _, _, .cons h _, 0, d, e => by
    cases Option.some.inj e
    exact ⟨_, rfl, h⟩
  | _, _, .cons _ r, i + 1, d, e => by
    obtain ⟨v, h1, h2⟩ := dpa_get r (i := i) (by simpa using e)
    exact ⟨v, by simpa using h1, h2⟩
/-- data without lists, bools and dicts, of nesting at most n -/
inductive Fl : Nat → PyData → Prop
  | non (n : Nat) : Fl n .none
  | int (n : Nat) (i : Int) : Fl n (.int i)
  | str (n : Nat) {z : Str} (h : SeqAt.shaped (.str z) = true) : Fl n (.str z)
  | tup {n : Nat} {ds : List PyData} (h : ∀ d ∈ ds, Fl n d) (hl : ds.length ≤ 1000 := by first | decide | simp) : Fl (n + 1) (.tuple ds)
theorem Fl.mono : ∀ {n m : Nat} {d : PyData}, Fl n d → n ≤ m → Fl m d
  | _, _, _, .non _, _ => .non _
  | _, _, _, .int _ i, _ => .int _ i
  | _, _, _, .str _ h, _ => .str _ h
  | n + 1, m + 1, _, .tup h l, e => .tup (fun d hd => (h d hd).mono (by omega)) l
  | n + 1, 0, _, .tup h _, e => by omega
mutual
theorem dp_monoN {K : PySem.W.Frag} {H H' : Hp} (e : ExN H H') : ∀ {n : Nat} {v : V} {d : PyData}, Fl n d → Dp K H v d → Dp K H' v d
  | _, _, _, .non _, .non => .non
  | _, _, _, .int _ i, .int _ => .int i
  | _, _, _, .str _ _, .str z => .str z
  | _ + 1, _, _, .tup f _, .tup h r => .tup (exN_t e h) (dpa_monoN e f r)
theorem dpa_monoN {K : PySem.W.Frag} {H H' : Hp} (e : ExN H H') : ∀ {n : Nat} {vs : List V} {ds : List PyData}, (∀ d ∈ ds, Fl n d) → DpAll K H vs ds → DpAll K H' vs ds
  | _, _, _, _, .nil => .nil
  | _, _, _, f, .cons h r => .cons (dp_monoN e (f _ (List.mem_cons_self ..)) h) (dpa_monoN e (fun d hd => f d (List.mem_cons_of_mem _ hd)) r)
end
theorem q_asgK {te : TE} {σ : L2.St} {H : Hp} {tz : TS} {D : Ends} {i : Nat} (k : te σ H fun v H1 => tz D (σ.set i (some v)) H1) : tSeq (tAsg te (gName i)) tz D σ H := k
theorem q_asgG {te : TE} {g : TG} {σ : L2.St} {H : Hp} {tz : TS} {D : Ends} (k : te σ H fun v H1 => g v σ H1 (tz D)) : tSeq (tAsg te g) tz D σ H := k
/-! ### equality of data -/
/-- no bool, no dict -/
inductive Pl : PyData → Prop
  | non : Pl .none
  | int (i : Int) : Pl (.int i)
  | str (z : Str) : Pl (.str z)
  | lst {ds : List PyData} (h : ∀ d ∈ ds, Pl d) : Pl (.list ds)
  | tup {ds : List PyData} (h : ∀ d ∈ ds, Pl d) : Pl (.tuple ds)
theorem Fl.pl : ∀ {n : Nat} {d : PyData}, Fl n d → Pl d
  | _, _, .non _ => .non
  | _, _, .int _ i => .int i
  | _, _, .str _ _ => .str _
  | _ + 1, _, .tup h _ => .tup fun d hd => (h d hd).pl
mutual
theorem eqv_iff : ∀ (d e : PyData), Pl d → Pl e → (PyData.eqv d e = true ↔ d = e)
  | .none, e, _, he => by cases he <;> simp [PyData.eqv]
  | .int i, e, _, he => by cases he <;> simp [PyData.eqv]
  | .str z, e, _, he => by cases he <;> simp [PyData.eqv]
  | .list xs, e, hd, he => by
    cases hd with
    | lst hd =>
      cases he with
      | lst he =>
        rename_i ys
        rw [show PyData.eqv (.list xs) (.list ys) = PyData.eqvAll xs ys by simp [PyData.eqv], eqvAll_iff xs ys hd he]
        simp
      | _ => simp [PyData.eqv]
  | .tuple xs, e, hd, he => by
    cases hd with
    | tup hd =>
      cases he with
      | tup he =>
        rename_i ys
        rw [show PyData.eqv (.tuple xs) (.tuple ys) = PyData.eqvAll xs ys by simp [PyData.eqv], eqvAll_iff xs ys hd he]
        simp
      | _ => simp [PyData.eqv]
  | .bool _, _, hd, _ => by cases hd
  | .dict _, _, hd, _ => by cases hd
theorem eqvAll_iff : ∀ (xs ys : List PyData), (∀ d ∈ xs, Pl d) → (∀ d ∈ ys, Pl d) → (PyData.eqvAll xs ys = true ↔ xs = ys)
  | [], [], _, _ => by simp [PyData.eqvAll]
  | [], y :: ys, _, _ => by simp [PyData.eqvAll]
  | x :: xs, [], _, _ => by simp [PyData.eqvAll]
  | x :: xs, y :: ys, hx, hy => by
    rw [show PyData.eqvAll (x :: xs) (y :: ys) = (PyData.eqv x y && PyData.eqvAll xs ys) by simp [PyData.eqvAll], Bool.and_eq_true,
      eqv_iff x y (hx x (List.mem_cons_self ..)) (hy y (List.mem_cons_self ..)), eqvAll_iff xs ys (fun d hd => hx d (List.mem_cons_of_mem _ hd)) (fun d hd => hy d (List.mem_cons_of_mem _ hd))]
    simp
end
noncomputable def eqB (d e : PyData) : Bool := PyData.eqv d e
theorem eqv_dec {d e : PyData} (hd : Pl d) (he : Pl e) [Decidable (d = e)] : PyData.eqv d e = decide (d = e) := by
  by_cases h : d = e
  · rw [decide_eq_true h]
    exact (eqv_iff d e hd he).mpr h
  · rw [decide_eq_false h]
    cases x : PyData.eqv d e with
    | false => rfl
    | true => exact absurd ((eqv_iff d e hd he).mp x) h
mutual
theorem canLay_fl : ∀ {n : Nat} {d : PyData}, Fl n d → d.canLay0 = true
  | _, .none, _ => by simp [PyData.canLay0]
  | _, .int _, _ => by simp [PyData.canLay0]
  | _, .str z, h => by
    cases h with
    | str _ h => exact SeqAt.canLay_of_shaped h
  | _, .tuple xs, h => by
    cases h with
    | tup h _ =>
      rw [show (PyData.tuple xs).canLay0 = PyData.canLayAll0 xs by simp [PyData.canLay0]]
      exact canLayAll_fl h
  | _, .bool _, h => by cases h
  | _, .list _, h => by cases h
  | _, .dict _, h => by cases h
theorem canLayAll_fl : ∀ {n : Nat} {ds : List PyData}, (∀ d ∈ ds, Fl n d) → PyData.canLayAll0 ds = true
  | _, [], _ => by simp [PyData.canLayAll0]
  | _, d :: ds, h => by
    rw [show PyData.canLayAll0 (d :: ds) = (d.canLay0 && PyData.canLayAll0 ds) by simp [PyData.canLayAll0], canLay_fl (h d (List.mem_cons_self ..)), canLayAll_fl fun x hx => h x (List.mem_cons_of_mem _ hx)] <;> rfl
end
mutual
theorem depth_fl : ∀ {n : Nat} {d : PyData}, Fl n d → d.depth ≤ n + 1
  | _, .none, _ => by simp [PyData.depth]
  | _, .int _, _ => by simp [PyData.depth]
  | _, .str z, _ => by simp [PyData.depth]
  | _ + 1, .tuple xs, .tup h _ => by
    rw [show (PyData.tuple xs).depth = 1 + PyData.depthAll xs by simp [PyData.depth, Nat.add_comm]]
    have := depthAll_fl h
    omega
  | _, .bool _, h => by cases h
  | _, .list _, h => by cases h
  | _, .dict _, h => by cases h
theorem depthAll_fl : ∀ {n : Nat} {ds : List PyData}, (∀ d ∈ ds, Fl n d) → PyData.depthAll ds ≤ n + 1
  | _, [], _ => by simp [PyData.depthAll]
  | n, d :: ds, h => by
    have h1 := depth_fl (h d (List.mem_cons_self ..))
    have h2 := depthAll_fl fun x hx => h x (List.mem_cons_of_mem _ hx)
    rw [show PyData.depthAll (d :: ds) = max d.depth (PyData.depthAll ds) by simp [PyData.depthAll]]
    omega
end
theorem shaped_fl {n : Nat} {d : PyData} (h : Fl n d) (hn : n ≤ 60) : SeqAt.shaped d = true := by
  have := depth_fl h
  unfold SeqAt.shaped
  rw [canLay_fl h, decide_eq_true (by omega)] <;> rfl
theorem shaped_lst {n : Nat} {ds : List PyData} (h : ∀ d ∈ ds, Fl n d) (hn : n ≤ 60) : SeqAt.shaped (.list ds) = true := by
  have := depthAll_fl h
  unfold SeqAt.shaped
  rw [show (PyData.list ds).canLay0 = PyData.canLayAll0 ds by simp [PyData.canLay0], canLayAll_fl h, decide_eq_true (by
    rw [show (PyData.list ds).depth = 1 + PyData.depthAll ds by simp [PyData.depth, Nat.add_comm]]
    omega)] <;> rfl
/-! ### what evaluates to data -/
def EP (K : PySem.W.Frag) (te : TE) (σ : L2.St) (H : Hp) (R : PyData → Prop) : Prop := ∀ H1, Ex H H1 → ∀ Q : VK, (∀ v d H2, Ex H1 H2 → R d → Dp K H2 v d → Q v H2) → te σ H1 Q
def EPA (K : PySem.W.Frag) (ta : TA) (σ : L2.St) (H : Hp) (R : List PyData → Prop) : Prop := ∀ H1, Ex H H1 → ∀ Q : List V → Hp → Prop, (∀ vs ds H2, Ex H1 H2 → R ds → DpAll K H2 vs ds → Q vs H2) → ta σ H1 Q
/-- a new list -/
def EPL (K : PySem.W.Frag) (te : TE) (σ : L2.St) (H : Hp) (R : List PyData → Prop) : Prop := ∀ H1, Ex H H1 → ∀ Q : VK, (∀ p vs ds H2, H1 p = none → Ex H1 H2 → H2 p = some (.lst vs) → R ds → DpAll K H2 vs ds → Q (.ref p) H2) → te σ H1 Q
section
variable {K : PySem.W.Frag} {σ : L2.St} {H : Hp} {te ta tb : TE}
theorem ep_is {v : V} {d : PyData} {R : PyData → Prop} (h : Ev te σ H v) (hd : Dp K H v d) (hr : R d) : EP K te σ H R := fun H1 e Q q => h H1 e _ fun H2 e2 => q v d H2 e2 hr (dp_mono (e.trans e2) hd)
theorem ep_int {i : Int} (h : Ev te σ H (.int i)) : EP K te σ H (· = .int i) := ep_is h (.int i) rfl
theorem ep_str {z : Str} (h : Ev te σ H (.str z)) : EP K te σ H (· = .str z) := ep_is h (.str z) rfl
theorem ep_non (h : Ev te σ H .non) : EP K te σ H (· = .none) := ep_is h .non rfl
theorem EP.imp {R S : PyData → Prop} (h : EP K te σ H R) (i : ∀ d, R d → S d) : EP K te σ H S := fun H1 e Q q => h H1 e Q fun v d H2 e2 r D => q v d H2 e2 (i d r) D
theorem EP.mono {R : PyData → Prop} {H' : Hp} (e : Ex H H') (h : EP K te σ H R) : EP K te σ H' R := fun H1 e1 => h H1 (e.trans e1)
theorem epa_nil : EPA K tNil σ H (· = []) := fun H1 _ _ q => q [] [] H1 (Ex.refl H1) rfl .nil
theorem epa_cons {tr : TA} {R : PyData → Prop} {S : List PyData → Prop} (h : EP K te σ H R) (r : EPA K tr σ H S) : EPA K (tCons te tr) σ H (fun ds => ∃ d r, ds = d :: r ∧ R d ∧ S r) := fun H1 e Q q =>
  h H1 e _ fun v d H2 e2 hr hd => r H2 (e.trans e2) _ fun vs ds H3 e3 hs hds => q (v :: vs) (d :: ds) H3 (e2.trans e3) ⟨d, ds, rfl, hr, hs⟩ (.cons (dp_mono e3 hd) hds)
theorem epa_c {tr : TA} {d : PyData} {ds : List PyData} (h : EP K te σ H (· = d)) (r : EPA K tr σ H (· = ds)) : EPA K (tCons te tr) σ H (· = d :: ds) := fun H1 e Q q =>
  h H1 e _ fun v d' H2 e2 hr hd => r H2 (e.trans e2) _ fun vs ds' H3 e3 hs hds => q (v :: vs) (d' :: ds') H3 (e2.trans e3) (by rw [hr, hs]) (.cons (dp_mono e3 hd) hds)
theorem ep_tup {ta : TA} {R : PyData → Prop} {S : List PyData → Prop} (h : EPA K ta σ H S) (i : ∀ ds, S ds → ds.length ≤ 100000 ∧ R (.tuple ds)) : EP K (tTup ta) σ H R := fun H1 e Q q =>
  h H1 e _ fun vs ds H2 e2 hs hds => ⟨sz_of (by rw [dpa_len hds]; exact (i ds hs).1), fun p hp => q _ _ _ (e2.trans (Ex.new hp)) (i ds hs).2 (.tup (st_of upd_same) (dpa_mono (Ex.new hp) hds))⟩
theorem ep_t {ta : TA} {ds : List PyData} (h : EPA K ta σ H (· = ds)) (hl : ds.length ≤ 100000) : EP K (tTup ta) σ H (· = .tuple ds) := ep_tup h fun ds' e => by
  rw [e]
  exact ⟨hl, rfl⟩
theorem epl_lst {ta : TA} {S : List PyData → Prop} (h : EPA K ta σ H S) (i : ∀ ds, S ds → ds.length ≤ 100000) : EPL K (tLst ta) σ H S := fun H1 e Q q =>
  h H1 e _ fun vs ds H2 e2 hs hds => ⟨sz_of (by rw [dpa_len hds]; exact i ds hs), fun p hp => q p vs ds _ (fresh_back e2 hp) (e2.trans (Ex.new hp)) upd_same hs (dpa_mono (Ex.new hp) hds)⟩
theorem EPL.ep {R : PyData → Prop} {S : List PyData → Prop} (h : EPL K te σ H S) (i : ∀ ds, S ds → R (.list ds)) : EP K te σ H R := fun H1 e Q q =>
  h H1 e _ fun p vs ds H2 hp e2 h2 hs hds => q _ _ H2 e2 (i ds hs) (.lst (sq_of h2) hds)
theorem s_retP {D : Ends} {R : PyData → Prop} (h : EP K te σ H R) (k : ∀ v d H1, Ex H H1 → R d → Dp K H1 v d → D.rt v H1) : tRet te D σ H := h H (Ex.refl H) _ k
theorem s_retPL {D : Ends} {S : List PyData → Prop} (h : EPL K te σ H S) (k : ∀ p vs ds H1, H p = none → Ex H H1 → H1 p = some (.lst vs) → S ds → DpAll K H1 vs ds → D.rt (.ref p) H1) : tRet te D σ H := h H (Ex.refl H) _ k
theorem q_asgP {D : Ends} {tz : TS} {i : Nat} {R : PyData → Prop} (h : EP K te σ H R) (k : ∀ v d H1, Ex H H1 → R d → Dp K H1 v d → tz D (σ.set i (some v)) H1) : tSeq (tAsg te (gName i)) tz D σ H := h H (Ex.refl H) _ k
theorem q_asgPL {D : Ends} {tz : TS} {i : Nat} {S : List PyData → Prop} (h : EPL K te σ H S) (k : ∀ p vs ds H1, H p = none → Ex H H1 → H1 p = some (.lst vs) → S ds → DpAll K H1 vs ds → tz D (σ.set i (some (.ref p))) H1) : tSeq (tAsg te (gName i)) tz D σ H := h H (Ex.refl H) _ k
theorem s_retTup {ta : TA} {D : Ends} {S : List PyData → Prop} (h : EPA K ta σ H S) (l : ∀ ds, S ds → ds.length ≤ 100000) (k : ∀ p ds H1, H p = none → Ex H H1 → S ds → Dp K H1 (.ref p) (.tuple ds) → D.rt (.ref p) H1) : tRet (tTup ta) D σ H :=
  h H (Ex.refl H) _ fun vs ds H1 e1 hs hds => ⟨sz_of (by rw [dpa_len hds]; exact l ds hs), fun p hp => k p ds _ (fresh_back e1 hp) (e1.trans (Ex.new hp)) hs (.tup (st_of upd_same) (dpa_mono (Ex.new hp) hds))⟩
/-- == and != of data -/
theorem ev_eqP {x y : V} {d e : PyData} {b : Bool} (ha : Ev ta σ H x) (hb : Ev tb σ H y) (hd : Dp K H x d) (he : Dp K H y e) (sd : SeqAt.shaped d = true) (se : SeqAt.shaped e = true) (hv : PyData.eqv d e = b) : Ev (tOp (rEqD K) ta tb) σ H (.bl b) :=
  ev_op ha hb fun H1 e1 _ q => ⟨d, e, dp_mono e1 hd, dp_mono e1 he, sd, se, by rw [hv]; exact q H1 (Ex.refl H1)⟩
theorem ev_neP {x y : V} {d e : PyData} {b : Bool} (ha : Ev ta σ H x) (hb : Ev tb σ H y) (hd : Dp K H x d) (he : Dp K H y e) (sd : SeqAt.shaped d = true) (se : SeqAt.shaped e = true) (hv : (!PyData.eqv d e) = b) : Ev (tOp (rNeD K) ta tb) σ H (.bl b) :=
  ev_op ha hb fun H1 e1 _ q => ⟨d, e, dp_mono e1 hd, dp_mono e1 he, sd, se, by rw [hv]; exact q H1 (Ex.refl H1)⟩
/-- [f(k) for k in range(n)] -/
theorem epl_mapR {ta : TA} {j : Nat} {vs : List Nat} {n : Nat} {R : Nat → PyData → Prop} (h : EvA ta σ H [.int (n : Int)]) (hz : n ≤ 40000) (hw : ∀ x, wipe ((wipe σ vs).set j (some x)) vs = wipe σ vs) {m : Nat} (hf : ∀ i d, R i d → Fl m d)
    (he : ∀ (i : Nat) H1, i < n → Ex H H1 → EP K te ((wipe σ vs).set j (some (.int (i : Int)))) H1 (R i)) : EPL K (tLc (iRng1 ta) (gName j) tYes te vs) σ H (fun ds => ds.length = n ∧ ∀ i d, ds[i]? = some d → R i d) := by
  intro H0 e Q q
  refine h H0 e _ fun H1 e1 => ⟨(n : Int), rfl, by omega, by omega, fun Dl hD => ?_⟩
  rw [show ((n : Int)).toNat = n by omega]
  refine lc_range (n := n) (fun i H' => H1 Dl = none ∧ Ex H1 H' ∧ ∃ us ds, H' Dl = some (.lst us) ∧ DpAll K H' us ds ∧ ds.length = i ∧ ∀ i d, ds[i]? = some d → R i d) ⟨hD, Ex.new hD, [], [], upd_same, .nil, rfl, fun i d z => nomatch z⟩ (fun i H' hi p => ⟨hw _, ?_⟩) (fun H' p => ?_)
  · obtain ⟨p1, p2, us, ds, p3, p4, p5, p6⟩ := p
    show te ((wipe σ vs).set j (some (.int (0 + (i : Int))))) H' _
    rw [Int.zero_add]
    refine he i H1 hi (e.trans e1) H' p2 _ fun v d H4 e4 hr hd => ⟨us, e4 Dl _ p3, sz_lt (by rw [dpa_len p4, p5]; omega), p1, (p2.trans e4).mut p1, us ++ [v], ds ++ [d], upd_same, ?_, by rw [List.length_append, p5] <;> rfl, fun k x hk => ?_⟩
    · exact dpa_app (dpa_monoN (ExN.upd (e4 Dl _ p3)) (fun x hx => by
        obtain ⟨k, hk⟩ := List.getElem?_of_mem hx
        exact hf k x (p6 k x hk)) (dpa_mono e4 p4)) (.cons (dp_monoN (ExN.upd (e4 Dl _ p3)) (hf i d hr) hd) .nil)
    · by_cases hlt : k < ds.length
      · rw [List.getElem?_append_left hlt] at hk
        exact p6 k x hk
      · rw [List.getElem?_append_right (by omega)] at hk
        have hk0 : k - ds.length = 0 := by
          by_cases z : k - ds.length = 0
          · exact z
          · rw [List.getElem?_eq_none (by simp; omega)] at hk
            cases hk
        rw [hk0] at hk
        have ek : k = i := by omega
        rw [ek, ← Option.some.inj hk]
        exact hr
  · obtain ⟨p1, p2, us, ds, p3, p4, p5, p6⟩ := p
    exact q Dl us ds H' (fresh_back e1 p1) (e1.trans p2) p3 ⟨p5, p6⟩ p4
end
section
variable {K : PySem.W.Frag} {σ : L2.St} {H : Hp} {te tl : TE}
theorem acc_add {K : PySem.W.Frag} {H H4 : Hp} {Dl : Addr} {us : List V} {ds : List PyData} {v : V} {d : PyData} {m : Nat} {R : Nat → PyData → Prop} (hf : ∀ i d, R i d → Fl m d) (e4 : Ex H H4) (p3 : H Dl = some (.lst us)) (p4 : DpAll K H us ds) (p6 : ∀ i d, ds[i]? = some d → R i d) (hr : R ds.length d) (hd : Dp K H4 v d) :
    DpAll K (upd H4 Dl (.lst (us ++ [v]))) (us ++ [v]) (ds ++ [d]) ∧ (ds ++ [d]).length = ds.length + 1 ∧ ∀ i x, (ds ++ [d])[i]? = some x → R i x := by
  refine ⟨dpa_app (dpa_monoN (n := m) (ExN.upd (e4 Dl _ p3)) (fun x hx => ?_) (dpa_mono e4 p4)) (.cons (dp_monoN (ExN.upd (e4 Dl _ p3)) (hf _ d hr) hd) .nil), by simp, fun k x hk => ?_⟩
  · obtain ⟨k, hk⟩ := List.getElem?_of_mem hx
    exact hf k x (p6 k x hk)
  · by_cases hlt : k < ds.length
    · rw [List.getElem?_append_left hlt] at hk
      exact p6 k x hk
    · rw [List.getElem?_append_right (by omega)] at hk
      have hk0 : k - ds.length = 0 := by
        by_cases z : k - ds.length = 0
        · exact z
        · rw [List.getElem?_eq_none (by simp; omega)] at hk
          cases hk
      rw [hk0] at hk
      have ek : k = ds.length := by omega
      rw [ek, ← Option.some.inj hk]
      exact hr
/-- [f(x) for x in a tuple] -/
theorem epl_mapT {j : Nat} {vs : List Nat} {a : Addr} {xs : List V} {R : Nat → PyData → Prop} (h : Ev tl σ H (.ref a)) (hx : SqT K H a xs) (hz : xs.length ≤ 40000) (hw : ∀ x, wipe ((wipe σ vs).set j (some x)) vs = wipe σ vs) {m : Nat} (hf : ∀ i d, R i d → Fl m d)
    (he : ∀ (i : Nat) x H1, xs[i]? = some x → Ex H H1 → EP K te ((wipe σ vs).set j (some x)) H1 (R i)) : EPL K (tLc (iTup K tl) (gName j) tYes te vs) σ H (fun ds => ds.length = xs.length ∧ ∀ i d, ds[i]? = some d → R i d) := by
  intro H0 e Q q
  refine h H0 e _ fun H1 e1 => ⟨a, rfl, ⟨xs, ex_t (e.trans e1) hx⟩, fun Dl hD => ?_⟩
  refine lc_tup (xs := xs) (fun i H' => H1 Dl = none ∧ Ex H1 H' ∧ ∃ us ds, H' Dl = some (.lst us) ∧ DpAll K H' us ds ∧ ds.length = i ∧ ∀ i d, ds[i]? = some d → R i d) ⟨hD, Ex.new hD, [], [], upd_same, .nil, rfl, fun i d z => nomatch z⟩ (fun i H' _ p => ex_t ((e.trans e1).trans p.2.1) hx) (fun i x H' hi p => ⟨hw x, ?_⟩) (fun H' p => ?_)
  · obtain ⟨p1, p2, us, ds, p3, p4, p5, p6⟩ := p
    have hi2 := (List.getElem?_eq_some_iff.mp hi).1
    show te ((wipe σ vs).set j (some x)) H' _
    refine he i x H1 hi (e.trans e1) H' p2 _ fun v d H4 e4 hr hd => ⟨us, e4 Dl _ p3, sz_lt (by rw [dpa_len p4, p5]; omega), p1, (p2.trans e4).mut p1, us ++ [v], ds ++ [d], upd_same, ?_⟩
    rw [← p5] at hr ⊢
    exact acc_add hf e4 p3 p4 p6 hr hd
  · obtain ⟨p1, p2, us, ds, p3, p4, p5, p6⟩ := p
    exact q Dl us ds H' (fresh_back e1 p1) (e1.trans p2) p3 ⟨p5, p6⟩ p4
/-- [f(x) for x in a list] -/
theorem epl_mapL {j : Nat} {vs : List Nat} {a : Addr} {xs : List V} {R : Nat → PyData → Prop} (h : Ev tl σ H (.ref a)) (hx : SqL K H a xs) (hz : xs.length ≤ 40000) (hw : ∀ x, wipe ((wipe σ vs).set j (some x)) vs = wipe σ vs) {m : Nat} (hf : ∀ i d, R i d → Fl m d)
    (he : ∀ (i : Nat) x H1, xs[i]? = some x → Ex H H1 → EP K te ((wipe σ vs).set j (some x)) H1 (R i)) : EPL K (tLc (iList K tl) (gName j) tYes te vs) σ H (fun ds => ds.length = xs.length ∧ ∀ i d, ds[i]? = some d → R i d) := by
  intro H0 e Q q
  refine h H0 e _ fun H1 e1 => ⟨a, rfl, ⟨xs, ex_l (e.trans e1) hx⟩, fun Dl hD => ?_⟩
  refine lc_list (xs := xs) (fun i H' => H1 Dl = none ∧ Ex H1 H' ∧ ∃ us ds, H' Dl = some (.lst us) ∧ DpAll K H' us ds ∧ ds.length = i ∧ ∀ i d, ds[i]? = some d → R i d) ⟨hD, Ex.new hD, [], [], upd_same, .nil, rfl, fun i d z => nomatch z⟩ (fun i H' _ p => ex_l ((e.trans e1).trans p.2.1) hx) (fun i x H' hi p => ⟨hw x, ?_⟩) (fun H' p => ?_)
  · obtain ⟨p1, p2, us, ds, p3, p4, p5, p6⟩ := p
    have hi2 := (List.getElem?_eq_some_iff.mp hi).1
    show te ((wipe σ vs).set j (some x)) H' _
    refine he i x H1 hi (e.trans e1) H' p2 _ fun v d H4 e4 hr hd => ⟨us, e4 Dl _ p3, sz_lt (by rw [dpa_len p4, p5]; omega), p1, (p2.trans e4).mut p1, us ++ [v], ds ++ [d], upd_same, ?_⟩
    rw [← p5] at hr ⊢
    exact acc_add hf e4 p3 p4 p6 hr hd
  · obtain ⟨p1, p2, us, ds, p3, p4, p5, p6⟩ := p
    exact q Dl us ds H' (fresh_back e1 p1) (e1.trans p2) p3 ⟨p5, p6⟩ p4
end
/-- tuple(a new list of data) -/
theorem ep_tupOf {K : PySem.W.Frag} {σ : L2.St} {H : Hp} {te : TE} {R : PyData → Prop} {S : List PyData → Prop} (h : EPL K te σ H S) (i : ∀ ds, S ds → R (.tuple ds)) : EP K (tCB (rTupOf K) (tCons te tNil)) σ H R := fun H1 e Q q =>
  h H1 e _ fun p vs ds H2 _ e2 hp hs hds => ⟨p, vs, rfl, .inl ⟨sq_of hp, fun l hl => q _ _ _ (e2.trans (Ex.new hl)) (i ds hs) (.tup (st_of upd_same) (dpa_mono (Ex.new hl) hds))⟩⟩
theorem list_same {ds es : List PyData} (hl : ds.length = es.length) (h : ∀ (i : Nat) (d : PyData), ds[i]? = some d → es[i]? = some d) : ds = es := by
  refine List.ext_getElem? fun i => ?_
  by_cases hi : i < ds.length
  · rw [List.getElem?_eq_getElem hi]
    exact (h i _ (List.getElem?_eq_getElem hi)).symm
  · rw [List.getElem?_eq_none (by omega), List.getElem?_eq_none (by omega)]
/-- isinstance of data against tuple, list -/
def isTup : PyData → Bool
  | .tuple _ => true
  | _ => false
def isLst : PyData → Bool
  | .list _ => true
  | _ => false
def isStrD : PyData → Bool
  | .str _ => true
  | _ => false
def isIntD : PyData → Bool
  | .int _ => true
  | .bool _ => true
  | _ => false
def isBoolD : PyData → Bool
  | .bool _ => true
  | _ => false
theorem tyx_lst {K : PySem.W.Frag} {H : Hp} {a : Addr} {xs : List V} (h : SqL K H a xs) : TyX K H (.ref a) (.type "list") := by
  rcases h with (h | ⟨o, h⟩) | ⟨o, its, n, h, hc, _⟩
  · exact .base (.lst h)
  · exact .base (.frz h)
  · exact .kList h hc
theorem ev_isT {K : PySem.W.Frag} {σ : L2.St} {H : Hp} {te : TE} {x : V} {d : PyData} (h : Ev te σ H x) (hd : Dp K H x d) : Ev (tCB (rIsi K) (tCons te (tCons (tC (.ty "tuple")) tNil))) σ H (.bl (isTup d)) := by
  cases hd with
  | non => exact ev_isi (a := "NoneType") (r := false) h (fun _ _ => .base .non) (by decide +kernel)
  | bl b => exact ev_isi (a := "bool") (r := false) h (fun _ _ => .base (.bl b)) (by decide +kernel)
  | int i => exact ev_isi (a := "int") (r := false) h (fun _ _ => .base (.int i)) (by decide +kernel)
  | str z => exact ev_isi (a := "str") (r := false) h (fun _ _ => .base (.str z)) (by decide +kernel)
  | lst hs _ => exact ev_isi (a := "list") (r := false) h (fun H2 e2 => tyx_lst (ex_l e2 hs)) (by decide +kernel)
  | tup hs _ => exact ev_isi (a := "tuple") (r := true) h (fun H2 e2 => tyx_tup (ex_t e2 hs)) (by decide +kernel)
theorem ev_isL {K : PySem.W.Frag} {σ : L2.St} {H : Hp} {te : TE} {x : V} {d : PyData} (h : Ev te σ H x) (hd : Dp K H x d) : Ev (tCB (rIsi K) (tCons te (tCons (tC (.ty "list")) tNil))) σ H (.bl (isLst d)) := by
  cases hd with
  | non => exact ev_isi (a := "NoneType") (r := false) h (fun _ _ => .base .non) (by decide +kernel)
  | bl b => exact ev_isi (a := "bool") (r := false) h (fun _ _ => .base (.bl b)) (by decide +kernel)
  | int i => exact ev_isi (a := "int") (r := false) h (fun _ _ => .base (.int i)) (by decide +kernel)
  | str z => exact ev_isi (a := "str") (r := false) h (fun _ _ => .base (.str z)) (by decide +kernel)
  | lst hs _ => exact ev_isi (a := "list") (r := true) h (fun H2 e2 => tyx_lst (ex_l e2 hs)) (by decide +kernel)
  | tup hs _ => exact ev_isi (a := "tuple") (r := false) h (fun H2 e2 => tyx_tup (ex_t e2 hs)) (by decide +kernel)
theorem ev_isS {K : PySem.W.Frag} {σ : L2.St} {H : Hp} {te : TE} {x : V} {d : PyData} (h : Ev te σ H x) (hd : Dp K H x d) : Ev (tCB (rIsi K) (tCons te (tCons (tC (.ty "str")) tNil))) σ H (.bl (isStrD d)) := by
  cases hd with
  | non => exact ev_isi (a := "NoneType") (r := false) h (fun _ _ => .base .non) (by decide +kernel)
  | bl b => exact ev_isi (a := "bool") (r := false) h (fun _ _ => .base (.bl b)) (by decide +kernel)
  | int i => exact ev_isi (a := "int") (r := false) h (fun _ _ => .base (.int i)) (by decide +kernel)
  | str z => exact ev_isi (a := "str") (r := true) h (fun _ _ => .base (.str z)) (by decide +kernel)
  | lst hs _ => exact ev_isi (a := "list") (r := false) h (fun H2 e2 => tyx_lst (ex_l e2 hs)) (by decide +kernel)
  | tup hs _ => exact ev_isi (a := "tuple") (r := false) h (fun H2 e2 => tyx_tup (ex_t e2 hs)) (by decide +kernel)
theorem ev_isNum {K : PySem.W.Frag} {σ : L2.St} {H : Hp} {te : TE} {x : V} {d : PyData} (h : Ev te σ H x) (hd : Dp K H x d) : Ev (tCB (rIsi K) (tCons te (tCons (tC (.ty "int")) tNil))) σ H (.bl (isIntD d)) := by
  cases hd with
  | non => exact ev_isi (a := "NoneType") (r := false) h (fun _ _ => .base .non) (by decide +kernel)
  | bl b => exact ev_isi (a := "bool") (r := true) h (fun _ _ => .base (.bl b)) (by decide +kernel)
  | int i => exact ev_isi (a := "int") (r := true) h (fun _ _ => .base (.int i)) (by decide +kernel)
  | str z => exact ev_isi (a := "str") (r := false) h (fun _ _ => .base (.str z)) (by decide +kernel)
  | lst hs _ => exact ev_isi (a := "list") (r := false) h (fun H2 e2 => tyx_lst (ex_l e2 hs)) (by decide +kernel)
  | tup hs _ => exact ev_isi (a := "tuple") (r := false) h (fun H2 e2 => tyx_tup (ex_t e2 hs)) (by decide +kernel)
theorem ev_isBl {K : PySem.W.Frag} {σ : L2.St} {H : Hp} {te : TE} {x : V} {d : PyData} (h : Ev te σ H x) (hd : Dp K H x d) : Ev (tCB (rIsi K) (tCons te (tCons (tC (.ty "bool")) tNil))) σ H (.bl (isBoolD d)) := by
  cases hd with
  | non => exact ev_isi (a := "NoneType") (r := false) h (fun _ _ => .base .non) (by decide +kernel)
  | bl b => exact ev_isi (a := "bool") (r := true) h (fun _ _ => .base (.bl b)) (by decide +kernel)
  | int i => exact ev_isi (a := "int") (r := false) h (fun _ _ => .base (.int i)) (by decide +kernel)
  | str z => exact ev_isi (a := "str") (r := false) h (fun _ _ => .base (.str z)) (by decide +kernel)
  | lst hs _ => exact ev_isi (a := "list") (r := false) h (fun H2 e2 => tyx_lst (ex_l e2 hs)) (by decide +kernel)
  | tup hs _ => exact ev_isi (a := "tuple") (r := false) h (fun H2 e2 => tyx_tup (ex_t e2 hs)) (by decide +kernel)
/-- an item of a list or a tuple -/
def rIxD (K : PySem.W.Frag) : R2 := fun x y H Q => rIxL K x y H Q ∨ rIxT K x y H Q
theorem ix_any {X : Cx} {r1 r2 : R2} (h1 : IxR X r1) (h2 : IxR X r2) : IxR X (fun x y H Q => r1 x y H Q ∨ r2 x y H Q) := fun value slice pins s σ H x y v u Q I rx ry h hs => h.elim (fun h => h1 value slice pins s σ H x y v u Q I rx ry h hs) (fun h => h2 value slice pins s σ H x y v u Q I rx ry h hs)
theorem op_any {X : Cx} {f : Value → Value → Sem Value} {r1 r2 : R2} (h1 : OpR X f r1) (h2 : OpR X f r2) : OpR X f (fun x y H Q => r1 x y H Q ∨ r2 x y H Q) := fun pins s σ H x y v u Q I rx ry h => h.elim (fun h => h1 pins s σ H x y v u Q I rx ry h) (fun h => h2 pins s σ H x y v u Q I rx ry h)


/-! ### version texts -/
def mkS (l : List Nat) : Str := ⟨l.toArray⟩
theorem mkS_inj {a b : List Nat} (h : mkS a = mkS b) : a = b := by
  have := congrArg (fun z : Str => z.cps.toList) h
  simpa [mkS] using this
theorem mkS_codes (z : Str) : z = mkS z.cps.toList := mk_of rfl
theorem mkS_len (l : List Nat) : (mkS l).length = l.length := by rw [str_len] <;> rfl
def stC (c : Nat) : Bool := decide (c = 126 ∨ c = 94)
theorem tw_lt {p : Nat → Bool} : ∀ {l : List Nat} {i : Nat}, i < (l.takeWhile p).length → ∃ c, l[i]? = some c ∧ p c = true
  | [], i, h => by simp at h
  | a :: l, i, h => by
    by_cases ha : p a = true
    · rw [List.takeWhile_cons_of_pos ha] at h
      cases i with
      | zero => exact ⟨a, rfl, ha⟩
      | succ i =>
        obtain ⟨c, h1, h2⟩ := tw_lt (l := l) (i := i) (by simpa using h)
        exact ⟨c, by simpa using h1, h2⟩
    · rw [List.takeWhile_cons_of_neg ha] at h
      simp at h
theorem tw_eq {p : Nat → Bool} : ∀ {l : List Nat} {c : Nat}, l[(l.takeWhile p).length]? = some c → p c = false
  | [], c, h => by simp at h
  | a :: l, c, h => by
    by_cases ha : p a = true
    · rw [List.takeWhile_cons_of_pos ha] at h
      exact tw_eq (l := l) (by simpa using h)
    · rw [List.takeWhile_cons_of_neg ha] at h
      have e : a = c := by simpa using h
      rw [← e]
      simpa using ha
theorem tw_le (p : Nat → Bool) (l : List Nat) : (l.takeWhile p).length ≤ l.length := by
  induction l with
  | nil => simp
  | cons a l ih =>
    by_cases ha : p a = true
    · rw [List.takeWhile_cons_of_pos ha]; simp; exact ih
    · rw [List.takeWhile_cons_of_neg ha]; simp
/-- the length without the steps at the end -/
def rsz (l : List Nat) : Nat := l.length - (l.reverse.takeWhile stC).length
theorem rsz_le (l : List Nat) : rsz l ≤ l.length := Nat.sub_le _ _
theorem rev_at {l : List Nat} {i : Nat} (h : i < l.length) : l.reverse[i]? = l[l.length - 1 - i]? := by
  rw [List.getElem?_reverse h]
/-- what the law's own loop keeps -/
theorem rsz_step {l : List Nat} {k s : Nat} (hk : k < l.length) (hs : s = max (rsz l) (l.length - k)) : (0 < s → ∃ c, l[s - 1]? = some c ∧ (if stC c = true then s - 1 else s) = max (rsz l) (l.length - (k + 1))) ∧ (s = 0 → s = max (rsz l) (l.length - (k + 1))) := by
  have hw := tw_le stC l.reverse
  rw [List.length_reverse] at hw
  unfold rsz at *
  refine ⟨fun h0 => ?_, fun h0 => by omega⟩
  by_cases hkw : k < (l.reverse.takeWhile stC).length
  · obtain ⟨c, h1, h2⟩ := tw_lt hkw
    rw [rev_at hk] at h1
    have e : s - 1 = l.length - 1 - k := by omega
    refine ⟨c, by rw [e]; exact h1, ?_⟩
    rw [if_pos h2]
    omega
  · have hlt : l.length - (l.reverse.takeWhile stC).length - 1 < l.length := by omega
    have es : s = l.length - (l.reverse.takeWhile stC).length := by omega
    have hp : (l.reverse.takeWhile stC).length < l.length := by omega
    have e2 := rev_at hp
    obtain ⟨c, hc⟩ : ∃ c, l[s - 1]? = some c := ⟨_, List.getElem?_eq_getElem (by omega)⟩
    have e3 : l.reverse[(l.reverse.takeWhile stC).length]? = some c := by
      rw [e2, ← hc]
      congr 1
      omega
    have := tw_eq e3
    refine ⟨c, hc, ?_⟩
    rw [if_neg (by rw [this]; exact Bool.false_ne_true)]
    omega
def digC (c : Nat) : Bool := decide (48 ≤ c ∧ c ≤ 57)
def addrB (b : List Nat) : Bool := decide (1 ≤ b.length ∧ b.length ≤ 18) && (!decide (b.head? = some 48) && b.all digC)
def verD (b : List Nat) (s : Str) : Option PyData :=
  if b = [64] then some (.tuple [.str (Str.ofString "head"), .none, .str s])
  else if nameB (mkS b) = true then some (.tuple [.str (Str.ofString "name"), .str (mkS b), .str s])
  else if b.head? = some 47 ∧ nameB (mkS (b.drop 1)) = true then some (.tuple [.str (Str.ofString "far"), .str (mkS (b.drop 1)), .str s])
  else if b.head? = some 58 ∧ addrB (b.drop 1) = true then some (.tuple [.str (Str.ofString "address"), .int (PySem.NumText.digitsVal (b.drop 1) : Nat), .str s])
  else none
def verO (l : List Nat) : Option PyData := if 60 < l.length then none else verD (l.take (rsz l)) (mkS (l.drop (rsz l)))
theorem at_eq : Str.ofString "@" = mkS [64] := by decide +kernel
theorem rstrip_eq (z : Str) : Txt.rstripChars z (Str.ofString "~^") = mkS (z.cps.toList.take (rsz z.cps.toList)) := by
  have ec : (fun c => (Str.ofString "~^").cps.contains c) = stC := by
    funext c
    have e : (Str.ofString "~^").cps = #[126, 94] := by decide +kernel
    rw [e]
    show (#[126, 94] : Array Nat).contains c = decide (c = 126 ∨ c = 94)
    by_cases h : c = 126
    · subst h; simp
    · by_cases h2 : c = 94
      · subst h2; simp
      · rw [decide_eq_false (by omega)]
        simp [Array.contains, h, h2]
  have e0 : stripLo (fun c => (Str.ofString "~^").cps.contains c) false z = 0 := rfl
  have e1 : stripHi (fun c => (Str.ofString "~^").cps.contains c) true z 0 = rsz z.cps.toList := by
    show z.length - ((z.cps.toList.drop 0).reverse.takeWhile _).length = _
    rw [ec, List.drop_zero, str_len] <;> rfl
  show (if stripSame (fun c => (Str.ofString "~^").cps.contains c) false true z = true then z else stripped (fun c => (Str.ofString "~^").cps.contains c) false true z) = _
  unfold stripSame stripped
  rw [e0, e1]
  split
  · rename_i h
    have h2 : rsz z.cps.toList = z.length := by simpa using h
    rw [h2, str_len, List.take_length]
    exact mkS_codes z
  · refine str_ext ?_
    rw [PySem.StrLaws.strSub_toList, List.drop_zero, Nat.sub_zero] <;> rfl
theorem starts_one (b : List Nat) (c : Nat) : Txt.startswith (mkS b) (mkS [c]) = decide (b.head? = some c) := by
  unfold Txt.startswith
  rw [PySem.StrLaws.subAt_eq, mkS_len, mkS_len]
  show (decide (0 + 1 ≤ b.length) && ((b.drop 0).take 1 == [c])) = _
  cases b with
  | nil => rfl
  | cons a r =>
    show (decide (0 + 1 ≤ r.length + 1) && ([a] == [c])) = decide (some a = some c)
    rw [decide_eq_true (by omega), Bool.true_and]
    by_cases h : a = c
    · subst h; simp
    · simp [h]
theorem cutS_from (b : List Nat) (n : Nat) : cutS (mkS b) (some (n : Int)) none = mkS (b.drop n) := by
  refine str_ext ?_
  show (b.drop (HT.sIx (mkS b).length 0 (some (n : Int)))).take _ = b.drop n
  rw [HT.sIx_nat, mkS_len, HT.sIx_none]
  by_cases h : n ≤ b.length
  · rw [Nat.min_eq_left h, List.take_of_length_le (by rw [List.length_drop]; omega)]
  · rw [Nat.min_eq_right (by omega), List.drop_of_length_le (Nat.le_refl _), List.drop_of_length_le (by omega)] <;> simp
theorem cutS_to (b : List Nat) (n : Nat) : cutS (mkS b) none (some (n : Int)) = mkS (b.take n) := by
  refine str_ext ?_
  show (b.drop (HT.sIx (mkS b).length 0 none)).take (HT.sIx (mkS b).length (mkS b).length (some (n : Int)) - HT.sIx (mkS b).length 0 none) = b.take n
  rw [HT.sIx_nat, mkS_len, HT.sIx_none, List.drop_zero, Nat.sub_zero]
  by_cases h : n ≤ b.length
  · rw [Nat.min_eq_left h]
  · rw [Nat.min_eq_right (by omega), List.take_of_length_le (Nat.le_refl _), List.take_of_length_le (by omega)]
theorem take_len {l : List Nat} {n : Nat} (h : n ≤ l.length) : (l.take n).length = n := by rw [List.length_take]; omega
/-! ### comprehensions with a test over a text -/
theorem given_filter {l : List Nat} (p : Nat → Bool) (g : Nat → V) : given l.length (fun i => p (l.getD i 0)) (fun i => g (l.getD i 0)) = (l.filter p).map g := by
  have e : l = (List.range l.length).map fun i => l.getD i 0 := by
    refine List.ext_getElem? fun i => ?_
    rw [List.getElem?_map]
    by_cases hi : i < l.length
    · rw [List.getElem?_range hi, List.getElem?_eq_getElem hi, Option.map_some, List.getD_eq_getElem?_getD, List.getElem?_eq_getElem hi] <;> rfl
    · rw [List.getElem?_eq_none (by omega), List.getElem?_eq_none (by rw [List.length_range]; omega)] <;> rfl
  unfold given
  conv => rhs; rw [e, List.filter_map, List.map_map]
  rfl
theorem el_flS {σ : L2.St} {H : Hp} {te tl : TE} {tt : TT} {z : Str} {j : Nat} {vs : List Nat} {p : Nat → Bool} (h : Ev te σ H (.str z)) (hz : z.cps.toList.length ≤ 40000) (hw : ∀ x, wipe ((wipe σ vs).set j (some x)) vs = wipe σ vs)
    (ht : ∀ (c : Nat), c ∈ z.cps.toList → ∀ H1, Ex H H1 → EvT tt ((wipe σ vs).set j (some (.str ⟨#[c]⟩))) H1 (p c)) (he : ∀ (c : Nat) H1, Ex H H1 → Ev tl ((wipe σ vs).set j (some (.str ⟨#[c]⟩))) H1 (.str ⟨#[c]⟩)) : EvL (tLc (iStr te) (gName j) tt tl vs) σ H ((z.cps.toList.filter p).map fun c => .str ⟨#[c]⟩) := fun H0 e Q q => h H0 e _ fun H1 e1 => ⟨z, rfl, fun D hD => by
  rw [← given_filter (l := z.cps.toList) p fun c => .str ⟨#[c]⟩] at q
  refine ⟨fun i m H' => m = z.cps.toList.length - i ∧ i ≤ z.cps.toList.length ∧ Cw H1 (fun i => p (z.cps.toList.getD i 0)) (fun i => .str ⟨#[z.cps.toList.getD i 0]⟩) D i H', ⟨_, rfl, Nat.zero_le _, hD, Ex.new hD, upd_same⟩, ?_⟩
  rintro i m H' ⟨rfl, hi, pp⟩
  by_cases hlt : i < z.cps.toList.length
  · refine .inr ⟨(by show i < z.cps.size; simpa using hlt), Cw H1 (fun i => p (z.cps.toList.getD i 0)) (fun i => .str ⟨#[z.cps.toList.getD i 0]⟩) D (i + 1), fun H2 p2 => ⟨_, by omega, rfl, hlt, p2⟩, fun x H2 y => ?_⟩
    obtain ⟨rfl, c, hc, rfl⟩ := y
    have hc' : z.cps.toList[i]? = some c := by simpa using hc
    have ed : z.cps.toList.getD i 0 = c := by rw [List.getD_eq_getElem?_getD, hc'] <;> rfl
    have t1 := ht c (List.mem_of_getElem? hc') H1 (e.trans e1)
    have t2 := he c H1 (e.trans e1)
    refine ⟨hw _, cw_turn pp (by omega) (by rw [ed]; exact t1) fun _ => (by rw [ed]; exact t2)⟩
  · have ei : i = z.cps.toList.length := by omega
    subst ei
    exact .inl ⟨(by show z.cps.size ≤ z.cps.toList.length; simp), q D H' (fresh_back e1 pp.1) (e1.trans pp.2.1) pp.2.2⟩⟩
theorem dpa_strs {K : PySem.W.Frag} {H : Hp} : ∀ zs : List Str, DpAll K H (zs.map V.str) (zs.map PyData.str)
  | [] => .nil
  | z :: zs => .cons (.str z) (dpa_strs zs)
/-- a new list == [] -/
theorem ev_eqNil {K : PySem.W.Frag} {σ : L2.St} {H : Hp} {ta : TE} {zs : List Str} (h : EvL ta σ H (zs.map V.str)) (hz : ∀ z ∈ zs, SeqAt.shaped (.str z) = true) : Ev (tOp (rEqD K) ta (tLst tNil)) σ H (.bl zs.isEmpty) := by
  refine ev_opLL h (el_lst ea_nil (by decide)) fun p q H1 hp hq _ => rv_val fun H2 e2 Q k => ⟨_, _, .lst (sq_of (e2 _ _ hp)) (dpa_strs zs), .lst (sq_of (e2 _ _ hq)) .nil, shaped_lst (n := 0) (fun d hd => ?_) (by decide), by decide, ?_⟩
  · obtain ⟨z, hz', rfl⟩ := List.mem_map.mp hd
    exact .str 0 (hz z hz')
  · have e : PyData.eqv (.list (zs.map PyData.str)) (.list []) = zs.isEmpty := by
      cases zs <;> simp [PyData.eqv, PyData.eqvAll]
    rw [e]
    exact k
/-- [f(k) for k in range(n)], n any int -/
theorem el_mapRI {σ : L2.St} {H : Hp} {ta : TA} {te : TE} {j : Nat} {vs : List Nat} {n : Int} {ys : List V} (h : EvA ta σ H [.int n]) (hz : -100000 ≤ n ∧ n ≤ 40000) (hw : ∀ x, wipe ((wipe σ vs).set j (some x)) vs = wipe σ vs) (hl : ys.length = n.toNat)
    (he : ∀ (i : Nat) (y : V), (i : Int) < n → ys[i]? = some y → ∀ H1, Ex H H1 → Ev te ((wipe σ vs).set j (some (.int (i : Int)))) H1 y) : EvL (tLc (iRng1 ta) (gName j) tYes te vs) σ H ys := by
  intro H0 e Q q
  refine h H0 e _ fun H1 e1 => ⟨n, rfl, by omega, by omega, fun Dl hD => ?_⟩
  refine lc_range (n := n.toNat) (fun i H' => H1 Dl = none ∧ Ex H1 H' ∧ H' Dl = some (.lst (ys.take i))) ⟨hD, Ex.new hD, upd_same⟩ (fun i H' hi p => ⟨hw _, ?_⟩) (fun H' p => ?_)
  · obtain ⟨p1, p2, p3⟩ := p
    have hi2 : i < ys.length := by omega
    have hy : ys[i]? = some ys[i] := List.getElem?_eq_getElem hi2
    show te ((wipe σ vs).set j (some (.int (0 + (i : Int))))) H' _
    rw [Int.zero_add]
    refine he i ys[i] (by omega) hy H1 (e.trans e1) H' p2 _ fun H4 e4 => ⟨ys.take i, e4 Dl _ p3, sz_lt (by rw [List.length_take]; omega), p1, (p2.trans e4).mut p1, ?_⟩
    rw [upd_same, List.take_add_one, hy] <;> rfl
  · obtain ⟨p1, p2, p3⟩ := p
    rw [← hl, List.take_length] at p3
    exact q Dl H' (fresh_back e1 p1) (e1.trans p2) p3
/-- texts that the law makes -/
def TxOk (n : Nat) (z : Str) : Prop := z.length ≤ n ∧ ∀ c ∈ z.cps.toList, c ≤ 1000
theorem TxOk.sh {n : Nat} {z : Str} (h : TxOk n z) : SeqAt.shaped (.str z) = true := by
  unfold SeqAt.shaped
  have e : PyData.strOk z = true := by
    unfold PyData.strOk
    rw [Array.all_eq_true']
    intro c hc
    have := h.2 c (by simpa using hc)
    simp only [decide_eq_true_eq]
    omega
  rw [show (PyData.str z).canLay0 = PyData.strOk z by simp [PyData.canLay0], e] <;> rfl
theorem TxOk.app {n m : Nat} {a b : Str} (h : TxOk n a) (k : TxOk m b) : TxOk (n + m) (a ++ b) := by
  refine ⟨?_, fun c hc => ?_⟩
  · rw [str_len, codes_app rfl rfl, List.length_append, ← str_len, ← str_len]
    have := h.1
    have := k.1
    omega
  · rw [codes_app (x := a.cps.toList) (y := b.cps.toList) rfl rfl] at hc
    rcases List.mem_append.mp hc with z | z
    · exact h.2 c z
    · exact k.2 c z
theorem TxOk.cut {n : Nat} {z : Str} (h : TxOk n z) (lo hi : Option Int) : TxOk n (cutS z lo hi) := by
  refine ⟨Nat.le_trans (cutS_length z lo hi) h.1, fun c hc => h.2 c ?_⟩
  exact List.mem_of_mem_drop (List.mem_of_mem_take (by exact hc))
theorem TxOk.mono {n m : Nat} {z : Str} (h : TxOk n z) (e : n ≤ m) : TxOk m z := ⟨Nat.le_trans h.1 e, h.2⟩
theorem TxOk.one {c : Nat} (h : c ≤ 1000) : TxOk 1 ⟨#[c]⟩ := ⟨Nat.le_refl 1, fun d hd => by
  have : d = c := by simpa using hd
  omega⟩
/-- a join of signs -/
theorem ev_joinS {K : PySem.W.Frag} {σ : L2.St} {H : Hp} {te : TE} {l : List Nat} (h : EvL te σ H (l.map fun c => V.str ⟨#[c]⟩)) (hz : l.length ≤ 100000) :
    Ev (tM1 (fun x xs H Q => ∃ a p, ∃ ys : List Str, x = .str a ∧ xs = [.ref p] ∧ (SqL K H p (ys.map V.str) ∨ SqT K H p (ys.map V.str)) ∧ (ys.map (·.length)).sum + ys.length * a.length ≤ 16777216 ∧ Q (.str (Txt.join a ys)) H) (tC (.str (Str.ofString ""))) te) σ H (.str (mkS l)) := by
  have e : (l.map fun c => V.str ⟨#[c]⟩) = (l.map fun c => (⟨#[c]⟩ : Str)).map V.str := by rw [List.map_map] <;> rfl
  rw [e] at h
  refine ev_is (ev_joinN (K := K) ev_c h ?_) (congrArg V.str (join_signs l))
  rw [sum_ones, List.length_map]
  have : (Str.ofString "").length = 0 := by decide +kernel
  rw [this]
  omega
theorem ev_starts {σ : L2.St} {H : Hp} {to te : TE} {a b : Str} (h0 : Ev to σ H (.str a)) (h : Ev te σ H (.str b)) : Ev (tM1 (fun x xs H Q => ∃ a b, x = V.str a ∧ xs = [V.str b] ∧ Q (.bl (Txt.startswith a b)) H) to te) σ H (.bl (Txt.startswith a b)) := fun H1 e Q q =>
  h0 H1 e _ fun H2 e2 => ⟨⟨a, rfl⟩, h H2 (e.trans e2) _ fun H3 e3 => ⟨a, b, rfl, rfl, q H3 (e2.trans e3)⟩⟩
theorem ev_rstrip {σ : L2.St} {H : Hp} {to te : TE} {a b : Str} (h0 : Ev to σ H (.str a)) (h : Ev te σ H (.str b)) (hz : a.length ≤ 16777216) : Ev (tM1 (fun x xs H Q => ∃ a b, x = V.str a ∧ xs = [V.str b] ∧ a.length ≤ sizeLine ∧ Q (.str (Txt.rstripChars a b)) H) to te) σ H (.str (Txt.rstripChars a b)) := fun H1 e Q q =>
  h0 H1 e _ fun H2 e2 => ⟨⟨a, rfl⟩, h H2 (e.trans e2) _ fun H3 e3 => ⟨a, b, rfl, rfl, sizeOk hz, q H3 (e2.trans e3)⟩⟩
theorem ev_intS {σ : L2.St} {H : Hp} {te : TE} {a : Str} {n : Int} (h : Ev te σ H (.str a)) (hn : PySem.intText? a = some n) (hz : a.length ≤ 640) : Ev (tCB (fun xs H Q => ∃ a n, xs = [V.str a] ∧ PySem.intText? a = some n ∧ a.length ≤ 640 ∧ Q (.int n) H) (tCons te tNil)) σ H (.int n) := fun H1 e Q q =>
  h H1 e _ fun H2 e2 => ⟨a, n, rfl, hn, hz, q H2 e2⟩
theorem addr_int {b : List Nat} (h : addrB b = true) : PySem.intText? (mkS b) = some ((PySem.NumText.digitsVal b : Nat) : Int) ∧ (mkS b).length ≤ 640 := by
  unfold addrB at h
  simp only [Bool.and_eq_true, decide_eq_true_eq, List.all_eq_true] at h
  obtain ⟨h1, _, h2⟩ := h
  refine ⟨intText_digits (x := mkS b) (fun c hc => ?_) (fun z => ?_) (by rw [mkS_len]; omega), by rw [mkS_len]; omega⟩
  · have := h2 c hc
    unfold digC at this
    simpa using this
  · have : b = [] := z
    subst this
    simp at h1
theorem ev_intB {σ : L2.St} {H : Hp} {te : TE} {b : Bool} (h : Ev te σ H (.bl b)) : Ev (tCB (fun xs H Q => (∃ i, xs = [V.int i] ∧ Q (.int i) H) ∨ ∃ k, xs = [V.bl k] ∧ Q (.int (if k = true then 1 else 0)) H) (tCons te tNil)) σ H (.int (if b = true then 1 else 0)) := fun H1 e Q q =>
  h H1 e _ fun H2 e2 => .inr ⟨b, rfl, q H2 e2⟩


/-! ### what evaluates to some text -/
def ES (te : TE) (σ : L2.St) (H : Hp) (R : Str → Prop) : Prop := ∀ H1, Ex H H1 → ∀ Q : VK, (∀ z H2, Ex H1 H2 → R z → Q (.str z) H2) → te σ H1 Q
def ESA (ta : TA) (σ : L2.St) (H : Hp) (R : Str → Prop) (n : Nat) : Prop := ∀ H1, Ex H H1 → ∀ Q : List V → Hp → Prop, (∀ (zs : List Str) H2, Ex H1 H2 → zs.length = n → (∀ z ∈ zs, R z) → Q (zs.map V.str) H2) → ta σ H1 Q
section
variable {K : PySem.W.Frag} {σ : L2.St} {H : Hp} {te ta tb : TE} {R R1 R2 : Str → Prop}
theorem es_ev {z : Str} (h : Ev te σ H (.str z)) (r : R z) : ES te σ H R := fun H1 e Q q => h H1 e _ fun H2 e2 => q z H2 e2 r
theorem ES.imp (h : ES te σ H R1) (i : ∀ z, R1 z → R z) : ES te σ H R := fun H1 e Q q => h H1 e Q fun z H2 e2 r => q z H2 e2 (i z r)
theorem ES.mono {H' : Hp} (e : Ex H H') (h : ES te σ H R) : ES te σ H' R := fun H1 e1 => h H1 (e.trans e1)
theorem es_add (ha : ES ta σ H R1) (hb : ES tb σ H R2) (hR : ∀ a b, R1 a → R2 b → a.length + b.length ≤ 16777216 ∧ R (a ++ b)) : ES (tOp (fun x y H Q => ∃ i j, x = V.str i ∧ y = V.str j ∧ i.length + j.length ≤ sizeLine ∧ Q (.str (i ++ j)) H) ta tb) σ H R := fun H1 e Q q =>
  ha H1 e _ fun a H2 e2 ra => hb H2 (e.trans e2) _ fun b H3 e3 rb => ⟨a, b, rfl, rfl, sizeOk (hR a b ra rb).1, q _ H3 (e2.trans e3) (hR a b ra rb).2⟩
theorem esa_nil : ESA tNil σ H R 0 := fun H1 _ _ q => q [] H1 (Ex.refl H1) rfl fun _ z => nomatch z
theorem esa_cons {tr : TA} {n : Nat} (h : ES te σ H R) (r : ESA tr σ H R n) : ESA (tCons te tr) σ H R (n + 1) := fun H1 e Q q =>
  h H1 e _ fun z H2 e2 rz => r H2 (e.trans e2) _ fun zs H3 e3 hl hz => q (z :: zs) H3 (e2.trans e3) (by rw [List.length_cons, hl]) fun y hy => by
    rcases List.mem_cons.mp hy with h | h
    · rw [h]; exact rz
    · exact hz y h
theorem es_ixN {tr : TA} {n : Nat} {i : Int} (h : ESA tr σ H R n) (hi : ∀ H1, Ex H H1 → Ev tb σ H1 (.int i)) (h0 : 0 ≤ i) (h1 : i < n) (hn : n ≤ 100000) : ES (tOp (rIxL K) (tLst tr) tb) σ H R := fun H1 e Q q =>
  h H1 e _ fun zs H2 e2 hl hz => ⟨sz_of (by rw [List.length_map, hl]; exact hn), fun p hp => hi _ (e.trans (e2.trans (Ex.new hp))) _ (Ex.refl _) _ fun H3 e3 => by
    obtain ⟨z, hzz⟩ : ∃ z, zs[i.toNat]? = some z := ⟨_, List.getElem?_eq_getElem (by omega)⟩
    exact ⟨p, zs.map V.str, i, .str z, rfl, rfl, sq_of (e3 _ _ upd_same), atI_of h0 (by rw [List.getElem?_map, hzz] <;> rfl), q z H3 ((e2.trans (Ex.new hp)).trans e3) (hz z (List.mem_of_getElem? hzz))⟩⟩
theorem q_asgS {D : Ends} {tz : TS} {i : Nat} (h : ES te σ H R) (k : ∀ z H1, Ex H H1 → R z → tz D (σ.set i (some (.str z))) H1) : tSeq (tAsg te (gName i)) tz D σ H := h H (Ex.refl H) _ k
theorem s_asgS {D : Ends} {i : Nat} (h : ES te σ H R) (k : ∀ z H1, Ex H H1 → R z → D.nx (σ.set i (some (.str z))) H1) : tAsg te (gName i) D σ H := h H (Ex.refl H) _ k
theorem s_retS {D : Ends} (h : ES te σ H R) (k : ∀ z H1, Ex H H1 → R z → D.rt (.str z) H1) : tRet te D σ H := h H (Ex.refl H) _ k
end
/-- for x in [a, b, c], texts -/
theorem s_forTx {K : PySem.W.Frag} {σ : L2.St} {H : Hp} {ta : TA} {tu : TS} {D : Ends} {j n : Nat} {R : Str → Prop} (h : ESA ta σ H R n) (hn : n ≤ 100000) (Pv : Hp → L2.St → Hp → Prop) (h0 : ∀ H1, Ex H H1 → Pv H1 σ H1) (he : ∀ H1 σ' H', Pv H1 σ' H' → Ex H1 H')
    (hs : ∀ H1 z σ' H', Ex H H1 → R z → Pv H1 σ' H' → tu { D with nx := Pv H1, ct := Pv H1, bk := D.nx } (σ'.set j (some (.str z))) H') (hd : ∀ H1 σ' H', Ex H H1 → Pv H1 σ' H' → D.nx σ' H') : tFor (iList K (tLst ta)) (gName j) tu D σ H := by
  refine h H (Ex.refl H) _ fun zs H2 e2 hl hz => ⟨sz_of (by rw [List.length_map, hl]; exact hn), fun p hp => ⟨p, rfl, ⟨zs.map V.str, sq_of upd_same⟩, ?_⟩⟩
  have e3 := e2.trans (Ex.new (o := .lst (zs.map V.str)) hp)
  refine for_list (xs := zs.map V.str) (fun i σ' H' => Pv (upd H2 p (.lst (zs.map V.str))) σ' H') (h0 _ e3) (fun i σ' H' _ hP => sq_of (he _ _ _ hP p _ upd_same)) (fun i x σ' H' hi hP => ?_) (fun σ' H' hP => hd _ _ _ e3 hP)
  rw [List.getElem?_map] at hi
  cases e : zs[i]? with
  | none => rw [e] at hi; cases hi
  | some z =>
    rw [e] at hi
    have ex : x = .str z := (Option.some.inj hi).symm
    subst ex
    exact hs _ z σ' H' e3 (hz z (List.mem_of_getElem? e)) hP


/-! ### expressions -/
inductive Bop | add | sub | mul | equal | unequal | less | atmost | more | atleast | and | or
  deriving DecidableEq
def Bop.s : Bop → Str
  | .add => "add"
  | .sub => "sub"
  | .mul => "mul"
  | .equal => "equal"
  | .unequal => "unequal"
  | .less => "less"
  | .atmost => "atmost"
  | .more => "more"
  | .atleast => "atleast"
  | .and => "and"
  | .or => "or"
inductive Tr | int (n : Int) | text (z : Str) | col (z : Str) | neg (a : Tr) | null (a : Tr) | not (a : Tr) | bin (o : Bop) (a b : Tr)
def Tr.d : Tr → PyData
  | .int n => .tuple [.str "int", .int n]
  | .text z => .tuple [.str "text", .str z]
  | .col z => .tuple [.str "column", .str z]
  | .neg a => .tuple [.str "neg", a.d]
  | .null a => .tuple [.str "null", a.d]
  | .not a => .tuple [.str "not", a.d]
  | .bin o a b => .tuple [.str o.s, a.d, b.d]
def Tr.h : Tr → Nat
  | .int _ => 0
  | .text _ => 0
  | .col _ => 0
  | .neg a => a.h + 1
  | .null a => a.h + 1
  | .not a => a.h + 1
  | .bin _ a b => max a.h b.h + 1
inductive Kd | int | text | truth
  deriving DecidableEq
def Kd.s : Kd → Str
  | .int => "int"
  | .text => "text"
  | .truth => "truth"
def Bop.ar (o : Bop) : Bool := o = .add ∨ o = .sub ∨ o = .mul
def Bop.lg (o : Bop) : Bool := o = .and ∨ o = .or
/-- the columns: names and kinds -/
abbrev Cols := List (Str × Kd)
inductive Ty (cs : Cols) : Tr → Kd → Prop
  | int {n : Int} (h : 0 ≤ n ∧ n < 10 ^ 18) : Ty cs (.int n) .int
  | text {z : Str} (h : SeqAt.shaped (.str z) = true) : Ty cs (.text z) .text
  | col {z : Str} {k : Kd} (h : SeqAt.shaped (.str z) = true) (hk : k ≠ .truth) (f : (cs.find? fun c => decide (c.1 = z)).map (·.2) = some k) : Ty cs (.col z) k
  | neg {a : Tr} (h : Ty cs a .int) : Ty cs (.neg a) .int
  | null {a : Tr} {k : Kd} (h : Ty cs a k) (hk : k ≠ .truth) : Ty cs (.null a) .truth
  | not {a : Tr} (h : Ty cs a .truth) : Ty cs (.not a) .truth
  | ar {o : Bop} {a b : Tr} (ho : o.ar = true) (h : Ty cs a .int) (h2 : Ty cs b .int) : Ty cs (.bin o a b) .int
  | cmp {o : Bop} {a b : Tr} {k : Kd} (ho : o.ar = false) (ho2 : o.lg = false) (hk : k ≠ .truth) (h : Ty cs a k) (h2 : Ty cs b k) : Ty cs (.bin o a b) .truth
  | lg {o : Bop} {a b : Tr} (ho : o.lg = true) (h : Ty cs a .truth) (h2 : Ty cs b .truth) : Ty cs (.bin o a b) .truth
theorem Ty.fl {cs : Cols} {t : Tr} {k : Kd} (h : Ty cs t k) : Fl (t.h + 1) t.d := by
  have two : ∀ {n : Nat} {a : String} {d : PyData}, SeqAt.shaped (.str (Str.ofString a)) = true → Fl n d → Fl (n + 1) (.tuple [.str a, d]) := fun hs h => .tup fun x hx => by
    simp only [List.mem_cons, List.not_mem_nil, or_false] at hx
    rcases hx with z | z <;> rw [z]
    · exact .str _ hs
    · exact h
  have s : ∀ o : Bop, SeqAt.shaped (.str o.s) = true := by intro o; cases o <;> decide +kernel
  have three : ∀ {o : Bop} {n m : Nat} {d e : PyData}, Fl n d → Fl m e → Fl (max n m + 1) (.tuple [.str o.s, d, e]) := fun {o n m d e} h1 h2 => .tup fun x hx => by
    simp only [List.mem_cons, List.not_mem_nil, or_false] at hx
    rcases hx with z | z | z <;> rw [z]
    · exact .str _ (s o)
    · exact h1.mono (Nat.le_max_left _ _)
    · exact h2.mono (Nat.le_max_right _ _)
  have mx : ∀ {o : Bop} {a b : Tr}, Fl (a.h + 1) a.d → Fl (b.h + 1) b.d → Fl ((Tr.bin o a b).h + 1) (Tr.bin o a b).d := fun {o a b} h1 h2 => (three (o := o) h1 h2).mono (by show _ ≤ max a.h b.h + 1 + 1; omega)
  induction h with
  | int h => exact two (by decide +kernel) (.int 0 _)
  | text h => exact two (by decide +kernel) (.str 0 h)
  | col h _ _ => exact two (by decide +kernel) (.str 0 h)
  | neg _ ih => exact two (by decide +kernel) ih
  | null _ _ ih => exact two (by decide +kernel) ih
  | not _ ih => exact two (by decide +kernel) ih
  | ar _ _ _ i1 i2 => exact mx i1 i2
  | cmp _ _ _ _ _ i1 i2 => exact mx i1 i2
  | lg _ _ _ i1 i2 => exact mx i1 i2
theorem lg_ar {o : Bop} (h : o.ar = true) (h2 : o.lg = true) : False := by cases o <;> simp [Bop.ar, Bop.lg] at h h2
theorem Ty.kd_u {cs : Cols} {t : Tr} {k k' : Kd} (h : Ty cs t k) (h2 : Ty cs t k') : k = k' := by
  cases h with
  | int _ => cases h2; rfl
  | text _ => cases h2; rfl
  | col _ _ f =>
    cases h2 with
    | col _ _ f2 => exact Option.some.inj (f.symm.trans f2)
  | neg _ => cases h2; rfl
  | null _ _ => cases h2; rfl
  | not _ => cases h2; rfl
  | ar ho _ _ =>
    cases h2 with
    | ar _ _ _ => rfl
    | cmp h _ _ _ _ => exact Bool.noConfusion (ho.symm.trans h)
    | lg h _ _ => exact (lg_ar ho h).elim
  | cmp ho ho2 _ _ _ =>
    cases h2 with
    | ar h _ _ => exact Bool.noConfusion (h.symm.trans ho)
    | cmp _ _ _ _ _ => rfl
    | lg h _ _ => exact Bool.noConfusion (h.symm.trans ho2)
  | lg ho _ _ =>
    cases h2 with
    | ar h _ _ => exact (lg_ar h ho).elim
    | cmp _ h _ _ _ => exact Bool.noConfusion (ho.symm.trans h)
    | lg _ _ _ => rfl
/-! ### values -/
def bndV (n : Int) : V := if n.natAbs < 10 ^ 60 then .int n else .non
def colV : Cols → List V → Str → V
  | (c, _) :: cs, v :: vs, z => if c = z then v else colV cs vs z
  | _, _, _ => .non
def cmpV (o : Bop) (x y : V) : V := match x, y with
  | .int i, .int j => (match o with
    | .add => bndV (i + j)
    | .sub => bndV (i - j)
    | .mul => bndV (i * j)
    | .equal => .bl (decide (i = j))
    | .unequal => .bl (!decide (i = j))
    | .less => .bl (decide (i < j))
    | .atmost => .bl (decide (i ≤ j))
    | .more => .bl (decide (j < i))
    | .atleast => .bl (decide (j ≤ i))
    | _ => .non)
  | .str i, .str j => (match o with
    | .equal => .bl (decide (i = j))
    | .unequal => .bl (!decide (i = j))
    | .less => .bl (decide (i.cps.toList < j.cps.toList))
    | .atmost => .bl (!decide (j.cps.toList < i.cps.toList))
    | .more => .bl (decide (j.cps.toList < i.cps.toList))
    | .atleast => .bl (!decide (i.cps.toList < j.cps.toList))
    | _ => .non)
  | _, _ => .non
def andV (x y : V) : V := if x = .bl false ∨ y = .bl false then .bl false else if x = .non ∨ y = .non then .non else .bl true
def orV (x y : V) : V := if x = .bl true ∨ y = .bl true then .bl true else if x = .non ∨ y = .non then .non else .bl false
def evT (cs : Cols) (row : List V) : Tr → V
  | .int n => .int n
  | .text z => .str z
  | .col z => colV cs row z
  | .neg a => match evT cs row a with
    | .int i => bndV (-i)
    | _ => .non
  | .null a => .bl (decide (evT cs row a = .non))
  | .not a => match evT cs row a with
    | .bl b => .bl (!b)
    | _ => .non
  | .bin o a b => if o = .and then andV (evT cs row a) (evT cs row b) else if o = .or then orV (evT cs row a) (evT cs row b) else cmpV o (evT cs row a) (evT cs row b)
/-- a value of that kind -/
inductive VK' : Kd → V → Prop
  | non (k : Kd) : VK' k .non
  | int {i : Int} (h : i.natAbs < 10 ^ 60) : VK' .int (.int i)
  | str (z : Str) : VK' .text (.str z)
  | bl (b : Bool) : VK' .truth (.bl b)
theorem bnd_ok (i : Int) : VK' .int (bndV i) := by
  unfold bndV
  split
  · rename_i h; exact .int h
  · exact .non _
inductive RowOk : Cols → List V → Prop
  | nil : RowOk [] []
  | cons {c : Str} {k : Kd} {cs : Cols} {v : V} {vs : List V} (h : VK' k v) (r : RowOk cs vs) : RowOk ((c, k) :: cs) (v :: vs)
theorem RowOk.len : ∀ {cs : Cols} {vs : List V}, RowOk cs vs → vs.length = cs.length
  | _, _, .nil => rfl
  | _, _, .cons _ r => congrArg (· + 1) r.len
theorem colV_ok : ∀ {cs : Cols} {vs : List V} {z : Str} {k : Kd}, RowOk cs vs → (cs.find? fun c => decide (c.1 = z)).map (·.2) = some k → VK' k (colV cs vs z)
  | _, _, z, k, .cons (c := c) (k := k') (cs := cs) (v := v) (vs := vs) h r, f => by
    rw [List.find?_cons] at f
    unfold colV
    by_cases e : c = z
    · rw [decide_eq_true (show (c, k').1 = z from e)] at f
      rw [if_pos e, ← Option.some.inj f]
      exact h
    · rw [decide_eq_false (show ¬ (c, k').1 = z from e)] at f
      rw [if_neg e]
      exact colV_ok r f
theorem ev_ok {cs : Cols} {row : List V} (hr : RowOk cs row) {t : Tr} {k : Kd} (h : Ty cs t k) : VK' k (evT cs row t) := by
  induction h with
  | int h => exact .int (by omega)
  | text h => exact .str _
  | col h hk f => exact colV_ok hr f
  | @neg a h ih =>
    unfold evT
    generalize evT cs row a = x at ih
    cases ih with
    | non => exact .non _
    | int _ => exact bnd_ok _
  | null h hk ih => exact .bl _
  | @not a h ih =>
    unfold evT
    generalize evT cs row a = x at ih
    cases ih with
    | non => exact .non _
    | bl b => exact .bl _
  | @ar o a b ho h h2 ih ih2 =>
    unfold evT
    rw [if_neg (by intro z; rw [z] at ho; cases ho), if_neg (by intro z; rw [z] at ho; cases ho)]
    generalize evT cs row a = x at ih
    generalize evT cs row b = y at ih2
    cases ih with
    | non => cases ih2 <;> exact .non _
    | int _ =>
      cases ih2 with
      | non => exact .non _
      | int _ => cases o <;> first | exact bnd_ok _ | cases ho
  | @cmp o a b k ho ho2 hk h h2 ih ih2 =>
    unfold evT
    rw [if_neg (by intro z; rw [z] at ho2; cases ho2), if_neg (by intro z; rw [z] at ho2; cases ho2)]
    generalize evT cs row a = x at ih
    generalize evT cs row b = y at ih2
    cases ih with
    | non => cases ih2 <;> exact .non _
    | int _ =>
      cases ih2 with
      | non => exact .non _
      | int _ => cases o <;> first | exact .bl _ | exact .non _ | cases ho | cases ho2
    | str _ =>
      cases ih2 with
      | non => exact .non _
      | str _ => cases o <;> first | exact .bl _ | exact .non _ | cases ho | cases ho2
    | bl _ => exact absurd rfl hk
  | @lg o a b ho h h2 ih ih2 =>
    unfold evT
    by_cases e : o = .and
    · rw [if_pos e]
      unfold andV
      split
      · exact .bl _
      · split
        · exact .non _
        · exact .bl _
    · rw [if_neg e]
      by_cases e2 : o = .or
      · rw [if_pos e2]
        unfold orV
        split
        · exact .bl _
        · split
          · exact .non _
          · exact .bl _
      · cases o <;> first | exact absurd rfl e | exact absurd rfl e2 | cases ho
theorem VK'.flat {k : Kd} {v : V} (h : VK' k v) : flatV v = true := by cases h <;> rfl
def colsD (cs : Cols) : PyData := .tuple (cs.map fun c => .tuple [.str c.1, .str c.2.s])


/-! ### tuples of two and three; slices of tuples; membership of values -/
theorem dp_two {K : PySem.W.Frag} {H : Hp} {v : V} {a : Str} {d : PyData} (h : Dp K H v (.tuple [.str a, d])) : ∃ p x, v = .ref p ∧ SqT K H p [.str a, x] ∧ Dp K H x d := by
  cases h with
  | tup hs hds =>
    cases hds with
    | cons h1 r =>
      cases r with
      | cons h2 r =>
        cases r
        cases h1
        exact ⟨_, _, rfl, hs, h2⟩
theorem dp_three {K : PySem.W.Frag} {H : Hp} {v : V} {a : Str} {d e : PyData} (h : Dp K H v (.tuple [.str a, d, e])) : ∃ p x y, v = .ref p ∧ SqT K H p [.str a, x, y] ∧ Dp K H x d ∧ Dp K H y e := by
  cases h with
  | tup hs hds =>
    cases hds with
    | cons h1 r =>
      cases r with
      | cons h2 r =>
        cases r with
        | cons h3 r =>
          cases r
          cases h1
          exact ⟨_, _, _, rfl, hs, h2, h3⟩
/-- t[1:] of a tuple -/
theorem eu_sl1 {K : PySem.W.Frag} {σ : L2.St} {H : Hp} {te : TE} {tl th : TO} {a : Addr} {x : V} {xs : List V} (h : Ev te σ H (.ref a)) (h1 : EvO tl σ H (some 1)) (h2 : EvO th σ H none) (hx : SqT K H a (x :: xs)) : EvU (tSl (rSlA K) te tl th) σ H xs := fun H0 e Q q =>
  h H0 e _ fun H2 e2 => h1 H2 (e.trans e2) _ fun H3 e3 => h2 H3 ((e.trans e2).trans e3) _ fun H4 e4 => by
    have z1 : HT.sIx (x :: xs).length 0 (some 1) = 1 := by
      show HT.sIx (xs.length + 1) 0 (some ((1 : Nat) : Int)) = 1
      rw [HT.sIx_nat]
      omega
    refine ⟨a, x :: xs, rfl, ex_t (((e.trans e2).trans e3).trans e4) hx, fun z => ?_, fun _ p hp => ?_⟩
    · have := z.1
      rw [z1] at this
      cases this
    · have ec : cutV (x :: xs) (some 1) none = xs := by
        unfold cutV
        rw [z1, HT.sIx_none]
        show (xs.take (xs.length + 1 - 1)) = xs
        exact List.take_of_length_le (Nat.le_refl _)
      rw [ec]
      exact q p _ (fresh_back ((e2.trans e3).trans e4) hp) (((e2.trans e3).trans e4).trans (Ex.new hp)) upd_same
/-- [f(x) for x in a new tuple] -/
theorem el_mapTN {K : PySem.W.Frag} {σ : L2.St} {H : Hp} {tl te : TE} {j : Nat} {vs : List Nat} {xs ys : List V} (h : EvU tl σ H xs) (hz : xs.length ≤ 40000) (hw : ∀ x, wipe ((wipe σ vs).set j (some x)) vs = wipe σ vs) (hl : ys.length = xs.length)
    (he : ∀ (i : Nat) (x y : V), xs[i]? = some x → ys[i]? = some y → ∀ H1, Ex H H1 → Ev te ((wipe σ vs).set j (some x)) H1 y) : EvL (tLc (iTup K tl) (gName j) tYes te vs) σ H ys := by
  intro H0 e Q q
  refine h H0 e _ fun a H1 _ e1 ha => ⟨a, rfl, ⟨xs, st_of ha⟩, fun Dl hD => ?_⟩
  refine lc_tup (xs := xs) (fun i H' => H1 Dl = none ∧ Ex H1 H' ∧ H' Dl = some (.lst (ys.take i))) ⟨hD, Ex.new hD, upd_same⟩ (fun i H' _ p => ex_t p.2.1 (st_of ha)) (fun i x H' hi p => ⟨hw x, ?_⟩) (fun H' p => ?_)
  · obtain ⟨p1, p2, p3⟩ := p
    have hi2 : i < ys.length := by
      have := (List.getElem?_eq_some_iff.mp hi).1
      omega
    have hy : ys[i]? = some ys[i] := List.getElem?_eq_getElem hi2
    show te ((wipe σ vs).set j (some x)) H' _
    refine he i x ys[i] hi hy H1 (e.trans e1) H' p2 _ fun H4 e4 => ⟨ys.take i, e4 Dl _ p3, sz_lt (by rw [List.length_take]; omega), p1, (p2.trans e4).mut p1, ?_⟩
    rw [upd_same, List.take_add_one, hy] <;> rfl
  · obtain ⟨p1, p2, p3⟩ := p
    rw [← hl, List.take_length] at p3
    exact q Dl H' (fresh_back e1 p1) (e1.trans p2) p3
/-- list.index -/
theorem ev_index {K : PySem.W.Frag} {σ : L2.St} {H : Hp} {to te : TE} {ys : List V} {y z : V} {j : Nat} (h : EvL to σ H ys) (hy : ∀ H1, Ex H H1 → Ev te σ H1 y) (fy : flatV y = true) (fs : ys.all flatV = true) (hj : ys[j]? = some z) (hz : eqV z y = true) (hn : ∀ (m : Nat) (z' : V), m < j → ys[m]? = some z' → eqV z' y = false) :
    Ev (tBM K "list" (rIndex K) to (tCons te tNil)) σ H (.int (j : Int)) := fun H1 e Q q =>
  h H1 e _ fun p H2 _ e2 hp => ⟨.inl ⟨rfl, _, sq_of hp⟩, hy H2 (e.trans e2) _ (Ex.refl H2) _ fun H3 e3 => ⟨p, ys, y, j, z, rfl, rfl, sq_of (e3 _ _ hp), fy, fs, hj, hz, hn, q H3 (e2.trans e3)⟩⟩
theorem ev_abs {σ : L2.St} {H : Hp} {te : TE} {i : Int} (h : Ev te σ H (.int i)) : Ev (tCB (fun xs H Q => ∃ i, xs = [V.int i] ∧ Q (.int (if i < 0 then -i else i)) H) (tCons te tNil)) σ H (.int (i.natAbs : Int)) := fun H1 e Q q =>
  h H1 e _ fun H2 e2 => ⟨i, rfl, by
    have : (if i < 0 then -i else i) = (i.natAbs : Int) := by split <;> omega
    rw [this]
    exact q H2 e2⟩
theorem eqS_refl (z : Str) : eqV (.str z) (.str z) = true := by show (z == z) = true; simp
theorem eqS_ne {a b : Str} (h : a ≠ b) : eqV (.str a) (.str b) = false := by
  show (a == b) = false
  simpa using h
theorem in_non {x y : V} : inV .non [x, y] = decide (x = .non ∨ y = .non) := by
  have e : ∀ v : V, eqV v .non = decide (v = .non) := by intro v; cases v <;> rfl
  unfold inV
  simp only [List.any_cons, List.any_nil, Bool.or_false, e]
  by_cases h : x = .non <;> by_cases h2 : y = .non <;> simp [h, h2]
theorem in_non1 {x : V} : inV .non [x] = decide (x = .non) := by
  have e : ∀ v : V, eqV v .non = decide (v = .non) := by intro v; cases v <;> rfl
  unfold inV
  simp only [List.any_cons, List.any_nil, Bool.or_false, e]
theorem in_bl {x y : V} {b : Bool} (hx : VK' .truth x) (hy : VK' .truth y) : inV (.bl b) [x, y] = decide (x = .bl b ∨ y = .bl b) := by
  have e : ∀ v : V, VK' .truth v → eqV v (.bl b) = decide (v = .bl b) := by
    intro v h
    cases h with
    | non => rfl
    | bl c => cases b <;> cases c <;> rfl
  unfold inV
  simp only [List.any_cons, List.any_nil, Bool.or_false, e x hx, e y hy]
  by_cases h : x = .bl b <;> by_cases h2 : y = .bl b <;> simp [h, h2]
theorem kin_bop (o : Bop) : kIn o.s ["int", "text"] = false ∧ decide (o.s = Str.ofString "column") = false ∧ decide (o.s = Str.ofString "null") = false ∧ kIn o.s ["and", "or"] = o.lg ∧ decide (o.s = Str.ofString "or") = decide (o = .or) ∧ decide (o.s = Str.ofString "and") = decide (o = .and) ∧ decide (o.s = Str.ofString "not") = false ∧ kIn o.s ["neg", "add", "sub", "mul"] = o.ar ∧ decide (o.s = Str.ofString "neg") = false ∧ decide (o.s = Str.ofString "add") = decide (o = .add) ∧ decide (o.s = Str.ofString "sub") = decide (o = .sub) ∧ decide (o.s = Str.ofString "mul") = decide (o = .mul) ∧ decide (o.s = Str.ofString "equal") = decide (o = .equal) ∧ decide (o.s = Str.ofString "unequal") = decide (o = .unequal) ∧ decide (o.s = Str.ofString "less") = decide (o = .less) ∧ decide (o.s = Str.ofString "atmost") = decide (o = .atmost) ∧ decide (o.s = Str.ofString "more") = decide (o = .more) := by
  cases o <;> decide +kernel
def spEv (K : PySem.W.Frag) (n : Nat) : Sp := fun vs H Q _ => ∃ (t : Tr) (k : Kd) (cs : Cols) (row : List V) (vt vc : V) (r : Addr), vs = [vt, vc, .ref r] ∧ Dp K H vt t.d ∧ t.h ≤ n ∧ Ty cs t k ∧ Dp K H vc (colsD cs) ∧ SqT K H r row ∧ RowOk cs row ∧ cs.length ≤ 100 ∧ ∀ H', Ex H H' → Q (evT cs row t) H'
theorem cv_ev {K : PySem.W.Frag} {n : Nat} {t : Tr} {k : Kd} {cs : Cols} {row : List V} {vt vc : V} {r : Addr} {H : Hp} (h1 : Dp K H vt t.d) (h2 : t.h ≤ n) (h3 : Ty cs t k) (h4 : Dp K H vc (colsD cs)) (h5 : SqT K H r row) (h6 : RowOk cs row) (h7 : cs.length ≤ 100) : SpV (spEv K n) [vt, vc, .ref r] H (evT cs row t) := fun H1 e Q q E => ⟨t, k, cs, row, vt, vc, r, rfl, dp_mono e h1, h2, h3, dp_mono e h4, ex_t e h5, h6, h7, fun H2 e2 => q H2 e2⟩
/-- the columns in the heap -/
theorem cols_at {K : PySem.W.Frag} {H : Hp} {vc : V} {cs : Cols} (h : Dp K H vc (colsD cs)) : ∃ (c : Addr) (xs : List V), vc = .ref c ∧ SqT K H c xs ∧ xs.length = cs.length ∧ ∀ (i : Nat) (x : V), xs[i]? = some x → ∃ p c, cs[i]? = some c ∧ x = .ref p ∧ SqT K H p [.str c.1, .str c.2.s] := by
  cases h with
  | tup hs hds =>
    refine ⟨_, _, rfl, hs, by rw [dpa_len hds, List.length_map], fun i x hx => ?_⟩
    obtain ⟨d, h1, h2⟩ := dpa_at hds hx
    rw [List.getElem?_map] at h1
    cases e : cs[i]? with
    | none => rw [e] at h1; cases h1
    | some c =>
      rw [e] at h1
      rw [← Option.some.inj h1] at h2
      obtain ⟨p, y, rfl, h3, h4⟩ := dp_two h2
      cases h4
      exact ⟨p, c, rfl, rfl, h3⟩
def plc : Cols → Str → Nat
  | [], _ => 0
  | (c, _) :: cs, z => if c = z then 0 else plc cs z + 1
theorem plc_spec : ∀ {cs : Cols} {z : Str} {k : Kd} {row : List V}, (cs.find? fun c => decide (c.1 = z)).map (·.2) = some k → row.length = cs.length → (∃ c, cs[plc cs z]? = some c ∧ c.1 = z) ∧ row[plc cs z]? = some (colV cs row z) ∧ ∀ (m : Nat) c, m < plc cs z → cs[m]? = some c → c.1 ≠ z
  | (c, k') :: cs, z, k, v :: row, f, hl => by
    rw [List.find?_cons] at f
    unfold plc colV
    by_cases e : c = z
    · rw [if_pos e, if_pos e]
      exact ⟨⟨_, rfl, e⟩, rfl, fun m c h => by omega⟩
    · rw [decide_eq_false (show ¬ (c, k').1 = z from e)] at f
      rw [if_neg e, if_neg e]
      obtain ⟨⟨d, h1, h2⟩, h3, h4⟩ := plc_spec (cs := cs) (row := row) f (by simpa using hl)
      refine ⟨⟨d, by simpa using h1, h2⟩, by simpa using h3, fun m d' hm hd => ?_⟩
      cases m with
      | zero =>
        have : (c, k') = d' := by simpa using hd
        rw [← this]
        exact e
      | succ m => exact h4 m d' (by omega) (by simpa using hd)
  | (c, k') :: cs, z, k, [], f, hl => by simp at hl
  | [], z, k, row, f, hl => by cases f
/-- two ints or two texts -/
def Two (x y : V) : Prop := (∃ i j, x = .int i ∧ y = .int j) ∨ ∃ a b, x = .str a ∧ y = .str b
def rAny2 (f : Int → Int → Bool) (g : Str → Str → Bool) : R2 := fun x y H Q => (rI0 fun i j => .bl (f i j)) x y H Q ∨ (∃ i j, x = .str i ∧ y = .str j ∧ Q (.bl (g i j)) H)
theorem ev_two {σ : L2.St} {H : Hp} {ta tb : TE} {x y v : V} {f : Int → Int → Bool} {g : Str → Str → Bool} (ha : Ev ta σ H x) (hb : Ev tb σ H y) (h : Two x y) (hi : ∀ i j, x = .int i → y = .int j → v = .bl (f i j)) (hs : ∀ i j, x = .str i → y = .str j → v = .bl (g i j)) : Ev (tOp (rAny2 f g) ta tb) σ H v := by
  rcases h with ⟨i, j, rfl, rfl⟩ | ⟨i, j, rfl, rfl⟩
  · rw [hi i j rfl rfl]
    exact ev_op ha hb fun H1 e1 Q q => .inl ⟨i, j, rfl, rfl, q H1 (Ex.refl H1)⟩
  · rw [hs i j rfl rfl]
    exact ev_op ha hb fun H1 e1 Q q => .inr ⟨i, j, rfl, rfl, q H1 (Ex.refl H1)⟩
theorem ev_lt2 {σ : L2.St} {H : Hp} {ta tb : TE} {x y : V} (ha : Ev ta σ H x) (hb : Ev tb σ H y) (h : Two x y) : Ev (tOp (rAny2 (fun i j => decide (i < j)) (fun i j => decide (i.cps.toList < j.cps.toList))) ta tb) σ H (cmpV .less x y) := ev_two ha hb h (fun i j hx hy => by rw [hx, hy] <;> rfl) (fun i j hx hy => by rw [hx, hy] <;> rfl)
theorem less_bl {x y : V} (h : Two x y) : ∃ b, cmpV .less x y = .bl b ∧ cmpV .atleast x y = .bl (!b) ∧ cmpV .more y x = .bl b ∧ cmpV .atmost y x = .bl (!b) := by
  rcases h with ⟨i, j, rfl, rfl⟩ | ⟨i, j, rfl, rfl⟩
  · refine ⟨decide (i < j), rfl, ?_, rfl, ?_⟩
    · show V.bl (decide (j ≤ i)) = V.bl (!decide (i < j))
      rw [show decide (j ≤ i) = !decide (i < j) by by_cases h : i < j <;> simp [h] <;> omega]
    · show V.bl (decide (j ≤ i)) = V.bl (!decide (i < j))
      rw [show decide (j ≤ i) = !decide (i < j) by by_cases h : i < j <;> simp [h] <;> omega]
  · exact ⟨decide (i.cps.toList < j.cps.toList), rfl, rfl, rfl, rfl⟩
theorem Two.symm {x y : V} (h : Two x y) : Two y x := by
  rcases h with ⟨i, j, rfl, rfl⟩ | ⟨i, j, rfl, rfl⟩
  · exact .inl ⟨j, i, rfl, rfl⟩
  · exact .inr ⟨j, i, rfl, rfl⟩
/-- x is True, x is False, x None or a bool -/
def rIsF : R2 := fun x y H Q => ∃ b, y = .bl b ∧ ((x = .non ∧ Q (.bl false) H) ∨ ∃ a, x = .bl a ∧ Q (.bl (decide (a = b))) H)
theorem op_isF {X : Cx} : OpR X (compareOp .Is) rIsF := by
  intro pins s σ H x y v u Q I rx ry h
  obtain ⟨b, rfl, ⟨rfl, q⟩ | ⟨a, rfl, q⟩⟩ := h
  · cases (show v = Value.none from rx)
    cases (show u = Value.bool b from ry)
    exact wpAny_is_other rfl (fun z => nomatch z) ⟨.bl false, H, I, rfl, q⟩
  · exact op_is_bl pins s σ H (.bl a) (.bl b) v u Q I rx ry ⟨a, b, rfl, rfl, q⟩
theorem ev_isF {σ : L2.St} {H : Hp} {te : TE} {v : V} {b : Bool} (h : Ev te σ H v) (hv : VK' .truth v) : Ev (tOp rIsF te (tC (.bl b))) σ H (.bl (decide (v = .bl b))) := fun H1 e Q q => h H1 e _ fun H2 e2 => by
  cases hv with
  | non => exact ⟨b, rfl, .inl ⟨rfl, q H2 e2⟩⟩
  | bl a =>
    refine ⟨b, rfl, .inr ⟨a, rfl, ?_⟩⟩
    have : decide (V.bl a = V.bl b) = decide (a = b) := dec_bl
    rw [← this]
    exact q H2 e2
/-- [x for x in xs if p(x)] -/
theorem el_flL {K : PySem.W.Frag} {σ : L2.St} {H : Hp} {te tl : TE} {tt : TT} {a : Addr} {xs : List V} {j : Nat} {vs : List Nat} {p : V → Bool} (h : Ev te σ H (.ref a)) (hx : SqL K H a xs) (hz : xs.length ≤ 40000) (hw : ∀ x, wipe ((wipe σ vs).set j (some x)) vs = wipe σ vs)
    (ht : ∀ x, x ∈ xs → ∀ H1, Ex H H1 → EvT tt ((wipe σ vs).set j (some x)) H1 (p x)) (he : ∀ x H1, x ∈ xs → Ex H H1 → Ev tl ((wipe σ vs).set j (some x)) H1 x) : EvL (tLc (iList K te) (gName j) tt tl vs) σ H (xs.filter p) := by
  intro H0 e Q q
  refine h H0 e _ fun H1 e1 => ⟨a, rfl, ⟨xs, ex_l (e.trans e1) hx⟩, fun Dl hD => ?_⟩
  refine lc_list (xs := xs) (fun i H' => H1 Dl = none ∧ Ex H1 H' ∧ H' Dl = some (.lst ((xs.take i).filter p))) ⟨hD, Ex.new hD, upd_same⟩ (fun i H' _ z => ex_l ((e.trans e1).trans z.2.1) hx) (fun i x H' hi z => ⟨hw x, ?_⟩) (fun H' z => ?_)
  · obtain ⟨p1, p2, p3⟩ := z
    have hi2 := (List.getElem?_eq_some_iff.mp hi).1
    have hm := List.mem_of_getElem? hi
    have et : (xs.take (i + 1)).filter p = (xs.take i).filter p ++ (if p x = true then [x] else []) := by
      rw [List.take_add_one, hi, List.filter_append]
      show _ ++ [x].filter p = _
      by_cases hp : p x = true
      · rw [if_pos hp, List.filter_cons_of_pos hp] <;> rfl
      · rw [if_neg hp, List.filter_cons_of_neg hp] <;> rfl
    refine ht x hm H1 (e.trans e1) H' p2 _ fun H3 e3 => ?_
    cases hp : p x with
    | true =>
      show tl _ H3 _
      refine he x H1 hm (e.trans e1) H3 (p2.trans e3) _ fun H4 e4 => ⟨_, e4 Dl _ (e3 Dl _ p3), sz_lt ?_, p1, ((p2.trans e3).trans e4).mut p1, ?_⟩
      · have := List.length_filter_le p (xs.take i)
        rw [List.length_take] at this
        omega
      · rw [upd_same, et, if_pos hp]
    | false =>
      show H1 Dl = none ∧ _
      refine ⟨p1, p2.trans e3, ?_⟩
      rw [et, if_neg (by rw [hp]; exact Bool.false_ne_true), List.append_nil]
      exact e3 Dl _ p3
  · obtain ⟨p1, p2, p3⟩ := z
    rw [List.take_length] at p3
    exact q Dl H' (fresh_back e1 p1) (e1.trans p2) p3
theorem dpa_nons {K : PySem.W.Frag} {H : Hp} : ∀ {ys : List V}, (∀ y ∈ ys, y = .non) → DpAll K H ys (ys.map fun _ => PyData.none)
  | [], _ => .nil
  | y :: ys, h => by
    rw [h y (List.mem_cons_self ..)]
    exact .cons .non (dpa_nons fun z hz => h z (List.mem_cons_of_mem _ hz))
theorem ev_neNil {K : PySem.W.Frag} {σ : L2.St} {H : Hp} {ta : TE} {ys : List V} (h : EvL ta σ H ys) (hz : ∀ y ∈ ys, y = .non) : Ev (tOp (rNeD K) ta (tLst tNil)) σ H (.bl (!ys.isEmpty)) := by
  refine ev_opLL h (el_lst ea_nil (by decide)) fun p q H1 hp hq _ => rv_val fun H2 e2 Q k => ⟨_, _, .lst (sq_of (e2 _ _ hp)) (dpa_nons hz), .lst (sq_of (e2 _ _ hq)) .nil, shaped_lst (n := 0) (fun d hd => ?_) (by decide), by decide, ?_⟩
  · obtain ⟨z, hz', rfl⟩ := List.mem_map.mp hd
    exact .non 0
  · have e : PyData.eqv (.list (ys.map fun _ => PyData.none)) (.list []) = ys.isEmpty := by
      cases ys <;> simp [PyData.eqv, PyData.eqvAll]
    rw [e]
    exact k
theorem given_first {n j : Nat} {f : Nat → Bool} {v : Nat → V} (hj : j < n) (hf : f j = true) (hn : ∀ m, m < j → f m = false) : (given n f v)[0]? = some (v j) := by
  unfold given
  rw [List.getElem?_map]
  have : ((List.range n).filter f)[0]? = some j := by
    rw [← List.head?_eq_getElem?, List.head?_filter, List.find?_range_eq_some]
    exact ⟨hf, List.mem_range.mpr hj, fun m hm => by rw [hn m hm] <;> rfl⟩
  rw [this] <;> rfl
theorem et_andF {t u : TT} {σ : L2.St} {H : Hp} (h : EvT t σ H false) : EvT (tAnd t u) σ H false := et_is (et_and (a := false) (b := false) h fun z => nomatch z) rfl


/-- names of at most b letters -/
def Nm (b : Nat) (z : Str) : Prop := 1 ≤ z.length ∧ z.length ≤ b ∧ ∀ c ∈ z.cps.toList, 97 ≤ c ∧ c ≤ 122
theorem Nm.mono {a b : Nat} {z : Str} (h : Nm a z) (e : a ≤ b) : Nm b z := ⟨h.1, Nat.le_trans h.2.1 e, h.2.2⟩
theorem Nm.tx {b : Nat} {z : Str} (h : Nm b z) : TxOk b z := ⟨h.2.1, fun c hc => by have := h.2.2 c hc; omega⟩
def alphaZ : List Nat := (List.range 26).map (· + 97)
theorem alpha_eq : (Str.ofString "abcdefghijklmnopqrstuvwxyz") = ⟨alphaZ.toArray⟩ := by decide +kernel
theorem alpha_at (i : Int) (h : 0 ≤ i ∧ i < 26) : 97 ≤ alphaZ.getD i.toNat 0 ∧ alphaZ.getD i.toNat 0 ≤ 122 := by
  have : ∀ k : Nat, k < 26 → 97 ≤ alphaZ.getD k 0 ∧ alphaZ.getD k 0 ≤ 122 := by decide
  exact this _ (by omega)
theorem alpha_len : alphaZ.length = 26 := by decide
/-- letters[i] -/
theorem ev_letter {σ : L2.St} {H : Hp} {ta tb : TE} {i : Int} (ha : Ev ta σ H (.str (Str.ofString "abcdefghijklmnopqrstuvwxyz"))) (hb : Ev tb σ H (.int i)) (h : 0 ≤ i ∧ i < 26) : Ev (tOp rIxS ta tb) σ H (.str ⟨#[alphaZ.getD i.toNat 0]⟩) :=
  ev_ixB (z := ⟨alphaZ.toArray⟩) (ev_is ha (congrArg V.str alpha_eq)) hb (by decide +kernel) (at_cps (l := alphaZ) rfl h.1 (by rw [alpha_len]; exact h.2))
theorem Nm.one {i : Int} (h : 0 ≤ i ∧ i < 26) : Nm 1 ⟨#[alphaZ.getD i.toNat 0]⟩ := ⟨Nat.le_refl 1, Nat.le_refl 1, fun c hc => by
  have : c = alphaZ.getD i.toNat 0 := by simpa using hc
  rw [this]
  exact alpha_at i h⟩
theorem Nm.app {a b : Nat} {x y : Str} (h : Nm a x) (k : TxOk b y ∧ ∀ c ∈ y.cps.toList, 97 ≤ c ∧ c ≤ 122) : Nm (a + b) (x ++ y) := by
  have hl : (x ++ y).length = x.length + y.length := by rw [str_len, codes_app rfl rfl, List.length_append, ← str_len, ← str_len]
  refine ⟨by have := h.1; omega, by have := h.2.1; have := k.1.1; omega, fun c hc => ?_⟩
  rw [codes_app (x := x.cps.toList) (y := y.cps.toList) rfl rfl] at hc
  rcases List.mem_append.mp hc with z | z
  · exact h.2.2 c z
  · exact k.2 c z
def spNames (K : PySem.W.Frag) : Sp := fun vs H Q _ => ∃ (p : Addr) (cs : List Int), vs = [.ref p] ∧ SqL K H p (cs.map V.int) ∧ cs.length ≤ 12 ∧ (∀ c ∈ cs, Wd c) ∧ ∀ q' (zs : List Str) H', H q' = none → Ex H H' → H' q' = some (.lst (zs.map V.str)) → zs.length = cs.length → (∀ z ∈ zs, Nm 12 z) → Q (.ref q') H'
theorem Nm.cutTo {z : Str} (p : Nat) : cutS z none (some (p : Int)) = mkS (z.cps.toList.take p) := by
  rw [mkS_codes z]
  exact cutS_to _ p
theorem Nm.cutFrom {z : Str} (p : Nat) : cutS z (some (p : Int)) none = mkS (z.cps.toList.drop p) := by
  rw [mkS_codes z]
  exact cutS_from _ p
/-- one letter put in another's place -/
theorem Nm.spoil {b : Nat} {z c : Str} {p : Nat} (h : Nm b z) (hp : p < z.length) (hc : Nm 1 c) : Nm b (cutS z none (some (p : Int)) ++ c ++ cutS z (some ((p + 1 : Nat) : Int)) none) := by
  rw [Nm.cutTo, Nm.cutFrom]
  obtain ⟨h1, h2, h3⟩ := h
  have hl := str_len z
  have hcl := str_len c
  have e : (mkS (z.cps.toList.take p) ++ c ++ mkS (z.cps.toList.drop (p + 1))).cps.toList = (z.cps.toList.take p ++ c.cps.toList) ++ z.cps.toList.drop (p + 1) := by
    rw [codes_app (x := z.cps.toList.take p ++ c.cps.toList) (y := z.cps.toList.drop (p + 1)) (codes_app rfl rfl) rfl]
  refine ⟨?_, ?_, fun d hd => ?_⟩
  · rw [str_len, e, List.length_append, List.length_append, ← hcl]
    have := hc.1
    omega
  · rw [str_len, e, List.length_append, List.length_append, ← hcl, List.length_take, List.length_drop]
    have := hc.2.1
    omega
  · rw [e] at hd
    rcases List.mem_append.mp hd with k | k
    · rcases List.mem_append.mp k with k | k
      · exact h3 d (List.mem_of_mem_take k)
      · exact hc.2.2 d k
    · exact h3 d (List.mem_of_mem_drop k)
/-- a list as a test -/
theorem et_lst {K : PySem.W.Frag} {σ : L2.St} {H : Hp} {te : TE} {p : Addr} {xs : List V} (h : Ev te σ H (.ref p)) (hS : ∀ H1, Ex H H1 → SqL K H1 p xs) : EvT (fun σ H Q => te σ H fun x H' => ∃ k, TruV K x H' k ∧ Q k H') σ H (!xs.isEmpty) := fun H1 e Q q =>
  h H1 e _ fun H2 e2 => ⟨!xs.isEmpty, .inl ⟨xs, hS H2 (e.trans e2), rfl⟩, q H2 e2⟩
theorem ev_inStrs {K : PySem.W.Frag} {σ : L2.St} {H : Hp} {ta tb : TE} {z : Str} {p : Addr} {zs : List Str} (ha : Ev ta σ H (.str z)) (hb : Ev tb σ H (.ref p)) (h : SqL K H p (zs.map V.str)) : Ev (tOp (rIn K false) ta tb) σ H (.bl (inV (.str z) (zs.map V.str))) := ev_op ha hb (rv_isL h rfl (by rw [List.all_map]; exact List.all_eq_true.mpr fun _ _ => rfl))
theorem inS_mem {z : Str} {zs : List Str} : inV (.str z) (zs.map V.str) = decide (z ∈ zs) := by
  have e : ∀ a b : Str, eqV (.str a) (.str b) = decide (a = b) := fun a b => by
    by_cases h : a = b
    · rw [h, eqS_refl, decide_eq_true rfl]
    · rw [eqS_ne h, decide_eq_false h]
  unfold inV
  rw [List.any_map]
  induction zs with
  | nil => rfl
  | cons y ys ih =>
    rw [List.any_cons, ih]
    simp only [Function.comp_apply, e]
    by_cases h1 : z = y
    · subst h1
      simp
    · by_cases h2 : z ∈ ys
      · simp [h2]
      · have h3 : ¬ y = z := fun k => h1 k.symm
        simp [h1, h2, h3]
theorem pigeon {f : Nat → Str} : ∀ (n : Nat) (l : List Str), (∀ j, j < n → f j ∈ l) → (∀ j k, j < n → k < n → f j = f k → j = k) → n ≤ l.length
  | 0, _, _, _ => Nat.zero_le _
  | n + 1, l, h, inj => by
    have hm := h n (Nat.lt_succ_self n)
    have hl := List.length_pos_of_mem hm
    have := pigeon n (l.erase (f n)) (fun j hj => (List.mem_erase_of_ne fun e => by
      have := inj j n (by omega) (by omega) e
      omega).mpr (h j (by omega))) fun j k hj hk => inj j k (by omega) (by omega)
    rw [List.length_erase_of_mem hm] at this
    omega
def candZ (k : Nat) : Str := Str.ofString "z" ++ (⟨#[alphaZ.getD ((k : Int) / 26).toNat 0]⟩ : Str) ++ (⟨#[alphaZ.getD ((k : Int) % 26).toNat 0]⟩ : Str)
theorem cand_inj : ∀ j, j < 13 → ∀ k, k < 13 → candZ j = candZ k → j = k := by decide +kernel


/-! ### a written list of texts, the last of them replaced and cut -/
theorem pe_lstS {X : Cx} {y : Str} {j : Nat} {c0 lp : Pos} {es : List Expr} {ta : TA} (ha : L2.PAT X es ta) (hst : starEach (.Constant (.str y) j c0 :: es) X.env = (false, eval (.Constant (.str y) j c0) X.env) :: starEach es X.env := by rfl) : PE X (.List (.Constant (.str y) j c0 :: es) lp) (tLst (tCons (tC (.str y)) ta)) := by
  refine ⟨fun pins s σ H Q I h => ?_⟩
  refine wpAny_List_spliced ?_
  rw [hst]
  show wpAny _ _ (spliced ((false, eval (.Constant (.str y) j c0) X.env) :: backTo lp (starEach es X.env))) _ _ s
  refine Calls.spliced_cons (Calls.Constant_str (thn (ha lp pins _ σ H _ (Nat.le_add_left 1 _) (I.tok _) h) fun us s1 z => ?_))
  obtain ⟨xs, H1, I1, r, zl, q⟩ := z
  have hf : H1 s1.heap.objs.size = none := I1.hok.fresh (Nat.le_refl _)
  refine ⟨by rw [List.length_cons, ← r.length]; exact zl, .ref s1.heap.objs.size, upd H1 s1.heap.objs.size (.lst (.str y :: xs)), I1.laid (t' := s1.toks) (fun b u e => Heap.get?_push_of_some _ e) (Nat.le_refl _) ?_, rfl, q _ hf⟩
  exact ⟨zl, .str y s.toks :: us, 0, .cons ⟨_, rfl⟩ r, Heap.get?_push_size _ rfl⟩
theorem pet_slice {X : Cx} {e : Expr} {lo hi : Option Expr} {p2 pos : Pos} {te : TE} {tl th : TO} {r : V → Option Int → Option Int → Hp → VK → Prop} (hr : L2.SlR X r) (he : L2.PET X e te) (hl : PO X lo tl) (hu : PO X hi th) : L2.PET X (.Subscript e (.Slice lo hi none p2) pos) (tSl r te tl th) := by
  intro pins s σ H Q h0 I h
  refine Subscript_ (thn (he pins s σ H _ h0 I h) fun v s1 ⟨x, H1, I1, r1, q1⟩ => ?_)
  refine wpAny_Slice (thn (hl.run pins s1 σ H1 _ I1 q1) fun vl s2 ⟨l, H2, I2, pl, q2⟩ => thn (hu.run pins s2 σ H2 _ I2 q2) fun vu s3 ⟨u, H3, I3, pu, q3⟩ => ?_)
  rw [evalPart_none]
  refine wpAny_pure ?_
  have I4 : Inv X pins σ H3 { s3 with heap := s3.heap.push { cls := .type "slice", data := .fields #[vl, vu, .none] } } := I3.kept (t' := s3.toks) fun b ob q => Heap.get?_push_of_some _ q
  obtain ⟨T, id, hT, ht, hg⟩ := hr pins { s3 with heap := s3.heap.push { cls := .type "slice", data := .fields #[vl, vu, .none] } } σ H3 x v vl vu l u s3.heap.objs.size Q I4 r1 (Heap.IsSliceOf.new ..) pl pu q3
  show wpAny (model X.prog X.w) X.A (subscriptTail e (.Slice lo hi none p2) v (.ref s3.heap.objs.size)) (L2.EP X pins σ Q) X.xe { s3 with heap := s3.heap.push { cls := .type "slice", data := .fields #[vl, vu, .none] } }
  exact tail_any (ops := [.ref s3.heap.objs.size, v]) ht hT hg (by with_unfolding_all rfl)
theorem ev_replL {σ : L2.St} {H : Hp} {to : TE} {x y z : Str} (h : Ev to σ H (.str x)) (hb : x.length + (x.length + 1) * z.length ≤ 16777216) : Ev (CwR.tReplC to y z) σ H (.str (Txt.replace x y z)) := fun H1 e Q q => h H1 e _ fun H2 e2 => ⟨x, rfl, hb, q H2 e2⟩
theorem glue_mem {z : Str} {c : Nat} : ∀ {parts : List Str} {acc : Array Nat}, c ∈ (parts.foldl (fun acc p => acc ++ z.cps ++ p.cps) acc).toList → c ∈ acc.toList ∨ c ∈ z.cps.toList ∨ ∃ p ∈ parts, c ∈ p.cps.toList
  | [], _, h => .inl h
  | p :: r, acc, h => by
    rcases glue_mem (parts := r) h with k | k | ⟨q, hq, k⟩
    · rw [Array.toList_append, Array.toList_append] at k
      rcases List.mem_append.mp k with k | k
      · rcases List.mem_append.mp k with k | k
        · exact .inl k
        · exact .inr (.inl k)
      · exact .inr (.inr ⟨p, List.mem_cons_self .., k⟩)
    · exact .inr (.inl k)
    · exact .inr (.inr ⟨q, List.mem_cons_of_mem _ hq, k⟩)
theorem TxOk.repl {n m : Nat} {x y z : Str} (hx : TxOk n x) (hz : TxOk m z) (hb : x.length + (x.length + 1) * z.length ≤ 16777216) : TxOk 16777216 (Txt.replace x y z) := by
  unfold Txt.replace
  split
  · exact ⟨by omega, hx.2⟩
  · refine ⟨by have := PySem.fits_replaced y hb; rw [sizeLine_eq] at this; exact this, fun c hc => ?_⟩
    have part : ∀ p ∈ PySem.Builtin.Str.partsBetween x (PySem.Builtin.Str.occurrences x y 0 x.length (x.length + 1)) y.length, ∀ c ∈ p.cps.toList, c ≤ 1000 := by
      intro p hp c hc
      unfold PySem.Builtin.Str.partsBetween at hp
      obtain ⟨⟨i, j⟩, _, rfl⟩ := List.mem_map.mp hp
      refine hx.2 c ?_
      have : c ∈ (x.cps.extract i j).toList := hc
      rw [Array.toList_extract] at this
      exact List.mem_of_mem_drop (List.mem_of_mem_take this)
    generalize PySem.Builtin.Str.partsBetween x (PySem.Builtin.Str.occurrences x y 0 x.length (x.length + 1)) y.length = ps at hc part
    rcases glue_mem hc with k | k | ⟨p, hp, k⟩
    · cases ps with
      | nil => cases k
      | cons p r => exact part p (List.mem_cons_self ..) c k
    · exact hz.2 c k
    · exact part p (List.mem_of_mem_drop hp) c k


section
variable {P : Program} {w : World} {K : PySem.W.Frag} {mg : Str → Option Value} {base : Heap}

/-! ### _law_cell -/
def cellZ (ns : List Int) (k : Nat) : Int := ns.getD k 0
def sp_cell (K : PySem.W.Frag) : Sp := fun vs H Q _ => ∃ (a : Addr) (ns : List Int) (k : Nat), vs = [.ref a, .int (k : Int)] ∧ SqL K H a (ns.map V.int) ∧ ∀ H', Ex H H' → Q (.int (cellZ ns k)) H'
theorem ok_law_cell (T : Txt K mg) : FnOk P w K mg base CX0 1 T.f_law_cell T.d_law_cell ["script", "k"] (sp_cell K) := by
  refine T.F_law_cell.ok sc_law_cell (fun vs H Q E h => ?_) (fun cdv A outer s H vs Q E hr h => ?_)
  · obtain ⟨a, ns, k, rfl, _⟩ := h
    rfl
  · obtain ⟨a, ns, k, rfl, hS, q⟩ := h
    refine ⟨_, pss_cons (ps_if (pt_cmpR op_lt (pv 1) (pe_callB (r := rLenQ K) call_len_seq (by rfl) T.m_len (by decide +kernel) (pa_cons (pv 0) (pa_nil))) (nomark _))
      (pss_one (ps_ret (pe_ix (r := rIxL K) ix_list (pv 0) (pv 1) (fun _ _ => rfl))))
      (pss_nil))
      (pss_one (ps_ret (pe_int))), ?_⟩
    refine q_when (b := decide ((k : Int) < ((ns.map V.int).length : Int))) (et_test (ev_bin0 (ev_var rfl) (ev_lenQ (K := K) (ev_var rfl) hS))) (fun hb H1 e1 => ?_) (fun hb H1 e1 => ?_)
    · have hk : k < ns.length := by
        have := of_decide_eq_true hb
        rw [List.length_map] at this
        omega
      refine s_ret (ev_ixL (K := K) (ev_var rfl) (ev_var rfl) (ex_l e1 hS) (at_nat (v := .int (cellZ ns k)) ?_)) fun H2 e2 => q H2 (e1.trans e2)
      rw [List.getElem?_map, List.getElem?_eq_getElem hk]
      unfold cellZ
      rw [List.getD_eq_getElem?_getD, List.getElem?_eq_getElem hk] <;> rfl
    · have hk : ¬ k < ns.length := by
        have := of_decide_eq_false hb
        rw [List.length_map] at this
        omega
      have e0 : cellZ ns k = 0 := by
        unfold cellZ
        rw [List.getD_eq_getElem?_getD, List.getElem?_eq_none (by omega)] <;> rfl
      refine s_ret ev_c fun H2 e2 => ?_
      rw [e0] at q
      exact q H2 (e1.trans e2)
theorem cv_cell {a : Addr} {ns : List Int} {k : Nat} {H : Hp} (h : SqL K H a (ns.map V.int)) : SpV (sp_cell K) [.ref a, .int (k : Int)] H (.int (cellZ ns k)) := fun H1 e Q q E => ⟨a, ns, k, rfl, ex_l e h, fun H2 e2 => q H2 e2⟩
theorem Wd.cell {ns : List Int} (h : ∀ n ∈ ns, Wd n) (k : Nat) : Wd (cellZ ns k) := by
  unfold cellZ
  rw [List.getD_eq_getElem?_getD]
  cases e : ns[k]? with
  | none => exact Wd.lit (by decide)
  | some x => exact h x (List.mem_of_getElem? e)


/-! ### sums of the script's ints and small ones -/
theorem nat_log {n m : Nat} (h : n < 2 ^ m) (hm : 0 < m) : n.log2 < m := by
  by_cases e : n = 0
  · subst e
    exact Nat.lt_of_le_of_lt (Nat.le_of_eq (by decide)) hm
  · exact (Nat.log2_lt e).mpr h
theorem bits_lt {n : Int} {b : Nat} (h : Builtin.Int.intBits n ≤ b) : n.natAbs < 2 ^ b := by
  unfold Builtin.Int.intBits at h
  by_cases e : n = 0
  · subst e
    exact Nat.pow_pos (by decide)
  · rw [if_neg (by simpa using e)] at h
    have e2 : n.natAbs ≠ 0 := by omega
    exact (Nat.log2_lt e2).mp (by omega)
theorem add_lt {n k : Int} {m : Nat} (hn : n.natAbs < 2 ^ m) (hk : k.natAbs < 2 ^ m) : (n + k).natAbs < 2 ^ (m + 1) := by
  rw [Nat.pow_succ]
  omega
theorem small_lt {k : Int} {m : Nat} (h : k.natAbs < 1000000) (hm : 20 ≤ m) : k.natAbs < 2 ^ m := Nat.lt_of_lt_of_le (Nat.lt_trans h (by decide : 1000000 < 2 ^ 20)) (Nat.pow_le_pow_right (by decide) hm)
theorem Wd.of_lt {n : Int} {m : Nat} (h : n.natAbs < 2 ^ m) (hm : 0 < m) (hl : m ≤ 1100000) : Wd n := ⟨Nat.lt_of_lt_of_le (nat_log h hm) hl⟩
theorem cell_lt {ns : List Int} {b : Nat} (h : ∀ z ∈ ns, Builtin.Int.intBits z ≤ b) (k : Nat) : (cellZ ns k).natAbs < 2 ^ b := by
  unfold cellZ
  rw [List.getD_eq_getElem?_getD]
  cases e : ns[k]? with
  | none => exact Nat.pow_pos (by decide)
  | some x => exact bits_lt (h x (List.mem_of_getElem? e))
theorem Wd.cellAdd {ns : List Int} {b : Nat} (h : ∀ z ∈ ns, Builtin.Int.intBits z ≤ b) (k : Nat) {i : Int} (hi : i.natAbs < 1000000) (hb : 20 ≤ b) (hb2 : b ≤ 1099999) : Wd (cellZ ns k + i) := Wd.of_lt (add_lt (cell_lt h k) (small_lt hi hb)) (by omega) (by omega)
theorem Wd.cellDivAdd {ns : List Int} {b : Nat} (h : ∀ z ∈ ns, Builtin.Int.intBits z ≤ b) (k : Nat) {i d : Int} (hi : i.natAbs < 1000000) (hb : 20 ≤ b) (hb2 : b ≤ 1099999) : Wd (cellZ ns k / d + i) := Wd.of_lt (add_lt (Nat.lt_of_le_of_lt (Int.natAbs_ediv_le_natAbs _ _) (cell_lt h k)) (small_lt hi hb)) (by omega) (by omega)
theorem cutV_map (ns : List Int) (lo hi : Option Int) : ∃ ms : List Int, cutV (ns.map V.int) lo hi = ms.map V.int ∧ ms.length ≤ ns.length ∧ ∀ m ∈ ms, m ∈ ns := by
  unfold cutV
  rw [← List.map_drop, ← List.map_take]
  refine ⟨_, rfl, ?_, fun m hm => List.mem_of_mem_drop (List.mem_of_mem_take hm)⟩
  rw [List.length_take, List.length_drop]
  omega


/-! ### _law_draws -/
def drawMix (cell salt : Int) (k : Nat) : Int :=
  ((cell * 48271 + (salt * 97 + (k : Int)) * 69621) % 2147483647 / 8 * ((cell * 48271 + (salt * 97 + (k : Int)) * 69621) % 2147483647 % 50021 + 16807) + (k : Int)) % 998244353 / 11
def drawSt (cell salt base : Int) : Nat → Int × List Int
  | 0 => (if 10 ^ 18 ≤ cell then cell else 0, [])
  | k + 1 => if 0 < (drawSt cell salt base k).1 then ((drawSt cell salt base k).1 / base, (drawSt cell salt base k).2 ++ [(drawSt cell salt base k).1 % base]) else ((drawSt cell salt base k).1, (drawSt cell salt base k).2 ++ [drawMix cell salt k])
theorem drawSt_succ (cell salt base : Int) (k : Nat) : drawSt cell salt base (k + 1) = if 0 < (drawSt cell salt base k).1 then ((drawSt cell salt base k).1 / base, (drawSt cell salt base k).2 ++ [(drawSt cell salt base k).1 % base]) else ((drawSt cell salt base k).1, (drawSt cell salt base k).2 ++ [drawMix cell salt k]) := rfl
def draws (cell salt : Int) (count : Nat) (base : Int) : List Int := (drawSt cell salt base count).2
theorem drawSt_len (cell salt base : Int) : ∀ k, (drawSt cell salt base k).2.length = k
  | 0 => rfl
  | k + 1 => by
    have ih := drawSt_len cell salt base k
    rw [drawSt_succ]
    split <;> simp [ih]
theorem draws_len (cell salt : Int) (n : Nat) (base : Int) : (draws cell salt n base).length = n := drawSt_len cell salt base n
theorem drawMix_ge (cell salt : Int) (k : Nat) : 0 ≤ drawMix cell salt k ∧ drawMix cell salt k < 998244353 := by
  unfold drawMix
  generalize (((cell * 48271 + (salt * 97 + (k : Int)) * 69621) % 2147483647 / 8 * ((cell * 48271 + (salt * 97 + (k : Int)) * 69621) % 2147483647 % 50021 + 16807) + (k : Int))) = m
  omega
theorem drawSt_ok {cell salt base : Int} (hc : Wd cell) (hb : 0 < base) (hbw : Wd base) : ∀ k, Wd (drawSt cell salt base k).1 ∧ ∀ n ∈ (drawSt cell salt base k).2, 0 ≤ n ∧ Wd n
  | 0 => by
    refine ⟨?_, fun n hn => by cases hn⟩
    show Wd (if _ then _ else _)
    split
    · exact hc
    · exact Wd.lit (by decide)
  | k + 1 => by
    obtain ⟨h1, h2⟩ := drawSt_ok (salt := salt) hc hb hbw k
    rw [drawSt_succ]
    split
    · refine ⟨Wd.div h1, fun n hn => ?_⟩
      rcases List.mem_append.mp hn with e | e
      · exact h2 n e
      · rw [List.mem_singleton.mp e]
        exact ⟨Int.emod_nonneg _ (by omega), Wd.mod hb hbw⟩
    · refine ⟨h1, fun n hn => ?_⟩
      rcases List.mem_append.mp hn with e | e
      · exact h2 n e
      · rw [List.mem_singleton.mp e]
        have := drawMix_ge cell salt k
        exact ⟨this.1, Wd.small (by omega) (by omega)⟩
theorem draws_ok {cell salt base : Int} (hc : Wd cell) (hb : 0 < base) (hbw : Wd base) (n : Nat) : ∀ x ∈ draws cell salt n base, 0 ≤ x ∧ Wd x := (drawSt_ok hc hb hbw n).2
theorem drawSt_lt {cell salt base : Int} (hb : 0 < base) (hB : base ≤ 1000000000) : ∀ k, ∀ n ∈ (drawSt cell salt base k).2, 0 ≤ n ∧ n < 1000000000
  | 0 => fun n hn => by cases hn
  | k + 1 => by
    have h2 := drawSt_lt (cell := cell) (salt := salt) hb hB k
    rw [drawSt_succ]
    split
    · intro n hn
      rcases List.mem_append.mp hn with e | e
      · exact h2 n e
      · rw [List.mem_singleton.mp e]
        have a1 := Int.emod_nonneg (drawSt cell salt base k).1 (by omega : base ≠ 0)
        have a2 := Int.emod_lt_of_pos (drawSt cell salt base k).1 hb
        omega
    · intro n hn
      rcases List.mem_append.mp hn with e | e
      · exact h2 n e
      · rw [List.mem_singleton.mp e]
        have := drawMix_ge cell salt k
        omega
theorem draws_lt {cell salt base : Int} (hb : 0 < base) (hB : base ≤ 1000000000) (n : Nat) : ∀ x ∈ draws cell salt n base, 0 ≤ x ∧ x < 1000000000 := drawSt_lt hb hB n
def sp_draws (K : PySem.W.Frag) : Sp := fun vs H Q _ => ∃ (cell salt : Int) (count : Nat) (base : Int), vs = [.int cell, .int salt, .int (count : Int), .int base] ∧ Wd cell ∧ (-100000 ≤ salt ∧ salt ≤ 100000) ∧ count ≤ 90000 ∧ 0 < base ∧ base.natAbs.log2 < 9000 ∧
  ∀ p H', H p = none → Ex H H' → H' p = some (.lst ((draws cell salt count base).map V.int)) → Q (.ref p) H'
theorem cl_draws {cell salt base : Int} {count : Nat} {H : Hp} (h1 : Wd cell) (h2 : -100000 ≤ salt ∧ salt ≤ 100000) (h3 : count ≤ 90000) (h4 : 0 < base) (h5 : base.natAbs.log2 < 9000) :
    SpL (sp_draws K) [.int cell, .int salt, .int (count : Int), .int base] H ((draws cell salt count base).map V.int) := fun H1 e Q q E => ⟨cell, salt, count, base, rfl, h1, h2, h3, h4, h5, fun p H2 hp e2 hl => q p H2 hp e2 hl⟩
theorem ok_law_draws (T : Txt K mg) : FnOk P w K mg base CX0 1 T.f_law_draws T.d_law_draws ["cell", "salt", "count", "base"] (sp_draws K) := by
  refine T.F_law_draws.ok sc_law_draws (fun vs H Q E h => ?_) (fun cdv A outer s H vs Q E hr h => ?_)
  · obtain ⟨cell, salt, count, base, rfl, _⟩ := h
    rfl
  · obtain ⟨cell, salt, count, b, rfl, hc, hs, hn, hb, hbl, q⟩ := h
    have hbw : Wd b := ⟨by omega⟩
    refine ⟨_, pss_cons (ps_set (i := 4) sc_law_draws.nd rfl (by first | exact Or.inl rfl | exact Or.inr rfl) (pe_int))
      (pss_cons (ps_if (pt_cmpR op_ge (pv 0) (pe_op op_pow (pe_int) (pe_int)) (nomark _))
      (pss_one (ps_set (i := 4) sc_law_draws.nd rfl (by first | exact Or.inl rfl | exact Or.inr rfl) (pv 0)))
      (pss_nil))
      (pss_cons (ps_set (i := 5) sc_law_draws.nd rfl (by first | exact Or.inl rfl | exact Or.inr rfl) (pe_lst (pa_nil)))
      (pss_cons (ps_for PassesOwn.never rfl (pi_range1 (by rfl) T.m_range (pa_cons (pv 2) (pa_nil))) (pg_name (i := 6) sc_law_draws.nd rfl (by first | exact Or.inl rfl | exact Or.inr rfl))
      (pss_one (ps_if (pt_cmpR op_gt (pv 4) (pe_int) (nomark _))
      (pss_cons (ps_expr (pe_bm PySem.F.plainAttrs_list PySem.F.slot_list_append PySem.F.type_list_append mt_append (pv 5) (pa_cons (pe_op op_mod (pe_callTy call_int1 (by rfl) T.m_int (by decide +kernel) (pa_cons (pv 4) (pa_nil))) (pv 3)) (pa_nil))))
      (pss_one (ps_set (i := 4) sc_law_draws.nd rfl (by first | exact Or.inl rfl | exact Or.inr rfl) (pe_op op_fdivW (pv 4) (pv 3)))))
      (pss_cons (ps_set (i := 7) sc_law_draws.nd rfl (by first | exact Or.inl rfl | exact Or.inr rfl) (pe_op op_mod (pe_callTy call_int1 (by rfl) T.m_int (by decide +kernel) (pa_cons (pe_op op_add (pe_op op_mulX (pv 0) (pe_int)) (pe_op op_mulX (pe_op op_add (pe_op op_mulX (pv 1) (pe_int)) (pv 6)) (pe_int))) (pa_nil))) (pe_int)))
      (pss_cons (ps_set (i := 7) sc_law_draws.nd rfl (by first | exact Or.inl rfl | exact Or.inr rfl) (pe_op op_mod (pe_callTy call_int1 (by rfl) T.m_int (by decide +kernel) (pa_cons (pe_op op_add (pe_op op_mulX (pe_op op_fdivW (pv 7) (pe_int)) (pe_op op_add (pe_op op_mod (pe_callTy call_int1 (by rfl) T.m_int (by decide +kernel) (pa_cons (pv 7) (pa_nil))) (pe_int)) (pe_int))) (pv 6)) (pa_nil))) (pe_int)))
      (pss_one (ps_expr (pe_bm PySem.F.plainAttrs_list PySem.F.slot_list_append PySem.F.type_list_append mt_append (pv 5) (pa_cons (pe_op op_fdivW (pv 7) (pe_int)) (pa_nil))))))))))
      (pss_one (ps_ret (pv 5)))))), ?_⟩
    refine q_asg ev_c fun H1 e1 => ?_
    refine q_ifAsg (v := .int (drawSt cell salt b 0).1) (b := decide (10 ^ 18 ≤ cell)) (et_test (ev_bin0 (j := 10 ^ 18) (ev_var rfl) (ev_is (ev_bin ev_c ev_c ⟨by decide, by decide, by decide⟩) (by decide)))) (fun h => ?_) (fun h => ?_) fun H2 e2 => ?_
    · have e0 : (drawSt cell salt b 0).1 = cell := if_pos (of_decide_eq_true h)
      rw [e0]
      exact ev_var rfl
    · have e0 : (drawSt cell salt b 0).1 = 0 := if_neg (of_decide_eq_false h)
      rw [e0]
      rfl
    refine q_asgL (el_lst ea_nil (by decide)) fun p H3 hp e3 h3 => ?_
    have hp0 : H p = none := fresh_back (e1.trans e2) hp
    refine q_forR1 (n := (count : Int)) (ea_cons (ev_var rfl) ea_nil) (by omega) (fun i σ' H' => ∃ kv mv : Option V, σ' = [some (.int cell), some (.int salt), some (.int (count : Int)), some (.int b), some (.int (drawSt cell salt b i).1), some (.ref p), kv, mv] ∧ Ex H H' ∧ H' p = some (.lst ((drawSt cell salt b i).2.map V.int)))
      (fun H4 e4 => ⟨none, none, rfl, ((e1.trans e2).trans e3).trans e4, e4 p _ h3⟩) (fun i σ' H' hi hP => ?_) (fun σ' H' hP => ?_)
    · obtain ⟨kv, mv, rfl, eH, hl⟩ := hP
      have hW := (drawSt_ok (salt := salt) hc hb hbw i).1
      have hz : ((drawSt cell salt b i).2.map V.int).length < 100000 := by
        rw [List.length_map, drawSt_len]
        omega
      refine s_if (b := decide (0 < (drawSt cell salt b i).1)) (et_test (ev_bin0 (ev_var rfl) ev_c)) (fun h H1 e1 => ?_) (fun h H1 e1 => ?_)
      · have e0 : drawSt cell salt b (i + 1) = ((drawSt cell salt b i).1 / b, (drawSt cell salt b i).2 ++ [(drawSt cell salt b i).1 % b]) := if_pos (of_decide_eq_true h)
        refine q_app (K := K) (e1 p _ hl) (ev_var rfl) (ev_bin (ev_intI (ev_var rfl)) (ev_var rfl) hb) hz fun H2 e2 => ?_
        refine s_asg (ev_bin (ev_var rfl) (ev_var rfl) ⟨hb, hbl⟩) fun H3 e3 => ⟨some (.int (i : Int)), mv, ?_, (((eH.trans e1).trans e2).mut hp0).trans e3, ?_⟩
        · rw [e0]; rfl
        · rw [e3 p _ upd_same, e0, List.map_append] <;> rfl
      · have e0 : drawSt cell salt b (i + 1) = ((drawSt cell salt b i).1, (drawSt cell salt b i).2 ++ [drawMix cell salt i]) := if_neg (of_decide_eq_false h)
        have hm := Int.emod_nonneg (cell * 48271 + (salt * 97 + (i : Int)) * 69621) (by decide : (2147483647 : Int) ≠ 0)
        have hm2 := Int.emod_lt_of_pos (cell * 48271 + (salt * 97 + (i : Int)) * 69621) (by decide : (0 : Int) < 2147483647)
        refine q_asg (v := .int ((cell * 48271 + (salt * 97 + (i : Int)) * 69621) % 2147483647)) (ev_bin (ev_intI (ev_bin0 (ev_bin (ev_var rfl) ev_c (Wd.mul hc (Wd.lit (by decide)))) (ev_bin (ev_bin0 (ev_bin (ev_var rfl) ev_c (Wd.mul (Wd.small (by omega) (by omega)) (Wd.lit (by decide)))) (ev_var rfl)) ev_c (Wd.mul (Wd.small (by omega) (by omega)) (Wd.lit (by decide)))))) ev_c (by decide)) fun H2 e2 => ?_
        refine q_asg (v := .int (((cell * 48271 + (salt * 97 + (i : Int)) * 69621) % 2147483647 / 8 * ((cell * 48271 + (salt * 97 + (i : Int)) * 69621) % 2147483647 % 50021 + 16807) + (i : Int)) % 998244353)) (ev_bin (ev_intI (ev_bin0 (ev_bin (ev_bin (ev_var rfl) ev_c ⟨by decide, by decide⟩) (ev_bin0 (ev_bin (ev_intI (ev_var rfl)) ev_c (by decide)) ev_c) (Wd.mul (Wd.div (Wd.small (by omega) (by omega))) (Wd.small (by omega) (by omega)))) (ev_var rfl))) ev_c (by decide)) fun H3 e3 => ?_
        refine s_app (K := K) (((e1.trans e2).trans e3) p _ hl) (ev_var rfl) (v := .int (drawMix cell salt i)) (ev_bin (ev_var rfl) ev_c ⟨by decide, by decide⟩) hz fun H4 e4 => ⟨some (.int (i : Int)), some (.int (((cell * 48271 + (salt * 97 + (i : Int)) * 69621) % 2147483647 / 8 * ((cell * 48271 + (salt * 97 + (i : Int)) * 69621) % 2147483647 % 50021 + 16807) + (i : Int)) % 998244353)), ?_, ((((eH.trans e1).trans e2).trans e3).trans e4).mut hp0, ?_⟩
        · rw [e0]; rfl
        · rw [upd_same, e0, List.map_append] <;> rfl
    · obtain ⟨kv, mv, rfl, eH, hl⟩ := hP
      have ec : (count : Int).toNat = count := by omega
      rw [ec] at hl
      exact s_ret (ev_var rfl) fun H1 e1 => q p H1 hp0 (eH.trans e1) (e1 p _ hl)


/-! ### _law_char -/
/-- the law's signs -/
def signsZ : List Nat := [32, 33, 34, 35, 36] ++ (List.range 89).map (· + 38)
theorem signs_len : signsZ.length = 94 := by decide +kernel
theorem signs_ok : ∀ c ∈ signsZ, 32 ≤ c ∧ c ≤ 126 ∧ c ≠ 37 := by decide +kernel
theorem signs_eq : (Str.ofString " !\"#$&'()*+,-./0123456789:;<=>?@ABCDEFGHIJKLMNOPQRSTUVWXYZ[\\]^_`" ++ Str.ofString "abcdefghijklmnopqrstuvwxyz{|}~" : Str) = ⟨signsZ.toArray⟩ := by decide +kernel
def charC (n : Int) : Nat := signsZ.getD (n % 94).toNat 0
def charZ (n : Int) : Str := ⟨#[charC n]⟩
theorem charC_mem (n : Int) : charC n ∈ signsZ := by
  have h1 := Int.emod_nonneg n (by decide : (94 : Int) ≠ 0)
  have h2 := Int.emod_lt_of_pos n (by decide : (0 : Int) < 94)
  have h3 : (n % 94).toNat < signsZ.length := by rw [signs_len]; omega
  unfold charC
  rw [List.getD_eq_getElem?_getD, List.getElem?_eq_getElem h3]
  exact List.getElem_mem h3
def sp_char : Sp := fun vs H Q _ => ∃ n : Int, vs = [.int n] ∧ ∀ H', Ex H H' → Q (.str (charZ n)) H'
theorem cv_char {n : Int} {H : Hp} : SpV sp_char [.int n] H (.str (charZ n)) := fun H1 e Q q E => ⟨n, rfl, fun H2 e2 => q H2 e2⟩
theorem ok_law_char (T : Txt K mg) : FnOk P w K mg base CX0 1 T.f_law_char T.d_law_char ["number"] sp_char := by
  refine T.F_law_char.ok sc_law_char (fun vs H Q E h => ?_) (fun cdv A outer s H vs Q E hr h => ?_)
  · obtain ⟨n, rfl, _⟩ := h
    rfl
  · obtain ⟨n, rfl, q⟩ := h
    have h1 := Int.emod_nonneg n (by decide : (94 : Int) ≠ 0)
    have h2 := Int.emod_lt_of_pos n (by decide : (0 : Int) < 94)
    refine ⟨_, pss_cons (ps_set (i := 1) sc_law_char.nd rfl (by first | exact Or.inl rfl | exact Or.inr rfl) (pe_str))
      (pss_cons (ps_set (i := 1) sc_law_char.nd rfl (by first | exact Or.inl rfl | exact Or.inr rfl) (pe_op op_add_str (pv 1) (pe_str)))
      (pss_one (ps_ret (pe_ix ix_str (pv 1) (pe_op op_mod (pe_callTy call_int1 (by rfl) T.m_int (by decide +kernel) (pa_cons (pv 0) (pa_nil))) (pe_int)) (fun _ _ => rfl))))), ?_⟩
    refine q_asg ev_c fun H1 e1 => ?_
    refine q_asg (ev_addS (ev_var rfl) ev_c (by decide +kernel)) fun H2 e2 => ?_
    refine s_ret (ev_ixS (z := ⟨signsZ.toArray⟩) (c := charC n) (ev_is (ev_var rfl) (congrArg V.str signs_eq)) (ev_bin (ev_intI (ev_var rfl)) ev_c (by decide)) (by decide +kernel) (at_cps rfl h1 (by rw [signs_len]; exact h2))) fun H3 e3 => q H3 ((e1.trans e2).trans e3)


/-! ### _law_text -/
def textLen (cell : Int) : Nat := ([0, 1, 2, 3, 4, 6, (cell / 8 % 61).toNat, 60] : List Nat).getD (cell % 8).toNat 0
theorem textLen_le (cell : Int) : textLen cell ≤ 60 := by
  have h1 := Int.emod_nonneg (cell / 8) (by decide : (61 : Int) ≠ 0)
  have h2 := Int.emod_lt_of_pos (cell / 8) (by decide : (0 : Int) < 61)
  have h3 : ∀ x ∈ ([0, 1, 2, 3, 4, 6, (cell / 8 % 61).toNat, 60] : List Nat), x ≤ 60 := by
    intro x hx
    simp only [List.mem_cons, List.not_mem_nil, or_false] at hx
    omega
  unfold textLen
  rw [List.getD_eq_getElem?_getD]
  cases e : ([0, 1, 2, 3, 4, 6, (cell / 8 % 61).toNat, 60] : List Nat)[(cell % 8).toNat]? with
  | none => exact Nat.zero_le _
  | some x => exact h3 x (List.mem_of_getElem? e)
def textC (cell : Int) : List Nat := (draws (cell / 8) (cell % 8) (textLen cell) 94).map charC
def textZ (cell : Int) : Str := ⟨(textC cell).toArray⟩
theorem textC_len (cell : Int) : (textC cell).length ≤ 60 := by
  unfold textC
  rw [List.length_map, draws_len]
  exact textLen_le cell
theorem textZ_len (cell : Int) : (textZ cell).length ≤ 60 := textC_len cell
theorem textC_ok (cell : Int) : ∀ c ∈ textC cell, c ∈ signsZ := fun c hc => by
  obtain ⟨n, _, e⟩ := List.mem_map.mp hc
  rw [← e]
  exact charC_mem n
def sp_text : Sp := fun vs H Q _ => ∃ cell : Int, vs = [.int cell] ∧ Wd cell ∧ ∀ H', Ex H H' → Q (.str (textZ cell)) H'
theorem cv_text {cell : Int} {H : Hp} (hc : Wd cell) : SpV sp_text [.int cell] H (.str (textZ cell)) := fun H1 e Q q E => ⟨cell, rfl, hc, fun H2 e2 => q H2 e2⟩
theorem ok_law_text (T : Txt K mg) : FnOk P w K mg base CX0 2 T.f_law_text T.d_law_text ["cell"] sp_text := by
  refine T.F_law_text.ok sc_law_text (fun vs H Q E h => ?_) (fun cdv A outer s H vs Q E hr h => ?_)
  · obtain ⟨n, rfl, _⟩ := h
    rfl
  · obtain ⟨n, rfl, hW, q⟩ := h
    have h1 := Int.emod_nonneg n (by decide : (8 : Int) ≠ 0)
    have h2 := Int.emod_lt_of_pos n (by decide : (0 : Int) < 8)
    have h3 := Int.emod_nonneg (n / 8) (by decide : (61 : Int) ≠ 0)
    have hL := textLen_le n
    refine ⟨_, pss_cons (ps_set (i := 1) sc_law_text.nd rfl (by first | exact Or.inl rfl | exact Or.inr rfl) (pe_op op_mod (pe_callTy call_int1 (by rfl) T.m_int (by decide +kernel) (pa_cons (pv 0) (pa_nil))) (pe_int)))
      (pss_cons (ps_set (i := 2) sc_law_text.nd rfl (by first | exact Or.inl rfl | exact Or.inr rfl) (pe_op op_fdivW (pv 0) (pe_int)))
      (pss_cons (ps_set (i := 3) sc_law_text.nd rfl (by first | exact Or.inl rfl | exact Or.inr rfl) (pe_ix (r := rIxL K) ix_list (pe_lst (pa_cons (pe_int) (pa_cons (pe_int) (pa_cons (pe_int) (pa_cons (pe_int) (pa_cons (pe_int) (pa_cons (pe_int) (pa_cons (pe_op op_mod (pe_callTy call_int1 (by rfl) T.m_int (by decide +kernel) (pa_cons (pv 2) (pa_nil))) (pe_int)) (pa_cons (pe_int) (pa_nil)))))))))) (pv 1) (fun _ _ => rfl)))
      (pss_one (ps_ret (pe_join (pe_str) (pe_lc (own := [("number", 4)]) (g := gName 4) (tt := tYes) rfl sc_law_text.nd (pi_list (pe_call (ok_law_draws T) (hr.mono (by first | decide | omega)) (by rfl) T.g_law_draws T.F_law_draws.kp T.b_law_draws .nil pass0 (pa_cons (pv 2) (pa_cons (pv 1) (pa_cons (pv 3) (pa_cons (pe_int) (pa_nil))))))) (blkOk_by (N := ["cell", "choice", "rest", "length", "number"]) (sc := defScope s_law_text) (by decide +kernel)) (fun _ _ _ _ _ => pg_name (i := 4) sc_law_text.nd rfl (Or.inl rfl)) (fun _ _ _ _ _ => pts_nil) (fun _ _ _ _ _ => pe_call (ok_law_char T) (hr.mono (by first | decide | omega)) (by rfl) T.g_law_char T.F_law_char.kp T.b_law_char .nil pass0 (pa_cons (pv 4) (pa_nil))))))))), ?_⟩
    refine q_asg (ev_bin (ev_intI (ev_var rfl)) ev_c (by decide)) fun H1 e1 => ?_
    refine q_asg (ev_bin (ev_var rfl) ev_c ⟨by decide, by decide⟩) fun H2 e2 => ?_
    refine q_asg (v := .int (textLen n : Int)) (ev_ixN (el_lst (ea_cons ev_c (ea_cons ev_c (ea_cons ev_c (ea_cons ev_c (ea_cons ev_c (ea_cons ev_c (ea_cons (ev_bin (ev_intI (ev_var rfl)) ev_c (by decide)) (ea_cons ev_c ea_nil)))))))) (by show 8 ≤ 100000; decide)) (fun _ _ => ev_var rfl) (atI_of h1 ?_)) fun H3 e3 => ?_
    · unfold textLen
      have hh : n % 8 = 0 ∨ n % 8 = 1 ∨ n % 8 = 2 ∨ n % 8 = 3 ∨ n % 8 = 4 ∨ n % 8 = 5 ∨ n % 8 = 6 ∨ n % 8 = 7 := by omega
      rcases hh with e | e | e | e | e | e | e | e <;> rw [e]
      all_goals first | rfl | skip
      show some (V.int (n / 8 % 61)) = some (V.int (((n / 8 % 61).toNat : Nat) : Int))
      rw [Int.toNat_of_nonneg h3]
    · have et : textZ n = Txt.join (Str.ofString "") ((textC n).map fun c => (⟨#[c]⟩ : Str)) := (join_signs (textC n)).symm
      refine s_ret (v := .str (textZ n)) ?_ fun H4 e4 => q H4 (((e1.trans e2).trans e3).trans e4)
      rw [et]
      refine ev_joinN (K := K) ev_c ?_ ?_
      · have em : ((textC n).map fun c => (⟨#[c]⟩ : Str)).map V.str = (draws (n / 8) (n % 8) (textLen n) 94).map fun m => V.str (charZ m) := by
          unfold textC
          rw [List.map_map, List.map_map] <;> rfl
        rw [em]
        refine el_mapN (K := K) (el_call (ea_cons (ev_var rfl) (ea_cons (ev_var rfl) (ea_cons (ev_var rfl) (ea_cons ev_c ea_nil)))) (cl_draws (Wd.div hW) (by omega) (by omega) (by decide) (by decide))) (by rw [draws_len]; omega) (fun x => rfl) fun m _ H5 e5 => ev_call (ea_cons (ev_var rfl) ea_nil) cv_char
      · rw [sum_ones, List.length_map]
        have := textC_len n
        show (textC n).length + (textC n).length * 0 ≤ 16777216
        omega


/-! ### _law_literal -/
def spLit (K : PySem.W.Frag) : Sp := fun vs H Q _ => ∃ (k : Kd) (c : Int), vs = [.str k.s, .int c] ∧ k ≠ .truth ∧ Wd c ∧ ∀ v t H', Ex H H' → Dp K H' v (Tr.d t) → t.h = 0 → (∀ cs, Ty cs t k) → Q v H'
theorem ok_law_literal (T : Txt K mg) : FnOk P w K mg base CX0 3 T.f_law_literal T.d_law_literal ["kind", "cell"] (spLit K) := by
  refine T.F_law_literal.ok sc_law_literal (fun vs H Q E h => ?_) (fun cdv A outer s H vs Q E hr h => ?_)
  · obtain ⟨k, c, rfl, _⟩ := h
    rfl
  · obtain ⟨k, c, rfl, hk, hW, q⟩ := h
    refine ⟨_, pss_cons (ps_set (i := 2) sc_law_literal.nd rfl (by first | exact Or.inl rfl | exact Or.inr rfl) (pe_op op_mod (pe_callTy call_int1 (by rfl) T.m_int (by decide +kernel) (pa_cons (pv 1) (pa_nil))) (pe_int)))
      (pss_cons (ps_set (i := 3) sc_law_literal.nd rfl (by first | exact Or.inl rfl | exact Or.inr rfl) (pe_op op_fdivW (pv 1) (pe_int)))
      (pss_cons (ps_if (pt_cmpR op_eq (pv 0) (pe_str) (nomark _))
      (pss_one (ps_ret (pe_tup (pa_cons (pe_str) (pa_cons (pe_ix (r := rIxL K) ix_list (pe_lst (pa_cons (pe_int) (pa_cons (pe_int) (pa_cons (pe_int) (pa_cons (pe_int) (pa_cons (pe_op op_sub (pe_op op_pow (pe_int) (pe_int)) (pe_int)) (pa_cons (pe_op op_mod (pe_callTy call_int1 (by rfl) T.m_int (by decide +kernel) (pa_cons (pv 3) (pa_nil))) (pe_op op_pow (pe_int) (pe_int))) (pa_nil)))))))) (pv 2) (fun _ _ => rfl)) (pa_nil))))))
      (pss_nil))
      (pss_one (ps_ret (pe_tup (pa_cons (pe_str) (pa_cons (pe_ix (r := rIxL K) ix_list (pe_lstS (pat_cons (CwR.PET.of (pe_str)) (pat_cons (CwR.PET.of (pe_str)) (pat_cons (CwR.PET.of (pe_str)) (pat_cons (CwR.PET.of (pe_str)) (pat_cons (pet_slice sl_str (CwR.pet_replC (pe_call (ok_law_text T) (hr.mono (by first | decide | omega)) (by rfl) T.g_law_text T.F_law_text.kp T.b_law_text .nil pass0 (pa_cons (pv 3) (pa_nil)))) (po_none) (po_some (pe_int))) (pat_nil))))))) (pv 2) (fun _ _ => rfl)) (pa_nil)))))))), ?_⟩
    have c0 := Int.emod_nonneg c (by decide : (6 : Int) ≠ 0)
    have c1 := Int.emod_lt_of_pos c (by decide : (0 : Int) < 6)
    have hh : c % 6 = 0 ∨ c % 6 = 1 ∨ c % 6 = 2 ∨ c % 6 = 3 ∨ c % 6 = 4 ∨ c % 6 = 5 := by omega
    have p18 : ∀ {σ : L2.St} {H : Hp}, Ev (tOp (rI CPow fun i j => V.int (i ^ j.toNat)) (tC (.int 10)) (tC (.int 18))) σ H (.int (10 ^ 18)) := ev_bin ev_c ev_c ⟨by decide, by decide, by decide⟩
    refine q_asg (ev_bin (ev_intI (ev_var rfl)) ev_c (by decide)) fun H1 e1 => ?_
    refine q_asg (ev_bin (ev_var rfl) ev_c ⟨by decide, by decide⟩) fun H2 e2 => ?_
    have E2 := e1.trans e2
    cases k with
    | truth => exact absurd rfl hk
    | int =>
      refine q_when (b := true) (et_is (et_test (ev_eqS (ev_var rfl) ev_c)) (by decide +kernel)) (fun _ H3 e3 => ?_) (fun z => nomatch z)
      obtain ⟨m, hm, hm0⟩ : ∃ m : Int, ([.int 0, .int 1, .int 2, .int 3, .int (10 ^ 18 - 1), .int (c / 6 % 10 ^ 18)] : List V)[(c % 6).toNat]? = some (.int m) ∧ 0 ≤ m ∧ m < 10 ^ 18 := by
        rcases hh with e | e | e | e | e | e <;> rw [e]
        · exact ⟨0, rfl, by decide⟩
        · exact ⟨1, rfl, by decide⟩
        · exact ⟨2, rfl, by decide⟩
        · exact ⟨3, rfl, by decide⟩
        · exact ⟨10 ^ 18 - 1, rfl, by decide⟩
        · exact ⟨_, rfl, Int.emod_nonneg _ (by decide), Int.emod_lt_of_pos _ (by decide)⟩
      exact s_retP (K := K) (ep_t (epa_c (ep_str ev_c) (epa_c (ep_int (ev_ixN (K := K) (el_lst (ea_cons ev_c (ea_cons ev_c (ea_cons ev_c (ea_cons ev_c (ea_cons (ev_bin0 p18 ev_c) (ea_cons (ev_bin (ev_intI (ev_var rfl)) p18 (by decide)) ea_nil)))))) (by show 6 ≤ 100000; decide)) (fun H4 e4 => ev_var rfl) (atI_of c0 hm))) epa_nil)) (by show 2 ≤ 100000; decide)) fun v d H4 e4 hd hD => q v (.int m) H4 ((E2.trans e3).trans e4) (by rw [hd] at hD; exact hD) rfl fun cs => .int hm0
    | text =>
      refine q_when (b := false) (et_is (et_test (ev_eqS (ev_var rfl) ev_c)) (by decide +kernel)) (fun z => nomatch z) fun _ H3 e3 => ?_
      have hq : TxOk 1 (Str.ofString "q") := ⟨by decide +kernel, by decide +kernel⟩
      have ht : TxOk 60 (textZ (c / 6)) := ⟨textZ_len _, fun x hx => by
        have h1 := textC_ok (c / 6) x hx
        have : ∀ y ∈ signsZ, y ≤ 1000 := by decide +kernel
        exact this x h1⟩
      have hb : (textZ (c / 6)).length + ((textZ (c / 6)).length + 1) * (Str.ofString "q").length ≤ 16777216 := by
        have h1 := ht.1
        have h2 : (Str.ofString "q").length = 1 := by decide +kernel
        rw [h2]
        omega
      have hr := TxOk.repl (y := Str.ofString "'") ht hq hb
      have hrl := hr.1
      obtain ⟨m, hm, hm0⟩ : ∃ m : Str, ([.str (Str.ofString ""), .str (Str.ofString "a"), .str (Str.ofString "b"), .str (Str.ofString "ab"), .str (Str.ofString "B"), .str (cutS (Txt.replace (textZ (c / 6)) (Str.ofString "'") (Str.ofString "q")) none (some 8))] : List V)[(c % 6).toNat]? = some (.str m) ∧ SeqAt.shaped (.str m) = true := by
        rcases hh with e | e | e | e | e | e <;> rw [e]
        · exact ⟨_, rfl, by decide +kernel⟩
        · exact ⟨_, rfl, by decide +kernel⟩
        · exact ⟨_, rfl, by decide +kernel⟩
        · exact ⟨_, rfl, by decide +kernel⟩
        · exact ⟨_, rfl, by decide +kernel⟩
        · exact ⟨_, rfl, (hr.cut _ _).sh⟩
      exact s_retP (K := K) (ep_t (epa_c (ep_str ev_c) (epa_c (ep_str (ev_ixN (K := K) (el_lst (ea_cons ev_c (ea_cons ev_c (ea_cons ev_c (ea_cons ev_c (ea_cons ev_c (ea_cons (ev_slB (ev_replL (ev_call (ea_cons (ev_var rfl) ea_nil) (cv_text (Wd.div hW))) hb) eo_none (eo_some ev_c) hrl) ea_nil)))))) (by show 6 ≤ 100000; decide)) (fun H4 e4 => ev_var rfl) (atI_of c0 hm))) epa_nil)) (by show 2 ≤ 100000; decide)) fun v d H4 e4 hd hD => q v (.text m) H4 ((E2.trans e3).trans e4) (by rw [hd] at hD; exact hD) rfl fun cs => .text hm0


/-! ### _law_operator -/
def bopL : List Bop := [.add, .sub, .mul, .equal, .unequal, .less, .atmost, .more, .atleast]
/-- the operator and the kind of its operands -/
def OpK (o : Bop) (k : Kd) : Prop := (k = .int ∧ o.lg = false) ∨ (k = .text ∧ o.lg = false ∧ o.ar = false) ∨ (k = .truth ∧ o.lg = true)
def spOperator : Sp := fun vs H Q _ => ∃ (k1 k2 : Kd) (n : Int), vs = [.str k1.s, .str k2.s, .int n] ∧ ∀ (z : Str) H', Ex H H' → (z = Str.ofString "" ∨ ∃ o : Bop, z = o.s ∧ k1 = k2 ∧ OpK o k1) → Q (.str z) H'
theorem ok_law_operator (T : Txt K mg) : FnOk P w K mg base CX0 1 T.f_law_operator T.d_law_operator ["left", "right", "number"] spOperator := by
  refine T.F_law_operator.ok sc_law_operator (fun vs H Q E h => ?_) (fun cdv A outer s H vs Q E hr h => ?_)
  · obtain ⟨k1, k2, n, rfl, _⟩ := h
    rfl
  · obtain ⟨k1, k2, n, rfl, q⟩ := h
    refine ⟨_, pss_cons (ps_set (i := 3) sc_law_operator.nd rfl (by first | exact Or.inl rfl | exact Or.inr rfl) (pe_lst (pa_cons (pe_str) (pa_cons (pe_str) (pa_cons (pe_str) (pa_cons (pe_str) (pa_cons (pe_str) (pa_cons (pe_str) (pa_cons (pe_str) (pa_cons (pe_str) (pa_cons (pe_str) (pa_nil))))))))))))
      (pss_cons (ps_if (pt_cmpR op_ne (pv 0) (pv 1) (nomark _))
      (pss_one (ps_ret (pe_str)))
      (pss_nil))
      (pss_cons (ps_if (pt_cmpR op_eq (pv 0) (pe_str) (nomark _))
      (pss_one (ps_ret (pe_ix (r := rIxL K) ix_list (pv 3) (pe_op op_mod (pe_callTy call_int1 (by rfl) T.m_int (by decide +kernel) (pa_cons (pv 2) (pa_nil))) (pe_int)) (fun _ _ => rfl))))
      (pss_nil))
      (pss_cons (ps_if (pt_cmpR op_eq (pv 0) (pe_str) (nomark _))
      (pss_one (ps_ret (pe_ix (r := rIxL K) ix_list (pv 3) (pe_op op_add (pe_int) (pe_op op_mod (pe_callTy call_int1 (by rfl) T.m_int (by decide +kernel) (pa_cons (pv 2) (pa_nil))) (pe_int))) (fun _ _ => rfl))))
      (pss_nil))
      (pss_one (ps_ret (pe_ix (r := rIxL K) ix_list (pe_lst (pa_cons (pe_str) (pa_cons (pe_str) (pa_nil)))) (pe_op op_mod (pe_callTy call_int1 (by rfl) T.m_int (by decide +kernel) (pa_cons (pv 2) (pa_nil))) (pe_int)) (fun _ _ => rfl))))))), ?_⟩
    refine q_asgL (xs := (bopL.map Bop.s).map V.str) (el_lst (ea_cons ev_c (ea_cons ev_c (ea_cons ev_c (ea_cons ev_c (ea_cons ev_c (ea_cons ev_c (ea_cons ev_c (ea_cons ev_c (ea_cons ev_c ea_nil))))))))) (by show 9 ≤ 100000; decide)) fun l H1 n1 e1 h1 => ?_
    refine q_when (et_test (ev_neS (ev_var rfl) (ev_var rfl))) (fun hb H2 e2 => s_ret ev_c fun H3 e3 => q _ _ ((e1.trans e2).trans e3) (.inl rfl)) fun hb H2 e2 => ?_
    have hk : k1 = k2 := by
      have : k1.s = k2.s := by simpa using hb
      revert this
      cases k1 <;> cases k2 <;> first | exact fun _ => rfl | (intro z; exact absurd z (by decide +kernel))
    subst hk
    have E2 := e1.trans e2
    have at9 : ∀ j : Nat, j < 9 → ((bopL.map Bop.s).map V.str)[j]? = some (.str (bopL.getD j .add).s) := by
      intro j hj
      rw [List.getElem?_map, List.getElem?_map, List.getD_eq_getElem?_getD, List.getElem?_eq_getElem (show j < bopL.length from hj)] <;> rfl
    have lg9 : ∀ j : Nat, j < 9 → (bopL.getD j .add).lg = false := by decide
    have ar9 : ∀ j : Nat, j < 9 → 3 ≤ j → (bopL.getD j .add).ar = false := by decide
    cases k1 with
    | int =>
      have n0 := Int.emod_nonneg n (by decide : (9 : Int) ≠ 0)
      have n1 := Int.emod_lt_of_pos n (by decide : (0 : Int) < 9)
      refine q_when (b := true) (et_is (et_test (ev_eqS (ev_var rfl) ev_c)) (by decide +kernel)) (fun _ H3 e3 => ?_) (fun z => nomatch z)
      exact s_ret (ev_ixL (K := K) (ev_var rfl) (ev_bin (ev_intI (ev_var rfl)) ev_c (by decide)) (sq_of ((e2.trans e3) _ _ h1)) (atI_of n0 (at9 _ (by omega)))) fun H4 e4 => q _ _ ((E2.trans e3).trans e4) (.inr ⟨_, rfl, rfl, .inl ⟨rfl, lg9 _ (by omega)⟩⟩)
    | text =>
      have n0 := Int.emod_nonneg n (by decide : (6 : Int) ≠ 0)
      have n1 := Int.emod_lt_of_pos n (by decide : (0 : Int) < 6)
      refine q_when (b := false) (et_is (et_test (ev_eqS (ev_var rfl) ev_c)) (by decide +kernel)) (fun z => nomatch z) fun _ H3 e3 => ?_
      refine q_when (b := true) (et_is (et_test (ev_eqS (ev_var rfl) ev_c)) (by decide +kernel)) (fun _ H4 e4 => ?_) (fun z => nomatch z)
      exact s_ret (ev_ixL (K := K) (ev_var rfl) (ev_bin0 ev_c (ev_bin (ev_intI (ev_var rfl)) ev_c (by decide))) (sq_of (((e2.trans e3).trans e4) _ _ h1)) (atI_of (by omega) (at9 _ (by omega)))) fun H5 e5 => q _ _ (((E2.trans e3).trans e4).trans e5) (.inr ⟨_, rfl, rfl, .inr (.inl ⟨rfl, lg9 _ (by omega), ar9 _ (by omega) (by omega)⟩)⟩)
    | truth =>
      have n0 := Int.emod_nonneg n (by decide : (2 : Int) ≠ 0)
      have n1 := Int.emod_lt_of_pos n (by decide : (0 : Int) < 2)
      refine q_when (b := false) (et_is (et_test (ev_eqS (ev_var rfl) ev_c)) (by decide +kernel)) (fun z => nomatch z) fun _ H3 e3 => ?_
      refine q_when (b := false) (et_is (et_test (ev_eqS (ev_var rfl) ev_c)) (by decide +kernel)) (fun z => nomatch z) fun _ H4 e4 => ?_
      obtain ⟨o, ho, hl⟩ : ∃ o : Bop, ([.str (Str.ofString "and"), .str (Str.ofString "or")] : List V)[(n % 2).toNat]? = some (.str o.s) ∧ o.lg = true := by
        have hh : n % 2 = 0 ∨ n % 2 = 1 := by omega
        rcases hh with e | e <;> rw [e]
        · exact ⟨.and, rfl, rfl⟩
        · exact ⟨.or, rfl, rfl⟩
      exact s_ret (ev_ixN (K := K) (el_lst (ea_cons ev_c (ea_cons ev_c ea_nil)) (by show 2 ≤ 100000; decide)) (fun H5 e5 => ev_bin (ev_intI (ev_var rfl)) ev_c (by decide)) (atI_of n0 ho)) fun H5 e5 => q _ _ (((E2.trans e3).trans e4).trans e5) (.inr ⟨o, rfl, rfl, .inr (.inr ⟨rfl, hl⟩)⟩)


/-! ### _law_turned -/
/-- an entry of the stack -/
def EnT (K : PySem.W.Frag) (H : Hp) (cs : Cols) (n : Nat) (v : V) : Prop := ∃ (r : Addr) (vt : V) (t : Tr) (k : Kd), v = .ref r ∧ SqT K H r [vt, .str k.s] ∧ Dp K H vt t.d ∧ Ty cs t k ∧ t.h ≤ n
theorem EnT.mono {K : PySem.W.Frag} {H H' : Hp} {cs : Cols} {n m : Nat} {v : V} (e : Ex H H') (h : EnT K H cs n v) (l : n ≤ m) : EnT K H' cs m v := by
  obtain ⟨r, vt, t, k, rfl, h1, h2, h3, h4⟩ := h
  exact ⟨r, vt, t, k, rfl, ex_t e h1, dp_mono e h2, h3, by omega⟩
theorem EnT.monoN {K : PySem.W.Frag} {H H' : Hp} {cs : Cols} {n m : Nat} {v : V} (e : ExN H H') (h : EnT K H cs n v) (l : n ≤ m) : EnT K H' cs m v := by
  obtain ⟨r, vt, t, k, rfl, h1, h2, h3, h4⟩ := h
  exact ⟨r, vt, t, k, rfl, exN_t e h1, dp_monoN e h3.fl h2, h3, by omega⟩
def spTurned (K : PySem.W.Frag) : Sp := fun vs H Q _ => ∃ (cs : Cols) (m : Nat) (v : V) (n : Int), vs = [v, .int n] ∧ EnT K H cs m v ∧ ∀ v' H', Ex H H' → EnT K H' cs (m + 2) v' → Q v' H'
/-- return (tree, kind) -/
theorem s_retE {K : PySem.W.Frag} {σ : L2.St} {H : Hp} {te : TE} {D : Ends} {cs : Cols} {n : Nat} {t : Tr} {k : Kd} {z : Str} (h : EP K te σ H (· = t.d)) (ht : Ty cs t k) (hn : t.h ≤ n) (hz : z = k.s) (q : ∀ v H1, Ex H H1 → EnT K H1 cs n v → D.rt v H1) : tRet (tTup (tCons te (tCons (tC (.str z)) tNil))) D σ H :=
  h H (Ex.refl H) _ fun v d H1 e1 hd hD => ⟨(by show 2 ≤ sizeLine; decide), fun p hp => q (.ref p) _ (e1.trans (Ex.new hp)) ⟨p, v, t, k, rfl, by rw [← hz]; exact st_of upd_same, dp_mono (Ex.new hp) (hd ▸ hD), ht, hn⟩⟩
theorem ep_un {K : PySem.W.Frag} {σ : L2.St} {H : Hp} {te : TE} {a : Str} {d : PyData} (h : EP K te σ H (· = d)) : EP K (tTup (tCons (tC (.str a)) (tCons te tNil))) σ H (· = .tuple [.str a, d]) := ep_t (epa_c (ep_str ev_c) (epa_c h epa_nil)) (by show 2 ≤ 100000; decide)
theorem ok_law_turned (T : Txt K mg) : FnOk P w K mg base CX0 1 T.f_law_turned T.d_law_turned ["entry", "number"] (spTurned K) := by
  refine T.F_law_turned.ok sc_law_turned (fun vs H Q E h => ?_) (fun cdv A outer s H vs Q E hr h => ?_)
  · obtain ⟨cs, m, v, n, rfl, _⟩ := h
    rfl
  · obtain ⟨cs, m, v, n, rfl, ⟨r, vt, t, k, rfl, h1, h2, h3, h4⟩, q⟩ := h
    refine ⟨_, pss_cons (ps_asg (pv 0) (pg_tup rfl (pgs_cons (pg_name (i := 2) sc_law_turned.nd rfl (by first | exact Or.inl rfl | exact Or.inr rfl)) (pgs_cons (pg_name (i := 3) sc_law_turned.nd rfl (by first | exact Or.inl rfl | exact Or.inr rfl)) (pgs_nil)))))
      (pss_cons (ps_if (pt_cmpR op_eq (pv 3) (pe_str) (nomark _))
      (pss_one (ps_ret (pe_tup (pa_cons (pe_tup (pa_cons (pe_str) (pa_cons (pv 2) (pa_nil)))) (pa_cons (pe_str) (pa_nil))))))
      (pss_nil))
      (pss_cons (ps_if (PW.pt (pw_and (pt_cmpR op_eq (pv 3) (pe_str) (nomark _)) (pw_and1 (pt_cmpR op_eq (pe_op op_mod (pe_callTy call_int1 (by rfl) T.m_int (by decide +kernel) (pa_cons (pv 1) (pa_nil))) (pe_int)) (pe_int) (nomark _)))))
      (pss_one (ps_ret (pe_tup (pa_cons (pe_tup (pa_cons (pe_str) (pa_cons (pv 2) (pa_nil)))) (pa_cons (pe_str) (pa_nil))))))
      (pss_nil))
      (pss_cons (ps_if (pt_cmpR op_eq (pe_op op_mod (pe_callTy call_int1 (by rfl) T.m_int (by decide +kernel) (pa_cons (pe_op op_fdivW (pv 1) (pe_int)) (pa_nil))) (pe_int)) (pe_int) (nomark _))
      (pss_one (ps_ret (pe_tup (pa_cons (pe_tup (pa_cons (pe_str) (pa_cons (pv 2) (pa_nil)))) (pa_cons (pe_str) (pa_nil))))))
      (pss_nil))
      (pss_one (ps_ret (pe_tup (pa_cons (pe_tup (pa_cons (pe_str) (pa_cons (pe_tup (pa_cons (pe_str) (pa_cons (pv 2) (pa_nil)))) (pa_nil)))) (pa_cons (pe_str) (pa_nil))))))))), ?_⟩
    refine q_asgG ⟨_, rfl, r, [vt, .str k.s], rfl, h1, rfl, vt, _, rfl, .str k.s, _, rfl, rfl, ?_⟩
    have tr : ∀ {H' : Hp} {σ : L2.St}, Ex H H' → σ[2]? = some (some vt) → EP K (tVar 2) σ H' (· = t.d) := fun e hσ => ep_is (ev_var hσ) (dp_mono e h2) rfl
    by_cases hk : k = .truth
    · subst hk
      exact q_when (b := true) (et_is (et_test (ev_eqS (ev_var rfl) ev_c)) (by decide +kernel)) (fun _ H1 e1 => s_retE (t := .not t) (k := .truth) (ep_un (tr e1 rfl)) (.not h3) (show t.h + 1 ≤ m + 2 by omega) rfl fun v H2 e2 he => q v H2 (e1.trans e2) he) (fun z => nomatch z)
    · refine q_when (b := false) (et_is (et_test (ev_eqS (ev_var rfl) ev_c)) (by cases k <;> first | exact absurd rfl hk | decide +kernel)) (fun z => nomatch z) fun _ H1 e1 => ?_
      refine q_when (et_and (et_test (ev_eqS (ev_var rfl) ev_c)) fun _ => et_test (ev_eqI (ev_bin (ev_intI (ev_var rfl)) ev_c (by decide)) ev_c)) (fun hb H2 e2 => ?_) fun hb H2 e2 => ?_
      · have hki : k = .int := by
          simp only [Bool.and_eq_true, decide_eq_true_eq] at hb
          have := hb.1
          revert this
          cases k <;> first | exact fun _ => rfl | (intro z; exact absurd z (by decide +kernel))
        subst hki
        exact s_retE (t := .neg t) (k := .int) (ep_un (tr (e1.trans e2) rfl)) (.neg h3) (show t.h + 1 ≤ m + 2 by omega) rfl fun v H3 e3 he => q v H3 ((e1.trans e2).trans e3) he
      · refine q_when (et_test (ev_eqI (ev_bin (ev_intI (ev_bin (ev_var rfl) ev_c ⟨by decide, by decide⟩)) ev_c (by decide)) ev_c)) (fun hb H3 e3 => ?_) fun hb H3 e3 => ?_
        · exact s_retE (t := .null t) (k := .truth) (ep_un (tr ((e1.trans e2).trans e3) rfl)) (.null h3 hk) (show t.h + 1 ≤ m + 2 by omega) rfl fun v H4 e4 he => q v H4 (((e1.trans e2).trans e3).trans e4) he
        · exact s_retE (t := .not (.null t)) (k := .truth) (ep_un (ep_un (tr ((e1.trans e2).trans e3) rfl))) (.not (.null h3 hk)) (show t.h + 1 + 1 ≤ m + 2 by omega) rfl fun v H4 e4 he => q v H4 (((e1.trans e2).trans e3).trans e4) he
/-- every column is found by its name -/
def ColsOk (cs : Cols) : Prop := ∀ (i : Nat) (c : Str × Kd), cs[i]? = some c → SeqAt.shaped (.str c.1) = true ∧ c.2 ≠ .truth ∧ (cs.find? fun d => decide (d.1 = c.1)).map (·.2) = some c.2
/-! ### a stack of entries -/
theorem s_asgK {te : TE} {σ : L2.St} {H : Hp} {D : Ends} {i : Nat} (k : te σ H fun v H1 => D.nx (σ.set i (some v)) H1) : tAsg te (gName i) D σ H := k
theorem pop_at {xs : List V} {y : V} : (xs ++ [y])[(xs ++ [y]).length - 1]? = some y := by
  rw [List.length_append, List.getElem?_append_right (by simp)]
  simp
theorem q_popK {K : PySem.W.Frag} {σ : L2.St} {H : Hp} {tz : TS} {D : Ends} {i j : Nat} {p : Addr} {xs : List V} {y : V} (hp : H p = some (.lst (xs ++ [y]))) (ha : σ[j]? = some (some (.ref p))) (k : tz D (σ.set i (some y)) (upd H p (.lst xs))) : tSeq (tAsg (tBM0 K "list" rPop (tVar j)) (gName i)) tz D σ H :=
  ⟨_, ha, .inl ⟨rfl, _, sq_of hp⟩, p, xs ++ [y], y, rfl, rfl, hp, pop_at, by rw [List.dropLast_concat]; exact k⟩
theorem s_appK {K : PySem.W.Frag} {σ : L2.St} {H : Hp} {te : TE} {D : Ends} {j : Nat} {p : Addr} {xs : List V} (hp : H p = some (.lst xs)) (ha : σ[j]? = some (some (.ref p))) (k : te σ H fun v H1 => rAppend (.ref p) [v] H1 fun _ H2 => D.nx σ H2) : tDrop (tBM K "list" rAppend (tVar j) (tCons te tNil)) D σ H :=
  ⟨_, ha, .inl ⟨rfl, _, sq_of hp⟩, k⟩
theorem EnT.upd {K : PySem.W.Frag} {H : Hp} {cs : Cols} {n m : Nat} {v : V} {p : Addr} {xs : List V} {o : HO} (hp : H p = some (.lst xs)) (h : EnT K H cs n v) (l : n ≤ m) : EnT K (upd H p o) cs m v := h.monoN (ExN.upd hp) l
def StK (K : PySem.W.Frag) (H1 H' : Hp) (p : Addr) (cs : Cols) (n m : Nat) (es : List V) : Prop := H' p = some (.lst es) ∧ es.length ≤ n ∧ (∀ v ∈ es, EnT K H' cs m v) ∧ Ex H1 H'
theorem StK.ext {K : PySem.W.Frag} {H1 H' H2 : Hp} {p : Addr} {cs : Cols} {n m : Nat} {es : List V} (h : StK K H1 H' p cs n m es) (e : Ex H' H2) : StK K H1 H2 p cs n m es := ⟨e _ _ h.1, h.2.1, fun v hv => (h.2.2.1 v hv).mono e (Nat.le_refl _), h.2.2.2.trans e⟩
theorem StK.set {K : PySem.W.Frag} {H1 H' : Hp} {p : Addr} {cs : Cols} {n m n2 m2 : Nat} {es es2 : List V} (h : StK K H1 H' p cs n m es) (h1 : H1 p = none) (hl : es2.length ≤ n2) (he : ∀ v ∈ es2, EnT K H' cs m2 v) : StK K H1 (upd H' p (.lst es2)) p cs n2 m2 es2 :=
  ⟨upd_same, hl, fun v hv => (he v hv).upd h.1 (Nat.le_refl _), h.2.2.2.mut h1⟩
theorem StK.push {K : PySem.W.Frag} {H1 H' : Hp} {p : Addr} {cs : Cols} {n m n2 m2 : Nat} {es : List V} {v : V} (h : StK K H1 H' p cs n m es) (h1 : H1 p = none) (hl : n + 1 ≤ n2) (hm : m ≤ m2) (he : EnT K H' cs m2 v) : StK K H1 (upd H' p (.lst (es ++ [v]))) p cs n2 m2 (es ++ [v]) :=
  h.set h1 (by rw [List.length_append]; exact Nat.le_trans (Nat.add_le_add_right h.2.1 1) hl) fun u hu => by
    rcases List.mem_append.mp hu with k | k
    · exact (h.2.2.1 u k).mono (Ex.refl _) hm
    · rw [List.mem_singleton.mp k]
      exact he
/-- (tree, kind) -/
theorem te_ent {K : PySem.W.Frag} {σ : L2.St} {H : Hp} {te tk : TE} {cs : Cols} {n : Nat} {k : Kd} (h : EP K te σ H (fun d => ∃ t, d = Tr.d t ∧ Ty cs t k ∧ t.h ≤ n)) (hk : Ev tk σ H (.str k.s)) {Q : VK} (q : ∀ v H1, Ex H H1 → EnT K H1 cs n v → Q v H1) : tTup (tCons te (tCons tk tNil)) σ H Q :=
  h H (Ex.refl H) _ fun v d H1 e1 ⟨t, hd, ht, hn⟩ hD => hk H1 e1 _ fun H2 e2 => ⟨(by show 2 ≤ sizeLine; decide), fun p hp => q (.ref p) _ ((e1.trans e2).trans (Ex.new hp)) ⟨p, v, t, k, rfl, st_of upd_same, dp_mono (e2.trans (Ex.new hp)) (hd ▸ hD), ht, hn⟩⟩
theorem at_last2 {xs : List V} {a b : V} : atI (xs ++ [a, b]) (-2) = some a := by
  have hl : (xs ++ [a, b]).length = xs.length + 2 := by simp
  have e : ixN (xs ++ [a, b]).length (-2) = some xs.length := by
    unfold ixN
    rw [hl, if_neg (by decide), if_pos (by omega)]
    congr 1
    omega
  unfold atI
  rw [e]
  show (xs ++ [a, b])[xs.length]? = some a
  simp
theorem at_last1 {xs : List V} {a b : V} : atI (xs ++ [a, b]) (-1) = some b := by
  have : xs ++ [a, b] = (xs ++ [a]) ++ [b] := by simp
  rw [this]
  exact atI_last _ _
theorem two_last {xs : List V} (h : 2 ≤ xs.length) : ∃ ys a b, xs = ys ++ [a, b] := by
  rcases List.eq_nil_or_concat xs with rfl | ⟨ys, b, e⟩
  · exact absurd h (by show ¬ 2 ≤ 0; decide)
  · rw [List.concat_eq_append] at e
    subst e
    rcases List.eq_nil_or_concat ys with rfl | ⟨zs, a, e⟩
    · exact absurd h (by show ¬ 2 ≤ 1; decide)
    · rw [List.concat_eq_append] at e
      subst e
      exact ⟨zs, a, b, by simp⟩


/-! ### _law_drawn -/
def spDrawn (K : PySem.W.Frag) : Sp := fun vs H Q _ => ∃ (p : Addr) (ns : List Int) (vc : V) (cs : Cols), vs = [.ref p, vc] ∧ SqL K H p (ns.map V.int) ∧ ns.length ≤ 6 ∧ (∀ c ∈ ns, Wd c) ∧ Dp K H vc (colsD cs) ∧ 0 < cs.length ∧ cs.length ≤ 100 ∧ ColsOk cs ∧ ∀ q' (es : List V) H', H q' = none → Ex H H' → H' q' = some (.lst es) → es.length ≤ 6 → (∀ v ∈ es, EnT K H' cs 12 v) → Q (.ref q') H'
theorem ok_law_drawn (T : Txt K mg) : FnOk P w K mg base CX0 4 T.f_law_drawn T.d_law_drawn ["cells", "columns"] (spDrawn K) := by
  refine T.F_law_drawn.ok sc_law_drawn (fun vs H Q E h => ?_) (fun cdv A outer s H vs Q E hr h => ?_)
  · obtain ⟨p, ns, vc, cs, rfl, _⟩ := h
    rfl
  · obtain ⟨p, ns, vc, cs, rfl, hS, hl, hW, hC, hc0, hc1, hco, q⟩ := h
    refine ⟨_, pss_cons (ps_set (i := 2) sc_law_drawn.nd rfl (by first | exact Or.inl rfl | exact Or.inr rfl) (pe_lst (pa_nil)))
      (pss_cons (ps_for PassesOwn.never rfl (pi_list (pv 0)) (pg_name (i := 3) sc_law_drawn.nd rfl (by first | exact Or.inl rfl | exact Or.inr rfl))
      (pss_cons (ps_set (i := 4) sc_law_drawn.nd rfl (by first | exact Or.inl rfl | exact Or.inr rfl) (pe_call (ok_law_draws T) (hr.mono (by first | decide | omega)) (by rfl) T.g_law_draws T.F_law_draws.kp T.b_law_draws .nil pass0 (pa_cons (pv 3) (pa_cons (pe_int) (pa_cons (pe_int) (pa_cons (pe_op op_pow (pe_int) (pe_int)) (pa_nil)))))))
      (pss_cons (ps_set (i := 5) sc_law_drawn.nd rfl (by first | exact Or.inl rfl | exact Or.inr rfl) (pe_op op_mod (pe_callTy call_int1 (by rfl) T.m_int (by decide +kernel) (pa_cons (pe_ix (r := rIxL K) ix_list (pv 4) (pe_int) (fun _ _ => rfl)) (pa_nil))) (pe_int)))
      (pss_cons (ps_set (i := 6) sc_law_drawn.nd rfl (by first | exact Or.inl rfl | exact Or.inr rfl) (pe_str))
      (pss_cut (ps_if (PW.pt (pw_and (pt_cmpR op_gt (pv 5) (pe_int) (nomark _)) (pw_and1 (pt_cmpR op_gt (pe_callB (r := rLenQ K) call_len_seq (by rfl) T.m_len (by decide +kernel) (pa_cons (pv 2) (pa_nil))) (pe_int) (nomark _)))))
      (pss_one (ps_set (i := 6) sc_law_drawn.nd rfl (by first | exact Or.inl rfl | exact Or.inr rfl) (pe_call (ok_law_operator T) (hr.mono (by first | decide | omega)) (by rfl) T.g_law_operator T.F_law_operator.kp T.b_law_operator .nil pass0 (pa_cons (pe_ix (r := rIxT K) ix_tup (pe_ix (r := rIxL K) ix_list (pv 2) (pe_un un_neg (pe_int)) (fun _ _ => rfl)) (pe_int) (fun _ _ => rfl)) (pa_cons (pe_ix (r := rIxT K) ix_tup (pe_ix (r := rIxL K) ix_list (pv 2) (pe_un un_neg (pe_int)) (fun _ _ => rfl)) (pe_int) (fun _ _ => rfl)) (pa_cons (pe_ix (r := rIxL K) ix_list (pv 4) (pe_int) (fun _ _ => rfl)) (pa_nil)))))))
      (pss_nil))
      (pss_one (ps_if (pt_cmpR op_ne (pv 6) (pe_str) (nomark _))
      (pss_cons (ps_set (i := 7) sc_law_drawn.nd rfl (by first | exact Or.inl rfl | exact Or.inr rfl) (pe_bm0 PySem.F.plainAttrs_list PySem.F.slot_list_pop PySem.F.type_list_pop mt_pop (pv 2)))
      (pss_cons (ps_set (i := 8) sc_law_drawn.nd rfl (by first | exact Or.inl rfl | exact Or.inr rfl) (pe_bm0 PySem.F.plainAttrs_list PySem.F.slot_list_pop PySem.F.type_list_pop mt_pop (pv 2)))
      (pss_cons (ps_set (i := 9) sc_law_drawn.nd rfl (by first | exact Or.inl rfl | exact Or.inr rfl) (pe_str))
      (pss_cut (ps_if (pt_cmpR (r := rIn K false) op_in_seq (pv 6) (pe_lst (pa_cons (pe_str) (pa_cons (pe_str) (pa_cons (pe_str) (pa_nil))))) (by rfl))
      (pss_one (ps_set (i := 9) sc_law_drawn.nd rfl (by first | exact Or.inl rfl | exact Or.inr rfl) (pe_str)))
      (pss_nil))
      (pss_one (ps_expr (pe_bm PySem.F.plainAttrs_list PySem.F.slot_list_append PySem.F.type_list_append mt_append (pv 2) (pa_cons (pe_tup (pa_cons (pe_tup (pa_cons (pv 6) (pa_cons (pe_ix (r := rIxT K) ix_tup (pv 8) (pe_int) (fun _ _ => rfl)) (pa_cons (pe_ix (r := rIxT K) ix_tup (pv 7) (pe_int) (fun _ _ => rfl)) (pa_nil))))) (pa_cons (pv 9) (pa_nil)))) (pa_nil)))))))))
      (pss_one (ps_if (PW.pt (pw_and (pt_cmpR op_eq (pv 5) (pe_int) (nomark _)) (pw_and1 (pt_truth (pv 2) (by intro _; rfl)))))
      (pss_one (ps_expr (pe_bm PySem.F.plainAttrs_list PySem.F.slot_list_append PySem.F.type_list_append mt_append (pv 2) (pa_cons (pe_call (ok_law_turned T) (hr.mono (by first | decide | omega)) (by rfl) T.g_law_turned T.F_law_turned.kp T.b_law_turned .nil pass0 (pa_cons (pe_bm0 PySem.F.plainAttrs_list PySem.F.slot_list_pop PySem.F.type_list_pop mt_pop (pv 2)) (pa_cons (pe_ix (r := rIxL K) ix_list (pv 4) (pe_int) (fun _ _ => rfl)) (pa_nil)))) (pa_nil)))))
      (pss_one (ps_if (pt_cmpR op_gt (pe_op op_mod (pe_callTy call_int1 (by rfl) T.m_int (by decide +kernel) (pa_cons (pe_ix (r := rIxL K) ix_list (pv 4) (pe_int) (fun _ _ => rfl)) (pa_nil))) (pe_int)) (pe_int) (nomark _))
      (pss_cons (ps_set (i := 10) sc_law_drawn.nd rfl (by first | exact Or.inl rfl | exact Or.inr rfl) (pe_ix (r := rIxT K) ix_tup (pv 1) (pe_op op_mod (pe_callTy call_int1 (by rfl) T.m_int (by decide +kernel) (pa_cons (pe_ix (r := rIxL K) ix_list (pv 4) (pe_int) (fun _ _ => rfl)) (pa_nil))) (pe_callB (r := rLenQ K) call_len_seq (by rfl) T.m_len (by decide +kernel) (pa_cons (pv 1) (pa_nil)))) (fun _ _ => rfl)))
      (pss_one (ps_expr (pe_bm PySem.F.plainAttrs_list PySem.F.slot_list_append PySem.F.type_list_append mt_append (pv 2) (pa_cons (pe_tup (pa_cons (pe_tup (pa_cons (pe_str) (pa_cons (pe_ix (r := rIxT K) ix_tup (pv 10) (pe_int) (fun _ _ => rfl)) (pa_nil)))) (pa_cons (pe_ix (r := rIxT K) ix_tup (pv 10) (pe_int) (fun _ _ => rfl)) (pa_nil)))) (pa_nil))))))
      (pss_cons (ps_set (i := 9) sc_law_drawn.nd rfl (by first | exact Or.inl rfl | exact Or.inr rfl) (pe_ix (r := rIxL K) ix_list (pe_lst (pa_cons (pe_str) (pa_cons (pe_str) (pa_nil)))) (pe_op op_mod (pe_callTy call_int1 (by rfl) T.m_int (by decide +kernel) (pa_cons (pe_op op_fdivW (pe_ix (r := rIxL K) ix_list (pv 4) (pe_int) (fun _ _ => rfl)) (pe_int)) (pa_nil))) (pe_int)) (fun _ _ => rfl)))
      (pss_one (ps_expr (pe_bm PySem.F.plainAttrs_list PySem.F.slot_list_append PySem.F.type_list_append mt_append (pv 2) (pa_cons (pe_tup (pa_cons (pe_call (ok_law_literal T) (hr.mono (by first | decide | omega)) (by rfl) T.g_law_literal T.F_law_literal.kp T.b_law_literal .nil pass0 (pa_cons (pv 9) (pa_cons (pe_ix (r := rIxL K) ix_list (pv 4) (pe_int) (fun _ _ => rfl)) (pa_nil)))) (pa_cons (pv 9) (pa_nil)))) (pa_nil)))))))))))))))))
      (pss_one (ps_ret (pv 2)))), ?_⟩
    refine q_asgL (xs := []) (el_lst ea_nil (by decide)) fun sl H1 n1 e1 h1 => ?_
    have n0 := n1
    refine q_forLn (K := K) (xs := ns.map V.int) (ev_var rfl) (ex_l e1 hS) (fun i σ' H' => ∃ (es : List V) (x3 x4 x5 x6 x7 x8 x9 x10 : Option V), σ' = [some (.ref p), some vc, some (.ref sl), x3, x4, x5, x6, x7, x8, x9, x10] ∧ StK K H H' sl cs i (2 * i) es) (fun H3 e3 => ⟨[], _, _, _, _, _, _, _, _, rfl, e3 _ _ h1, Nat.le_refl 0, (fun z hz => nomatch hz), e1.trans e3⟩) (fun i σ' H' _ hP => ?_) (fun i x σ' H' hi hP => ?_) (fun σ' H' hP => ?_)
    · obtain ⟨es, x3, x4, x5, x6, x7, x8, x9, x10, rfl, st⟩ := hP
      exact ex_l st.2.2.2 hS
    · obtain ⟨es, x3, x4, x5, x6, x7, x8, x9, x10, rfl, st⟩ := hP
      obtain ⟨c, hc, rfl⟩ := List.mem_map.mp (List.mem_of_getElem? hi)
      have hWc := hW c hc
      have hi6 : i < 6 := by have := (List.getElem?_eq_some_iff.mp hi).1; rw [List.length_map] at this; omega
      refine q_asgL (xs := (draws c 75 3 (10 ^ 30)).map V.int) (el_call (ea_cons (ev_var rfl) (ea_cons ev_c (ea_cons ev_c (ea_cons (ev_bin ev_c ev_c ⟨by decide, by decide, by decide⟩) ea_nil)))) (cl_draws (count := 3) hWc (by decide) (by decide) (by decide) (by decide +kernel))) fun nl H2 n2 e2 h2 => ?_
      have gl : (draws c 75 3 (10 ^ 30)).length = 3 := draws_len ..
      have gw : ∀ x ∈ draws c 75 3 (10 ^ 30), 0 ≤ x ∧ Wd x := draws_ok hWc (by decide) (Wd.lit (by decide)) 3
      generalize draws c 75 3 (10 ^ 30) = gs at h2 gl gw
      have hne : sl ≠ nl := ne_of_none st.1 n2
      have st2 := st.ext e2
      have num : ∀ {H' : Hp} {σ : L2.St} {j : Nat}, H' nl = some (.lst (gs.map V.int)) → σ[4]? = some (some (V.ref nl)) → j < 3 → Ev (tOp (rIxL K) (tVar 4) (tC (.int (j : Int)))) σ H' (.int (gs.getD j 0)) := fun {H' σ j} e hσ hj => ev_ixL (K := K) (ev_var hσ) ev_c (sq_of e) (at_nat (by
        rw [List.getElem?_map, List.getD_eq_getElem?_getD, List.getElem?_eq_getElem (by omega)] <;> rfl))
      have wg : ∀ j, j < 3 → Wd (gs.getD j 0) := fun j hj => (gw _ (by
        rw [List.getD_eq_getElem?_getD, List.getElem?_eq_getElem (by omega)]
        exact List.getElem_mem _)).2
      refine q_asg (ev_bin (ev_intI (num (j := 0) h2 rfl (by decide))) ev_c (by decide)) fun H3 e3 => ?_
      refine q_asg ev_c fun H4 e4 => ?_
      have st4 := st2.ext (e3.trans e4)
      have h4 := (e3.trans e4) _ _ h2
      refine q_cut (M := fun σ' H' => ∃ z : Str, σ' = [some (.ref p), some vc, some (.ref sl), some (.int c), some (.ref nl), some (.int (gs.getD 0 0 % 8)), some (.str z), x7, x8, x9, x10] ∧ Ex H4 H' ∧ (z = Str.ofString "" ∨ ∃ (o : Bop) (ys : List V) (a b : V) (k : Kd) (ta tb : Tr) (ra rb : Addr) (va vb : V), z = o.s ∧ es = ys ++ [a, b] ∧ OpK o k ∧ a = .ref ra ∧ b = .ref rb ∧ SqT K H4 ra [va, .str k.s] ∧ SqT K H4 rb [vb, .str k.s] ∧ Dp K H4 va ta.d ∧ Dp K H4 vb tb.d ∧ Ty cs ta k ∧ Ty cs tb k ∧ ta.h ≤ 2 * i ∧ tb.h ≤ 2 * i)) ?_ fun σ' H' hM => ?_
      · refine s_when (et_and (et_test (ev_bin0 (ev_var rfl) ev_c)) fun _ => et_test (ev_bin0 (ev_lenQ (K := K) (ev_var rfl) (sq_of st4.1)) ev_c)) (fun hb H5 e5 => ?_) (fun hb H5 e5 => ⟨_, rfl, e5, .inl rfl⟩)
        simp only [Bool.and_eq_true, decide_eq_true_eq] at hb
        have hlen : (1 : Int) < (es.length : Int) := hb.2
        obtain ⟨ys, a, b, rfl⟩ := two_last (xs := es) (by omega)
        obtain ⟨ra, va, ta, ka, rfl, a1, a2, a3, a4⟩ := st4.2.2.1 a (by simp)
        obtain ⟨rb, vb, tb, kb, rfl, b1, b2, b3, b4⟩ := st4.2.2.1 b (by simp)
        refine s_asgK ((ea_cons (ev_ixT (K := K) (ev_ixL (K := K) (ev_var rfl) (ev_neg ev_c) (sq_of (e5 _ _ st4.1)) at_last2) ev_c (ex_t e5 a1) (at_nat (j := 1) rfl)) (ea_cons (ev_ixT (K := K) (ev_ixL (K := K) (ev_var rfl) (ev_neg ev_c) (sq_of (e5 _ _ st4.1)) at_last1) ev_c (ex_t e5 b1) (at_nat (j := 1) rfl)) (ea_cons (num (j := 1) (e5 _ _ h4) rfl (by decide)) ea_nil))) H5 (Ex.refl H5) _ fun H6 e6 => ⟨ka, kb, _, rfl, fun z H7 e7 hz => ⟨z, rfl, (e5.trans e6).trans e7, ?_⟩⟩)
        rcases hz with hz | ⟨o, hz, hk, ho⟩
        · exact .inl hz
        · subst hk
          exact .inr ⟨o, ys, _, _, ka, ta, tb, ra, rb, va, vb, hz, rfl, ho, rfl, rfl, a1, b1, a2, b2, a3, b3, a4, b4⟩
      · obtain ⟨z, rfl, eM, hz⟩ := hM
        have st5 := st4.ext eM
        have h5 := eM _ _ h4
        rcases hz with rfl | ⟨o, ys, _, _, k, ta, tb, ra, rb, va, vb, rfl, rfl, ho, rfl, rfl, a1, b1, a2, b2, a3, b3, a4, b4⟩
        · refine s_if (b := false) (et_is (et_test (ev_neS (ev_var rfl) ev_c)) (by decide +kernel)) (fun z => nomatch z) fun _ H6 e6 => ?_
          have st6 := st5.ext e6
          have h6 := e6 _ _ h5
          have sz6 : es.length < 100000 := by have := st6.2.1; omega
          refine s_if (et_and (et_test (ev_eqI (ev_var rfl) ev_c)) fun _ => et_lst (K := K) (ev_var rfl) fun H7 e7 => sq_of (e7 _ _ st6.1)) (fun hb H7 e7 => ?_) (fun hb H7 e7 => ?_)
          · have st7 := st6.ext e7
            have h7 := e7 _ _ h6
            obtain ⟨ys, y, rfl⟩ : ∃ ys y, es = ys ++ [y] := by
              rcases List.eq_nil_or_concat es with rfl | ⟨ys, y, ee⟩
              · simp at hb
              · exact ⟨ys, y, by rw [← List.concat_eq_append]; exact ee⟩
            have hl7 := st7.2.1
            rw [List.length_append] at hl7
            have hy := st7.2.2.1 y (by simp)
            have stA := st7.set (n2 := i) (m2 := 2 * i) n0 (es2 := ys) (by omega) fun v hv => st7.2.2.1 v (List.mem_append.mpr (.inl hv))
            have hyA := hy.upd (o := .lst ys) st7.1 (Nat.le_refl _)
            have hA : (upd H7 sl (.lst ys)) nl = some (.lst (gs.map V.int)) := by rw [upd_ne hne.symm]; exact h7
            refine s_appK st7.1 rfl ⟨_, rfl, .inl ⟨rfl, _, sq_of st7.1⟩, sl, ys ++ [y], y, rfl, rfl, st7.1, pop_at, ?_⟩
            rw [List.dropLast_concat]
            refine (ea_cons (num (j := 1) hA rfl (by decide)) ea_nil) _ (Ex.refl _) _ fun H8 e8 => ⟨cs, 2 * i, y, _, rfl, hyA.mono e8 (Nat.le_refl _), fun v' H9 e9 he => ?_⟩
            have st9 := stA.ext (e8.trans e9)
            exact ⟨sl, ys, v', rfl, rfl, st9.1, sz_lt (by omega), ys ++ [v'], _, _, _, _, _, _, _, _, rfl, st9.push n0 (Nat.le_refl _) (by omega) he⟩
          · have st7 := st6.ext e7
            have h7 := e7 _ _ h6
            refine s_if (et_test (ev_bin0 (ev_bin (ev_intI (num (j := 1) h7 rfl (by decide))) ev_c (by decide)) ev_c)) (fun hb2 H8 e8 => ?_) (fun hb2 H8 e8 => ?_)
            · have st8 := st7.ext e8
              have h8 := e8 _ _ h7
              obtain ⟨cp, xs, rfl, hcS, hcl, hcat⟩ := cols_at (dp_mono st8.2.2.2 hC)
              have hpos : (0 : Int) < (xs.length : Int) := by omega
              have i0 := Int.emod_nonneg (gs.getD 2 0) (by omega : (xs.length : Int) ≠ 0)
              have i1 := Int.emod_lt_of_pos (gs.getD 2 0) hpos
              obtain ⟨v, hv⟩ : ∃ v, xs[(gs.getD 2 0 % (xs.length : Int)).toNat]? = some v := ⟨_, List.getElem?_eq_getElem (by omega)⟩
              obtain ⟨pc, c2, hcc, rfl, hpS⟩ := hcat _ _ hv
              obtain ⟨hs1, hs2, hs3⟩ := hco _ _ hcc
              refine q_asg (ev_ixT (K := K) (ev_var rfl) (ev_bin (ev_intI (num (j := 2) h8 rfl (by decide))) (ev_lenT (K := K) (ev_var rfl) hcS) hpos) hcS (atI_of i0 hv)) fun H9 e9 => ?_
              have st9 := st8.ext e9
              refine s_appK st9.1 rfl (te_ent (K := K) (cs := cs) (n := 2 * (i + 1)) (k := c2.2) ((ep_un (ep_str (ev_ixT (K := K) (ev_var rfl) ev_c (ex_t e9 hpS) (at_nat (j := 0) rfl)))).imp fun d hd => ⟨.col c2.1, hd, .col hs1 hs2 hs3, Nat.zero_le _⟩) (ev_ixT (K := K) (ev_var rfl) ev_c (ex_t e9 hpS) (at_nat (j := 1) rfl)) fun v H10 e10 he => ?_)
              exact ⟨sl, es, v, rfl, rfl, e10 _ _ st9.1, sz_lt sz6, es ++ [v], _, _, _, _, _, _, _, _, rfl, (st9.ext e10).push n0 (Nat.le_refl _) (by omega) he⟩
            · have st8 := st7.ext e8
              have h8 := e8 _ _ h7
              have i0 := Int.emod_nonneg (gs.getD 1 0 / 3) (by decide : (2 : Int) ≠ 0)
              have i1 := Int.emod_lt_of_pos (gs.getD 1 0 / 3) (by decide : (0 : Int) < 2)
              obtain ⟨k, hk, hkt⟩ : ∃ k : Kd, ([.str (Str.ofString "int"), .str (Str.ofString "text")] : List V)[(gs.getD 1 0 / 3 % 2).toNat]? = some (.str k.s) ∧ k ≠ .truth := by
                have hh : gs.getD 1 0 / 3 % 2 = 0 ∨ gs.getD 1 0 / 3 % 2 = 1 := by omega
                rcases hh with e | e <;> rw [e]
                · exact ⟨.int, rfl, by decide⟩
                · exact ⟨.text, rfl, by decide⟩
              refine q_asg (ev_ixN (K := K) (el_lst (ea_cons ev_c (ea_cons ev_c ea_nil)) (by show 2 ≤ 100000; decide)) (fun H9 e9 => ev_bin (ev_intI (ev_bin (num (j := 1) (e9 _ _ h8) rfl (by decide)) ev_c ⟨by decide, by decide⟩)) ev_c (by decide)) (atI_of i0 hk)) fun H9 e9 => ?_
              have st9 := st8.ext e9
              have h9 := e9 _ _ h8
              refine s_appK st9.1 rfl (te_ent (K := K) (cs := cs) (n := 2 * (i + 1)) (k := k) (fun H10 e10 Q q => (ea_cons (ev_var rfl) (ea_cons (num (j := 2) (e10 _ _ h9) rfl (by decide)) ea_nil)) H10 (Ex.refl _) _ fun H11 e11 => ⟨k, _, rfl, hkt, wg 2 (by decide), fun v t H12 e12 hD h0 hT => q v t.d H12 (e11.trans e12) ⟨t, rfl, hT cs, by omega⟩ hD⟩) (ev_var rfl) fun v H10 e10 he => ?_)
              exact ⟨sl, es, v, rfl, rfl, e10 _ _ st9.1, sz_lt sz6, es ++ [v], _, _, _, _, _, _, _, _, rfl, (st9.ext e10).push n0 (Nat.le_refl _) (by omega) he⟩
        · refine s_if (b := true) (et_is (et_test (ev_neS (ev_var rfl) ev_c)) (by cases o <;> decide +kernel)) (fun _ H6 e6 => ?_) (fun z => nomatch z)
          have st6 := st5.ext e6
          have hl6 := st6.2.1
          rw [List.length_append] at hl6
          have hl6 : ys.length + 2 ≤ i := hl6
          have eA : ys ++ [V.ref ra, V.ref rb] = (ys ++ [V.ref ra]) ++ [V.ref rb] := by simp
          have hp6 : H6 sl = some (.lst ((ys ++ [V.ref ra]) ++ [V.ref rb])) := by rw [← eA]; exact st6.1
          have E6 := eM.trans e6
          refine q_popK hp6 rfl ?_
          have stA := st6.set (n2 := i) (m2 := 2 * i) n0 (es2 := ys ++ [V.ref ra]) (by rw [List.length_append]; show ys.length + 1 ≤ i; omega) fun v hv => st6.2.2.1 v (by rw [eA]; exact List.mem_append.mpr (.inl hv))
          refine q_popK stA.1 rfl ?_
          have stB := stA.set (n2 := i) (m2 := 2 * i) n0 (es2 := ys) (by omega) fun v hv => stA.2.2.1 v (List.mem_append.mpr (.inl hv))
          have a1' := exN_t (ExN.upd (o := .lst ys) stA.1) (exN_t (ExN.upd (o := .lst (ys ++ [V.ref ra])) st6.1) (ex_t E6 a1))
          have b1' := exN_t (ExN.upd (o := .lst ys) stA.1) (exN_t (ExN.upd (o := .lst (ys ++ [V.ref ra])) st6.1) (ex_t E6 b1))
          have a2' := dp_monoN (ExN.upd (o := .lst ys) stA.1) a3.fl (dp_monoN (ExN.upd (o := .lst (ys ++ [V.ref ra])) st6.1) a3.fl (dp_mono E6 a2))
          have b2' := dp_monoN (ExN.upd (o := .lst ys) stA.1) b3.fl (dp_monoN (ExN.upd (o := .lst (ys ++ [V.ref ra])) st6.1) b3.fl (dp_mono E6 b2))
          refine q_asg ev_c fun H7 e7 => ?_
          have st7 := stB.ext e7
          refine q_cut (M := fun σ' H' => σ' = [some (.ref p), some vc, some (.ref sl), some (.int c), some (.ref nl), some (.int (gs.getD 0 0 % 8)), some (.str o.s), some (.ref rb), some (.ref ra), some (.str (if o.ar = true then Kd.int else Kd.truth).s), x10] ∧ Ex H7 H') ?_ fun σ' H' hM => ?_
          · refine s_when (b := o.ar) (et_is (et_test (ev_kinL (K := K) (xs := ["add", "sub", "mul"]) (ev_var rfl) (el_lst (ea_cons ev_c (ea_cons ev_c (ea_cons ev_c ea_nil))) (by show 3 ≤ 100000; decide)))) (by cases o <;> decide +kernel)) (fun hb H8 e8 => s_asg ev_c fun H9 e9 => ⟨by rw [hb] <;> rfl, e8.trans e9⟩) (fun hb H8 e8 => ⟨by rw [hb] <;> rfl, e8⟩)
          · obtain ⟨rfl, eN⟩ := hM
            have st8 := st7.ext eN
            have E8 := e7.trans eN
            refine s_appK st8.1 rfl (te_ent (K := K) (cs := cs) (n := 2 * (i + 1)) (k := if o.ar = true then Kd.int else Kd.truth) ((ep_t (epa_c (ep_str (ev_var rfl)) (epa_c (ep_is (ev_ixT (K := K) (ev_var rfl) ev_c (ex_t E8 a1') (at_nat (j := 0) rfl)) (dp_mono E8 a2') rfl) (epa_c (ep_is (ev_ixT (K := K) (ev_var rfl) ev_c (ex_t E8 b1') (at_nat (j := 0) rfl)) (dp_mono E8 b2') rfl) epa_nil))) (by show 3 ≤ 100000; decide)).imp fun d hd => ⟨.bin o ta tb, hd, ?_, ?_⟩) (ev_var rfl) fun v H9 e9 he => ?_)
            · rcases ho with ⟨rfl, hlg⟩ | ⟨rfl, hlg, har⟩ | ⟨rfl, hlg⟩
              · by_cases har : o.ar = true
                · rw [if_pos har]; exact .ar har a3 b3
                · rw [if_neg har]; exact .cmp (by simpa using har) hlg (by decide) a3 b3
              · rw [if_neg (by rw [har]; exact Bool.false_ne_true)]; exact .cmp har hlg (by decide) a3 b3
              · rw [if_neg fun har => lg_ar har hlg]; exact .lg hlg a3 b3
            · show max ta.h tb.h + 1 ≤ 2 * (i + 1)
              omega
            · exact ⟨sl, ys, v, rfl, rfl, e9 _ _ st8.1, sz_lt (by omega), ys ++ [v], _, _, _, _, _, _, _, _, rfl, (st8.ext e9).push n0 (Nat.le_refl _) (by omega) he⟩
    · obtain ⟨es, x3, x4, x5, x6, x7, x8, x9, x10, rfl, st⟩ := hP
      exact s_ret (ev_var rfl) fun H3 e3 => q sl es _ n1 (st.2.2.2.trans e3) (e3 _ _ st.1) (by have := st.2.1; rw [List.length_map] at this; omega) fun v hv => (st.2.2.1 v hv).mono e3 (by rw [List.length_map]; omega)


/-! ### _law_compared -/
def spCompared : Sp := fun vs H Q _ => ∃ (o : Bop) (x y : V), vs = [.str o.s, x, y] ∧ o.ar = false ∧ o.lg = false ∧ Two x y ∧ ∀ H', Ex H H' → Q (cmpV o x y) H'
theorem cv_compared {o : Bop} {x y : V} {H : Hp} (h1 : o.ar = false) (h2 : o.lg = false) (h3 : Two x y) : SpV spCompared [.str o.s, x, y] H (cmpV o x y) := fun H1 e Q q E => ⟨o, x, y, rfl, h1, h2, h3, fun H2 e2 => q H2 e2⟩
theorem ok_law_compared (T : Txt K mg) : FnOk P w K mg base CX0 1 T.f_law_compared T.d_law_compared ["word", "left", "right"] spCompared := by
  refine T.F_law_compared.ok sc_law_compared (fun vs H Q E h => ?_) (fun cdv A outer s H vs Q E hr h => ?_)
  · obtain ⟨o, x, y, rfl, _⟩ := h
    rfl
  · obtain ⟨o, x, y, rfl, h1, h2, h3, q⟩ := h
    obtain ⟨_, _, _, _, _, _, _, _, _, _, _, _, k13, k14, k15, k16, k17⟩ := kin_bop o
    have sc : scal x y = true := by rcases h3 with ⟨i, j, rfl, rfl⟩ | ⟨i, j, rfl, rfl⟩ <;> rfl
    obtain ⟨b, l1, l2, l3, l4⟩ := less_bl h3
    obtain ⟨c, m1, m2, m3, m4⟩ := less_bl h3.symm
    refine ⟨_, pss_cons (ps_if (pt_cmpR op_eq (pv 0) (pe_str) (nomark _))
      (pss_one (ps_ret (pe_cmpR op_eq (pv 1) (pv 2) (nomark _))))
      (pss_nil))
      (pss_cons (ps_if (pt_cmpR op_eq (pv 0) (pe_str) (nomark _))
      (pss_one (ps_ret (pe_cmpR op_ne (pv 1) (pv 2) (nomark _))))
      (pss_nil))
      (pss_cons (ps_if (pt_cmpR op_eq (pv 0) (pe_str) (nomark _))
      (pss_one (ps_ret (pe_cmpR (r := rAny2 _ _) (op_any op_lt op_lt_str) (pv 1) (pv 2) (nomark _))))
      (pss_nil))
      (pss_cons (ps_if (pt_cmpR op_eq (pv 0) (pe_str) (nomark _))
      (pss_one (ps_ret (pe_not (pe_cmpR (r := rAny2 _ _) (op_any op_lt op_lt_str) (pv 2) (pv 1) (nomark _)))))
      (pss_nil))
      (pss_cons (ps_if (pt_cmpR op_eq (pv 0) (pe_str) (nomark _))
      (pss_one (ps_ret (pe_cmpR (r := rAny2 _ _) (op_any op_lt op_lt_str) (pv 2) (pv 1) (nomark _))))
      (pss_nil))
      (pss_one (ps_ret (pe_not (pe_cmpR (r := rAny2 _ _) (op_any op_lt op_lt_str) (pv 1) (pv 2) (nomark _))))))))), ?_⟩
    refine q_when (et_is (et_test (ev_eqS (ev_var rfl) ev_c)) k13) (fun hb H1 e1 => ?_) (fun hb H1 e1 => ?_)
    · obtain rfl := of_decide_eq_true hb
      refine s_ret (v := cmpV .equal x y) (ev_is (ev_op (ev_var rfl) (ev_var rfl) (rv_eq sc)) ?_) fun H2 e2 => q H2 (e1.trans e2)
      rcases h3 with ⟨i, j, rfl, rfl⟩ | ⟨i, j, rfl, rfl⟩
      · exact congrArg V.bl dec_int
      · exact congrArg V.bl dec_str
    refine q_when (et_is (et_test (ev_eqS (ev_var rfl) ev_c)) k14) (fun hb H2 e2 => ?_) (fun hb H2 e2 => ?_)
    · obtain rfl := of_decide_eq_true hb
      refine s_ret (v := cmpV .unequal x y) (ev_is (ev_op (ev_var rfl) (ev_var rfl) (rv_ne sc)) ?_) fun H3 e3 => q H3 ((e1.trans e2).trans e3)
      rcases h3 with ⟨i, j, rfl, rfl⟩ | ⟨i, j, rfl, rfl⟩
      · exact congrArg (fun b => V.bl (!b)) dec_int
      · exact congrArg (fun b => V.bl (!b)) dec_str
    have E2 := e1.trans e2
    refine q_when (et_is (et_test (ev_eqS (ev_var rfl) ev_c)) k15) (fun hb H3 e3 => ?_) (fun hb H3 e3 => ?_)
    · obtain rfl := of_decide_eq_true hb
      exact s_ret (ev_lt2 (ev_var rfl) (ev_var rfl) h3) fun H4 e4 => q H4 ((E2.trans e3).trans e4)
    refine q_when (et_is (et_test (ev_eqS (ev_var rfl) ev_c)) k16) (fun hb H4 e4 => ?_) (fun hb H4 e4 => ?_)
    · obtain rfl := of_decide_eq_true hb
      rw [m4] at q
      exact s_ret (ev_notV (ev_is (ev_lt2 (ev_var rfl) (ev_var rfl) h3.symm) m1)) fun H5 e5 => q H5 (((E2.trans e3).trans e4).trans e5)
    refine q_when (et_is (et_test (ev_eqS (ev_var rfl) ev_c)) k17) (fun hb H5 e5 => ?_) (fun hb H5 e5 => ?_)
    · obtain rfl := of_decide_eq_true hb
      rw [m3] at q
      exact s_ret (ev_is (ev_lt2 (ev_var rfl) (ev_var rfl) h3.symm) m1) fun H6 e6 => q H6 ((((E2.trans e3).trans e4).trans e5).trans e6)
    · have e : o = .atleast := by
        cases o <;> first | rfl | exact absurd h1 (by decide) | exact absurd h2 (by decide) | exact absurd rfl (of_decide_eq_false (by assumption))
      subst e
      rw [l2] at q
      exact s_ret (ev_notV (ev_is (ev_lt2 (ev_var rfl) (ev_var rfl) h3) l1)) fun H6 e6 => q H6 ((((E2.trans e3).trans e4).trans e5).trans e6)


/-! ### _law_evaluated -/
theorem small60 {i : Int} (h : i.natAbs < 10 ^ 60) : Wd i := Wd.lit (Nat.lt_trans h (by decide))
theorem ev_ninL {K : PySem.W.Frag} {σ : L2.St} {H : Hp} {ta tb : TE} {k : Str} {xs : List String} (ha : Ev ta σ H (.str k)) (hb : EvL tb σ H (xs.map fun x => V.str (Str.ofString x))) (hf : (xs.map fun x => V.str (Str.ofString x)).all flatV = true := by rfl) : Ev (tOp (rIn K true) ta tb) σ H (.bl (!kIn k xs)) := ev_opL ha hb fun _ _ h _ => rv_niL (sq_of h) rfl hf
/-- if number >= 10 ** 60 or -number >= 10 ** 60: return None; return number -/
theorem fin_num {σ : L2.St} {H : Hp} {D : Ends} {t1 t2 t3 : TE} {i : Int} (h1 : Ev t1 σ H (.int i)) (h2 : Ev t2 σ H (.int i)) (h3 : Ev t3 σ H (.int i)) (q : ∀ H', Ex H H' → D.rt (bndV i) H') :
    tSeq (tIfS (tOr (tTest (tOp (rI0 fun i j => .bl (decide (j ≤ i))) t1 (tOp (rI CPow fun i j => V.int (i ^ j.toNat)) (tC (.int 10)) (tC (.int 60))))) (tTest (tOp (rI0 fun i j => .bl (decide (j ≤ i))) (tUn (rU fun i => .int (-i)) t2) (tOp (rI CPow fun i j => V.int (i ^ j.toNat)) (tC (.int 10)) (tC (.int 60)))))) (tRet (tC .non)) tNext) (tRet t3) D σ H := by
  have p60 : ∀ {σ : L2.St} {H : Hp}, Ev (tOp (rI CPow fun i j => V.int (i ^ j.toNat)) (tC (.int 10)) (tC (.int 60))) σ H (.int (10 ^ 60)) := ev_bin ev_c ev_c ⟨by decide, by decide, by decide⟩
  have e60 : (10 : Int) ^ 60 = 1000000000000000000000000000000000000000000000000000000000000 := by decide
  have n60 : (10 : Nat) ^ 60 = 1000000000000000000000000000000000000000000000000000000000000 := by decide
  refine q_when (b := decide ((10 : Int) ^ 60 ≤ i) || decide ((10 : Int) ^ 60 ≤ -i)) (et_or (et_test (ev_bin0 h1 p60)) fun _ => et_test (ev_bin0 (ev_neg h2) p60)) (fun hb H1 e1 => ?_) (fun hb H1 e1 => ?_)
  · simp only [Bool.or_eq_true, decide_eq_true_eq] at hb
    rw [e60] at hb
    have eb : bndV i = .non := if_neg (by rw [n60]; omega)
    rw [eb] at q
    exact s_ret ev_c fun H2 e2 => q H2 (e1.trans e2)
  · simp only [Bool.or_eq_false_iff, decide_eq_false_iff_not] at hb
    rw [e60] at hb
    have eb : bndV i = .int i := if_pos (by rw [n60]; omega)
    rw [eb] at q
    exact s_ret (h3.mono e1) fun H2 e2 => q H2 (e1.trans e2)
set_option maxHeartbeats 4000000 in
theorem ok_law_evaluated_at (T : Txt K mg) : ∀ n : Nat, FnOk P w K mg base CX0 (n + 3) T.f_law_evaluated T.d_law_evaluated ["tree", "columns", "row"] (spEv K n)
  | 0 => by
    refine T.F_law_evaluated.ok sc_law_evaluated (fun vs H Q E h => ?_) (fun cdv A outer s H vs Q E hr h => ?_)
    · obtain ⟨t, k, cs, row, vt, vc, r, rfl, _⟩ := h
      rfl
    · obtain ⟨t, k, cs, row, vt, vc, r, rfl, hT, hh, hty, hC, hR, hro, hcl, q⟩ := h
      refine ⟨_, pss_cons (ps_set (i := 3) sc_law_evaluated.nd rfl (by first | exact Or.inl rfl | exact Or.inr rfl) (pe_ix (r := rIxT K) ix_tup (pv 0) (pe_int) (fun _ _ => rfl)))
      (pss_cons (ps_if (pt_cmpR (r := rIn K false) op_in_seq (pv 3) (pe_lst (pa_cons (pe_str) (pa_cons (pe_str) (pa_nil)))) (by rfl))
      (pss_one (ps_ret (pe_ix (r := rIxT K) ix_tup (pv 0) (pe_int) (fun _ _ => rfl))))
      (pss_nil))
      (pss_cons (ps_if (pt_cmpR op_eq (pv 3) (pe_str) (nomark _))
      (pss_one (ps_ret (pe_ix (r := rIxL K) ix_list (pe_lc (own := [("k", 4)]) (g := gName 4) rfl sc_law_evaluated.nd (pi_range1 (by rfl) T.m_range (pa_cons (pe_callB (r := rLenQ K) call_len_seq (by rfl) T.m_len (by decide +kernel) (pa_cons (pv 2) (pa_nil))) (pa_nil))) (blkOk_by (N := ["tree", "columns", "row", "word", "k", "values", "part", "unknown", "value", "number"]) (sc := defScope s_law_evaluated) (by decide +kernel)) (fun _ _ _ _ _ => pg_name (i := 4) sc_law_evaluated.nd rfl (Or.inl rfl)) (fun _ _ _ _ _ => pts_one (pt_cmpR op_eq (pe_ix (r := rIxT K) ix_tup (pe_ix (r := rIxT K) ix_tup (pv 1) (pv 4) (fun _ _ => rfl)) (pe_int) (fun _ _ => rfl)) (pe_ix (r := rIxT K) ix_tup (pv 0) (pe_int) (fun _ _ => rfl)) (nomark _))) (fun _ _ _ _ _ => pe_ix (r := rIxT K) ix_tup (pv 2) (pv 4) (fun _ _ => rfl))) (pe_int) (fun _ _ => rfl))))
      (pss_nil))
      (pss_cons (ps_never)
      (pss_cons (ps_set (i := 7) sc_law_evaluated.nd rfl (by first | exact Or.inl rfl | exact Or.inr rfl) (pe_cmpR (r := rNeD K) (op_neD hr.units) (pe_lc (own := [("value", 8)]) (g := gName 8) rfl sc_law_evaluated.nd (pi_list (pv 5)) (blkOk_by (N := ["tree", "columns", "row", "word", "k", "values", "part", "unknown", "value", "number"]) (sc := defScope s_law_evaluated) (by decide +kernel)) (fun _ _ _ _ _ => pg_name (i := 8) sc_law_evaluated.nd rfl (Or.inl rfl)) (fun _ _ _ _ _ => pts_one (pt_cmpR op_isN (pv 8) (pe_non) (nomark _))) (fun _ _ _ _ _ => pv 8)) (pe_lst (pa_nil)) (nomark _)))
      (pss_cons (ps_if (pt_cmpR op_eq (pv 3) (pe_str) (nomark _))
      (pss_one (ps_ret (pv 7)))
      (pss_nil))
      (pss_cons (ps_if (PW.pt (pw_and (pt_cmpR op_eq (pv 3) (pe_str) (nomark _)) (pw_and1 (PW.pt (pw_or (pt_cmpR op_isF (pe_ix (r := rIxL K) ix_list (pv 5) (pe_int) (fun _ _ => rfl)) (pe_bl) (nomark _)) (pw_or1 (pt_cmpR op_isF (pe_ix (r := rIxL K) ix_list (pv 5) (pe_int) (fun _ _ => rfl)) (pe_bl) (nomark _))))))))
      (pss_one (ps_ret (pe_bl)))
      (pss_nil))
      (pss_cons (ps_if (PW.pt (pw_and (pt_cmpR op_eq (pv 3) (pe_str) (nomark _)) (pw_and1 (PW.pt (pw_or (pt_cmpR op_isF (pe_ix (r := rIxL K) ix_list (pv 5) (pe_int) (fun _ _ => rfl)) (pe_bl) (nomark _)) (pw_or1 (pt_cmpR op_isF (pe_ix (r := rIxL K) ix_list (pv 5) (pe_int) (fun _ _ => rfl)) (pe_bl) (nomark _))))))))
      (pss_one (ps_ret (pe_bl)))
      (pss_nil))
      (pss_cons (ps_if (pt_val (pv 7))
      (pss_one (ps_ret (pe_non)))
      (pss_nil))
      (pss_cons (ps_if (pt_cmpR (r := rIn K false) op_in_seq (pv 3) (pe_lst (pa_cons (pe_str) (pa_cons (pe_str) (pa_nil)))) (by rfl))
      (pss_one (ps_ret (pe_cmpR op_eq (pv 3) (pe_str) (nomark _))))
      (pss_nil))
      (pss_cons (ps_if (pt_cmpR op_eq (pv 3) (pe_str) (nomark _))
      (pss_one (ps_ret (pe_cmpR op_isF (pe_ix (r := rIxL K) ix_list (pv 5) (pe_int) (fun _ _ => rfl)) (pe_bl) (nomark _))))
      (pss_nil))
      (pss_cons (ps_if (pt_cmpR (r := rIn K true) op_notIn_seq (pv 3) (pe_lst (pa_cons (pe_str) (pa_cons (pe_str) (pa_cons (pe_str) (pa_cons (pe_str) (pa_nil)))))) (by rfl))
      (pss_one (ps_ret (pe_call (ok_law_compared T) (hr.mono (by first | decide | omega)) (by rfl) T.g_law_compared T.F_law_compared.kp T.b_law_compared .nil pass0 (pa_cons (pv 3) (pa_cons (pe_ix (r := rIxL K) ix_list (pv 5) (pe_int) (fun _ _ => rfl)) (pa_cons (pe_ix (r := rIxL K) ix_list (pv 5) (pe_int) (fun _ _ => rfl)) (pa_nil)))))))
      (pss_nil))
      (pss_cons (ps_set (i := 9) sc_law_evaluated.nd rfl (by first | exact Or.inl rfl | exact Or.inr rfl) (pe_un un_neg (pe_ix (r := rIxL K) ix_list (pv 5) (pe_int) (fun _ _ => rfl))))
      (pss_cut (ps_if (pt_cmpR op_eq (pv 3) (pe_str) (nomark _))
      (pss_one (ps_set (i := 9) sc_law_evaluated.nd rfl (by first | exact Or.inl rfl | exact Or.inr rfl) (pe_op op_add (pe_ix (r := rIxL K) ix_list (pv 5) (pe_int) (fun _ _ => rfl)) (pe_ix (r := rIxL K) ix_list (pv 5) (pe_int) (fun _ _ => rfl)))))
      (pss_nil))
      (pss_cut (ps_if (pt_cmpR op_eq (pv 3) (pe_str) (nomark _))
      (pss_one (ps_set (i := 9) sc_law_evaluated.nd rfl (by first | exact Or.inl rfl | exact Or.inr rfl) (pe_op op_sub (pe_ix (r := rIxL K) ix_list (pv 5) (pe_int) (fun _ _ => rfl)) (pe_ix (r := rIxL K) ix_list (pv 5) (pe_int) (fun _ _ => rfl)))))
      (pss_nil))
      (pss_cut (ps_if (pt_cmpR op_eq (pv 3) (pe_str) (nomark _))
      (pss_one (ps_set (i := 9) sc_law_evaluated.nd rfl (by first | exact Or.inl rfl | exact Or.inr rfl) (pe_op op_mulX (pe_ix (r := rIxL K) ix_list (pv 5) (pe_int) (fun _ _ => rfl)) (pe_ix (r := rIxL K) ix_list (pv 5) (pe_int) (fun _ _ => rfl)))))
      (pss_nil))
      (pss_cons (ps_if (PW.pt (pw_or (pt_cmpR op_ge (pv 9) (pe_op op_pow (pe_int) (pe_int)) (nomark _)) (pw_or1 (pt_cmpR op_ge (pe_un un_neg (pv 9)) (pe_op op_pow (pe_int) (pe_int)) (nomark _)))))
      (pss_one (ps_ret (pe_non)))
      (pss_nil))
      (pss_one (ps_ret (pv 9))))))))))))))))))), ?_⟩
      cases t with
      | int m =>
        obtain ⟨p, x, rfl, hS, hx⟩ := dp_two hT
        cases hx
        refine q_asg (ev_ixT (K := K) (ev_var rfl) ev_c hS (at_nat (j := 0) rfl)) fun H1 e1 => ?_
        exact q_when (b := true) (et_is (et_test (ev_kinL (K := K) (xs := ["int", "text"]) (ev_var rfl) (el_lst (ea_cons ev_c (ea_cons ev_c (ea_nil))) (by show 2 ≤ 100000; decide)))) (by decide +kernel)) (fun _ H2 e2 => s_ret (ev_ixT (K := K) (ev_var rfl) ev_c (ex_t (e1.trans e2) hS) (at_nat (j := 1) rfl)) fun H3 e3 => q H3 ((e1.trans e2).trans e3)) (fun z => nomatch z)
      | text z =>
        obtain ⟨p, x, rfl, hS, hx⟩ := dp_two hT
        cases hx
        refine q_asg (ev_ixT (K := K) (ev_var rfl) ev_c hS (at_nat (j := 0) rfl)) fun H1 e1 => ?_
        exact q_when (b := true) (et_is (et_test (ev_kinL (K := K) (xs := ["int", "text"]) (ev_var rfl) (el_lst (ea_cons ev_c (ea_cons ev_c (ea_nil))) (by show 2 ≤ 100000; decide)))) (by decide +kernel)) (fun _ H2 e2 => s_ret (ev_ixT (K := K) (ev_var rfl) ev_c (ex_t (e1.trans e2) hS) (at_nat (j := 1) rfl)) fun H3 e3 => q H3 ((e1.trans e2).trans e3)) (fun z => nomatch z)
      | col z =>
        obtain ⟨p, x, rfl, hS, hx⟩ := dp_two hT
        cases hx
        cases hty with
        | col _ hk hf =>
        obtain ⟨⟨d, h1, h2⟩, hp, h4⟩ := plc_spec hf hro.len
        have hrl := hro.len
        obtain ⟨c, xs, rfl, hs, hxl, hat⟩ := cols_at hC
        refine q_asg (ev_ixT (K := K) (ev_var rfl) ev_c hS (at_nat (j := 0) rfl)) fun H1 e1 => ?_
        refine q_when (b := false) (et_is (et_test (ev_kinL (K := K) (xs := ["int", "text"]) (ev_var rfl) (el_lst (ea_cons ev_c (ea_cons ev_c (ea_nil))) (by show 2 ≤ 100000; decide)))) (by decide +kernel)) (fun z => nomatch z) fun _ H2 e2 => ?_
        refine q_when (b := true) (et_is (et_test (ev_eqS (ev_var rfl) ev_c)) (by decide +kernel)) (fun _ H3 e3 => ?_) (fun z => nomatch z)
        have E3 := (e1.trans e2).trans e3
        have hlt : plc cs z < row.length := (List.getElem?_eq_some_iff.mp hp).1
        refine s_ret (ev_ixN (K := K) (xs := given (row.length : Int).toNat (fun i => decide ((cs.getD i (Str.empty, .int)).1 = z)) (fun i => row.getD i .non)) (i := 0) (v := colV cs row z) (el_lcR1 (fun i => decide ((cs.getD i (Str.empty, .int)).1 = z)) (fun i => row.getD i .non) (ea_cons (ev_lenT (K := K) (ev_var rfl) (ex_t E3 hR)) ea_nil) (by omega) (fun x => rfl) (fun i H4 e4 hi => ?_) (fun i H4 e4 hi _ => ?_)) (fun H4 e4 => ev_c) (at_nat (j := 0) ?_)) fun H4 e4 => q H4 (E3.trans e4)
        · have hi2 : i < cs.length := by omega
          obtain ⟨u, hu⟩ : ∃ u, xs[i]? = some u := ⟨_, List.getElem?_eq_getElem (by omega)⟩
          obtain ⟨pp, cc, hc, rfl, hpp⟩ := hat i u hu
          have ed : cs.getD i (Str.empty, .int) = cc := by rw [List.getD_eq_getElem?_getD, hc] <;> rfl
          rw [ed]
          exact et_test (ev_eqS (ev_ixT (K := K) (ev_ixT (K := K) (ev_var rfl) (ev_var rfl) (ex_t (E3.trans e4) hs) (at_nat hu)) ev_c (ex_t (E3.trans e4) hpp) (at_nat (j := 0) rfl)) (ev_ixT (K := K) (ev_var rfl) ev_c (ex_t (E3.trans e4) hS) (at_nat (j := 1) rfl)))
        · have hi2 : i < row.length := by omega
          exact ev_ixT (K := K) (ev_var rfl) (ev_var rfl) (ex_t (E3.trans e4) hR) (at_nat (by rw [List.getD_eq_getElem?_getD, List.getElem?_eq_getElem hi2] <;> rfl))
        · have ev : row.getD (plc cs z) .non = colV cs row z := by rw [List.getD_eq_getElem?_getD, hp] <;> rfl
          rw [← ev]
          refine given_first (v := fun i => row.getD i .non) (by omega) ?_ fun m hm => ?_
          · rw [List.getD_eq_getElem?_getD, h1]
            exact decide_eq_true h2
          · obtain ⟨e, he⟩ : ∃ e, cs[m]? = some e := ⟨_, List.getElem?_eq_getElem (by omega)⟩
            rw [List.getD_eq_getElem?_getD, he]
            exact decide_eq_false (h4 m e hm he)
      | neg a => exact absurd hh (Nat.not_succ_le_zero _)
      | null a => exact absurd hh (Nat.not_succ_le_zero _)
      | not a => exact absurd hh (Nat.not_succ_le_zero _)
      | bin o a b => exact absurd hh (Nat.not_succ_le_zero _)
  | n + 1 => by
    have IH := ok_law_evaluated_at T n
    refine T.F_law_evaluated.ok sc_law_evaluated (fun vs H Q E h => ?_) (fun cdv A outer s H vs Q E hr h => ?_)
    · obtain ⟨t, k, cs, row, vt, vc, r, rfl, _⟩ := h
      rfl
    · obtain ⟨t, k, cs, row, vt, vc, r, rfl, hT, hh, hty, hC, hR, hro, hcl, q⟩ := h
      refine ⟨_, pss_cons (ps_set (i := 3) sc_law_evaluated.nd rfl (by first | exact Or.inl rfl | exact Or.inr rfl) (pe_ix (r := rIxT K) ix_tup (pv 0) (pe_int) (fun _ _ => rfl)))
      (pss_cons (ps_if (pt_cmpR (r := rIn K false) op_in_seq (pv 3) (pe_lst (pa_cons (pe_str) (pa_cons (pe_str) (pa_nil)))) (by rfl))
      (pss_one (ps_ret (pe_ix (r := rIxT K) ix_tup (pv 0) (pe_int) (fun _ _ => rfl))))
      (pss_nil))
      (pss_cons (ps_if (pt_cmpR op_eq (pv 3) (pe_str) (nomark _))
      (pss_one (ps_ret (pe_ix (r := rIxL K) ix_list (pe_lc (own := [("k", 4)]) (g := gName 4) rfl sc_law_evaluated.nd (pi_range1 (by rfl) T.m_range (pa_cons (pe_callB (r := rLenQ K) call_len_seq (by rfl) T.m_len (by decide +kernel) (pa_cons (pv 2) (pa_nil))) (pa_nil))) (blkOk_by (N := ["tree", "columns", "row", "word", "k", "values", "part", "unknown", "value", "number"]) (sc := defScope s_law_evaluated) (by decide +kernel)) (fun _ _ _ _ _ => pg_name (i := 4) sc_law_evaluated.nd rfl (Or.inl rfl)) (fun _ _ _ _ _ => pts_one (pt_cmpR op_eq (pe_ix (r := rIxT K) ix_tup (pe_ix (r := rIxT K) ix_tup (pv 1) (pv 4) (fun _ _ => rfl)) (pe_int) (fun _ _ => rfl)) (pe_ix (r := rIxT K) ix_tup (pv 0) (pe_int) (fun _ _ => rfl)) (nomark _))) (fun _ _ _ _ _ => pe_ix (r := rIxT K) ix_tup (pv 2) (pv 4) (fun _ _ => rfl))) (pe_int) (fun _ _ => rfl))))
      (pss_nil))
      (pss_cons (ps_setLc (i := 5) (own := [("part", 6)]) (g := gName 6) (tt := tYes) (by rfl) sc_law_evaluated.nd rfl rfl (sw_true rfl rfl rfl (by decide +kernel)) (pi_tup (pe_slice (r := rSlA K) sl_tupA (pv 0) (po_some (pe_int)) (po_none))) (blkOk_by (N := ["tree", "columns", "row", "word", "k", "values", "part", "unknown", "value", "number"]) (sc := defScope s_law_evaluated) (by decide +kernel)) (fun _ _ _ _ _ => pg_name (i := 6) sc_law_evaluated.nd rfl (Or.inl rfl)) (fun _ _ _ _ _ => pts_nil) (fun _ _ _ _ _ => pe_call IH (hr.mono (by omega)) (by rfl) T.g_law_evaluated T.F_law_evaluated.kp T.b_law_evaluated .nil pass0 (pa_cons (pv 6) (pa_cons (pv 1) (pa_cons (pv 2) (pa_nil))))))
      (pss_cons (ps_set (i := 7) sc_law_evaluated.nd rfl (by first | exact Or.inl rfl | exact Or.inr rfl) (pe_cmpR (r := rNeD K) (op_neD hr.units) (pe_lc (own := [("value", 8)]) (g := gName 8) rfl sc_law_evaluated.nd (pi_list (pv 5)) (blkOk_by (N := ["tree", "columns", "row", "word", "k", "values", "part", "unknown", "value", "number"]) (sc := defScope s_law_evaluated) (by decide +kernel)) (fun _ _ _ _ _ => pg_name (i := 8) sc_law_evaluated.nd rfl (Or.inl rfl)) (fun _ _ _ _ _ => pts_one (pt_cmpR op_isN (pv 8) (pe_non) (nomark _))) (fun _ _ _ _ _ => pv 8)) (pe_lst (pa_nil)) (nomark _)))
      (pss_cons (ps_if (pt_cmpR op_eq (pv 3) (pe_str) (nomark _))
      (pss_one (ps_ret (pv 7)))
      (pss_nil))
      (pss_cons (ps_if (PW.pt (pw_and (pt_cmpR op_eq (pv 3) (pe_str) (nomark _)) (pw_and1 (PW.pt (pw_or (pt_cmpR op_isF (pe_ix (r := rIxL K) ix_list (pv 5) (pe_int) (fun _ _ => rfl)) (pe_bl) (nomark _)) (pw_or1 (pt_cmpR op_isF (pe_ix (r := rIxL K) ix_list (pv 5) (pe_int) (fun _ _ => rfl)) (pe_bl) (nomark _))))))))
      (pss_one (ps_ret (pe_bl)))
      (pss_nil))
      (pss_cons (ps_if (PW.pt (pw_and (pt_cmpR op_eq (pv 3) (pe_str) (nomark _)) (pw_and1 (PW.pt (pw_or (pt_cmpR op_isF (pe_ix (r := rIxL K) ix_list (pv 5) (pe_int) (fun _ _ => rfl)) (pe_bl) (nomark _)) (pw_or1 (pt_cmpR op_isF (pe_ix (r := rIxL K) ix_list (pv 5) (pe_int) (fun _ _ => rfl)) (pe_bl) (nomark _))))))))
      (pss_one (ps_ret (pe_bl)))
      (pss_nil))
      (pss_cons (ps_if (pt_val (pv 7))
      (pss_one (ps_ret (pe_non)))
      (pss_nil))
      (pss_cons (ps_if (pt_cmpR (r := rIn K false) op_in_seq (pv 3) (pe_lst (pa_cons (pe_str) (pa_cons (pe_str) (pa_nil)))) (by rfl))
      (pss_one (ps_ret (pe_cmpR op_eq (pv 3) (pe_str) (nomark _))))
      (pss_nil))
      (pss_cons (ps_if (pt_cmpR op_eq (pv 3) (pe_str) (nomark _))
      (pss_one (ps_ret (pe_cmpR op_isF (pe_ix (r := rIxL K) ix_list (pv 5) (pe_int) (fun _ _ => rfl)) (pe_bl) (nomark _))))
      (pss_nil))
      (pss_cons (ps_if (pt_cmpR (r := rIn K true) op_notIn_seq (pv 3) (pe_lst (pa_cons (pe_str) (pa_cons (pe_str) (pa_cons (pe_str) (pa_cons (pe_str) (pa_nil)))))) (by rfl))
      (pss_one (ps_ret (pe_call (ok_law_compared T) (hr.mono (by first | decide | omega)) (by rfl) T.g_law_compared T.F_law_compared.kp T.b_law_compared .nil pass0 (pa_cons (pv 3) (pa_cons (pe_ix (r := rIxL K) ix_list (pv 5) (pe_int) (fun _ _ => rfl)) (pa_cons (pe_ix (r := rIxL K) ix_list (pv 5) (pe_int) (fun _ _ => rfl)) (pa_nil)))))))
      (pss_nil))
      (pss_cons (ps_set (i := 9) sc_law_evaluated.nd rfl (by first | exact Or.inl rfl | exact Or.inr rfl) (pe_un un_neg (pe_ix (r := rIxL K) ix_list (pv 5) (pe_int) (fun _ _ => rfl))))
      (pss_cut (ps_if (pt_cmpR op_eq (pv 3) (pe_str) (nomark _))
      (pss_one (ps_set (i := 9) sc_law_evaluated.nd rfl (by first | exact Or.inl rfl | exact Or.inr rfl) (pe_op op_add (pe_ix (r := rIxL K) ix_list (pv 5) (pe_int) (fun _ _ => rfl)) (pe_ix (r := rIxL K) ix_list (pv 5) (pe_int) (fun _ _ => rfl)))))
      (pss_nil))
      (pss_cut (ps_if (pt_cmpR op_eq (pv 3) (pe_str) (nomark _))
      (pss_one (ps_set (i := 9) sc_law_evaluated.nd rfl (by first | exact Or.inl rfl | exact Or.inr rfl) (pe_op op_sub (pe_ix (r := rIxL K) ix_list (pv 5) (pe_int) (fun _ _ => rfl)) (pe_ix (r := rIxL K) ix_list (pv 5) (pe_int) (fun _ _ => rfl)))))
      (pss_nil))
      (pss_cut (ps_if (pt_cmpR op_eq (pv 3) (pe_str) (nomark _))
      (pss_one (ps_set (i := 9) sc_law_evaluated.nd rfl (by first | exact Or.inl rfl | exact Or.inr rfl) (pe_op op_mulX (pe_ix (r := rIxL K) ix_list (pv 5) (pe_int) (fun _ _ => rfl)) (pe_ix (r := rIxL K) ix_list (pv 5) (pe_int) (fun _ _ => rfl)))))
      (pss_nil))
      (pss_cons (ps_if (PW.pt (pw_or (pt_cmpR op_ge (pv 9) (pe_op op_pow (pe_int) (pe_int)) (nomark _)) (pw_or1 (pt_cmpR op_ge (pe_un un_neg (pv 9)) (pe_op op_pow (pe_int) (pe_int)) (nomark _)))))
      (pss_one (ps_ret (pe_non)))
      (pss_nil))
      (pss_one (ps_ret (pv 9))))))))))))))))))), ?_⟩
      cases t with
      | int m =>
        obtain ⟨p, x, rfl, hS, hx⟩ := dp_two hT
        cases hx
        refine q_asg (ev_ixT (K := K) (ev_var rfl) ev_c hS (at_nat (j := 0) rfl)) fun H1 e1 => ?_
        exact q_when (b := true) (et_is (et_test (ev_kinL (K := K) (xs := ["int", "text"]) (ev_var rfl) (el_lst (ea_cons ev_c (ea_cons ev_c (ea_nil))) (by show 2 ≤ 100000; decide)))) (by decide +kernel)) (fun _ H2 e2 => s_ret (ev_ixT (K := K) (ev_var rfl) ev_c (ex_t (e1.trans e2) hS) (at_nat (j := 1) rfl)) fun H3 e3 => q H3 ((e1.trans e2).trans e3)) (fun z => nomatch z)
      | text z =>
        obtain ⟨p, x, rfl, hS, hx⟩ := dp_two hT
        cases hx
        refine q_asg (ev_ixT (K := K) (ev_var rfl) ev_c hS (at_nat (j := 0) rfl)) fun H1 e1 => ?_
        exact q_when (b := true) (et_is (et_test (ev_kinL (K := K) (xs := ["int", "text"]) (ev_var rfl) (el_lst (ea_cons ev_c (ea_cons ev_c (ea_nil))) (by show 2 ≤ 100000; decide)))) (by decide +kernel)) (fun _ H2 e2 => s_ret (ev_ixT (K := K) (ev_var rfl) ev_c (ex_t (e1.trans e2) hS) (at_nat (j := 1) rfl)) fun H3 e3 => q H3 ((e1.trans e2).trans e3)) (fun z => nomatch z)
      | col z =>
        obtain ⟨p, x, rfl, hS, hx⟩ := dp_two hT
        cases hx
        cases hty with
        | col _ hk hf =>
        obtain ⟨⟨d, h1, h2⟩, hp, h4⟩ := plc_spec hf hro.len
        have hrl := hro.len
        obtain ⟨c, xs, rfl, hs, hxl, hat⟩ := cols_at hC
        refine q_asg (ev_ixT (K := K) (ev_var rfl) ev_c hS (at_nat (j := 0) rfl)) fun H1 e1 => ?_
        refine q_when (b := false) (et_is (et_test (ev_kinL (K := K) (xs := ["int", "text"]) (ev_var rfl) (el_lst (ea_cons ev_c (ea_cons ev_c (ea_nil))) (by show 2 ≤ 100000; decide)))) (by decide +kernel)) (fun z => nomatch z) fun _ H2 e2 => ?_
        refine q_when (b := true) (et_is (et_test (ev_eqS (ev_var rfl) ev_c)) (by decide +kernel)) (fun _ H3 e3 => ?_) (fun z => nomatch z)
        have E3 := (e1.trans e2).trans e3
        have hlt : plc cs z < row.length := (List.getElem?_eq_some_iff.mp hp).1
        refine s_ret (ev_ixN (K := K) (xs := given (row.length : Int).toNat (fun i => decide ((cs.getD i (Str.empty, .int)).1 = z)) (fun i => row.getD i .non)) (i := 0) (v := colV cs row z) (el_lcR1 (fun i => decide ((cs.getD i (Str.empty, .int)).1 = z)) (fun i => row.getD i .non) (ea_cons (ev_lenT (K := K) (ev_var rfl) (ex_t E3 hR)) ea_nil) (by omega) (fun x => rfl) (fun i H4 e4 hi => ?_) (fun i H4 e4 hi _ => ?_)) (fun H4 e4 => ev_c) (at_nat (j := 0) ?_)) fun H4 e4 => q H4 (E3.trans e4)
        · have hi2 : i < cs.length := by omega
          obtain ⟨u, hu⟩ : ∃ u, xs[i]? = some u := ⟨_, List.getElem?_eq_getElem (by omega)⟩
          obtain ⟨pp, cc, hc, rfl, hpp⟩ := hat i u hu
          have ed : cs.getD i (Str.empty, .int) = cc := by rw [List.getD_eq_getElem?_getD, hc] <;> rfl
          rw [ed]
          exact et_test (ev_eqS (ev_ixT (K := K) (ev_ixT (K := K) (ev_var rfl) (ev_var rfl) (ex_t (E3.trans e4) hs) (at_nat hu)) ev_c (ex_t (E3.trans e4) hpp) (at_nat (j := 0) rfl)) (ev_ixT (K := K) (ev_var rfl) ev_c (ex_t (E3.trans e4) hS) (at_nat (j := 1) rfl)))
        · have hi2 : i < row.length := by omega
          exact ev_ixT (K := K) (ev_var rfl) (ev_var rfl) (ex_t (E3.trans e4) hR) (at_nat (by rw [List.getD_eq_getElem?_getD, List.getElem?_eq_getElem hi2] <;> rfl))
        · have ev : row.getD (plc cs z) .non = colV cs row z := by rw [List.getD_eq_getElem?_getD, hp] <;> rfl
          rw [← ev]
          refine given_first (v := fun i => row.getD i .non) (by omega) ?_ fun m hm => ?_
          · rw [List.getD_eq_getElem?_getD, h1]
            exact decide_eq_true h2
          · obtain ⟨e, he⟩ : ∃ e, cs[m]? = some e := ⟨_, List.getElem?_eq_getElem (by omega)⟩
            rw [List.getD_eq_getElem?_getD, he]
            exact decide_eq_false (h4 m e hm he)
      | neg a =>
        obtain ⟨p, x, rfl, hS, hx⟩ := dp_two hT
        have ha : a.h ≤ n := by
          have : a.h + 1 ≤ n + 1 := hh
          omega
        cases hty with
        | neg hta =>
        have hva := ev_ok hro hta
        refine q_asg (ev_ixT (K := K) (ev_var rfl) ev_c hS (at_nat (j := 0) rfl)) fun H1 e1 => ?_
        refine q_when (b := false) (et_is (et_test (ev_kinL (K := K) (xs := ["int", "text"]) (ev_var rfl) (el_lst (ea_cons ev_c (ea_cons ev_c (ea_nil))) (by show 2 ≤ 100000; decide)))) (by decide +kernel)) (fun z => nomatch z) fun _ H2 e2 => ?_
        refine q_when (b := false) (et_is (et_test (ev_eqS (ev_var rfl) ev_c)) (by decide +kernel)) (fun z => nomatch z) fun _ H3 e3 => ?_
        have E3 := (e1.trans e2).trans e3
        refine q_asgL (xs := [evT cs row a]) (el_mapTN (K := K) (eu_sl1 (ev_var rfl) (eo_some ev_c) eo_none (ex_t E3 hS)) (by show 1 ≤ 40000; decide) (fun x => rfl) rfl fun i u y hu hy H4 e4 => ?_) fun pv H4 _ e4 hv => ?_
        · match i, hu, hy with
          | 0, hu, hy =>
            cases Option.some.inj hu
            cases Option.some.inj hy
            exact ev_call (ea_cons (ev_var rfl) (ea_cons (ev_var rfl) (ea_cons (ev_var rfl) ea_nil))) (cv_ev (dp_mono (E3.trans e4) hx) ha hta (dp_mono (E3.trans e4) hC) (ex_t (E3.trans e4) hR) hro hcl)
          | i + 1, hu, hy => simp at hu
        have E4 := E3.trans e4
        have v0 : ∀ {H' : Hp} {σ : L2.St}, Ex H4 H' → σ[5]? = some (some (V.ref pv)) → Ev (tOp (rIxL K) (tVar 5) (tC (.int 0))) σ H' (evT cs row a) := fun e hσ => ev_ixL (K := K) (ev_var hσ) ev_c (sq_of (e _ _ hv)) (at_nat (j := 0) rfl)
        refine q_asg (v := .bl (decide (evT cs row a = .non))) (ev_is (ev_neNil (K := K) (el_flL (K := K) (p := fun x => decide (x = .non)) (ev_var rfl) (sq_of hv) (by show 1 ≤ 40000; decide) (fun x => rfl) (fun x hx H5 e5 => et_test (ev_isN (ev_var rfl))) (fun x H5 hx e5 => ev_var rfl)) fun y hy => of_decide_eq_true (List.mem_filter.mp hy).2) (congrArg V.bl ?_)) fun H5 e5 => ?_
        · by_cases h : evT cs row a = .non <;> simp [h]
        have E5 := E4.trans e5
        refine q_when (b := false) (et_is (et_test (ev_eqS (ev_var rfl) ev_c)) (by decide +kernel)) (fun z => nomatch z) fun _ H6 e6 => ?_
        refine q_when (b := false) (et_andF (et_is (et_test (ev_eqS (ev_var rfl) ev_c)) (by decide +kernel))) (fun z => nomatch z) fun _ H7 e7 => ?_
        refine q_when (b := false) (et_andF (et_is (et_test (ev_eqS (ev_var rfl) ev_c)) (by decide +kernel))) (fun z => nomatch z) fun _ H8 e8 => ?_
        have eq : evT cs row (.neg a) = match evT cs row a with | .int i => bndV (-i) | _ => .non := rfl
        rw [eq] at q
        generalize evT cs row a = va at *
        have E8 := ((E5.trans e6).trans e7).trans e8
        refine q_when (et_B (ev_var rfl)) (fun hb H9 e9 => ?_) (fun hb H9 e9 => ?_)
        · obtain rfl := of_decide_eq_true hb
          exact s_ret ev_c fun H10 e10 => q H10 ((E8.trans e9).trans e10)
        · cases hva with
          | non => exact absurd rfl (of_decide_eq_false hb)
          | int hi =>
            rename_i i
            refine q_when (b := false) (et_is (et_test (ev_kinL (K := K) (xs := ["and", "or"]) (ev_var rfl) (el_lst (ea_cons ev_c (ea_cons ev_c (ea_nil))) (by show 2 ≤ 100000; decide)))) (by decide +kernel)) (fun z => nomatch z) fun _ H10 e10 => ?_
            refine q_when (b := false) (et_is (et_test (ev_eqS (ev_var rfl) ev_c)) (by decide +kernel)) (fun z => nomatch z) fun _ H11 e11 => ?_
            refine q_when (b := false) (et_is (et_test (ev_ninL (K := K) (xs := ["neg", "add", "sub", "mul"]) (ev_var rfl) (el_lst (ea_cons ev_c (ea_cons ev_c (ea_cons ev_c (ea_cons ev_c (ea_nil))))) (by show 4 ≤ 100000; decide)))) (by decide +kernel)) (fun z => nomatch z) fun _ H12 e12 => ?_
            have E12 := (((E8.trans e9).trans e10).trans e11).trans e12
            have e412 := (((((((e5.trans e6).trans e7).trans e8).trans e9).trans e10).trans e11).trans e12)
            refine q_asg (ev_neg (v0 e412 rfl)) fun H13 e13 => ?_
            refine q_cut (M := fun σ' H' => ∃ kv pv' : Option V, σ' = [some (.ref p), some vc, some (.ref r), some (.str (Str.ofString "neg")), kv, some (.ref pv), pv', some (.bl (decide (V.int i = .non))), none, some (.int (-i))] ∧ Ex H4 H') (s_when (b := false) (et_is (et_test (ev_eqS (ev_var rfl) ev_c)) (by decide +kernel)) (fun z => nomatch z) fun _ H14 e14 => ⟨_, _, rfl, (e412.trans e13).trans e14⟩) fun σ' H' hM => ?_
            obtain ⟨kv, pv', rfl, eM⟩ := hM
            refine q_cut (M := fun σ' H' => ∃ kv pv' : Option V, σ' = [some (.ref p), some vc, some (.ref r), some (.str (Str.ofString "neg")), kv, some (.ref pv), pv', some (.bl (decide (V.int i = .non))), none, some (.int (-i))] ∧ Ex H4 H') (s_when (b := false) (et_is (et_test (ev_eqS (ev_var rfl) ev_c)) (by decide +kernel)) (fun z => nomatch z) fun _ H14 e14 => ⟨_, _, rfl, eM.trans e14⟩) fun σ' H' hM => ?_
            obtain ⟨kv, pv', rfl, eM⟩ := hM
            refine q_cut (M := fun σ' H' => ∃ kv pv' : Option V, σ' = [some (.ref p), some vc, some (.ref r), some (.str (Str.ofString "neg")), kv, some (.ref pv), pv', some (.bl (decide (V.int i = .non))), none, some (.int (-i))] ∧ Ex H4 H') (s_when (b := false) (et_is (et_test (ev_eqS (ev_var rfl) ev_c)) (by decide +kernel)) (fun z => nomatch z) fun _ H14 e14 => ⟨_, _, rfl, eM.trans e14⟩) fun σ' H' hM => ?_
            obtain ⟨kv, pv', rfl, eM⟩ := hM
            exact fin_num (ev_var rfl) (ev_var rfl) (ev_var rfl) (fun H17 e17 => q H17 ((E4.trans eM).trans e17))
      | null a =>
        obtain ⟨p, x, rfl, hS, hx⟩ := dp_two hT
        have ha : a.h ≤ n := by
          have : a.h + 1 ≤ n + 1 := hh
          omega
        cases hty with
        | null hta _=>
        have hva := ev_ok hro hta
        refine q_asg (ev_ixT (K := K) (ev_var rfl) ev_c hS (at_nat (j := 0) rfl)) fun H1 e1 => ?_
        refine q_when (b := false) (et_is (et_test (ev_kinL (K := K) (xs := ["int", "text"]) (ev_var rfl) (el_lst (ea_cons ev_c (ea_cons ev_c (ea_nil))) (by show 2 ≤ 100000; decide)))) (by decide +kernel)) (fun z => nomatch z) fun _ H2 e2 => ?_
        refine q_when (b := false) (et_is (et_test (ev_eqS (ev_var rfl) ev_c)) (by decide +kernel)) (fun z => nomatch z) fun _ H3 e3 => ?_
        have E3 := (e1.trans e2).trans e3
        refine q_asgL (xs := [evT cs row a]) (el_mapTN (K := K) (eu_sl1 (ev_var rfl) (eo_some ev_c) eo_none (ex_t E3 hS)) (by show 1 ≤ 40000; decide) (fun x => rfl) rfl fun i u y hu hy H4 e4 => ?_) fun pv H4 _ e4 hv => ?_
        · match i, hu, hy with
          | 0, hu, hy =>
            cases Option.some.inj hu
            cases Option.some.inj hy
            exact ev_call (ea_cons (ev_var rfl) (ea_cons (ev_var rfl) (ea_cons (ev_var rfl) ea_nil))) (cv_ev (dp_mono (E3.trans e4) hx) ha hta (dp_mono (E3.trans e4) hC) (ex_t (E3.trans e4) hR) hro hcl)
          | i + 1, hu, hy => simp at hu
        have E4 := E3.trans e4
        have v0 : ∀ {H' : Hp} {σ : L2.St}, Ex H4 H' → σ[5]? = some (some (V.ref pv)) → Ev (tOp (rIxL K) (tVar 5) (tC (.int 0))) σ H' (evT cs row a) := fun e hσ => ev_ixL (K := K) (ev_var hσ) ev_c (sq_of (e _ _ hv)) (at_nat (j := 0) rfl)
        refine q_asg (v := .bl (decide (evT cs row a = .non))) (ev_is (ev_neNil (K := K) (el_flL (K := K) (p := fun x => decide (x = .non)) (ev_var rfl) (sq_of hv) (by show 1 ≤ 40000; decide) (fun x => rfl) (fun x hx H5 e5 => et_test (ev_isN (ev_var rfl))) (fun x H5 hx e5 => ev_var rfl)) fun y hy => of_decide_eq_true (List.mem_filter.mp hy).2) (congrArg V.bl ?_)) fun H5 e5 => ?_
        · by_cases h : evT cs row a = .non <;> simp [h]
        have E5 := E4.trans e5
        exact q_when (b := true) (et_is (et_test (ev_eqS (ev_var rfl) ev_c)) (by decide +kernel)) (fun _ H6 e6 => s_ret (ev_var rfl) fun H7 e7 => q H7 ((E5.trans e6).trans e7)) (fun z => nomatch z)
      | not a =>
        obtain ⟨p, x, rfl, hS, hx⟩ := dp_two hT
        have ha : a.h ≤ n := by
          have : a.h + 1 ≤ n + 1 := hh
          omega
        cases hty with
        | not hta =>
        have hva := ev_ok hro hta
        refine q_asg (ev_ixT (K := K) (ev_var rfl) ev_c hS (at_nat (j := 0) rfl)) fun H1 e1 => ?_
        refine q_when (b := false) (et_is (et_test (ev_kinL (K := K) (xs := ["int", "text"]) (ev_var rfl) (el_lst (ea_cons ev_c (ea_cons ev_c (ea_nil))) (by show 2 ≤ 100000; decide)))) (by decide +kernel)) (fun z => nomatch z) fun _ H2 e2 => ?_
        refine q_when (b := false) (et_is (et_test (ev_eqS (ev_var rfl) ev_c)) (by decide +kernel)) (fun z => nomatch z) fun _ H3 e3 => ?_
        have E3 := (e1.trans e2).trans e3
        refine q_asgL (xs := [evT cs row a]) (el_mapTN (K := K) (eu_sl1 (ev_var rfl) (eo_some ev_c) eo_none (ex_t E3 hS)) (by show 1 ≤ 40000; decide) (fun x => rfl) rfl fun i u y hu hy H4 e4 => ?_) fun pv H4 _ e4 hv => ?_
        · match i, hu, hy with
          | 0, hu, hy =>
            cases Option.some.inj hu
            cases Option.some.inj hy
            exact ev_call (ea_cons (ev_var rfl) (ea_cons (ev_var rfl) (ea_cons (ev_var rfl) ea_nil))) (cv_ev (dp_mono (E3.trans e4) hx) ha hta (dp_mono (E3.trans e4) hC) (ex_t (E3.trans e4) hR) hro hcl)
          | i + 1, hu, hy => simp at hu
        have E4 := E3.trans e4
        have v0 : ∀ {H' : Hp} {σ : L2.St}, Ex H4 H' → σ[5]? = some (some (V.ref pv)) → Ev (tOp (rIxL K) (tVar 5) (tC (.int 0))) σ H' (evT cs row a) := fun e hσ => ev_ixL (K := K) (ev_var hσ) ev_c (sq_of (e _ _ hv)) (at_nat (j := 0) rfl)
        refine q_asg (v := .bl (decide (evT cs row a = .non))) (ev_is (ev_neNil (K := K) (el_flL (K := K) (p := fun x => decide (x = .non)) (ev_var rfl) (sq_of hv) (by show 1 ≤ 40000; decide) (fun x => rfl) (fun x hx H5 e5 => et_test (ev_isN (ev_var rfl))) (fun x H5 hx e5 => ev_var rfl)) fun y hy => of_decide_eq_true (List.mem_filter.mp hy).2) (congrArg V.bl ?_)) fun H5 e5 => ?_
        · by_cases h : evT cs row a = .non <;> simp [h]
        have E5 := E4.trans e5
        refine q_when (b := false) (et_is (et_test (ev_eqS (ev_var rfl) ev_c)) (by decide +kernel)) (fun z => nomatch z) fun _ H6 e6 => ?_
        refine q_when (b := false) (et_andF (et_is (et_test (ev_eqS (ev_var rfl) ev_c)) (by decide +kernel))) (fun z => nomatch z) fun _ H7 e7 => ?_
        refine q_when (b := false) (et_andF (et_is (et_test (ev_eqS (ev_var rfl) ev_c)) (by decide +kernel))) (fun z => nomatch z) fun _ H8 e8 => ?_
        have eq : evT cs row (.not a) = match evT cs row a with | .bl b => .bl (!b) | _ => .non := rfl
        rw [eq] at q
        generalize evT cs row a = va at *
        have E8 := ((E5.trans e6).trans e7).trans e8
        refine q_when (et_B (ev_var rfl)) (fun hb H9 e9 => ?_) (fun hb H9 e9 => ?_)
        · obtain rfl := of_decide_eq_true hb
          exact s_ret ev_c fun H10 e10 => q H10 ((E8.trans e9).trans e10)
        · have hva0 := hva
          cases hva with
          | non => exact absurd rfl (of_decide_eq_false hb)
          | bl b =>
            refine q_when (b := false) (et_is (et_test (ev_kinL (K := K) (xs := ["and", "or"]) (ev_var rfl) (el_lst (ea_cons ev_c (ea_cons ev_c (ea_nil))) (by show 2 ≤ 100000; decide)))) (by decide +kernel)) (fun z => nomatch z) fun _ H10 e10 => ?_
            refine q_when (b := true) (et_is (et_test (ev_eqS (ev_var rfl) ev_c)) (by decide +kernel)) (fun _ H11 e11 => ?_) (fun z => nomatch z)
            have e411 := (((((((e5.trans e6).trans e7).trans e8).trans e9).trans e10).trans e11))
            exact s_ret (ev_is (ev_isF (v0 e411 rfl) hva0) (by cases b <;> rfl)) fun H12 e12 => q H12 ((((E8.trans e9).trans e10).trans e11).trans e12)
      | bin o a b =>
        obtain ⟨p, x1, x2, rfl, hS, hx1, hx2⟩ := dp_three hT
        have hab : a.h ≤ n ∧ b.h ≤ n := by
          have : max a.h b.h + 1 ≤ n + 1 := hh
          omega
        obtain ⟨k1, k2, hta, htb⟩ : ∃ k1 k2, Ty cs a k1 ∧ Ty cs b k2 := by
          cases hty with
          | ar _ h h2 => exact ⟨_, _, h, h2⟩
          | cmp _ _ _ h h2 => exact ⟨_, _, h, h2⟩
          | lg _ h h2 => exact ⟨_, _, h, h2⟩
        have hva := ev_ok hro hta
        have hvb := ev_ok hro htb
        obtain ⟨q1, q2, q3, q4, q5, q6, q7, q8, q9, q10, q11, q12, _⟩ := kin_bop o
        refine q_asg (ev_ixT (K := K) (ev_var rfl) ev_c hS (at_nat (j := 0) rfl)) fun H1 e1 => ?_
        refine q_when (b := false) (et_is (et_test (ev_kinL (K := K) (xs := ["int", "text"]) (ev_var rfl) (el_lst (ea_cons ev_c (ea_cons ev_c (ea_nil))) (by show 2 ≤ 100000; decide)))) q1) (fun z => nomatch z) fun _ H2 e2 => ?_
        refine q_when (b := false) (et_is (et_test (ev_eqS (ev_var rfl) ev_c)) q2) (fun z => nomatch z) fun _ H3 e3 => ?_
        have E3 := (e1.trans e2).trans e3
        refine q_asgL (xs := [evT cs row a, evT cs row b]) (el_mapTN (K := K) (eu_sl1 (ev_var rfl) (eo_some ev_c) eo_none (ex_t E3 hS)) (by show 2 ≤ 40000; decide) (fun x => rfl) rfl fun i u y hu hy H4 e4 => ?_) fun pv H4 _ e4 hv => ?_
        · match i, hu, hy with
          | 0, hu, hy =>
            cases Option.some.inj hu
            cases Option.some.inj hy
            exact ev_call (ea_cons (ev_var rfl) (ea_cons (ev_var rfl) (ea_cons (ev_var rfl) ea_nil))) (cv_ev (dp_mono (E3.trans e4) hx1) hab.1 hta (dp_mono (E3.trans e4) hC) (ex_t (E3.trans e4) hR) hro hcl)
          | 1, hu, hy =>
            cases Option.some.inj hu
            cases Option.some.inj hy
            exact ev_call (ea_cons (ev_var rfl) (ea_cons (ev_var rfl) (ea_cons (ev_var rfl) ea_nil))) (cv_ev (dp_mono (E3.trans e4) hx2) hab.2 htb (dp_mono (E3.trans e4) hC) (ex_t (E3.trans e4) hR) hro hcl)
          | i + 2, hu, hy => simp at hu
        have E4 := E3.trans e4
        have v0 : ∀ {H' : Hp} {σ : L2.St}, Ex H4 H' → σ[5]? = some (some (V.ref pv)) → Ev (tOp (rIxL K) (tVar 5) (tC (.int 0))) σ H' (evT cs row a) := fun e hσ => ev_ixL (K := K) (ev_var hσ) ev_c (sq_of (e _ _ hv)) (at_nat (j := 0) rfl)
        have v1 : ∀ {H' : Hp} {σ : L2.St}, Ex H4 H' → σ[5]? = some (some (V.ref pv)) → Ev (tOp (rIxL K) (tVar 5) (tC (.int 1))) σ H' (evT cs row b) := fun e hσ => ev_ixL (K := K) (ev_var hσ) ev_c (sq_of (e _ _ hv)) (at_nat (j := 1) rfl)
        refine q_asg (v := .bl (decide (evT cs row a = .non ∨ evT cs row b = .non))) (ev_is (ev_neNil (K := K) (el_flL (K := K) (p := fun x => decide (x = .non)) (ev_var rfl) (sq_of hv) (by show 2 ≤ 40000; decide) (fun x => rfl) (fun x hx H5 e5 => et_test (ev_isN (ev_var rfl))) (fun x H5 hx e5 => ev_var rfl)) fun y hy => of_decide_eq_true (List.mem_filter.mp hy).2) (congrArg V.bl ?_)) fun H5 e5 => ?_
        · by_cases h : evT cs row a = .non <;> by_cases h2 : evT cs row b = .non <;> simp [h, h2]
        have E5 := E4.trans e5
        refine q_when (b := false) (et_is (et_test (ev_eqS (ev_var rfl) ev_c)) q3) (fun z => nomatch z) fun _ H6 e6 => ?_
        have eq : evT cs row (.bin o a b) = if o = .and then andV (evT cs row a) (evT cs row b) else if o = .or then orV (evT cs row a) (evT cs row b) else cmpV o (evT cs row a) (evT cs row b) := rfl
        rw [eq] at q
        generalize evT cs row a = va at *
        generalize evT cs row b = vb at *
        have tr : o.lg = true → VK' .truth va ∧ VK' .truth vb := fun hl => by
          cases hty with
          | ar ho _ _ => exact (lg_ar ho hl).elim
          | cmp ho ho2 _ _ _ => rw [hl] at ho2; cases ho2
          | lg _ h h2 => exact ⟨by rw [← Ty.kd_u hta h]; exact hva, by rw [← Ty.kd_u htb h2]; exact hvb⟩
        have E6 := E5.trans e6
        have e46 := e5.trans e6
        refine q_when (b := decide (o = .and) && (decide (va = .bl false) || decide (vb = .bl false))) (et_and (et_is (et_test (ev_eqS (ev_var rfl) ev_c)) q6) fun h => et_or (et_test (ev_isF (v0 e46 rfl) (tr (by rw [of_decide_eq_true h] <;> rfl)).1)) fun _ => et_test (ev_isF (v1 e46 rfl) (tr (by rw [of_decide_eq_true h] <;> rfl)).2)) (fun hb H7 e7 => ?_) (fun hb H7 e7 => ?_)
        · simp only [Bool.and_eq_true, Bool.or_eq_true, decide_eq_true_eq] at hb
          rw [if_pos hb.1] at q
          unfold andV at q
          rw [if_pos hb.2] at q
          exact s_ret ev_c fun H8 e8 => q H8 ((E6.trans e7).trans e8)
        have E7 := E6.trans e7
        have e47 := e46.trans e7
        refine q_when (b := decide (o = .or) && (decide (va = .bl true) || decide (vb = .bl true))) (et_and (et_is (et_test (ev_eqS (ev_var rfl) ev_c)) q5) fun h => et_or (et_test (ev_isF (v0 e47 rfl) (tr (by rw [of_decide_eq_true h] <;> rfl)).1)) fun _ => et_test (ev_isF (v1 e47 rfl) (tr (by rw [of_decide_eq_true h] <;> rfl)).2)) (fun hb2 H8 e8 => ?_) (fun hb2 H8 e8 => ?_)
        · simp only [Bool.and_eq_true, Bool.or_eq_true, decide_eq_true_eq] at hb2
          rw [if_neg (by rw [hb2.1]; decide), if_pos hb2.1] at q
          unfold orV at q
          rw [if_pos hb2.2] at q
          exact s_ret ev_c fun H9 e9 => q H9 ((E7.trans e8).trans e9)
        have E8 := E7.trans e8
        have na : o = .and → ¬ (va = .bl false ∨ vb = .bl false) := fun h z => by
          rw [decide_eq_true h] at hb
          rcases z with z | z <;> simp [z] at hb
        have no : o = .or → ¬ (va = .bl true ∨ vb = .bl true) := fun h z => by
          rw [decide_eq_true h] at hb2
          rcases z with z | z <;> simp [z] at hb2
        refine q_when (et_B (ev_var rfl)) (fun hn H9 e9 => ?_) (fun hn H9 e9 => ?_)
        · have hn := of_decide_eq_true hn
          refine s_ret ev_c fun H10 e10 => ?_
          have := q H10 ((E8.trans e9).trans e10)
          by_cases ha : o = .and
          · rw [if_pos ha] at this
            unfold andV at this
            rwa [if_neg (na ha), if_pos hn] at this
          · rw [if_neg ha] at this
            by_cases ho : o = .or
            · rw [if_pos ho] at this
              unfold orV at this
              rwa [if_neg (no ho), if_pos hn] at this
            · rw [if_neg ho] at this
              have ec : cmpV o va vb = .non := by
                rcases hn with h | h <;> rw [h]
                · rfl
                · cases va <;> rfl
              rwa [ec] at this
        have hn := of_decide_eq_false hn
        have E9 := E8.trans e9
        have e49 := (e47.trans e8).trans e9
        refine q_when (b := o.lg) (et_is (et_test (ev_kinL (K := K) (xs := ["and", "or"]) (ev_var rfl) (el_lst (ea_cons ev_c (ea_cons ev_c (ea_nil))) (by show 2 ≤ 100000; decide)))) q4) (fun hl H10 e10 => ?_) (fun hl H10 e10 => ?_)
        · refine s_ret (ev_is (ev_eqS (ev_var rfl) ev_c) (congrArg V.bl q6)) fun H11 e11 => ?_
          have := q H11 ((E9.trans e10).trans e11)
          by_cases ha : o = .and
          · rw [if_pos ha] at this
            unfold andV at this
            rw [if_neg (na ha), if_neg hn] at this
            rwa [decide_eq_true ha]
          · have ho : o = .or := by cases o <;> first | rfl | exact absurd rfl ha | exact absurd hl (by decide)
            rw [if_neg ha, if_pos ho] at this
            unfold orV at this
            rw [if_neg (no ho), if_neg hn] at this
            rwa [decide_eq_false ha]
        have E10 := E9.trans e10
        have e410 := e49.trans e10
        rw [if_neg (by intro z; rw [z] at hl; cases hl), if_neg (by intro z; rw [z] at hl; cases hl)] at q
        refine q_when (b := false) (et_is (et_test (ev_eqS (ev_var rfl) ev_c)) q7) (fun z => nomatch z) fun _ H11 e11 => ?_
        refine q_when (b := !o.ar) (et_is (et_test (ev_ninL (K := K) (xs := ["neg", "add", "sub", "mul"]) (ev_var rfl) (el_lst (ea_cons ev_c (ea_cons ev_c (ea_cons ev_c (ea_cons ev_c (ea_nil))))) (by show 4 ≤ 100000; decide)))) (by rw [q8])) (fun ho H12 e12 => ?_) (fun ho H12 e12 => ?_)
        · have ho : o.ar = false := by simpa using ho
          have h2 : Two va vb := by
            have hk : k1 = k2 ∧ k1 ≠ .truth := by
              cases hty with
              | ar ho1 _ _ => rw [ho] at ho1; cases ho1
              | cmp _ _ hk h h2 => exact ⟨(Ty.kd_u hta h).trans (Ty.kd_u htb h2).symm, by rw [Ty.kd_u hta h]; exact hk⟩
              | lg ho1 _ _ => rw [hl] at ho1; cases ho1
            obtain ⟨rfl, hk⟩ := hk
            cases hva with
            | non => exact absurd (.inl rfl) hn
            | int _ =>
              cases hvb with
              | non => exact absurd (.inr rfl) hn
              | int _ => exact .inl ⟨_, _, rfl, rfl⟩
            | str _ =>
              cases hvb with
              | non => exact absurd (.inr rfl) hn
              | str _ => exact .inr ⟨_, _, rfl, rfl⟩
            | bl _ => exact absurd rfl hk
          have e412 := (e410.trans e11).trans e12
          exact s_ret (ev_call (ea_cons (ev_var rfl) (ea_cons (v0 e412 rfl) (ea_cons (v1 e412 rfl) ea_nil))) (cv_compared ho hl h2)) fun H13 e13 => q H13 (((E10.trans e11).trans e12).trans e13)
        · have ho : o.ar = true := by simpa using ho
          obtain ⟨i, j, rfl, rfl, hi, hj⟩ : ∃ i j, va = .int i ∧ vb = .int j ∧ i.natAbs < 10 ^ 60 ∧ j.natAbs < 10 ^ 60 := by
            have hk : k1 = .int ∧ k2 = .int := by
              cases hty with
              | ar _ h h2 => exact ⟨Ty.kd_u hta h, Ty.kd_u htb h2⟩
              | cmp ho1 _ _ _ _ => rw [ho] at ho1; cases ho1
              | lg ho1 _ _ => rw [hl] at ho1; cases ho1
            rw [hk.1] at hva
            rw [hk.2] at hvb
            cases hva with
            | non => exact absurd (.inl rfl) hn
            | int hi =>
              cases hvb with
              | non => exact absurd (.inr rfl) hn
              | int hj => exact ⟨_, _, rfl, rfl, hi, hj⟩
          have E12 := (E10.trans e11).trans e12
          have e412 := (e410.trans e11).trans e12
          refine q_asg (ev_neg (v0 e412 rfl)) fun H13 e13 => ?_
          have e413 := e412.trans e13
          refine q_cut (M := fun σ' H' => ∃ kv pv' : Option V, σ' = [some (.ref p), some vc, some (.ref r), some (.str o.s), kv, some (.ref pv), pv', some (.bl (decide (V.int i = .non ∨ V.int j = .non))), none, some (.int (if o = .add then i + j else -i))] ∧ Ex H4 H') ?_ fun σ' H' hM => ?_
          · refine s_when (et_is (et_test (ev_eqS (ev_var rfl) ev_c)) q10) (fun hb H14 e14 => ?_) (fun hb H14 e14 => ?_)
            · exact s_asg (ev_bin0 (v0 (e413.trans e14) rfl) (v1 (e413.trans e14) rfl)) fun H15 e15 => ⟨_, _, by rw [if_pos (of_decide_eq_true hb)] <;> rfl, (e413.trans e14).trans e15⟩
            · exact ⟨_, _, by rw [if_neg (of_decide_eq_false hb)] <;> rfl, e413.trans e14⟩
          obtain ⟨kv, pv', rfl, eM⟩ := hM
          refine q_cut (M := fun σ' H' => ∃ kv pv' : Option V, σ' = [some (.ref p), some vc, some (.ref r), some (.str o.s), kv, some (.ref pv), pv', some (.bl (decide (V.int i = .non ∨ V.int j = .non))), none, some (.int (if o = .sub then i - j else if o = .add then i + j else -i))] ∧ Ex H4 H') ?_ fun σ' H' hM => ?_
          · refine s_when (et_is (et_test (ev_eqS (ev_var rfl) ev_c)) q11) (fun hb H14 e14 => ?_) (fun hb H14 e14 => ?_)
            · exact s_asg (ev_bin0 (v0 (eM.trans e14) rfl) (v1 (eM.trans e14) rfl)) fun H15 e15 => ⟨_, _, by rw [if_pos (of_decide_eq_true hb)] <;> rfl, (eM.trans e14).trans e15⟩
            · exact ⟨_, _, by rw [if_neg (of_decide_eq_false hb)] <;> rfl, eM.trans e14⟩
          obtain ⟨kv, pv', rfl, eM⟩ := hM
          refine q_cut (M := fun σ' H' => ∃ kv pv' : Option V, σ' = [some (.ref p), some vc, some (.ref r), some (.str o.s), kv, some (.ref pv), pv', some (.bl (decide (V.int i = .non ∨ V.int j = .non))), none, some (.int (if o = .add then i + j else if o = .sub then i - j else i * j))] ∧ Ex H4 H') ?_ fun σ' H' hM => ?_
          · refine s_when (et_is (et_test (ev_eqS (ev_var rfl) ev_c)) q12) (fun hb H14 e14 => ?_) (fun hb H14 e14 => ?_)
            · have hm := of_decide_eq_true hb
              exact s_asg (ev_bin (v0 (eM.trans e14) rfl) (v1 (eM.trans e14) rfl) (Wd.mul (small60 hi) (small60 hj))) fun H15 e15 => ⟨_, _, by rw [hm] <;> rfl, (eM.trans e14).trans e15⟩
            · have hm := of_decide_eq_false hb
              refine ⟨kv, pv', ?_, eM.trans e14⟩
              have : (if o = .sub then i - j else if o = .add then i + j else -i) = (if o = .add then i + j else if o = .sub then i - j else i * j) := by cases o <;> first | rfl | exact absurd rfl hm | exact absurd ho (by decide)
              rw [this]
          obtain ⟨kv, pv', rfl, eM⟩ := hM
          have ec : cmpV o (.int i) (.int j) = bndV (if o = .add then i + j else if o = .sub then i - j else i * j) := by cases o <;> first | rfl | exact absurd ho (by decide)
          rw [ec] at q
          exact fin_num (ev_var rfl) (ev_var rfl) (ev_var rfl) (fun H17 e17 => q H17 ((E4.trans eM).trans e17))
theorem ok_law_evaluated (T : Txt K mg) : FnOk P w K mg base CX0 19 T.f_law_evaluated T.d_law_evaluated ["tree", "columns", "row"] (spEv K 16) := ok_law_evaluated_at T 16


/-! ### _law_is_value -/
def spIsValue : Sp := fun vs H Q _ => ∃ v : V, vs = [v, v] ∧ flatV v = true ∧ ∀ H', Ex H H' → Q (.bl true) H'
theorem cv_isval {v : V} {H : Hp} (h : flatV v = true) : SpV spIsValue [v, v] H (.bl true) := fun H1 e Q q E => ⟨v, rfl, h, fun H2 e2 => q H2 e2⟩
theorem ok_law_is_value (T : Txt K mg) : FnOk P w K mg base CX0 1 T.f_law_is_value T.d_law_is_value ["actual", "expected"] spIsValue := by
  refine T.F_law_is_value.ok sc_law_is_value (fun vs H Q E h => ?_) (fun cdv A outer s H vs Q E hr h => ?_)
  · obtain ⟨v, rfl, _⟩ := h
    rfl
  · obtain ⟨v, rfl, hf, q⟩ := h
    refine ⟨_, pss_cons (ps_if (pt_cmpR op_isN (pv 1) (pe_non) (nomark _))
      (pss_one (ps_ret (pe_cmpR op_isN (pv 0) (pe_non) (nomark _))))
      (pss_nil))
      (pss_cons (ps_if (pt_val (pe_callB (r := rIsi K) call_isi (by rfl) T.m_isinstance (by decide +kernel) (pa_cons (pv 1) (pa_cons (pe_bltn (v := .ty "bool") (by rfl) T.m_bool (by decide +kernel) rfl) (pa_nil)))))
      (pss_one (ps_ret (pe_and (pe_callB (r := rIsi K) call_isi (by rfl) T.m_isinstance (by decide +kernel) (pa_cons (pv 0) (pa_cons (pe_bltn (v := .ty "bool") (by rfl) T.m_bool (by decide +kernel) rfl) (pa_nil)))) (pe_one (pe_cmpR op_eq (pv 0) (pv 1) (nomark _))))))
      (pss_nil))
      (pss_cons (ps_if (pt_val (pe_callB (r := rIsi K) call_isi (by rfl) T.m_isinstance (by decide +kernel) (pa_cons (pv 1) (pa_cons (pe_bltn (v := .ty "str") (by rfl) T.m_str (by decide +kernel) rfl) (pa_nil)))))
      (pss_one (ps_ret (pe_and (pe_callB (r := rIsi K) call_isi (by rfl) T.m_isinstance (by decide +kernel) (pa_cons (pv 0) (pa_cons (pe_bltn (v := .ty "str") (by rfl) T.m_str (by decide +kernel) rfl) (pa_nil)))) (pe_one (pe_cmpR op_eq (pv 0) (pv 1) (nomark _))))))
      (pss_nil))
      (pss_one (ps_ret (pe_and (pe_callB (r := rIsi K) call_isi (by rfl) T.m_isinstance (by decide +kernel) (pa_cons (pv 0) (pa_cons (pe_bltn (v := .ty "int") (by rfl) T.m_int (by decide +kernel) rfl) (pa_nil)))) (pe_and (pe_not (pe_callB (r := rIsi K) call_isi (by rfl) T.m_isinstance (by decide +kernel) (pa_cons (pv 0) (pa_cons (pe_bltn (v := .ty "bool") (by rfl) T.m_bool (by decide +kernel) rfl) (pa_nil))))) (pe_one (pe_cmpR op_eq (pv 0) (pv 1) (nomark _))))))))), ?_⟩
    obtain ⟨d, hd⟩ : ∃ d, ∀ H' : Hp, Dp K H' v d := by
      cases v with
      | non => exact ⟨_, fun _ => .non⟩
      | bl b => exact ⟨_, fun _ => .bl b⟩
      | int i => exact ⟨_, fun _ => .int i⟩
      | str z => exact ⟨_, fun _ => .str z⟩
      | _ => cases hf
    have sc : scal v v = true := by cases v <;> first | rfl | cases hf
    have ee : ∀ {σ : L2.St} {H' : Hp}, σ[0]? = some (some v) → σ[1]? = some (some v) → Ev (tOp rEq (tVar 0) (tVar 1)) σ H' (.bl true) := fun h0 h1 => ev_is (ev_op (ev_var h0) (ev_var h1) (rv_eq sc)) (congrArg V.bl (decide_eq_true rfl))
    refine q_when (et_test (ev_isN (ev_var rfl))) (fun hb H1 e1 => ?_) (fun hb H1 e1 => ?_)
    · exact s_ret (ev_is (ev_isN (ev_var rfl)) (congrArg V.bl hb)) fun H2 e2 => q H2 (e1.trans e2)
    refine q_when (et_B (ev_isBl (ev_var rfl) (hd H1))) (fun hb2 H2 e2 => ?_) (fun hb2 H2 e2 => ?_)
    · exact s_ret (ev_is (ev_andV (ev_isBl (ev_var rfl) (hd H2)) fun _ => ee rfl rfl) (by rw [hb2] <;> rfl)) fun H3 e3 => q H3 ((e1.trans e2).trans e3)
    refine q_when (et_B (ev_isS (ev_var rfl) (hd H2))) (fun hb3 H3 e3 => ?_) (fun hb3 H3 e3 => ?_)
    · exact s_ret (ev_is (ev_andV (ev_isS (ev_var rfl) (hd H3)) fun _ => ee rfl rfl) (by rw [hb3] <;> rfl)) fun H4 e4 => q H4 (((e1.trans e2).trans e3).trans e4)
    · have hi : isIntD d = true := by
        have := hd H3
        cases this with
        | non => exact absurd rfl (of_decide_eq_false hb)
        | bl b => cases hb2
        | int i => rfl
        | str z => cases hb3
        | lst h r => cases hf
        | tup h r => cases hf
      exact s_ret (ev_is (ev_andV (ev_isNum (ev_var rfl) (hd H3)) fun _ => ev_andV (ev_notV (ev_isBl (ev_var rfl) (hd H3))) fun _ => ee rfl rfl) (by rw [hi, hb2] <;> rfl)) fun H4 e4 => q H4 (((e1.trans e2).trans e3).trans e4)


/-! ### _law_integer -/
def integerZ (cell : Int) : Int :=
  if cell % 8 = 0 then 0 else if cell % 8 = 1 then 1 + cell / 8 % 12 else if cell % 8 = 2 then -1 - cell / 8 % 12 else if cell % 8 = 3 then 10 ^ 60 - 1 - cell / 8 % 3 else
  if cell % 8 = 4 then 1 - 10 ^ 60 + cell / 8 % 3 else if cell % 8 = 5 then (cell / 8 * 10 ^ 52 + cell / 8) % 10 ^ 60 else if cell % 8 = 6 then -(cell / 8 % 10 ^ 60) else cell / 8 % 2001 - 1000
theorem integerZ_lt (cell : Int) : -(10 ^ 60) < integerZ cell ∧ integerZ cell < 10 ^ 60 := by
  unfold integerZ
  have h1 := Int.emod_nonneg (cell / 8) (by decide : (12 : Int) ≠ 0)
  have h2 := Int.emod_lt_of_pos (cell / 8) (by decide : (0 : Int) < 12)
  have h3 := Int.emod_nonneg (cell / 8) (by decide : (3 : Int) ≠ 0)
  have h4 := Int.emod_lt_of_pos (cell / 8) (by decide : (0 : Int) < 3)
  have h5 := Int.emod_nonneg (cell / 8 * 10 ^ 52 + cell / 8) (by decide : (10 ^ 60 : Int) ≠ 0)
  have h6 := Int.emod_lt_of_pos (cell / 8 * 10 ^ 52 + cell / 8) (by decide : (0 : Int) < 10 ^ 60)
  have h7 := Int.emod_nonneg (cell / 8) (by decide : (10 ^ 60 : Int) ≠ 0)
  have h8 := Int.emod_lt_of_pos (cell / 8) (by decide : (0 : Int) < 10 ^ 60)
  have h9 := Int.emod_nonneg (cell / 8) (by decide : (2001 : Int) ≠ 0)
  have h10 := Int.emod_lt_of_pos (cell / 8) (by decide : (0 : Int) < 2001)
  generalize (cell / 8 * 10 ^ 52 + cell / 8) % 10 ^ 60 = a at *
  generalize cell / 8 % 10 ^ 60 = b at *
  generalize cell / 8 % 2001 = c at *
  generalize cell / 8 % 12 = d at *
  generalize cell / 8 % 3 = e at *
  have e60 : (10 : Int) ^ 60 = 1000000000000000000000000000000000000000000000000000000000000 := by decide
  rw [e60] at *
  repeat' split
  all_goals omega
theorem integerZ_log (cell : Int) : (integerZ cell).natAbs.log2 < 1920 := by
  have h := integerZ_lt cell
  have e60 : (10 : Int) ^ 60 = 1000000000000000000000000000000000000000000000000000000000000 := by decide
  rw [e60] at h
  refine Nat.lt_of_lt_of_le (PySem.Flt.log2_lt_of (k := 256) (by decide) ?_) (by decide)
  omega
def sp_integer : Sp := fun vs H Q _ => ∃ cell : Int, vs = [.int cell] ∧ Wd cell ∧ ∀ H', Ex H H' → Q (.int (integerZ cell)) H'
theorem cv_integer {cell : Int} {H : Hp} (hc : Wd cell) : SpV sp_integer [.int cell] H (.int (integerZ cell)) := fun H1 e Q q E => ⟨cell, rfl, hc, fun H2 e2 => q H2 e2⟩
theorem ok_law_integer (T : Txt K mg) : FnOk P w K mg base CX0 1 T.f_law_integer T.d_law_integer ["cell"] sp_integer := by
  refine T.F_law_integer.ok sc_law_integer (fun vs H Q E h => ?_) (fun cdv A outer s H vs Q E hr h => ?_)
  · obtain ⟨n, rfl, _⟩ := h
    rfl
  · obtain ⟨n, rfl, hW, q⟩ := h
    unfold integerZ at q
    refine ⟨_, pss_cons (ps_set (i := 1) sc_law_integer.nd rfl (by first | exact Or.inl rfl | exact Or.inr rfl) (pe_op op_mod (pe_callTy call_int1 (by rfl) T.m_int (by decide +kernel) (pa_cons (pv 0) (pa_nil))) (pe_int)))
      (pss_cons (ps_set (i := 2) sc_law_integer.nd rfl (by first | exact Or.inl rfl | exact Or.inr rfl) (pe_op op_fdivW (pv 0) (pe_int)))
      (pss_cons (ps_if (pt_cmpR op_eq (pv 1) (pe_int) (nomark _))
      (pss_one (ps_ret (pe_int)))
      (pss_nil))
      (pss_cons (ps_if (pt_cmpR op_eq (pv 1) (pe_int) (nomark _))
      (pss_one (ps_ret (pe_op op_add (pe_int) (pe_op op_mod (pe_callTy call_int1 (by rfl) T.m_int (by decide +kernel) (pa_cons (pv 2) (pa_nil))) (pe_int)))))
      (pss_nil))
      (pss_cons (ps_if (pt_cmpR op_eq (pv 1) (pe_int) (nomark _))
      (pss_one (ps_ret (pe_op op_sub (pe_un un_neg (pe_int)) (pe_op op_mod (pe_callTy call_int1 (by rfl) T.m_int (by decide +kernel) (pa_cons (pv 2) (pa_nil))) (pe_int)))))
      (pss_nil))
      (pss_cons (ps_if (pt_cmpR op_eq (pv 1) (pe_int) (nomark _))
      (pss_one (ps_ret (pe_op op_sub (pe_op op_sub (pe_op op_pow (pe_int) (pe_int)) (pe_int)) (pe_op op_mod (pe_callTy call_int1 (by rfl) T.m_int (by decide +kernel) (pa_cons (pv 2) (pa_nil))) (pe_int)))))
      (pss_nil))
      (pss_cons (ps_if (pt_cmpR op_eq (pv 1) (pe_int) (nomark _))
      (pss_one (ps_ret (pe_op op_add (pe_op op_sub (pe_int) (pe_op op_pow (pe_int) (pe_int))) (pe_op op_mod (pe_callTy call_int1 (by rfl) T.m_int (by decide +kernel) (pa_cons (pv 2) (pa_nil))) (pe_int)))))
      (pss_nil))
      (pss_cons (ps_if (pt_cmpR op_eq (pv 1) (pe_int) (nomark _))
      (pss_one (ps_ret (pe_op op_mod (pe_callTy call_int1 (by rfl) T.m_int (by decide +kernel) (pa_cons (pe_op op_add (pe_op op_mulX (pv 2) (pe_op op_pow (pe_int) (pe_int))) (pv 2)) (pa_nil))) (pe_op op_pow (pe_int) (pe_int)))))
      (pss_nil))
      (pss_cons (ps_if (pt_cmpR op_eq (pv 1) (pe_int) (nomark _))
      (pss_one (ps_ret (pe_un un_neg (pe_op op_mod (pe_callTy call_int1 (by rfl) T.m_int (by decide +kernel) (pa_cons (pv 2) (pa_nil))) (pe_op op_pow (pe_int) (pe_int))))))
      (pss_nil))
      (pss_one (ps_ret (pe_op op_sub (pe_op op_mod (pe_callTy call_int1 (by rfl) T.m_int (by decide +kernel) (pa_cons (pv 2) (pa_nil))) (pe_int)) (pe_int)))))))))))), ?_⟩
    have p60 : ∀ {σ : L2.St} {H : Hp}, Ev (tOp (rI CPow fun i j => V.int (i ^ j.toNat)) (tC (.int 10)) (tC (.int 60))) σ H (.int (10 ^ 60)) := ev_bin ev_c ev_c ⟨by decide, by decide, by decide⟩
    have p52 : ∀ {σ : L2.St} {H : Hp}, Ev (tOp (rI CPow fun i j => V.int (i ^ j.toNat)) (tC (.int 10)) (tC (.int 52))) σ H (.int (10 ^ 52)) := ev_bin ev_c ev_c ⟨by decide, by decide, by decide⟩
    refine q_asg (ev_bin (ev_intI (ev_var rfl)) ev_c (by decide)) fun H1 e1 => ?_
    refine q_asg (ev_bin (ev_var rfl) ev_c ⟨by decide, by decide⟩) fun H2 e2 => ?_
    have e := e1.trans e2
    refine q_when (et_test (ev_eqI (ev_var rfl) ev_c)) (fun hb H3 e3 => ?_) (fun hb H3 e3 => ?_)
    · rw [if_pos (of_decide_eq_true hb)] at q
      exact s_ret ev_c fun H4 e4 => q H4 ((e.trans e3).trans e4)
    rw [if_neg (of_decide_eq_false hb)] at q
    have e := e.trans e3
    refine q_when (et_test (ev_eqI (ev_var rfl) ev_c)) (fun hb H3 e3 => ?_) (fun hb H3 e3 => ?_)
    · rw [if_pos (of_decide_eq_true hb)] at q
      exact s_ret (ev_bin0 ev_c (ev_bin (ev_intI (ev_var rfl)) ev_c (by decide))) fun H4 e4 => q H4 ((e.trans e3).trans e4)
    rw [if_neg (of_decide_eq_false hb)] at q
    have e := e.trans e3
    refine q_when (et_test (ev_eqI (ev_var rfl) ev_c)) (fun hb H3 e3 => ?_) (fun hb H3 e3 => ?_)
    · rw [if_pos (of_decide_eq_true hb)] at q
      exact s_ret (ev_bin0 (ev_neg ev_c) (ev_bin (ev_intI (ev_var rfl)) ev_c (by decide))) fun H4 e4 => q H4 ((e.trans e3).trans e4)
    rw [if_neg (of_decide_eq_false hb)] at q
    have e := e.trans e3
    refine q_when (et_test (ev_eqI (ev_var rfl) ev_c)) (fun hb H3 e3 => ?_) (fun hb H3 e3 => ?_)
    · rw [if_pos (of_decide_eq_true hb)] at q
      exact s_ret (ev_bin0 (ev_bin0 p60 ev_c) (ev_bin (ev_intI (ev_var rfl)) ev_c (by decide))) fun H4 e4 => q H4 ((e.trans e3).trans e4)
    rw [if_neg (of_decide_eq_false hb)] at q
    have e := e.trans e3
    refine q_when (et_test (ev_eqI (ev_var rfl) ev_c)) (fun hb H3 e3 => ?_) (fun hb H3 e3 => ?_)
    · rw [if_pos (of_decide_eq_true hb)] at q
      exact s_ret (ev_bin0 (ev_bin0 ev_c p60) (ev_bin (ev_intI (ev_var rfl)) ev_c (by decide))) fun H4 e4 => q H4 ((e.trans e3).trans e4)
    rw [if_neg (of_decide_eq_false hb)] at q
    have e := e.trans e3
    refine q_when (et_test (ev_eqI (ev_var rfl) ev_c)) (fun hb H3 e3 => ?_) (fun hb H3 e3 => ?_)
    · rw [if_pos (of_decide_eq_true hb)] at q
      exact s_ret (ev_bin (ev_intI (ev_bin0 (ev_bin (ev_var rfl) p52 (Wd.mul (Wd.div hW) (Wd.lit (by decide)))) (ev_var rfl))) p60 (by decide)) fun H4 e4 => q H4 ((e.trans e3).trans e4)
    rw [if_neg (of_decide_eq_false hb)] at q
    have e := e.trans e3
    refine q_when (et_test (ev_eqI (ev_var rfl) ev_c)) (fun hb H3 e3 => ?_) (fun hb H3 e3 => ?_)
    · rw [if_pos (of_decide_eq_true hb)] at q
      exact s_ret (ev_neg (ev_bin (ev_intI (ev_var rfl)) p60 (by decide))) fun H4 e4 => q H4 ((e.trans e3).trans e4)
    rw [if_neg (of_decide_eq_false hb)] at q
    have e := e.trans e3
    exact s_ret (ev_bin0 (ev_bin (ev_intI (ev_var rfl)) ev_c (by decide)) ev_c) fun H4 e4 => q H4 (e.trans e4)


/-! ### _law_small -/
def spSmall : Sp := fun vs H Q _ => ∃ (k : Kd) (c : Int), vs = [.str k.s, .int c] ∧ k ≠ .truth ∧ Wd c ∧ ∀ v H', Ex H H' → VK' k v → Q v H'
theorem ok_law_small (T : Txt K mg) : FnOk P w K mg base CX0 3 T.f_law_small T.d_law_small ["kind", "cell"] spSmall := by
  refine T.F_law_small.ok sc_law_small (fun vs H Q E h => ?_) (fun cdv A outer s H vs Q E hr h => ?_)
  · obtain ⟨k, c, rfl, _⟩ := h
    rfl
  · obtain ⟨k, c, rfl, hk, hW, q⟩ := h
    refine ⟨_, pss_cons (ps_set (i := 2) sc_law_small.nd rfl (by first | exact Or.inl rfl | exact Or.inr rfl) (pe_op op_mod (pe_callTy call_int1 (by rfl) T.m_int (by decide +kernel) (pa_cons (pv 1) (pa_nil))) (pe_int)))
      (pss_cons (ps_set (i := 3) sc_law_small.nd rfl (by first | exact Or.inl rfl | exact Or.inr rfl) (pe_op op_fdivW (pv 1) (pe_int)))
      (pss_cons (ps_if (pt_cmpR op_eq (pv 2) (pe_int) (nomark _))
      (pss_one (ps_ret (pe_non)))
      (pss_nil))
      (pss_cons (ps_if (pt_cmpR op_eq (pv 0) (pe_str) (nomark _))
      (pss_one (ps_ret (pe_ix (r := rIxL K) ix_list (pe_lst (pa_cons (pe_int) (pa_cons (pe_int) (pa_cons (pe_int) (pa_cons (pe_un un_neg (pe_int)) (pa_cons (pe_op op_sub (pe_op op_pow (pe_int) (pe_int)) (pe_int)) (pa_cons (pe_op op_sub (pe_int) (pe_op op_pow (pe_int) (pe_int))) (pa_cons (pe_op op_pow (pe_int) (pe_int)) (pa_cons (pe_call (ok_law_integer T) (hr.mono (by first | decide | omega)) (by rfl) T.g_law_integer T.F_law_integer.kp T.b_law_integer .nil pass0 (pa_cons (pv 3) (pa_nil))) (pa_nil)))))))))) (pv 2) (fun _ _ => rfl))))
      (pss_nil))
      (pss_one (ps_ret (pe_ix (r := rIxL K) ix_list (pe_lst (pa_cons (pe_str) (pa_cons (pe_str) (pa_cons (pe_str) (pa_cons (pe_str) (pa_cons (pe_str) (pa_cons (pe_str) (pa_cons (pe_str) (pa_cons (pe_call (ok_law_text T) (hr.mono (by first | decide | omega)) (by rfl) T.g_law_text T.F_law_text.kp T.b_law_text .nil pass0 (pa_cons (pv 3) (pa_nil))) (pa_nil)))))))))) (pv 2) (fun _ _ => rfl))))))), ?_⟩
    have c0 := Int.emod_nonneg c (by decide : (9 : Int) ≠ 0)
    have c1 := Int.emod_lt_of_pos c (by decide : (0 : Int) < 9)
    have p60 : ∀ {σ : L2.St} {H : Hp}, Ev (tOp (rI CPow fun i j => V.int (i ^ j.toNat)) (tC (.int 10)) (tC (.int 60))) σ H (.int (10 ^ 60)) := ev_bin ev_c ev_c ⟨by decide, by decide, by decide⟩
    have p30 : ∀ {σ : L2.St} {H : Hp}, Ev (tOp (rI CPow fun i j => V.int (i ^ j.toNat)) (tC (.int 10)) (tC (.int 30))) σ H (.int (10 ^ 30)) := ev_bin ev_c ev_c ⟨by decide, by decide, by decide⟩
    refine q_asg (ev_bin (ev_intI (ev_var rfl)) ev_c (by decide)) fun H1 e1 => ?_
    refine q_asg (ev_bin (ev_var rfl) ev_c ⟨by decide, by decide⟩) fun H2 e2 => ?_
    have E2 := e1.trans e2
    refine q_when (b := decide (c % 9 = 8)) (et_test (ev_eqI (ev_var rfl) ev_c)) (fun hb H3 e3 => s_ret ev_c fun H4 e4 => q _ H4 ((E2.trans e3).trans e4) (.non k)) fun hb H3 e3 => ?_
    have hb : ¬ c % 9 = 8 := of_decide_eq_false hb
    have hh : c % 9 = 0 ∨ c % 9 = 1 ∨ c % 9 = 2 ∨ c % 9 = 3 ∨ c % 9 = 4 ∨ c % 9 = 5 ∨ c % 9 = 6 ∨ c % 9 = 7 := by omega
    have E3 := E2.trans e3
    cases k with
    | truth => exact absurd rfl hk
    | int =>
      refine q_when (b := true) (et_is (et_test (ev_eqS (ev_var rfl) ev_c)) (by decide +kernel)) (fun _ H4 e4 => ?_) (fun z => nomatch z)
      obtain ⟨m, hm, hm0⟩ : ∃ m : Int, ([.int 0, .int 1, .int 2, .int (-1), .int (10 ^ 60 - 1), .int (1 - 10 ^ 60), .int (10 ^ 30), .int (integerZ (c / 9))] : List V)[(c % 9).toNat]? = some (.int m) ∧ m.natAbs < 10 ^ 60 := by
        rcases hh with e | e | e | e | e | e | e | e <;> rw [e]
        · exact ⟨0, rfl, by decide⟩
        · exact ⟨1, rfl, by decide⟩
        · exact ⟨2, rfl, by decide⟩
        · exact ⟨-1, rfl, by decide⟩
        · exact ⟨10 ^ 60 - 1, rfl, by decide⟩
        · exact ⟨1 - 10 ^ 60, rfl, by decide⟩
        · exact ⟨10 ^ 30, rfl, by decide⟩
        · exact ⟨_, rfl, by have := integerZ_lt (c / 9); omega⟩
      exact s_ret (ev_ixN (K := K) (el_lst (ea_cons ev_c (ea_cons ev_c (ea_cons ev_c (ea_cons (ev_neg ev_c) (ea_cons (ev_bin0 p60 ev_c) (ea_cons (ev_bin0 ev_c p60) (ea_cons p30 (ea_cons (ev_call (ea_cons (ev_var rfl) ea_nil) (cv_integer (Wd.div hW))) ea_nil)))))))) (by show 8 ≤ 100000; decide)) (fun H5 e5 => ev_var rfl) (atI_of c0 hm)) fun H5 e5 => q _ H5 ((E3.trans e4).trans e5) (.int hm0)
    | text =>
      refine q_when (b := false) (et_is (et_test (ev_eqS (ev_var rfl) ev_c)) (by decide +kernel)) (fun z => nomatch z) fun _ H4 e4 => ?_
      obtain ⟨m, hm⟩ : ∃ m : Str, ([.str (Str.ofString ""), .str (Str.ofString "a"), .str (Str.ofString "b"), .str (Str.ofString "ab"), .str (Str.ofString "B"), .str (Str.ofString "10"), .str (Str.ofString "a"), .str (textZ (c / 9))] : List V)[(c % 9).toNat]? = some (.str m) := by
        rcases hh with e | e | e | e | e | e | e | e <;> rw [e] <;> exact ⟨_, rfl⟩
      exact s_ret (ev_ixN (K := K) (el_lst (ea_cons ev_c (ea_cons ev_c (ea_cons ev_c (ea_cons ev_c (ea_cons ev_c (ea_cons ev_c (ea_cons ev_c (ea_cons (ev_call (ea_cons (ev_var rfl) ea_nil) (cv_text (Wd.div hW))) ea_nil)))))))) (by show 8 ≤ 100000; decide)) (fun H5 e5 => ev_var rfl) (atI_of c0 hm)) fun H5 e5 => q _ H5 ((E3.trans e4).trans e5) (.str m)


/-! ### _law_thing -/
def thingZ (ns : List Int) (k : Nat) : Int := if k < ns.length then cellZ ns k else if ns.length = 0 then (k : Int) else (cellZ ns (k % ns.length) * 48271 + (k : Int) * 69621) % 2147483647
theorem Wd.thing {ns : List Int} (h : ∀ n ∈ ns, Wd n) {k : Nat} (hk : k ≤ 100000) : Wd (thingZ ns k) := by
  unfold thingZ
  split
  · exact Wd.cell h k
  · split
    · exact Wd.small (by omega) (by omega)
    · exact Wd.mod (by decide) (Wd.lit (by decide))
def sp_thing (K : PySem.W.Frag) : Sp := fun vs H Q _ => ∃ (a : Addr) (ns : List Int) (k : Nat), vs = [.ref a, .int (k : Int)] ∧ SqL K H a (ns.map V.int) ∧ (∀ n ∈ ns, Wd n) ∧ k ≤ 100000 ∧ ∀ H', Ex H H' → Q (.int (thingZ ns k)) H'
theorem cv_thing {a : Addr} {ns : List Int} {k : Nat} {H : Hp} (h : SqL K H a (ns.map V.int)) (hw : ∀ n ∈ ns, Wd n) (hk : k ≤ 100000) : SpV (sp_thing K) [.ref a, .int (k : Int)] H (.int (thingZ ns k)) := fun H1 e Q q E => ⟨a, ns, k, rfl, ex_l e h, hw, hk, fun H2 e2 => q H2 e2⟩
theorem ok_law_thing (T : Txt K mg) : FnOk P w K mg base CX0 1 T.f_law_thing T.d_law_thing ["script", "k"] (sp_thing K) := by
  refine T.F_law_thing.ok sc_law_thing (fun vs H Q E h => ?_) (fun cdv A outer s H vs Q E hr h => ?_)
  · obtain ⟨a, ns, k, rfl, _⟩ := h
    rfl
  · obtain ⟨a, ns, k, rfl, hS, hw, hk1, q⟩ := h
    have el : (ns.map V.int).length = ns.length := List.length_map ..
    have item : ∀ j : Nat, j < ns.length → (ns.map V.int)[j]? = some (.int (cellZ ns j)) := fun j hj => by
      rw [List.getElem?_map, List.getElem?_eq_getElem hj]
      unfold cellZ
      rw [List.getD_eq_getElem?_getD, List.getElem?_eq_getElem hj] <;> rfl
    refine ⟨_, pss_cons (ps_if (pt_cmpR op_lt (pv 1) (pe_callB (r := rLenQ K) call_len_seq (by rfl) T.m_len (by decide +kernel) (pa_cons (pv 0) (pa_nil))) (nomark _))
      (pss_one (ps_ret (pe_ix (r := rIxL K) ix_list (pv 0) (pv 1) (fun _ _ => rfl))))
      (pss_nil))
      (pss_cons (ps_if (pt_cmpR op_eq (pe_callB (r := rLenQ K) call_len_seq (by rfl) T.m_len (by decide +kernel) (pa_cons (pv 0) (pa_nil))) (pe_int) (nomark _))
      (pss_one (ps_ret (pv 1)))
      (pss_nil))
      (pss_one (ps_ret (pe_op op_mod (pe_callTy call_int1 (by rfl) T.m_int (by decide +kernel) (pa_cons (pe_op op_add (pe_op op_mulX (pe_ix (r := rIxL K) ix_list (pv 0) (pe_op op_mod (pe_callTy call_int1 (by rfl) T.m_int (by decide +kernel) (pa_cons (pv 1) (pa_nil))) (pe_callB (r := rLenQ K) call_len_seq (by rfl) T.m_len (by decide +kernel) (pa_cons (pv 0) (pa_nil)))) (fun _ _ => rfl)) (pe_int)) (pe_op op_mulX (pv 1) (pe_int))) (pa_nil))) (pe_int))))), ?_⟩
    refine q_when (b := decide ((k : Int) < ((ns.map V.int).length : Int))) (et_test (ev_bin0 (ev_var rfl) (ev_lenQ (K := K) (ev_var rfl) hS))) (fun hb H1 e1 => ?_) (fun hb H1 e1 => ?_)
    · have hk : k < ns.length := by
        have := of_decide_eq_true hb
        rw [el] at this
        omega
      refine s_ret (ev_ixL (K := K) (ev_var rfl) (ev_var rfl) (ex_l e1 hS) (at_nat (item k hk))) fun H2 e2 => ?_
      have e0 : thingZ ns k = cellZ ns k := if_pos hk
      rw [← e0]
      exact q H2 (e1.trans e2)
    · have hk : ¬ k < ns.length := by
        have := of_decide_eq_false hb
        rw [el] at this
        omega
      refine q_when (et_test (ev_eqI (ev_lenQ (K := K) (ev_var rfl) (ex_l e1 hS)) ev_c)) (fun hb H2 e2 => ?_) (fun hb H2 e2 => ?_)
      · have h0 : ns.length = 0 := by
          have := of_decide_eq_true hb
          rw [el] at this
          omega
        refine s_ret (ev_var rfl) fun H3 e3 => ?_
        have e0 : thingZ ns k = (k : Int) := by unfold thingZ; rw [if_neg hk, if_pos h0]
        rw [← e0]
        exact q H3 ((e1.trans e2).trans e3)
      · have h0 : ¬ ns.length = 0 := by
          have := of_decide_eq_false hb
          rw [el] at this
          omega
        have hm : k % ns.length < ns.length := Nat.mod_lt _ (by omega)
        refine s_ret (ev_bin (i := cellZ ns (k % ns.length) * 48271 + (k : Int) * 69621) (ev_intI (ev_bin0 (ev_bin (ev_ixL (K := K) (i := ((k % ns.length : Nat) : Int)) (ev_var rfl) (ev_is (ev_bin (ev_intI (ev_var rfl)) (ev_lenQ (K := K) (ev_var rfl) (ex_l (e1.trans e2) hS)) (by rw [el]; omega)) (by rw [el]; rfl)) (ex_l (e1.trans e2) hS) (at_nat (item _ hm))) ev_c (Wd.mul (Wd.cell hw _) (Wd.lit (by decide)))) (ev_bin (ev_var rfl) ev_c (Wd.mul (Wd.small (by omega) (by omega)) (Wd.lit (by decide)))))) ev_c (by decide)) fun H3 e3 => ?_
        have e0 : thingZ ns k = (cellZ ns (k % ns.length) * 48271 + (k : Int) * 69621) % 2147483647 := by unfold thingZ; rw [if_neg hk, if_neg h0]
        rw [← e0]
        exact q H3 ((e1.trans e2).trans e3)


/-! ### _law_free -/
def spFree (K : PySem.W.Frag) : Sp := fun vs H Q _ => ∃ (b : Nat) (z : Str) (p : Addr) (zs : List Str), vs = [.str z, .ref p] ∧ Nm b z ∧ 3 ≤ b ∧ b ≤ 90000 ∧ SqL K H p (zs.map V.str) ∧ zs.length ≤ 12 ∧ ∀ (z' : Str) H', Ex H H' → Nm (b + 1) z' → z' ∉ zs → Q (.str z') H'
theorem ok_law_free (T : Txt K mg) : FnOk P w K mg base CX0 1 T.f_law_free T.d_law_free ["name", "taken"] (spFree K) := by
  refine T.F_law_free.ok sc_law_free (fun vs H Q E h => ?_) (fun cdv A outer s H vs Q E hr h => ?_)
  · obtain ⟨b, z, p, zs, rfl, _⟩ := h
    rfl
  · obtain ⟨b, z, p, zs, rfl, hz, hb3, hb9, hS, hzs, q⟩ := h
    refine ⟨_, pss_cons (ps_set (i := 2) sc_law_free.nd rfl (by first | exact Or.inl rfl | exact Or.inr rfl) (pe_lst (pa_cons (pe_str) (pa_cons (pe_str) (pa_cons (pe_str) (pa_cons (pe_str) (pa_cons (pe_str) (pa_cons (pe_str) (pa_cons (pe_str) (pa_cons (pe_str) (pa_cons (pe_str) (pa_cons (pe_str) (pa_cons (pe_str) (pa_cons (pe_str) (pa_nil)))))))))))))))
      (pss_cons (ps_set (i := 2) sc_law_free.nd rfl (by first | exact Or.inl rfl | exact Or.inr rfl) (pe_op op_cat (pv 2) (pe_lst (pa_cons (pe_str) (pa_cons (pe_str) (pa_cons (pe_str) (pa_cons (pe_str) (pa_cons (pe_str) (pa_cons (pe_str) (pa_cons (pe_str) (pa_cons (pe_str) (pa_cons (pe_str) (pa_cons (pe_str) (pa_nil))))))))))))))
      (pss_cons (ps_set (i := 3) sc_law_free.nd rfl (by first | exact Or.inl rfl | exact Or.inr rfl) (pe_str))
      (pss_cut (ps_if (pt_cmpR (r := rIn K false) op_in_seq (pv 0) (pv 2) (by rfl))
      (pss_one (ps_set (i := 0) sc_law_free.nd rfl (by first | exact Or.inl rfl | exact Or.inr rfl) (pe_op op_add_str (pv 0) (pe_str))))
      (pss_nil))
      (pss_cons (ps_for PassesOwn.never rfl (pi_range1 (by rfl) T.m_range (pa_cons (pe_int) (pa_nil))) (pg_name (i := 4) sc_law_free.nd rfl (by first | exact Or.inl rfl | exact Or.inr rfl))
      (pss_one (ps_if (pt_cmpR (r := rIn K false) op_in_seq (pv 0) (pv 1) (by rfl))
      (pss_one (ps_set (i := 0) sc_law_free.nd rfl (by first | exact Or.inl rfl | exact Or.inr rfl) (pe_op op_add_str (pe_op op_add_str (pe_str) (pe_ix ix_str (pv 3) (pe_op op_fdivW (pv 4) (pe_int)) (fun _ _ => rfl))) (pe_ix ix_str (pv 3) (pe_op op_mod (pe_callTy call_int1 (by rfl) T.m_int (by decide +kernel) (pa_cons (pv 4) (pa_nil))) (pe_int)) (fun _ _ => rfl)))))
      (pss_nil))))
      (pss_one (ps_ret (pv 0))))))), ?_⟩
    refine q_asgL (xs := (["and", "as", "at", "count", "distinct", "down", "greatest", "group", "into", "is", "join", "keep"].map Str.ofString).map V.str) (el_lst (ea_cons ev_c (ea_cons ev_c (ea_cons ev_c (ea_cons ev_c (ea_cons ev_c (ea_cons ev_c (ea_cons ev_c (ea_cons ev_c (ea_cons ev_c (ea_cons ev_c (ea_cons ev_c (ea_cons ev_c (ea_nil))))))))))))) (by show 12 ≤ 100000; decide)) fun l1 H1 n1 e1 h1 => ?_
    refine q_asgL (el_catV (K := K) (ys := (["least", "limit", "not", "null", "on", "or", "order", "sum", "union", "where"].map Str.ofString).map V.str) (ev_var rfl) h1 (el_lst (ea_cons ev_c (ea_cons ev_c (ea_cons ev_c (ea_cons ev_c (ea_cons ev_c (ea_cons ev_c (ea_cons ev_c (ea_cons ev_c (ea_cons ev_c (ea_cons ev_c (ea_nil))))))))))) (by show 10 ≤ 100000; decide)) (by show 12 + 10 ≤ 100000; decide)) fun l2 H2 n2 e2 h2 => ?_
    rw [← List.map_append, ← List.map_append] at h2
    generalize (["and", "as", "at", "count", "distinct", "down", "greatest", "group", "into", "is", "join", "keep"] ++ ["least", "limit", "not", "null", "on", "or", "order", "sum", "union", "where"]).map Str.ofString = rs at h2
    refine q_asg ev_c fun H3 e3 => ?_
    have E3 := (e1.trans e2).trans e3
    have sx : Str.ofString "x" = mkS [120] := by decide +kernel
    have sz : Str.ofString "z" = mkS [122] := by decide +kernel
    have tx1 : ∀ c, 97 ≤ c ∧ c ≤ 122 → TxOk 1 (mkS [c]) ∧ ∀ x ∈ (mkS [c]).cps.toList, 97 ≤ x ∧ x ≤ 122 := fun c hc => ⟨TxOk.one (by omega), fun x hx => by
      have : x = c := by simpa [mkS] using hx
      rw [this]; exact hc⟩
    have hzl := hz.2.1
    refine q_cut (M := fun σ' H' => ∃ z' : Str, σ' = [some (.str z'), some (.ref p), some (.ref l2), some (.str (Str.ofString "abcdefghijklmnopqrstuvwxyz")), none] ∧ Nm (b + 1) z' ∧ Ex H H') ?_ fun σ' H' hM => ?_
    · refine s_when (et_test (ev_inStrs (K := K) (ev_var rfl) (ev_var rfl) (sq_of (e3 _ _ h2)))) (fun hb H4 e4 => ?_) (fun hb H4 e4 => ⟨z, rfl, hz.mono (by omega), E3.trans e4⟩)
      refine s_asg (ev_addS (ev_var rfl) ev_c (by rw [sx, mkS_len]; show _ + 1 ≤ _; omega)) fun H5 e5 => ⟨_, rfl, ?_, (E3.trans e4).trans e5⟩
      rw [sx]
      exact hz.app (tx1 120 (by decide))
    obtain ⟨z', rfl, hz', eM⟩ := hM
    refine q_forR1 (n := 500) (ea_cons ev_c ea_nil) (by decide) (fun i σ' H' => ∃ (z' : Str) (kv : Option V), σ' = [some (.str z'), some (.ref p), some (.ref l2), some (.str (Str.ofString "abcdefghijklmnopqrstuvwxyz")), kv] ∧ Nm (b + 1) z' ∧ Ex H H' ∧ (z' ∉ zs ∨ ∀ j, j < i → candZ j ∈ zs)) (fun H4 e4 => ⟨z', none, rfl, hz', eM.trans e4, .inr fun j hj => absurd hj (Nat.not_lt_zero j)⟩) (fun i σ' H' hi hP => ?_) (fun σ' H' hP => ?_)
    · obtain ⟨z', kv, rfl, hz', eH, hd⟩ := hP
      refine s_when (et_is (et_test (ev_inStrs (K := K) (ev_var rfl) (ev_var rfl) (ex_l eH hS))) inS_mem) (fun hb H4 e4 => ?_) (fun hb H4 e4 => ⟨_, _, rfl, hz', eH.trans e4, .inl (of_decide_eq_false hb)⟩)
      have hi5 : i < 500 := by omega
      have hin : z' ∈ zs := of_decide_eq_true hb
      have hd2 := hd.resolve_left fun k => k hin
      refine s_asg (v := .str (candZ i)) (ev_addS (ev_addS ev_c (ev_letter (ev_var rfl) (ev_bin (ev_var rfl) ev_c ⟨by decide, by decide⟩) (by omega)) (by rw [sz, mkS_len]; show 1 + 1 ≤ _; decide)) (ev_letter (ev_var rfl) (ev_bin (ev_intI (ev_var rfl)) ev_c (by decide)) (by omega)) ?_) fun H5 e5 => ⟨_, _, rfl, ?_, (eH.trans e4).trans e5, ?_⟩
      · rw [str_len, codes_app (x := [122]) (by rw [sz] <;> rfl) rfl, List.length_append]
        show 1 + 1 + 1 ≤ _
        decide
      · unfold candZ
        rw [sz]
        have a1 : Nm 1 (mkS [122]) := ⟨Nat.le_refl 1, Nat.le_refl 1, (tx1 122 (by decide)).2⟩
        have l1 := Nm.one (i := (i : Int) / 26) (by omega)
        have l2 := Nm.one (i := (i : Int) % 26) (by omega)
        exact ((a1.app ⟨l1.tx, l1.2.2⟩).app ⟨l2.tx, l2.2.2⟩).mono (by omega)
      · by_cases hc : candZ i ∈ zs
        · refine .inr fun j hj => ?_
          by_cases he : j = i
          · rw [he]; exact hc
          · exact hd2 j (by omega)
        · exact .inl hc
    · obtain ⟨z', kv, rfl, hz', eH, hd⟩ := hP
      refine s_ret (ev_var rfl) fun H4 e4 => q z' _ (eH.trans e4) hz' ?_
      rcases hd with hd | hd
      · exact hd
      · have := pigeon (f := candZ) 13 zs (fun j hj => hd j (by show j < 500; omega)) fun j k hj hk => cand_inj j hj k hk
        omega


/-! ### _law_name -/
def spNameS : Sp := fun vs H Q _ => ∃ c : Int, vs = [.int c] ∧ Wd c ∧ ∀ (z : Str) H', Ex H H' → Nm 12 z → Q (.str z) H'
theorem ok_law_name (T : Txt K mg) : FnOk P w K mg base CX0 2 T.f_law_name T.d_law_name ["cell"] spNameS := by
  refine T.F_law_name.ok sc_law_name (fun vs H Q E h => ?_) (fun cdv A outer s H vs Q E hr h => ?_)
  · obtain ⟨c, rfl, _⟩ := h
    rfl
  · obtain ⟨c, rfl, hW, q⟩ := h
    refine ⟨_, pss_cons (ps_set (i := 1) sc_law_name.nd rfl (by first | exact Or.inl rfl | exact Or.inr rfl) (pe_str))
      (pss_cons (ps_set (i := 2) sc_law_name.nd rfl (by first | exact Or.inl rfl | exact Or.inr rfl) (pe_ix (r := rIxL K) ix_list (pe_lst (pa_cons (pe_int) (pa_cons (pe_int) (pa_cons (pe_int) (pa_cons (pe_int) (pa_cons (pe_int) (pa_cons (pe_int) (pa_cons (pe_int) (pa_cons (pe_op op_add (pe_int) (pe_op op_mod (pe_callTy call_int1 (by rfl) T.m_int (by decide +kernel) (pa_cons (pe_op op_fdivW (pv 0) (pe_int)) (pa_nil))) (pe_int))) (pa_nil)))))))))) (pe_op op_mod (pe_callTy call_int1 (by rfl) T.m_int (by decide +kernel) (pa_cons (pv 0) (pa_nil))) (pe_int)) (fun _ _ => rfl)))
      (pss_one (ps_ret (pe_join (pe_str) (pe_lc (own := [("number", 3)]) (g := gName 3) (tt := tYes) rfl sc_law_name.nd (pi_list (pe_call (ok_law_draws T) (hr.mono (by first | decide | omega)) (by rfl) T.g_law_draws T.F_law_draws.kp T.b_law_draws .nil pass0 (pa_cons (pe_op op_fdivW (pv 0) (pe_int)) (pa_cons (pe_int) (pa_cons (pv 2) (pa_cons (pe_int) (pa_nil))))))) (blkOk_by (N := ["cell", "letters", "length", "number"]) (sc := defScope s_law_name) (by decide +kernel)) (fun _ _ _ _ _ => pg_name (i := 3) sc_law_name.nd rfl (Or.inl rfl)) (fun _ _ _ _ _ => pts_nil) (fun _ _ _ _ _ => pe_ix ix_str (pv 1) (pe_op op_mod (pe_callTy call_int1 (by rfl) T.m_int (by decide +kernel) (pa_cons (pv 3) (pa_nil))) (pe_int)) (fun _ _ => rfl))))))), ?_⟩
    refine q_asg ev_c fun H1 e1 => ?_
    have h1 := Int.emod_nonneg c (by decide : (8 : Int) ≠ 0)
    have h2 := Int.emod_lt_of_pos c (by decide : (0 : Int) < 8)
    obtain ⟨n, hn, hn1, hn2⟩ : ∃ n : Nat, ([.int 1, .int 1, .int 2, .int 2, .int 3, .int 5, .int 12, .int (1 + c / 8 % 12)] : List V)[(c % 8).toNat]? = some (.int (n : Int)) ∧ 1 ≤ n ∧ n ≤ 12 := by
      have hh : c % 8 = 0 ∨ c % 8 = 1 ∨ c % 8 = 2 ∨ c % 8 = 3 ∨ c % 8 = 4 ∨ c % 8 = 5 ∨ c % 8 = 6 ∨ c % 8 = 7 := by omega
      rcases hh with e | e | e | e | e | e | e | e <;> rw [e]
      · exact ⟨1, rfl, by decide, by decide⟩
      · exact ⟨1, rfl, by decide, by decide⟩
      · exact ⟨2, rfl, by decide, by decide⟩
      · exact ⟨2, rfl, by decide, by decide⟩
      · exact ⟨3, rfl, by decide, by decide⟩
      · exact ⟨5, rfl, by decide, by decide⟩
      · exact ⟨12, rfl, by decide, by decide⟩
      · refine ⟨(1 + c / 8 % 12).toNat, ?_, by omega, by omega⟩
        rw [Int.toNat_of_nonneg (by omega)] <;> rfl
    refine q_asg (v := .int (n : Int)) (ev_ixN (el_lst (ea_cons ev_c (ea_cons ev_c (ea_cons ev_c (ea_cons ev_c (ea_cons ev_c (ea_cons ev_c (ea_cons ev_c (ea_cons (ev_bin0 ev_c (ev_bin (ev_intI (ev_bin (ev_var rfl) ev_c ⟨by decide, by decide⟩)) ev_c (by decide))) ea_nil)))))))) (by show 8 ≤ 100000; decide)) (fun H2 e2 => ev_bin (ev_intI (ev_var rfl)) ev_c (by decide)) (atI_of h1 hn)) fun H2 e2 => ?_
    refine s_ret (v := .str (mkS ((draws (c / 8) 3 n 26).map fun m => alphaZ.getD (m % 26).toNat 0))) (ev_joinS (K := K) ?_ (by rw [List.length_map, draws_len]; omega)) fun H3 e3 => q _ _ ((e1.trans e2).trans e3) ⟨?_, ?_, fun x hx => ?_⟩
    · rw [List.map_map]
      refine el_mapN (K := K) (el_call (ea_cons (ev_bin (ev_var rfl) ev_c ⟨by decide, by decide⟩) (ea_cons ev_c (ea_cons (ev_var rfl) (ea_cons ev_c ea_nil)))) (cl_draws (Wd.div hW) (by decide) (by omega) (by decide) (by decide))) (by rw [draws_len]; omega) (fun x => rfl) fun m _ H5 e5 => ev_letter (ev_var rfl) (ev_bin (ev_intI (ev_var rfl)) ev_c (by decide)) (by omega)
    · rw [mkS_len, List.length_map, draws_len]; omega
    · rw [mkS_len, List.length_map, draws_len]; omega
    · obtain ⟨m, _, rfl⟩ := List.mem_map.mp hx
      exact alpha_at _ (by omega)


/-! ### _law_names -/
theorem ok_law_names (T : Txt K mg) : FnOk P w K mg base CX0 3 T.f_law_names T.d_law_names ["cells"] (spNames K) := by
  refine T.F_law_names.ok sc_law_names (fun vs H Q E h => ?_) (fun cdv A outer s H vs Q E hr h => ?_)
  · obtain ⟨p, cs, rfl, _⟩ := h
    rfl
  · obtain ⟨p, cs, rfl, hS, hl, hW, q⟩ := h
    refine ⟨_, pss_cons (ps_set (i := 1) sc_law_names.nd rfl (by first | exact Or.inl rfl | exact Or.inr rfl) (pe_str))
      (pss_cons (ps_set (i := 2) sc_law_names.nd rfl (by first | exact Or.inl rfl | exact Or.inr rfl) (pe_lst (pa_nil)))
      (pss_cons (ps_for PassesOwn.never rfl (pi_list (pv 0)) (pg_name (i := 3) sc_law_names.nd rfl (by first | exact Or.inl rfl | exact Or.inr rfl))
      (pss_cons (ps_set (i := 4) sc_law_names.nd rfl (by first | exact Or.inl rfl | exact Or.inr rfl) (pe_op op_mod (pe_callTy call_int1 (by rfl) T.m_int (by decide +kernel) (pa_cons (pv 3) (pa_nil))) (pe_int)))
      (pss_cons (ps_set (i := 5) sc_law_names.nd rfl (by first | exact Or.inl rfl | exact Or.inr rfl) (pe_op op_fdivW (pv 3) (pe_int)))
      (pss_cons (ps_set (i := 6) sc_law_names.nd rfl (by first | exact Or.inl rfl | exact Or.inr rfl) (pe_call (ok_law_name T) (hr.mono (by first | decide | omega)) (by rfl) T.g_law_name T.F_law_name.kp T.b_law_name .nil pass0 (pa_cons (pv 5) (pa_nil))))
      (pss_cut (ps_if (PW.pt (pw_and (pt_truth (pv 2) (by intro _; rfl)) (pw_and (pt_cmpR op_eq (pv 4) (pe_int) (nomark _)) (pw_and1 (pt_cmpR op_lt (pe_callB call_len_str (by rfl) T.m_len (by decide +kernel) (pa_cons (pe_ix (r := rIxL K) ix_list (pv 2) (pe_un un_neg (pe_int)) (fun _ _ => rfl)) (pa_nil))) (pe_int) (nomark _))))))
      (pss_one (ps_set (i := 6) sc_law_names.nd rfl (by first | exact Or.inl rfl | exact Or.inr rfl) (pe_op op_add_str (pe_ix (r := rIxL K) ix_list (pv 2) (pe_un un_neg (pe_int)) (fun _ _ => rfl)) (pe_ix ix_str (pv 1) (pe_op op_mod (pe_callTy call_int1 (by rfl) T.m_int (by decide +kernel) (pa_cons (pv 5) (pa_nil))) (pe_int)) (fun _ _ => rfl)))))
      (pss_nil))
      (pss_cut (ps_if (PW.pt (pw_and (pt_truth (pv 2) (by intro _; rfl)) (pw_and1 (pt_cmpR op_eq (pv 4) (pe_int) (nomark _)))))
      (pss_cons (ps_set (i := 7) sc_law_names.nd rfl (by first | exact Or.inl rfl | exact Or.inr rfl) (pe_op op_mod (pe_callTy call_int1 (by rfl) T.m_int (by decide +kernel) (pa_cons (pv 5) (pa_nil))) (pe_callB call_len_str (by rfl) T.m_len (by decide +kernel) (pa_cons (pe_ix (r := rIxL K) ix_list (pv 2) (pe_un un_neg (pe_int)) (fun _ _ => rfl)) (pa_nil)))))
      (pss_one (ps_set (i := 6) sc_law_names.nd rfl (by first | exact Or.inl rfl | exact Or.inr rfl) (pe_op op_add_str (pe_op op_add_str (pe_slice sl_str (pe_ix (r := rIxL K) ix_list (pv 2) (pe_un un_neg (pe_int)) (fun _ _ => rfl)) (po_none) (po_some (pv 7))) (pe_ix ix_str (pv 1) (pe_op op_mod (pe_callTy call_int1 (by rfl) T.m_int (by decide +kernel) (pa_cons (pe_op op_fdivW (pv 5) (pe_int)) (pa_nil))) (pe_int)) (fun _ _ => rfl))) (pe_slice sl_str (pe_ix (r := rIxL K) ix_list (pv 2) (pe_un un_neg (pe_int)) (fun _ _ => rfl)) (po_some (pe_op op_add (pv 7) (pe_int))) (po_none))))))
      (pss_nil))
      (pss_cons (ps_for PassesOwn.never rfl (pi_range1 (by rfl) T.m_range (pa_cons (pe_int) (pa_nil))) (pg_name (i := 8) sc_law_names.nd rfl (by first | exact Or.inl rfl | exact Or.inr rfl))
      (pss_one (ps_if (pt_cmpR (r := rIn K false) op_in_seq (pv 6) (pv 2) (by rfl))
      (pss_one (ps_set (i := 6) sc_law_names.nd rfl (by first | exact Or.inl rfl | exact Or.inr rfl) (pe_op op_add_str (pe_ix ix_str (pv 1) (pe_op op_fdivW (pv 8) (pe_int)) (fun _ _ => rfl)) (pe_ix ix_str (pv 1) (pe_op op_mod (pe_callTy call_int1 (by rfl) T.m_int (by decide +kernel) (pa_cons (pv 8) (pa_nil))) (pe_int)) (fun _ _ => rfl)))))
      (pss_nil))))
      (pss_one (ps_expr (pe_bm PySem.F.plainAttrs_list PySem.F.slot_list_append PySem.F.type_list_append mt_append (pv 2) (pa_cons (pv 6) (pa_nil))))))))))))
      (pss_one (ps_ret (pv 2))))), ?_⟩
    refine q_asg ev_c fun H1 e1 => ?_
    refine q_asgL (xs := []) (el_lst ea_nil (by decide)) fun nl H2 n2 e2 h2 => ?_
    have E2 := e1.trans e2
    refine q_forLn (K := K) (xs := cs.map V.int) (ev_var rfl) (ex_l E2 hS) (fun i σ' H' => ∃ (zs : List Str) (x3 x4 x5 x6 x7 x8 : Option V), σ' = [some (.ref p), some (.str (Str.ofString "abcdefghijklmnopqrstuvwxyz")), some (.ref nl), x3, x4, x5, x6, x7, x8] ∧ H' nl = some (.lst (zs.map V.str)) ∧ zs.length = i ∧ (∀ z ∈ zs, Nm 12 z) ∧ Ex H1 H') (fun H3 e3 => ⟨[], _, _, _, _, _, _, rfl, e3 _ _ h2, rfl, (fun z hz => nomatch hz), e2.trans e3⟩) (fun i σ' H' _ hP => ?_) (fun i x σ' H' hi hP => ?_) (fun σ' H' hP => ?_)
    · obtain ⟨zs, x3, x4, x5, x6, x7, x8, rfl, _, _, _, eH⟩ := hP
      exact ex_l (e1.trans eH) hS
    · obtain ⟨zs, x3, x4, x5, x6, x7, x8, rfl, hn, hzl, hz, eH⟩ := hP
      obtain ⟨c, hc, rfl⟩ := List.mem_map.mp (List.mem_of_getElem? hi)
      have hWc := hW c hc
      have m0 := Int.emod_nonneg (c / 4) (by decide : (26 : Int) ≠ 0)
      have m1 := Int.emod_lt_of_pos (c / 4) (by decide : (0 : Int) < 26)
      have m2 := Int.emod_nonneg (c / 4 / 12) (by decide : (26 : Int) ≠ 0)
      have m3 := Int.emod_lt_of_pos (c / 4 / 12) (by decide : (0 : Int) < 26)
      refine q_asg (ev_bin (ev_intI (ev_var rfl)) ev_c (by decide)) fun H3 e3 => ?_
      refine q_asg (ev_bin (ev_var rfl) ev_c ⟨by decide, by decide⟩) fun H4 e4 => ?_
      refine q_asgS (R := Nm 12) (fun H5 e5 Q q => ⟨_, rfl, c / 4, rfl, Wd.div hWc, fun z H6 e6 hz => q z H6 e6 hz⟩) fun z5 H5 e5 hz5 => ?_
      have E5 := (e3.trans e4).trans e5
      have nn : ∀ {H6}, Ex H5 H6 → SqL K H6 nl (zs.map V.str) := fun e6 => sq_of ((E5.trans e6) _ _ hn)
      refine q_cut (M := fun σ' H' => ∃ z : Str, σ' = [some (.ref p), some (.str (Str.ofString "abcdefghijklmnopqrstuvwxyz")), some (.ref nl), some (.int c), some (.int (c % 4)), some (.int (c / 4)), some (.str z), x7, x8] ∧ Nm 12 z ∧ Ex H5 H') ?_ fun σ' H' hM => ?_
      · rcases List.eq_nil_or_concat zs with rfl | ⟨zi, zl, ez⟩
        · exact s_when (b := false) (et_andF (et_is (et_lst (K := K) (ev_var rfl) fun H6 e6 => nn e6) rfl)) (fun z => nomatch z) fun _ H6 e6 => ⟨z5, rfl, hz5, e6⟩
        · rw [List.concat_eq_append] at ez
          subst ez
          have last : ∀ {H6 : Hp} {σ : L2.St}, Ex H5 H6 → σ[2]? = some (some (V.ref nl)) → Ev (tOp (rIxL K) (tVar 2) (tUn (rU fun i => V.int (-i)) (tC (V.int 1)))) σ H6 (.str zl) := fun {H6 σ} e6 hσ => ev_ixL (K := K) (ev_var hσ) (ev_neg ev_c) (nn e6) (by rw [List.map_append]; exact atI_last _ _)
          have hzl2 : Nm 12 zl := hz zl (List.mem_append.mpr (.inr (List.mem_singleton.mpr rfl)))
          have hzl3 := hzl2.2.1
          refine s_when (et_and (et_is (et_lst (K := K) (ev_var rfl) fun H6 e6 => nn e6) rfl) fun _ => et_and (et_test (ev_eqI (ev_var rfl) ev_c)) fun _ => et_test (ev_bin0 (ev_lenB (last (Ex.refl H5) rfl) (by omega)) ev_c)) (fun hb H6 e6 => ?_) (fun hb H6 e6 => ⟨z5, rfl, hz5, e6⟩)
          simp only [Bool.and_eq_true, decide_eq_true_eq] at hb
          have hlt : (zl.length : Int) < 12 := hb.2.2
          have o1 := Nm.one ⟨m0, m1⟩
          have o2 := o1.2.1
          refine s_asg (ev_addS (last e6 rfl) (ev_letter (ev_var rfl) (ev_bin (ev_intI (ev_var rfl)) ev_c (by decide)) ⟨m0, m1⟩) (by omega)) fun H7 e7 => ⟨_, rfl, ?_, e6.trans e7⟩
          have hzl4 : Nm 11 zl := ⟨hzl2.1, by omega, hzl2.2.2⟩
          exact hzl4.app ⟨o1.tx, o1.2.2⟩
      · obtain ⟨z6, rfl, hz6, eM⟩ := hM
        refine q_cut (M := fun σ' H' => ∃ (z : Str) (x7 : Option V), σ' = [some (.ref p), some (.str (Str.ofString "abcdefghijklmnopqrstuvwxyz")), some (.ref nl), some (.int c), some (.int (c % 4)), some (.int (c / 4)), some (.str z), x7, x8] ∧ Nm 12 z ∧ Ex H5 H') ?_ fun σ' H' hM => ?_
        · rcases List.eq_nil_or_concat zs with rfl | ⟨zi, zl, ez⟩
          · exact s_when (b := false) (et_andF (et_is (et_lst (K := K) (ev_var rfl) fun H6 e6 => nn (eM.trans e6)) rfl)) (fun z => nomatch z) fun _ H6 e6 => ⟨z6, _, rfl, hz6, eM.trans e6⟩
          · rw [List.concat_eq_append] at ez
            subst ez
            have last : ∀ {H6 : Hp} {σ : L2.St}, Ex H5 H6 → σ[2]? = some (some (V.ref nl)) → Ev (tOp (rIxL K) (tVar 2) (tUn (rU fun i => V.int (-i)) (tC (V.int 1)))) σ H6 (.str zl) := fun {H6 σ} e6 hσ => ev_ixL (K := K) (ev_var hσ) (ev_neg ev_c) (nn e6) (by rw [List.map_append]; exact atI_last _ _)
            have hzl2 : Nm 12 zl := hz zl (List.mem_append.mpr (.inr (List.mem_singleton.mpr rfl)))
            have hzl3 := hzl2.2.1
            refine s_when (et_and (et_is (et_lst (K := K) (ev_var rfl) fun H6 e6 => nn (eM.trans e6)) rfl) fun _ => et_test (ev_eqI (ev_var rfl) ev_c)) (fun hb H6 e6 => ?_) (fun hb H6 e6 => ⟨z6, _, rfl, hz6, eM.trans e6⟩)
            have E6 := eM.trans e6
            have hpos : (0 : Int) < (zl.length : Int) := by have := hzl2.1; omega
            have p0 := Int.emod_nonneg (c / 4) (by omega : (zl.length : Int) ≠ 0)
            have p1 := Int.emod_lt_of_pos (c / 4) hpos
            refine q_asg (ev_bin (ev_intI (ev_var rfl)) (ev_lenB (last E6 rfl) (by omega)) hpos) fun H7 e7 => ?_
            obtain ⟨m, hm⟩ : ∃ m : Nat, c / 4 % (zl.length : Int) = (m : Int) := ⟨_, (Int.toNat_of_nonneg p0).symm⟩
            rw [hm] at p1 ⊢
            have o1 := Nm.one ⟨m2, m3⟩
            have o2 := o1.2.1
            have hsp := hzl2.spoil (p := m) (by omega) o1
            have l1 := cutS_length zl none (some (m : Int))
            have l2 := cutS_length zl (some ((m + 1 : Nat) : Int)) none
            have l4 : (cutS zl none (some (m : Int)) ++ (⟨#[alphaZ.getD (c / 4 / 12 % 26).toNat 0]⟩ : Str)).length ≤ 100 := by
              rw [str_len, codes_app rfl rfl, List.length_append, ← str_len, ← str_len]
              omega
            exact s_asg (ev_addS (ev_addS (ev_slS (last (E6.trans e7) rfl) eo_none (eo_some (ev_var rfl)) (by omega)) (ev_letter (ev_var rfl) (ev_bin (ev_intI (ev_bin (ev_var rfl) ev_c ⟨by decide, by decide⟩)) ev_c (by decide)) ⟨m2, m3⟩) (by omega)) (ev_slS (last (E6.trans e7) rfl) (eo_some (ev_is (ev_bin0 (ev_var rfl) ev_c) (congrArg V.int (show (m : Int) + 1 = ((m + 1 : Nat) : Int) by omega)))) eo_none (by omega)) (by omega)) fun H8 e8 => ⟨_, _, rfl, hsp, (E6.trans e7).trans e8⟩
        · obtain ⟨z7, y7, rfl, hz7, eN⟩ := hM
          refine q_forR1 (n := 100) (ea_cons ev_c ea_nil) (by decide) (fun i σ' H' => ∃ (z : Str) (x8 : Option V), σ' = [some (.ref p), some (.str (Str.ofString "abcdefghijklmnopqrstuvwxyz")), some (.ref nl), some (.int c), some (.int (c % 4)), some (.int (c / 4)), some (.str z), y7, x8] ∧ Nm 12 z ∧ Ex H5 H') (fun H6 e6 => ⟨z7, _, rfl, hz7, eN.trans e6⟩) (fun i σ' H' hi hP => ?_) (fun σ' H' hP => ?_)
          · obtain ⟨z8, y8, rfl, hz8, eP⟩ := hP
            refine s_when (et_test (ev_inStrs (K := K) (ev_var rfl) (ev_var rfl) (nn eP))) (fun hb H6 e6 => ?_) (fun hb H6 e6 => ⟨_, _, rfl, hz8, eP.trans e6⟩)
            have l1 := Nm.one (i := (i : Int) / 26) (by omega)
            have l2 := Nm.one (i := (i : Int) % 26) (by omega)
            have l3 := l1.2.1
            have l4 := l2.2.1
            exact s_asg (ev_addS (ev_letter (ev_var rfl) (ev_bin (ev_var rfl) ev_c ⟨by decide, by decide⟩) (by omega)) (ev_letter (ev_var rfl) (ev_bin (ev_intI (ev_var rfl)) ev_c (by decide)) (by omega)) (by omega)) fun H7 e7 => ⟨_, _, rfl, (l1.app ⟨l2.tx, l2.2.2⟩).mono (by decide), (eP.trans e6).trans e7⟩
          · obtain ⟨z8, y8, rfl, hz8, eP⟩ := hP
            have E8 := E5.trans eP
            refine s_app (E8 _ _ hn) (ev_var rfl) (ev_var rfl) (by rw [List.length_map]; have := (List.getElem?_eq_some_iff.mp hi).1; rw [List.length_map] at this; omega) fun H9 e9 => ⟨zs ++ [z8], _, _, _, _, _, _, rfl, ?_, ?_, ?_, ?_⟩
            · rw [upd_same, List.map_append] <;> rfl
            · rw [List.length_append, hzl] <;> rfl
            · intro z hzz
              rcases List.mem_append.mp hzz with k | k
              · exact hz z k
              · rw [List.mem_singleton.mp k]
                exact hz8
            · exact ((eH.trans E8).trans e9).mut n2
    · obtain ⟨zs, x3, x4, x5, x6, x7, x8, rfl, hn, hzl, hz, eH⟩ := hP
      exact s_ret (ev_var rfl) fun H3 e3 => q nl zs _ (fresh_back e1 n2) ((e1.trans eH).trans e3) (e3 _ _ hn) (by rw [hzl, List.length_map]) hz


/-! ### _law_words -/
def spWords (K : PySem.W.Frag) : Sp := fun vs H Q _ => ∃ (p : Addr) (cs : List Int), vs = [.ref p] ∧ SqL K H p (cs.map V.int) ∧ cs.length ≤ 12 ∧ (∀ c ∈ cs, Wd c) ∧ ∀ q' (zs : List Str) H', Ex H H' → H' q' = some (.lst (zs.map V.str)) → zs.length = cs.length → (∀ z ∈ zs, Nm 13 z) → zs.Nodup → Q (.ref q') H'
theorem ok_law_words (T : Txt K mg) : FnOk P w K mg base CX0 4 T.f_law_words T.d_law_words ["cells"] (spWords K) := by
  refine T.F_law_words.ok sc_law_words (fun vs H Q E h => ?_) (fun cdv A outer s H vs Q E hr h => ?_)
  · obtain ⟨p, cs, rfl, _⟩ := h
    rfl
  · obtain ⟨p, cs, rfl, hS, hl, hW, q⟩ := h
    refine ⟨_, pss_cons (ps_set (i := 1) sc_law_words.nd rfl (by first | exact Or.inl rfl | exact Or.inr rfl) (pe_lst (pa_nil)))
      (pss_cons (ps_for PassesOwn.never rfl (pi_list (pe_call (ok_law_names T) (hr.mono (by first | decide | omega)) (by rfl) T.g_law_names T.F_law_names.kp T.b_law_names .nil pass0 (pa_cons (pv 0) (pa_nil)))) (pg_name (i := 2) sc_law_words.nd rfl (by first | exact Or.inl rfl | exact Or.inr rfl))
      (pss_one (ps_expr (pe_bm PySem.F.plainAttrs_list PySem.F.slot_list_append PySem.F.type_list_append mt_append (pv 1) (pa_cons (pe_call (ok_law_free T) (hr.mono (by first | decide | omega)) (by rfl) T.g_law_free T.F_law_free.kp T.b_law_free .nil pass0 (pa_cons (pv 2) (pa_cons (pv 1) (pa_nil)))) (pa_nil))))))
      (pss_one (ps_ret (pv 1)))), ?_⟩
    refine q_asgL (xs := []) (el_lst ea_nil (by decide)) fun nl H1 n1 e1 h1 => ?_
    refine ⟨_, rfl, p, cs, rfl, ex_l e1 hS, hl, hW, fun cl zs H2 nq e2 h2 hzl hz => ⟨cl, rfl, ⟨_, sq_of h2⟩, ?_⟩⟩
    have hne : nl ≠ cl := ne_of_none h1 nq
    refine for_list (xs := zs.map V.str) (fun i σ' H' => ∃ (ys : List Str) (x2 : Option V), σ' = [some (.ref p), some (.ref nl), x2] ∧ H' nl = some (.lst (ys.map V.str)) ∧ ys.length = i ∧ (∀ z ∈ ys, Nm 13 z) ∧ ys.Nodup ∧ H' cl = some (.lst (zs.map V.str)) ∧ Ex H H') ⟨[], _, rfl, e2 _ _ h1, rfl, (fun z hz => nomatch hz), .nil, h2, e1.trans e2⟩ (fun i σ' H' _ hP => ?_) (fun i x σ' H' hi hP => ?_) (fun σ' H' hP => ?_)
    · obtain ⟨ys, x2, rfl, _, _, _, _, hc, _⟩ := hP
      exact sq_of hc
    · obtain ⟨ys, x2, rfl, hn, hyl, hy, hyn, hc, eH⟩ := hP
      obtain ⟨z, hzz, rfl⟩ := List.mem_map.mp (List.mem_of_getElem? hi)
      have hi2 := (List.getElem?_eq_some_iff.mp hi).1
      rw [List.length_map] at hi2
      refine ⟨_, rfl, .inl ⟨rfl, _, sq_of hn⟩, _, rfl, _, rfl, 12, z, nl, ys, rfl, hz z hzz, by decide, by decide, sq_of hn, by omega, fun z' H4 e4 hz' hzn => ⟨nl, _, .str z', rfl, rfl, e4 _ _ hn, sz_lt (by rw [List.length_map]; omega), ys ++ [z'], _, rfl, ?_, ?_, ?_, ?_, ?_, ?_⟩⟩
      · rw [upd_same, List.map_append] <;> rfl
      · rw [List.length_append, hyl] <;> rfl
      · intro y hyy
        rcases List.mem_append.mp hyy with k | k
        · exact hy y k
        · rw [List.mem_singleton.mp k]
          exact hz'
      · exact List.nodup_append.mpr ⟨hyn, by simp, fun a ha b hb e => hzn (by rw [List.mem_singleton.mp hb] at e; rw [← e]; exact ha)⟩
      · rw [upd_ne hne.symm]
        exact e4 _ _ hc
      · exact (eH.trans e4).mut (fresh_back (Ex.refl H) n1)
    · obtain ⟨ys, x2, rfl, hn, hyl, hy, hyn, hc, eH⟩ := hP
      exact s_ret (ev_var rfl) fun H3 e3 => q nl ys _ (eH.trans e3) (e3 _ _ hn) (by rw [hyl, List.length_map, hzl]) hy hyn


/-! ### _bounded -/
def spBounded : Sp := fun vs H Q _ => ∃ i : Int, vs = [.int i] ∧ ∀ H', Ex H H' → Q (bndV i) H'
theorem cv_bounded {i : Int} {H : Hp} : SpV spBounded [.int i] H (bndV i) := fun H1 e Q q E => ⟨i, rfl, fun H2 e2 => q H2 e2⟩
theorem ok_bounded (T : Txt K mg) : FnOk P w K mg base CX0 1 T.f_bounded T.d_bounded ["number"] spBounded := by
  refine T.F_bounded.ok sc_bounded (fun vs H Q E h => ?_) (fun cdv A outer s H vs Q E hr h => ?_)
  · obtain ⟨i, rfl, _⟩ := h
    rfl
  · obtain ⟨i, rfl, q⟩ := h
    refine ⟨_, pss_one (ps_ret (pe_ifExp (pt_cmpR op_lt (pe_callB call_abs (by rfl) T.m_abs (by decide +kernel) (pa_cons (pv 0) (pa_nil))) (pe_glob (v := .int 1000000000000000000000000000000000000000000000000000000000000) rfl T.k_BOUND ⟨_, rfl⟩) (nomark _)) (pv 0) (pe_non))), ?_⟩
    have e60 : (10 : Nat) ^ 60 = 1000000000000000000000000000000000000000000000000000000000000 := by decide
    refine s_ret (v := bndV i) (ev_if (b := decide (i.natAbs < 10 ^ 60)) (et_is (et_test (ev_bin0 (ev_abs (ev_var rfl)) ev_c)) (decide_eq_decide.mpr (by rw [e60]; omega))) (fun h => ?_) (fun h => ?_)) q
    · unfold bndV
      rw [if_pos (of_decide_eq_true h)]
      exact ev_var rfl
    · unfold bndV
      rw [if_neg (of_decide_eq_false h)]
      exact ev_c


/-! ### _compare -/
def spCompare : Sp := fun vs H Q _ => ∃ (o : Bop) (x y : V), vs = [.str o.s, x, y] ∧ o.ar = false ∧ o.lg = false ∧ Two x y ∧ ∀ H', Ex H H' → Q (cmpV o x y) H'
theorem cv_compare {o : Bop} {x y : V} {H : Hp} (h1 : o.ar = false) (h2 : o.lg = false) (h3 : Two x y) : SpV spCompare [.str o.s, x, y] H (cmpV o x y) := fun H1 e Q q E => ⟨o, x, y, rfl, h1, h2, h3, fun H2 e2 => q H2 e2⟩
theorem ok_compare (T : Txt K mg) : FnOk P w K mg base CX0 1 T.f_compare T.d_compare ["word", "left", "right"] spCompare := by
  refine T.F_compare.ok sc_compare (fun vs H Q E h => ?_) (fun cdv A outer s H vs Q E hr h => ?_)
  · obtain ⟨o, x, y, rfl, _⟩ := h
    rfl
  · obtain ⟨o, x, y, rfl, h1, h2, h3, q⟩ := h
    obtain ⟨_, _, _, _, _, _, _, _, _, _, _, _, k13, k14, k15, k16, k17⟩ := kin_bop o
    have sc : scal x y = true := by rcases h3 with ⟨i, j, rfl, rfl⟩ | ⟨i, j, rfl, rfl⟩ <;> rfl
    refine ⟨_, pss_cons (ps_if (pt_cmpR op_eq (pv 0) (pe_str) (nomark _))
      (pss_one (ps_ret (pe_cmpR op_eq (pv 1) (pv 2) (nomark _))))
      (pss_nil))
      (pss_cons (ps_if (pt_cmpR op_eq (pv 0) (pe_str) (nomark _))
      (pss_one (ps_ret (pe_cmpR op_ne (pv 1) (pv 2) (nomark _))))
      (pss_nil))
      (pss_cons (ps_if (pt_cmpR op_eq (pv 0) (pe_str) (nomark _))
      (pss_one (ps_ret (pe_cmpR (r := rAny2 _ _) (op_any op_lt op_lt_str) (pv 1) (pv 2) (nomark _))))
      (pss_nil))
      (pss_cons (ps_if (pt_cmpR op_eq (pv 0) (pe_str) (nomark _))
      (pss_one (ps_ret (pe_cmpR (r := rAny2 _ _) (op_any op_le op_le_str) (pv 1) (pv 2) (nomark _))))
      (pss_nil))
      (pss_cons (ps_if (pt_cmpR op_eq (pv 0) (pe_str) (nomark _))
      (pss_one (ps_ret (pe_cmpR (r := rAny2 _ _) (op_any op_gt op_gt_str) (pv 1) (pv 2) (nomark _))))
      (pss_nil))
      (pss_one (ps_ret (pe_cmpR (r := rAny2 _ _) (op_any op_ge op_ge_str) (pv 1) (pv 2) (nomark _)))))))), ?_⟩
    refine q_when (et_is (et_test (ev_eqS (ev_var rfl) ev_c)) k13) (fun hb H1 e1 => ?_) (fun hb H1 e1 => ?_)
    · obtain rfl := of_decide_eq_true hb
      refine s_ret (v := cmpV .equal x y) (ev_is (ev_op (ev_var rfl) (ev_var rfl) (rv_eq sc)) ?_) fun H2 e2 => q H2 (e1.trans e2)
      rcases h3 with ⟨i, j, rfl, rfl⟩ | ⟨i, j, rfl, rfl⟩
      · exact congrArg V.bl dec_int
      · exact congrArg V.bl dec_str
    refine q_when (et_is (et_test (ev_eqS (ev_var rfl) ev_c)) k14) (fun hb H2 e2 => ?_) (fun hb H2 e2 => ?_)
    · obtain rfl := of_decide_eq_true hb
      refine s_ret (v := cmpV .unequal x y) (ev_is (ev_op (ev_var rfl) (ev_var rfl) (rv_ne sc)) ?_) fun H3 e3 => q H3 ((e1.trans e2).trans e3)
      rcases h3 with ⟨i, j, rfl, rfl⟩ | ⟨i, j, rfl, rfl⟩
      · exact congrArg (fun b => V.bl (!b)) dec_int
      · exact congrArg (fun b => V.bl (!b)) dec_str
    have E2 := e1.trans e2
    refine q_when (et_is (et_test (ev_eqS (ev_var rfl) ev_c)) k15) (fun hb H3 e3 => ?_) (fun hb H3 e3 => ?_)
    · obtain rfl := of_decide_eq_true hb
      exact s_ret (v := cmpV .less x y) (ev_two (ev_var rfl) (ev_var rfl) h3 (fun i j hx hy => by rw [hx, hy] <;> rfl) (fun i j hx hy => by rw [hx, hy] <;> rfl)) fun H4 e4 => q H4 ((E2.trans e3).trans e4)
    refine q_when (et_is (et_test (ev_eqS (ev_var rfl) ev_c)) k16) (fun hb H4 e4 => ?_) (fun hb H4 e4 => ?_)
    · obtain rfl := of_decide_eq_true hb
      exact s_ret (v := cmpV .atmost x y) (ev_two (ev_var rfl) (ev_var rfl) h3 (fun i j hx hy => by rw [hx, hy] <;> rfl) (fun i j hx hy => by rw [hx, hy] <;> rfl)) fun H5 e5 => q H5 (((E2.trans e3).trans e4).trans e5)
    refine q_when (et_is (et_test (ev_eqS (ev_var rfl) ev_c)) k17) (fun hb H5 e5 => ?_) (fun hb H5 e5 => ?_)
    · obtain rfl := of_decide_eq_true hb
      exact s_ret (v := cmpV .more x y) (ev_two (ev_var rfl) (ev_var rfl) h3 (fun i j hx hy => by rw [hx, hy] <;> rfl) (fun i j hx hy => by rw [hx, hy] <;> rfl)) fun H6 e6 => q H6 ((((E2.trans e3).trans e4).trans e5).trans e6)
    · have e : o = .atleast := by
        cases o <;> first | rfl | exact absurd h1 (by decide) | exact absurd h2 (by decide) | exact absurd rfl (of_decide_eq_false (by assumption))
      subst e
      exact s_ret (v := cmpV .atleast x y) (ev_two (ev_var rfl) (ev_var rfl) h3 (fun i j hx hy => by rw [hx, hy] <;> rfl) (fun i j hx hy => by rw [hx, hy] <;> rfl)) fun H6 e6 => q H6 ((((E2.trans e3).trans e4).trans e5).trans e6)


/-! ### _compute -/
def spCompute (K : PySem.W.Frag) : Sp := fun vs H Q _ => ∃ (w : Str) (p : Addr), vs = [.str w, .ref p] ∧
  ((∃ i : Int, w = Str.ofString "neg" ∧ SqL K H p [.int i] ∧ ∀ H', Ex H H' → Q (.int (-i)) H') ∨ ∃ (o : Bop) (i j : Int), w = o.s ∧ o.ar = true ∧ SqL K H p [.int i, .int j] ∧ i.natAbs < 10 ^ 60 ∧ j.natAbs < 10 ^ 60 ∧ ∀ H', Ex H H' → Q (.int (if o = .add then i + j else if o = .sub then i - j else i * j)) H')
theorem ok_compute (T : Txt K mg) : FnOk P w K mg base CX0 1 T.f_compute T.d_compute ["word", "values"] (spCompute K) := by
  refine T.F_compute.ok sc_compute (fun vs H Q E h => ?_) (fun cdv A outer s H vs Q E hr h => ?_)
  · obtain ⟨w, p, rfl, _⟩ := h
    rfl
  · obtain ⟨w, p, rfl, h⟩ := h
    refine ⟨_, pss_cons (ps_if (pt_cmpR op_eq (pv 0) (pe_str) (nomark _))
      (pss_one (ps_ret (pe_un un_neg (pe_ix (r := rIxL K) ix_list (pv 1) (pe_int) (fun _ _ => rfl)))))
      (pss_nil))
      (pss_cons (ps_asg (pv 1) (pg_lst rfl (pgs_cons (pg_name (i := 2) sc_compute.nd rfl (by first | exact Or.inl rfl | exact Or.inr rfl)) (pgs_cons (pg_name (i := 3) sc_compute.nd rfl (by first | exact Or.inl rfl | exact Or.inr rfl)) (pgs_nil)))))
      (pss_cons (ps_if (pt_cmpR op_eq (pv 0) (pe_str) (nomark _))
      (pss_one (ps_ret (pe_op op_add (pv 2) (pv 3))))
      (pss_nil))
      (pss_cons (ps_if (pt_cmpR op_eq (pv 0) (pe_str) (nomark _))
      (pss_one (ps_ret (pe_op op_sub (pv 2) (pv 3))))
      (pss_nil))
      (pss_one (ps_ret (pe_op op_mulX (pv 2) (pv 3))))))), ?_⟩
    rcases h with ⟨i, rfl, hS, q⟩ | ⟨o, i, j, rfl, ho, hS, hi, hj, q⟩
    · refine q_when (b := true) (et_is (et_test (ev_eqS (ev_var rfl) ev_c)) (by decide +kernel)) (fun _ H1 e1 => ?_) (fun z => nomatch z)
      exact s_ret (ev_neg (ev_ixL (K := K) (ev_var rfl) ev_c (ex_l e1 hS) (at_nat (j := 0) rfl))) fun H2 e2 => q H2 (e1.trans e2)
    · obtain ⟨_, _, _, _, _, _, _, _, k9, k10, k11, _⟩ := kin_bop o
      refine q_when (b := false) (et_is (et_test (ev_eqS (ev_var rfl) ev_c)) k9) (fun z => nomatch z) fun _ H1 e1 => ?_
      refine q_asgG ⟨_, rfl, p, [.int i, .int j], rfl, ex_l e1 hS, rfl, .int i, _, rfl, .int j, _, rfl, rfl, ?_⟩
      refine q_when (et_is (et_test (ev_eqS (ev_var rfl) ev_c)) k10) (fun hb H2 e2 => ?_) (fun hb H2 e2 => ?_)
      · rw [if_pos (of_decide_eq_true hb)] at q
        exact s_ret (ev_bin0 (ev_var rfl) (ev_var rfl)) fun H3 e3 => q H3 ((e1.trans e2).trans e3)
      rw [if_neg (of_decide_eq_false hb)] at q
      refine q_when (et_is (et_test (ev_eqS (ev_var rfl) ev_c)) k11) (fun hb H3 e3 => ?_) (fun hb H3 e3 => ?_)
      · rw [if_pos (of_decide_eq_true hb)] at q
        exact s_ret (ev_bin0 (ev_var rfl) (ev_var rfl)) fun H4 e4 => q H4 (((e1.trans e2).trans e3).trans e4)
      · rw [if_neg (of_decide_eq_false hb)] at q
        exact s_ret (ev_bin (ev_var rfl) (ev_var rfl) (Wd.mul (small60 hi) (small60 hj))) fun H4 e4 => q H4 (((e1.trans e2).trans e3).trans e4)


/-! ### _place -/
def spPlace (K : PySem.W.Frag) : Sp := fun vs H Q _ => ∃ (cs : Cols) (vc : V) (z : Str) (k : Kd), vs = [vc, .str z] ∧ Dp K H vc (colsD cs) ∧ cs.length ≤ 100 ∧ (cs.find? fun c => decide (c.1 = z)).map (·.2) = some k ∧ ∀ H', Ex H H' → Q (.int (plc cs z : Nat)) H'
theorem ok_place (T : Txt K mg) : FnOk P w K mg base CX0 1 T.f_place T.d_place ["columns", "name"] (spPlace K) := by
  refine T.F_place.ok sc_place (fun vs H Q E h => ?_) (fun cdv A outer s H vs Q E hr h => ?_)
  · obtain ⟨cs, vc, z, k, rfl, _⟩ := h
    rfl
  · obtain ⟨cs, vc, z, k, rfl, hC, hl, hf, q⟩ := h
    obtain ⟨c, xs, rfl, hs, hx, hat⟩ := cols_at hC
    obtain ⟨⟨d, h1, h2⟩, _, h4⟩ := plc_spec (row := cs.map fun _ => V.non) hf (by rw [List.length_map])
    refine ⟨_, pss_one (ps_ret (pe_bm PySem.F.plainAttrs_list PySem.F.slot_list_index PySem.F.type_list_index mt_index (pe_lc (own := [("column", 2)]) (g := gName 2) (tt := tYes) rfl sc_place.nd (pi_tup (pv 0)) (blkOk_by (N := ["columns", "name", "column"]) (sc := defScope s_place) (by decide +kernel)) (fun _ _ _ _ _ => pg_name (i := 2) sc_place.nd rfl (Or.inl rfl)) (fun _ _ _ _ _ => pts_nil) (fun _ _ _ _ _ => pe_ix (r := rIxT K) ix_tup (pv 2) (pe_int) (fun _ _ => rfl))) (pa_cons (pv 1) (pa_nil)))), ?_⟩
    refine s_ret (ev_index (K := K) (ys := cs.map fun c => V.str c.1) (y := .str z) (z := .str z) (j := plc cs z) ?_ (fun H1 e1 => ev_var rfl) rfl (by rw [List.all_map]; exact List.all_eq_true.mpr fun _ _ => rfl) (by rw [List.getElem?_map, h1, ← h2] <;> rfl) (eqS_refl z) fun m z' hm hz => ?_) q
    · refine el_mapT (K := K) (ev_var rfl) hs (by omega) (fun x => rfl) (by rw [List.length_map, hx]) fun i x y hxi hy H1 e1 => ?_
      obtain ⟨p, c', hc, rfl, hp⟩ := hat i x hxi
      rw [List.getElem?_map, hc] at hy
      rw [← Option.some.inj hy]
      exact ev_ixT (K := K) (ev_var rfl) ev_c (ex_t e1 hp) (at_nat (j := 0) rfl)
    · rw [List.getElem?_map] at hz
      cases e : cs[m]? with
      | none => rw [e] at hz; cases hz
      | some c' =>
        rw [e] at hz
        rw [← Option.some.inj hz]
        exact eqS_ne (h4 m c' hm e)


/-! ### evaluate -/
set_option maxHeartbeats 4000000 in
theorem ok_evaluate_at (T : Txt K mg) : ∀ n : Nat, FnOk P w K mg base CX0 (n + 3) T.f_evaluate T.d_evaluate ["tree", "columns", "row"] (spEv K n)
  | 0 => by
    refine T.F_evaluate.ok sc_evaluate (fun vs H Q E h => ?_) (fun cdv A outer s H vs Q E hr h => ?_)
    · obtain ⟨t, k, cs, row, vt, vc, r, rfl, _⟩ := h
      rfl
    · obtain ⟨t, k, cs, row, vt, vc, r, rfl, hT, hh, hty, hC, hR, hro, hcl, q⟩ := h
      refine ⟨_, pss_cons (ps_set (i := 3) sc_evaluate.nd rfl (by first | exact Or.inl rfl | exact Or.inr rfl) (pe_ix (r := rIxT K) ix_tup (pv 0) (pe_int) (fun _ _ => rfl)))
      (pss_cons (ps_if (pt_cmpR (r := rIn K false) op_in_seq (pv 3) (pe_tup (pa_cons (pe_str) (pa_cons (pe_str) (pa_nil)))) (by rfl))
      (pss_one (ps_ret (pe_ix (r := rIxT K) ix_tup (pv 0) (pe_int) (fun _ _ => rfl))))
      (pss_nil))
      (pss_cons (ps_if (pt_cmpR op_eq (pv 3) (pe_str) (nomark _))
      (pss_one (ps_ret (pe_ix (r := rIxT K) ix_tup (pv 2) (pe_call (ok_place T) (hr.mono (by first | decide | omega)) (by rfl) T.g_place T.F_place.kp T.b_place .nil pass0 (pa_cons (pv 1) (pa_cons (pe_ix (r := rIxT K) ix_tup (pv 0) (pe_int) (fun _ _ => rfl)) (pa_nil)))) (fun _ _ => rfl))))
      (pss_nil))
      (pss_cons (ps_never)
      (pss_cons (ps_if (pt_cmpR op_eq (pv 3) (pe_str) (nomark _))
      (pss_one (ps_ret (pe_cmpR op_isN (pe_ix (r := rIxL K) ix_list (pv 4) (pe_int) (fun _ _ => rfl)) (pe_non) (nomark _))))
      (pss_nil))
      (pss_cons (ps_if (pt_cmpR (r := rIn K false) op_in_seq (pv 3) (pe_tup (pa_cons (pe_str) (pa_cons (pe_str) (pa_nil)))) (by rfl))
      (pss_cons (ps_set (i := 6) sc_evaluate.nd rfl (by first | exact Or.inl rfl | exact Or.inr rfl) (pe_cmpR op_eq (pv 3) (pe_str) (nomark _)))
      (pss_cons (ps_if (pt_cmpR (r := rIn K false) op_in_seq (pv 6) (pv 4) (by rfl))
      (pss_one (ps_ret (pv 6)))
      (pss_nil))
      (pss_one (ps_ret (pe_ifExp (pt_cmpR (r := rIn K false) op_in_seq (pe_non) (pv 4) (by rfl)) (pe_non) (pe_not (pv 6)))))))
      (pss_nil))
      (pss_cons (ps_if (pt_cmpR (r := rIn K false) op_in_seq (pe_non) (pv 4) (by rfl))
      (pss_one (ps_ret (pe_non)))
      (pss_nil))
      (pss_cons (ps_if (pt_cmpR op_eq (pv 3) (pe_str) (nomark _))
      (pss_one (ps_ret (pe_not (pe_ix (r := rIxL K) ix_list (pv 4) (pe_int) (fun _ _ => rfl)))))
      (pss_nil))
      (pss_cons (ps_if (pt_cmpR (r := rIn K false) op_in_seq (pv 3) (pe_tup (pa_cons (pe_str) (pa_cons (pe_str) (pa_cons (pe_str) (pa_cons (pe_str) (pa_nil)))))) (by rfl))
      (pss_one (ps_ret (pe_call (ok_bounded T) (hr.mono (by first | decide | omega)) (by rfl) T.g_bounded T.F_bounded.kp T.b_bounded .nil pass0 (pa_cons (pe_call (ok_compute T) (hr.mono (by first | decide | omega)) (by rfl) T.g_compute T.F_compute.kp T.b_compute .nil pass0 (pa_cons (pv 3) (pa_cons (pv 4) (pa_nil)))) (pa_nil)))))
      (pss_nil))
      (pss_one (ps_ret (pe_call (ok_compare T) (hr.mono (by first | decide | omega)) (by rfl) T.g_compare T.F_compare.kp T.b_compare .nil pass0 (pa_cons (pv 3) (pa_cons (pe_ix (r := rIxL K) ix_list (pv 4) (pe_int) (fun _ _ => rfl)) (pa_cons (pe_ix (r := rIxL K) ix_list (pv 4) (pe_int) (fun _ _ => rfl)) (pa_nil))))))))))))))), ?_⟩
      cases t with
      | int m =>
        obtain ⟨p, x, rfl, hS, hx⟩ := dp_two hT
        cases hx
        refine q_asg (ev_ixT (K := K) (ev_var rfl) ev_c hS (at_nat (j := 0) rfl)) fun H1 e1 => ?_
        exact q_when (b := true) (et_is (et_test (ev_kinU (K := K) (xs := ["int", "text"]) (ev_var rfl) (eu_tup (ea_cons ev_c (ea_cons ev_c ea_nil)) (by show 2 ≤ 100000; decide)))) (by decide +kernel)) (fun _ H2 e2 => s_ret (ev_ixT (K := K) (ev_var rfl) ev_c (ex_t (e1.trans e2) hS) (at_nat (j := 1) rfl)) fun H3 e3 => q H3 ((e1.trans e2).trans e3)) (fun z => nomatch z)
      | text z =>
        obtain ⟨p, x, rfl, hS, hx⟩ := dp_two hT
        cases hx
        refine q_asg (ev_ixT (K := K) (ev_var rfl) ev_c hS (at_nat (j := 0) rfl)) fun H1 e1 => ?_
        exact q_when (b := true) (et_is (et_test (ev_kinU (K := K) (xs := ["int", "text"]) (ev_var rfl) (eu_tup (ea_cons ev_c (ea_cons ev_c ea_nil)) (by show 2 ≤ 100000; decide)))) (by decide +kernel)) (fun _ H2 e2 => s_ret (ev_ixT (K := K) (ev_var rfl) ev_c (ex_t (e1.trans e2) hS) (at_nat (j := 1) rfl)) fun H3 e3 => q H3 ((e1.trans e2).trans e3)) (fun z => nomatch z)
      | col z =>
        obtain ⟨p, x, rfl, hS, hx⟩ := dp_two hT
        cases hx
        cases hty with
        | col _ hk hf =>
        have hp := (plc_spec hf hro.len).2.1
        refine q_asg (ev_ixT (K := K) (ev_var rfl) ev_c hS (at_nat (j := 0) rfl)) fun H1 e1 => ?_
        refine q_when (b := false) (et_is (et_test (ev_kinU (K := K) (xs := ["int", "text"]) (ev_var rfl) (eu_tup (ea_cons ev_c (ea_cons ev_c ea_nil)) (by show 2 ≤ 100000; decide)))) (by decide +kernel)) (fun z => nomatch z) fun _ H2 e2 => ?_
        refine q_when (b := true) (et_is (et_test (ev_eqS (ev_var rfl) ev_c)) (by decide +kernel)) (fun _ H3 e3 => ?_) (fun z => nomatch z)
        have E3 := (e1.trans e2).trans e3
        exact s_ret (ev_ixT (K := K) (ev_var rfl) (ev_call (ea_cons (ev_var rfl) (ea_cons (ev_ixT (K := K) (ev_var rfl) ev_c (ex_t E3 hS) (at_nat (j := 1) rfl)) ea_nil)) fun H4 e4 Q1 q1 E1 => ⟨cs, vc, z, k, rfl, dp_mono (E3.trans e4) hC, hcl, hf, fun H5 e5 => q1 H5 e5⟩) (ex_t E3 hR) (at_nat hp)) fun H4 e4 => q H4 (E3.trans e4)
      | neg a => exact absurd hh (Nat.not_succ_le_zero _)
      | null a => exact absurd hh (Nat.not_succ_le_zero _)
      | not a => exact absurd hh (Nat.not_succ_le_zero _)
      | bin o a b => exact absurd hh (Nat.not_succ_le_zero _)
  | n + 1 => by
    have IH := ok_evaluate_at T n
    refine T.F_evaluate.ok sc_evaluate (fun vs H Q E h => ?_) (fun cdv A outer s H vs Q E hr h => ?_)
    · obtain ⟨t, k, cs, row, vt, vc, r, rfl, _⟩ := h
      rfl
    · obtain ⟨t, k, cs, row, vt, vc, r, rfl, hT, hh, hty, hC, hR, hro, hcl, q⟩ := h
      refine ⟨_, pss_cons (ps_set (i := 3) sc_evaluate.nd rfl (by first | exact Or.inl rfl | exact Or.inr rfl) (pe_ix (r := rIxT K) ix_tup (pv 0) (pe_int) (fun _ _ => rfl)))
      (pss_cons (ps_if (pt_cmpR (r := rIn K false) op_in_seq (pv 3) (pe_tup (pa_cons (pe_str) (pa_cons (pe_str) (pa_nil)))) (by rfl))
      (pss_one (ps_ret (pe_ix (r := rIxT K) ix_tup (pv 0) (pe_int) (fun _ _ => rfl))))
      (pss_nil))
      (pss_cons (ps_if (pt_cmpR op_eq (pv 3) (pe_str) (nomark _))
      (pss_one (ps_ret (pe_ix (r := rIxT K) ix_tup (pv 2) (pe_call (ok_place T) (hr.mono (by first | decide | omega)) (by rfl) T.g_place T.F_place.kp T.b_place .nil pass0 (pa_cons (pv 1) (pa_cons (pe_ix (r := rIxT K) ix_tup (pv 0) (pe_int) (fun _ _ => rfl)) (pa_nil)))) (fun _ _ => rfl))))
      (pss_nil))
      (pss_cons (ps_setLc (i := 4) (own := [("operand", 5)]) (g := gName 5) (tt := tYes) (by rfl) sc_evaluate.nd rfl rfl (sw_true rfl rfl rfl (by decide +kernel)) (pi_tup (pe_slice (r := rSlA K) sl_tupA (pv 0) (po_some (pe_int)) (po_none))) (blkOk_by (N := ["tree", "columns", "row", "word", "values", "operand", "deciding"]) (sc := defScope s_evaluate) (by decide +kernel)) (fun _ _ _ _ _ => pg_name (i := 5) sc_evaluate.nd rfl (Or.inl rfl)) (fun _ _ _ _ _ => pts_nil) (fun _ _ _ _ _ => pe_call IH (hr.mono (by omega)) (by rfl) T.g_evaluate T.F_evaluate.kp T.b_evaluate .nil pass0 (pa_cons (pv 5) (pa_cons (pv 1) (pa_cons (pv 2) (pa_nil))))))
      (pss_cons (ps_if (pt_cmpR op_eq (pv 3) (pe_str) (nomark _))
      (pss_one (ps_ret (pe_cmpR op_isN (pe_ix (r := rIxL K) ix_list (pv 4) (pe_int) (fun _ _ => rfl)) (pe_non) (nomark _))))
      (pss_nil))
      (pss_cons (ps_if (pt_cmpR (r := rIn K false) op_in_seq (pv 3) (pe_tup (pa_cons (pe_str) (pa_cons (pe_str) (pa_nil)))) (by rfl))
      (pss_cons (ps_set (i := 6) sc_evaluate.nd rfl (by first | exact Or.inl rfl | exact Or.inr rfl) (pe_cmpR op_eq (pv 3) (pe_str) (nomark _)))
      (pss_cons (ps_if (pt_cmpR (r := rIn K false) op_in_seq (pv 6) (pv 4) (by rfl))
      (pss_one (ps_ret (pv 6)))
      (pss_nil))
      (pss_one (ps_ret (pe_ifExp (pt_cmpR (r := rIn K false) op_in_seq (pe_non) (pv 4) (by rfl)) (pe_non) (pe_not (pv 6)))))))
      (pss_nil))
      (pss_cons (ps_if (pt_cmpR (r := rIn K false) op_in_seq (pe_non) (pv 4) (by rfl))
      (pss_one (ps_ret (pe_non)))
      (pss_nil))
      (pss_cons (ps_if (pt_cmpR op_eq (pv 3) (pe_str) (nomark _))
      (pss_one (ps_ret (pe_not (pe_ix (r := rIxL K) ix_list (pv 4) (pe_int) (fun _ _ => rfl)))))
      (pss_nil))
      (pss_cons (ps_if (pt_cmpR (r := rIn K false) op_in_seq (pv 3) (pe_tup (pa_cons (pe_str) (pa_cons (pe_str) (pa_cons (pe_str) (pa_cons (pe_str) (pa_nil)))))) (by rfl))
      (pss_one (ps_ret (pe_call (ok_bounded T) (hr.mono (by first | decide | omega)) (by rfl) T.g_bounded T.F_bounded.kp T.b_bounded .nil pass0 (pa_cons (pe_call (ok_compute T) (hr.mono (by first | decide | omega)) (by rfl) T.g_compute T.F_compute.kp T.b_compute .nil pass0 (pa_cons (pv 3) (pa_cons (pv 4) (pa_nil)))) (pa_nil)))))
      (pss_nil))
      (pss_one (ps_ret (pe_call (ok_compare T) (hr.mono (by first | decide | omega)) (by rfl) T.g_compare T.F_compare.kp T.b_compare .nil pass0 (pa_cons (pv 3) (pa_cons (pe_ix (r := rIxL K) ix_list (pv 4) (pe_int) (fun _ _ => rfl)) (pa_cons (pe_ix (r := rIxL K) ix_list (pv 4) (pe_int) (fun _ _ => rfl)) (pa_nil))))))))))))))), ?_⟩
      cases t with
      | int m =>
        obtain ⟨p, x, rfl, hS, hx⟩ := dp_two hT
        cases hx
        refine q_asg (ev_ixT (K := K) (ev_var rfl) ev_c hS (at_nat (j := 0) rfl)) fun H1 e1 => ?_
        exact q_when (b := true) (et_is (et_test (ev_kinU (K := K) (xs := ["int", "text"]) (ev_var rfl) (eu_tup (ea_cons ev_c (ea_cons ev_c ea_nil)) (by show 2 ≤ 100000; decide)))) (by decide +kernel)) (fun _ H2 e2 => s_ret (ev_ixT (K := K) (ev_var rfl) ev_c (ex_t (e1.trans e2) hS) (at_nat (j := 1) rfl)) fun H3 e3 => q H3 ((e1.trans e2).trans e3)) (fun z => nomatch z)
      | text z =>
        obtain ⟨p, x, rfl, hS, hx⟩ := dp_two hT
        cases hx
        refine q_asg (ev_ixT (K := K) (ev_var rfl) ev_c hS (at_nat (j := 0) rfl)) fun H1 e1 => ?_
        exact q_when (b := true) (et_is (et_test (ev_kinU (K := K) (xs := ["int", "text"]) (ev_var rfl) (eu_tup (ea_cons ev_c (ea_cons ev_c ea_nil)) (by show 2 ≤ 100000; decide)))) (by decide +kernel)) (fun _ H2 e2 => s_ret (ev_ixT (K := K) (ev_var rfl) ev_c (ex_t (e1.trans e2) hS) (at_nat (j := 1) rfl)) fun H3 e3 => q H3 ((e1.trans e2).trans e3)) (fun z => nomatch z)
      | col z =>
        obtain ⟨p, x, rfl, hS, hx⟩ := dp_two hT
        cases hx
        cases hty with
        | col _ hk hf =>
        have hp := (plc_spec hf hro.len).2.1
        refine q_asg (ev_ixT (K := K) (ev_var rfl) ev_c hS (at_nat (j := 0) rfl)) fun H1 e1 => ?_
        refine q_when (b := false) (et_is (et_test (ev_kinU (K := K) (xs := ["int", "text"]) (ev_var rfl) (eu_tup (ea_cons ev_c (ea_cons ev_c ea_nil)) (by show 2 ≤ 100000; decide)))) (by decide +kernel)) (fun z => nomatch z) fun _ H2 e2 => ?_
        refine q_when (b := true) (et_is (et_test (ev_eqS (ev_var rfl) ev_c)) (by decide +kernel)) (fun _ H3 e3 => ?_) (fun z => nomatch z)
        have E3 := (e1.trans e2).trans e3
        exact s_ret (ev_ixT (K := K) (ev_var rfl) (ev_call (ea_cons (ev_var rfl) (ea_cons (ev_ixT (K := K) (ev_var rfl) ev_c (ex_t E3 hS) (at_nat (j := 1) rfl)) ea_nil)) fun H4 e4 Q1 q1 E1 => ⟨cs, vc, z, k, rfl, dp_mono (E3.trans e4) hC, hcl, hf, fun H5 e5 => q1 H5 e5⟩) (ex_t E3 hR) (at_nat hp)) fun H4 e4 => q H4 (E3.trans e4)
      | neg a =>
        obtain ⟨p, x, rfl, hS, hx⟩ := dp_two hT
        have ha : a.h ≤ n := by
          have : a.h + 1 ≤ n + 1 := hh
          omega
        cases hty with
        | neg hta =>
        have hva := ev_ok hro hta
        refine q_asg (ev_ixT (K := K) (ev_var rfl) ev_c hS (at_nat (j := 0) rfl)) fun H1 e1 => ?_
        refine q_when (b := false) (et_is (et_test (ev_kinU (K := K) (xs := ["int", "text"]) (ev_var rfl) (eu_tup (ea_cons ev_c (ea_cons ev_c ea_nil)) (by show 2 ≤ 100000; decide)))) (by decide +kernel)) (fun z => nomatch z) fun _ H2 e2 => ?_
        refine q_when (b := false) (et_is (et_test (ev_eqS (ev_var rfl) ev_c)) (by decide +kernel)) (fun z => nomatch z) fun _ H3 e3 => ?_
        have E3 := (e1.trans e2).trans e3
        refine q_asgL (xs := [evT cs row a]) (el_mapTN (K := K) (eu_sl1 (ev_var rfl) (eo_some ev_c) eo_none (ex_t E3 hS)) (by show 1 ≤ 40000; decide) (fun x => rfl) rfl fun i u y hu hy H4 e4 => ?_) fun pv H4 _ e4 hv => ?_
        · match i, hu, hy with
          | 0, hu, hy =>
            cases Option.some.inj hu
            cases Option.some.inj hy
            exact ev_call (ea_cons (ev_var rfl) (ea_cons (ev_var rfl) (ea_cons (ev_var rfl) ea_nil))) (cv_ev (dp_mono (E3.trans e4) hx) ha hta (dp_mono (E3.trans e4) hC) (ex_t (E3.trans e4) hR) hro hcl)
          | i + 1, hu, hy => simp at hu
        have E4 := E3.trans e4
        have v0 : ∀ {H' : Hp} {σ : L2.St}, Ex H4 H' → σ[4]? = some (some (V.ref pv)) → Ev (tOp (rIxL K) (tVar 4) (tC (.int 0))) σ H' (evT cs row a) := fun e hσ => ev_ixL (K := K) (ev_var hσ) ev_c (sq_of (e _ _ hv)) (at_nat (j := 0) rfl)
        have inN : ∀ {H' : Hp} {σ : L2.St}, Ex H4 H' → σ[4]? = some (some (V.ref pv)) → Ev (tOp (rIn K false) (tC .non) (tVar 4)) σ H' (.bl (decide (evT cs row a = .non))) := fun e hσ => ev_is (ev_op ev_c (ev_var hσ) (rv_isL (sq_of (e _ _ hv)) rfl (by simp only [List.all_cons, List.all_nil, hva.flat]; rfl))) (congrArg V.bl in_non1)
        refine q_when (b := false) (et_is (et_test (ev_eqS (ev_var rfl) ev_c)) (by decide +kernel)) (fun z => nomatch z) fun _ H5 e5 => ?_
        refine q_when (b := false) (et_is (et_test (ev_kinU (K := K) (xs := ["and", "or"]) (ev_var rfl) (eu_tup (ea_cons ev_c (ea_cons ev_c ea_nil)) (by show 2 ≤ 100000; decide)))) (by decide +kernel)) (fun z => nomatch z) fun _ H6 e6 => ?_
        have eq : evT cs row (.neg a) = match evT cs row a with | .int i => bndV (-i) | _ => .non := rfl
        rw [eq] at q
        generalize evT cs row a = va at *
        have E6 := (E4.trans e5).trans e6
        refine q_when (et_test (inN (e5.trans e6) rfl)) (fun hb H7 e7 => ?_) (fun hb H7 e7 => ?_)
        · obtain rfl := of_decide_eq_true hb
          exact s_ret ev_c fun H8 e8 => q H8 ((E6.trans e7).trans e8)
        · cases hva with
          | non => exact absurd rfl (of_decide_eq_false hb)
          | int hi =>
            rename_i i
            refine q_when (b := false) (et_is (et_test (ev_eqS (ev_var rfl) ev_c)) (by decide +kernel)) (fun z => nomatch z) fun _ H8 e8 => ?_
            refine q_when (b := true) (et_is (et_test (ev_kinU (K := K) (xs := ["neg", "add", "sub", "mul"]) (ev_var rfl) (eu_tup (ea_cons ev_c (ea_cons ev_c (ea_cons ev_c (ea_cons ev_c ea_nil)))) (by show 4 ≤ 100000; decide)))) (by decide +kernel)) (fun _ H9 e9 => ?_) (fun z => nomatch z)
            have E9 := ((E6.trans e7).trans e8).trans e9
            have E49 := (((e5.trans e6).trans e7).trans e8).trans e9
            exact s_ret (ev_call (ea_cons (ev_call (ea_cons (ev_var rfl) (ea_cons (ev_var rfl) ea_nil)) fun H10 e10 Q1 q1 E1 => ⟨_, pv, rfl, .inl ⟨i, rfl, sq_of ((E49.trans e10) _ _ hv), fun H11 e11 => q1 H11 e11⟩⟩) ea_nil) cv_bounded) fun H10 e10 => q H10 (E9.trans e10)
      | null a =>
        obtain ⟨p, x, rfl, hS, hx⟩ := dp_two hT
        have ha : a.h ≤ n := by
          have : a.h + 1 ≤ n + 1 := hh
          omega
        cases hty with
        | null hta _=>
        have hva := ev_ok hro hta
        refine q_asg (ev_ixT (K := K) (ev_var rfl) ev_c hS (at_nat (j := 0) rfl)) fun H1 e1 => ?_
        refine q_when (b := false) (et_is (et_test (ev_kinU (K := K) (xs := ["int", "text"]) (ev_var rfl) (eu_tup (ea_cons ev_c (ea_cons ev_c ea_nil)) (by show 2 ≤ 100000; decide)))) (by decide +kernel)) (fun z => nomatch z) fun _ H2 e2 => ?_
        refine q_when (b := false) (et_is (et_test (ev_eqS (ev_var rfl) ev_c)) (by decide +kernel)) (fun z => nomatch z) fun _ H3 e3 => ?_
        have E3 := (e1.trans e2).trans e3
        refine q_asgL (xs := [evT cs row a]) (el_mapTN (K := K) (eu_sl1 (ev_var rfl) (eo_some ev_c) eo_none (ex_t E3 hS)) (by show 1 ≤ 40000; decide) (fun x => rfl) rfl fun i u y hu hy H4 e4 => ?_) fun pv H4 _ e4 hv => ?_
        · match i, hu, hy with
          | 0, hu, hy =>
            cases Option.some.inj hu
            cases Option.some.inj hy
            exact ev_call (ea_cons (ev_var rfl) (ea_cons (ev_var rfl) (ea_cons (ev_var rfl) ea_nil))) (cv_ev (dp_mono (E3.trans e4) hx) ha hta (dp_mono (E3.trans e4) hC) (ex_t (E3.trans e4) hR) hro hcl)
          | i + 1, hu, hy => simp at hu
        have E4 := E3.trans e4
        have v0 : ∀ {H' : Hp} {σ : L2.St}, Ex H4 H' → σ[4]? = some (some (V.ref pv)) → Ev (tOp (rIxL K) (tVar 4) (tC (.int 0))) σ H' (evT cs row a) := fun e hσ => ev_ixL (K := K) (ev_var hσ) ev_c (sq_of (e _ _ hv)) (at_nat (j := 0) rfl)
        have inN : ∀ {H' : Hp} {σ : L2.St}, Ex H4 H' → σ[4]? = some (some (V.ref pv)) → Ev (tOp (rIn K false) (tC .non) (tVar 4)) σ H' (.bl (decide (evT cs row a = .non))) := fun e hσ => ev_is (ev_op ev_c (ev_var hσ) (rv_isL (sq_of (e _ _ hv)) rfl (by simp only [List.all_cons, List.all_nil, hva.flat]; rfl))) (congrArg V.bl in_non1)
        refine q_when (b := true) (et_is (et_test (ev_eqS (ev_var rfl) ev_c)) (by decide +kernel)) (fun _ H5 e5 => ?_) (fun z => nomatch z)
        exact s_ret (ev_isN (v0 e5 rfl)) fun H6 e6 => q H6 ((E4.trans e5).trans e6)
      | not a =>
        obtain ⟨p, x, rfl, hS, hx⟩ := dp_two hT
        have ha : a.h ≤ n := by
          have : a.h + 1 ≤ n + 1 := hh
          omega
        cases hty with
        | not hta =>
        have hva := ev_ok hro hta
        refine q_asg (ev_ixT (K := K) (ev_var rfl) ev_c hS (at_nat (j := 0) rfl)) fun H1 e1 => ?_
        refine q_when (b := false) (et_is (et_test (ev_kinU (K := K) (xs := ["int", "text"]) (ev_var rfl) (eu_tup (ea_cons ev_c (ea_cons ev_c ea_nil)) (by show 2 ≤ 100000; decide)))) (by decide +kernel)) (fun z => nomatch z) fun _ H2 e2 => ?_
        refine q_when (b := false) (et_is (et_test (ev_eqS (ev_var rfl) ev_c)) (by decide +kernel)) (fun z => nomatch z) fun _ H3 e3 => ?_
        have E3 := (e1.trans e2).trans e3
        refine q_asgL (xs := [evT cs row a]) (el_mapTN (K := K) (eu_sl1 (ev_var rfl) (eo_some ev_c) eo_none (ex_t E3 hS)) (by show 1 ≤ 40000; decide) (fun x => rfl) rfl fun i u y hu hy H4 e4 => ?_) fun pv H4 _ e4 hv => ?_
        · match i, hu, hy with
          | 0, hu, hy =>
            cases Option.some.inj hu
            cases Option.some.inj hy
            exact ev_call (ea_cons (ev_var rfl) (ea_cons (ev_var rfl) (ea_cons (ev_var rfl) ea_nil))) (cv_ev (dp_mono (E3.trans e4) hx) ha hta (dp_mono (E3.trans e4) hC) (ex_t (E3.trans e4) hR) hro hcl)
          | i + 1, hu, hy => simp at hu
        have E4 := E3.trans e4
        have v0 : ∀ {H' : Hp} {σ : L2.St}, Ex H4 H' → σ[4]? = some (some (V.ref pv)) → Ev (tOp (rIxL K) (tVar 4) (tC (.int 0))) σ H' (evT cs row a) := fun e hσ => ev_ixL (K := K) (ev_var hσ) ev_c (sq_of (e _ _ hv)) (at_nat (j := 0) rfl)
        have inN : ∀ {H' : Hp} {σ : L2.St}, Ex H4 H' → σ[4]? = some (some (V.ref pv)) → Ev (tOp (rIn K false) (tC .non) (tVar 4)) σ H' (.bl (decide (evT cs row a = .non))) := fun e hσ => ev_is (ev_op ev_c (ev_var hσ) (rv_isL (sq_of (e _ _ hv)) rfl (by simp only [List.all_cons, List.all_nil, hva.flat]; rfl))) (congrArg V.bl in_non1)
        refine q_when (b := false) (et_is (et_test (ev_eqS (ev_var rfl) ev_c)) (by decide +kernel)) (fun z => nomatch z) fun _ H5 e5 => ?_
        refine q_when (b := false) (et_is (et_test (ev_kinU (K := K) (xs := ["and", "or"]) (ev_var rfl) (eu_tup (ea_cons ev_c (ea_cons ev_c ea_nil)) (by show 2 ≤ 100000; decide)))) (by decide +kernel)) (fun z => nomatch z) fun _ H6 e6 => ?_
        have eq : evT cs row (.not a) = match evT cs row a with | .bl b => .bl (!b) | _ => .non := rfl
        rw [eq] at q
        generalize evT cs row a = va at *
        have E6 := (E4.trans e5).trans e6
        refine q_when (et_test (inN (e5.trans e6) rfl)) (fun hb H7 e7 => ?_) (fun hb H7 e7 => ?_)
        · obtain rfl := of_decide_eq_true hb
          exact s_ret ev_c fun H8 e8 => q H8 ((E6.trans e7).trans e8)
        · cases hva with
          | non => exact absurd rfl (of_decide_eq_false hb)
          | bl b =>
            refine q_when (b := true) (et_is (et_test (ev_eqS (ev_var rfl) ev_c)) (by decide +kernel)) (fun _ H8 e8 => ?_) (fun z => nomatch z)
            exact s_ret (ev_notV (v0 (((e5.trans e6).trans e7).trans e8) rfl)) fun H9 e9 => q H9 (((E6.trans e7).trans e8).trans e9)
      | bin o a b =>
        obtain ⟨p, x1, x2, rfl, hS, hx1, hx2⟩ := dp_three hT
        have hab : a.h ≤ n ∧ b.h ≤ n := by
          have : max a.h b.h + 1 ≤ n + 1 := hh
          omega
        obtain ⟨k1, k2, hta, htb⟩ : ∃ k1 k2, Ty cs a k1 ∧ Ty cs b k2 := by
          cases hty with
          | ar _ h h2 => exact ⟨_, _, h, h2⟩
          | cmp _ _ _ h h2 => exact ⟨_, _, h, h2⟩
          | lg _ h h2 => exact ⟨_, _, h, h2⟩
        have hva := ev_ok hro hta
        have hvb := ev_ok hro htb
        obtain ⟨q1, q2, q3, q4, q5, q6, q7, q8, _⟩ := kin_bop o
        have fl : [evT cs row a, evT cs row b].all flatV = true := by simp only [List.all_cons, List.all_nil, hva.flat, hvb.flat]; rfl
        refine q_asg (ev_ixT (K := K) (ev_var rfl) ev_c hS (at_nat (j := 0) rfl)) fun H1 e1 => ?_
        refine q_when (b := false) (et_is (et_test (ev_kinU (K := K) (xs := ["int", "text"]) (ev_var rfl) (eu_tup (ea_cons ev_c (ea_cons ev_c ea_nil)) (by show 2 ≤ 100000; decide)))) q1) (fun z => nomatch z) fun _ H2 e2 => ?_
        refine q_when (b := false) (et_is (et_test (ev_eqS (ev_var rfl) ev_c)) q2) (fun z => nomatch z) fun _ H3 e3 => ?_
        have E3 := (e1.trans e2).trans e3
        refine q_asgL (xs := [evT cs row a, evT cs row b]) (el_mapTN (K := K) (eu_sl1 (ev_var rfl) (eo_some ev_c) eo_none (ex_t E3 hS)) (by show 2 ≤ 40000; decide) (fun x => rfl) rfl fun i u y hu hy H4 e4 => ?_) fun pv H4 _ e4 hv => ?_
        · match i, hu, hy with
          | 0, hu, hy =>
            cases Option.some.inj hu
            cases Option.some.inj hy
            exact ev_call (ea_cons (ev_var rfl) (ea_cons (ev_var rfl) (ea_cons (ev_var rfl) ea_nil))) (cv_ev (dp_mono (E3.trans e4) hx1) hab.1 hta (dp_mono (E3.trans e4) hC) (ex_t (E3.trans e4) hR) hro hcl)
          | 1, hu, hy =>
            cases Option.some.inj hu
            cases Option.some.inj hy
            exact ev_call (ea_cons (ev_var rfl) (ea_cons (ev_var rfl) (ea_cons (ev_var rfl) ea_nil))) (cv_ev (dp_mono (E3.trans e4) hx2) hab.2 htb (dp_mono (E3.trans e4) hC) (ex_t (E3.trans e4) hR) hro hcl)
          | i + 2, hu, hy => simp at hu
        have E4 := E3.trans e4
        have inn : ∀ {H' : Hp} {σ : L2.St} {te : TE} {x : V}, flatV x = true → Ex H4 H' → σ[4]? = some (some (V.ref pv)) → Ev te σ H' x → Ev (tOp (rIn K false) te (tVar 4)) σ H' (.bl (inV x [evT cs row a, evT cs row b])) := fun hx e hσ ht => ev_op ht (ev_var hσ) (rv_isL (sq_of (e _ _ hv)) hx fl)
        have v0 : ∀ {H' : Hp} {σ : L2.St}, Ex H4 H' → σ[4]? = some (some (V.ref pv)) → Ev (tOp (rIxL K) (tVar 4) (tC (.int 0))) σ H' (evT cs row a) := fun e hσ => ev_ixL (K := K) (ev_var hσ) ev_c (sq_of (e _ _ hv)) (at_nat (j := 0) rfl)
        have v1 : ∀ {H' : Hp} {σ : L2.St}, Ex H4 H' → σ[4]? = some (some (V.ref pv)) → Ev (tOp (rIxL K) (tVar 4) (tC (.int 1))) σ H' (evT cs row b) := fun e hσ => ev_ixL (K := K) (ev_var hσ) ev_c (sq_of (e _ _ hv)) (at_nat (j := 1) rfl)
        refine q_when (b := false) (et_is (et_test (ev_eqS (ev_var rfl) ev_c)) q3) (fun z => nomatch z) fun _ H5 e5 => ?_
        have eq : evT cs row (.bin o a b) = if o = .and then andV (evT cs row a) (evT cs row b) else if o = .or then orV (evT cs row a) (evT cs row b) else cmpV o (evT cs row a) (evT cs row b) := rfl
        rw [eq] at q
        generalize evT cs row a = va at *
        generalize evT cs row b = vb at *
        refine q_when (b := o.lg) (et_is (et_test (ev_kinU (K := K) (xs := ["and", "or"]) (ev_var rfl) (eu_tup (ea_cons ev_c (ea_cons ev_c ea_nil)) (by show 2 ≤ 100000; decide)))) q4) (fun hl H6 e6 => ?_) (fun hl H6 e6 => ?_)
        · have E6 := (E4.trans e5).trans e6
          have hta' : VK' .truth va ∧ VK' .truth vb := by
            cases hty with
            | ar ho _ _ => exact (lg_ar ho hl).elim
            | cmp ho ho2 _ _ _ => rw [hl] at ho2; cases ho2
            | lg _ h h2 => exact ⟨by rw [← Ty.kd_u hta h]; exact hva, by rw [← Ty.kd_u htb h2]; exact hvb⟩
          refine q_asg (ev_is (ev_eqS (ev_var rfl) ev_c) (congrArg V.bl q5)) fun H7 e7 => ?_
          have e47 := (e5.trans e6).trans e7
          refine q_when (et_test (ev_is (inn rfl e47 rfl (ev_var rfl)) (congrArg V.bl (in_bl hta'.1 hta'.2)))) (fun hb H8 e8 => ?_) (fun hb H8 e8 => ?_)
          · have hb := of_decide_eq_true hb
            refine s_ret (ev_var rfl) fun H9 e9 => ?_
            have := q H9 (((E6.trans e7).trans e8).trans e9)
            by_cases ho : o = .or
            · rw [decide_eq_true ho] at hb ⊢
              rw [if_neg (by rw [ho]; decide), if_pos ho] at this
              unfold orV at this
              rwa [if_pos hb] at this
            · have ha : o = .and := by cases o <;> first | rfl | exact absurd rfl ho | exact absurd hl (by decide)
              rw [decide_eq_false ho] at hb ⊢
              rw [if_pos ha] at this
              unfold andV at this
              rwa [if_pos hb] at this
          · have hb := of_decide_eq_false hb
            have E8 := (E6.trans e7).trans e8
            refine s_ret (v := if va = .non ∨ vb = .non then .non else .bl (!decide (o = .or))) (ev_if (et_test (ev_is (inn (x := .non) rfl (e47.trans e8) rfl ev_c) (congrArg V.bl in_non))) (fun h => by rw [if_pos (of_decide_eq_true h)]; exact ev_c) (fun h => by rw [if_neg (of_decide_eq_false h)]; exact ev_notV (ev_var rfl))) fun H9 e9 => ?_
            have := q H9 (E8.trans e9)
            by_cases ho : o = .or
            · rw [decide_eq_true ho] at hb ⊢
              rw [if_neg (by rw [ho]; decide), if_pos ho] at this
              unfold orV at this
              rwa [if_neg hb] at this
            · have ha : o = .and := by cases o <;> first | rfl | exact absurd rfl ho | exact absurd hl (by decide)
              rw [decide_eq_false ho] at hb ⊢
              rw [if_pos ha] at this
              unfold andV at this
              rwa [if_neg hb] at this
        · have E6 := (E4.trans e5).trans e6
          rw [if_neg (by intro z; rw [z] at hl; cases hl), if_neg (by intro z; rw [z] at hl; cases hl)] at q
          refine q_when (et_test (ev_is (inn (x := .non) rfl (e5.trans e6) rfl ev_c) (congrArg V.bl in_non))) (fun hb H7 e7 => ?_) (fun hb H7 e7 => ?_)
          · have hb := of_decide_eq_true hb
            refine s_ret ev_c fun H8 e8 => ?_
            have := q H8 ((E6.trans e7).trans e8)
            have ec : cmpV o va vb = .non := by
              rcases hb with h | h <;> rw [h]
              · rfl
              · cases va <;> rfl
            rwa [ec] at this
          have hb := of_decide_eq_false hb
          have E7 := E6.trans e7
          have e47 := (e5.trans e6).trans e7
          refine q_when (b := false) (et_is (et_test (ev_eqS (ev_var rfl) ev_c)) q7) (fun z => nomatch z) fun _ H8 e8 => ?_
          refine q_when (b := o.ar) (et_is (et_test (ev_kinU (K := K) (xs := ["neg", "add", "sub", "mul"]) (ev_var rfl) (eu_tup (ea_cons ev_c (ea_cons ev_c (ea_cons ev_c (ea_cons ev_c ea_nil)))) (by show 4 ≤ 100000; decide)))) q8) (fun ho H9 e9 => ?_) (fun ho H9 e9 => ?_)
          · obtain ⟨i, j, rfl, rfl, hi, hj⟩ : ∃ i j, va = .int i ∧ vb = .int j ∧ i.natAbs < 10 ^ 60 ∧ j.natAbs < 10 ^ 60 := by
              have hk : k1 = .int ∧ k2 = .int := by
                cases hty with
                | ar _ h h2 => exact ⟨Ty.kd_u hta h, Ty.kd_u htb h2⟩
                | cmp ho1 _ _ _ _ => rw [ho] at ho1; cases ho1
                | lg ho1 _ _ => rw [hl] at ho1; cases ho1
              rw [hk.1] at hva
              rw [hk.2] at hvb
              cases hva with
              | non => exact absurd (.inl rfl) hb
              | int hi =>
                cases hvb with
                | non => exact absurd (.inr rfl) hb
                | int hj => exact ⟨_, _, rfl, rfl, hi, hj⟩
            have E9 := (E7.trans e8).trans e9
            refine s_ret (ev_call (ea_cons (ev_call (ea_cons (ev_var rfl) (ea_cons (ev_var rfl) ea_nil)) fun H10 e10 Q1 q1 E1 => ⟨_, pv, rfl, .inr ⟨o, i, j, rfl, ho, sq_of ((((e47.trans e8).trans e9).trans e10) _ _ hv), hi, hj, fun H11 e11 => q1 H11 e11⟩⟩) ea_nil) cv_bounded) fun H10 e10 => ?_
            have := q H10 (E9.trans e10)
            have ec : cmpV o (.int i) (.int j) = bndV (if o = .add then i + j else if o = .sub then i - j else i * j) := by cases o <;> first | rfl | cases ho
            rwa [ec] at this
          · have h2 : Two va vb := by
              have hk : k1 = k2 ∧ k1 ≠ .truth := by
                cases hty with
                | ar ho1 _ _ => rw [ho] at ho1; cases ho1
                | cmp _ _ hk h h2 => exact ⟨(Ty.kd_u hta h).trans (Ty.kd_u htb h2).symm, by rw [Ty.kd_u hta h]; exact hk⟩
                | lg ho1 _ _ => rw [hl] at ho1; cases ho1
              obtain ⟨rfl, hk⟩ := hk
              cases hva with
              | non => exact absurd (.inl rfl) hb
              | int _ =>
                cases hvb with
                | non => exact absurd (.inr rfl) hb
                | int _ => exact .inl ⟨_, _, rfl, rfl⟩
              | str _ =>
                cases hvb with
                | non => exact absurd (.inr rfl) hb
                | str _ => exact .inr ⟨_, _, rfl, rfl⟩
              | bl _ => exact absurd rfl hk
            have E9 := (E7.trans e8).trans e9
            have e49 := (e47.trans e8).trans e9
            exact s_ret (ev_call (ea_cons (ev_var rfl) (ea_cons (v0 e49 rfl) (ea_cons (v1 e49 rfl) ea_nil))) (cv_compare ho hl h2)) fun H10 e10 => q H10 (E9.trans e10)
theorem ok_evaluate (T : Txt K mg) : FnOk P w K mg base CX0 19 T.f_evaluate T.d_evaluate ["tree", "columns", "row"] (spEv K 16) := ok_evaluate_at T 16


/-! ### law -/
/-- [f(j) for j in range(n)], the values told by a property -/
theorem lcR_ex {σ : L2.St} {H : Hp} {te : TE} {ta : TA} {j : Nat} {vs : List Nat} {n : Nat} {R : Nat → V → Prop} (h : EvA ta σ H [.int (n : Int)]) (hz : n ≤ 40000) (hw : ∀ x, wipe ((wipe σ vs).set j (some x)) vs = wipe σ vs)
    (he : ∀ (i : Nat) H1, i < n → Ex H H1 → ∀ Q : VK, (∀ v H2, Ex H1 H2 → R i v → Q v H2) → te ((wipe σ vs).set j (some (.int (i : Int)))) H1 Q) : ∀ Q : VK, (∀ p us H2, H p = none → Ex H H2 → H2 p = some (.lst us) → us.length = n → (∀ i u, us[i]? = some u → R i u) → Q (.ref p) H2) → tLc (iRng1 ta) (gName j) tYes te vs σ H Q := by
  intro Q q
  refine h H (Ex.refl H) _ fun H1 e1 => ⟨(n : Int), rfl, by omega, by omega, fun Dl hD => ?_⟩
  rw [show ((n : Int)).toNat = n by omega]
  refine lc_range (n := n) (fun i H' => H1 Dl = none ∧ Ex H1 H' ∧ ∃ us, H' Dl = some (.lst us) ∧ us.length = i ∧ ∀ i u, us[i]? = some u → R i u) ⟨hD, Ex.new hD, [], upd_same, rfl, fun i u z => nomatch z⟩ (fun i H' hi p => ⟨hw _, ?_⟩) (fun H' p => ?_)
  · obtain ⟨p1, p2, us, p3, p5, p6⟩ := p
    show te ((wipe σ vs).set j (some (.int (0 + (i : Int))))) H' _
    rw [Int.zero_add]
    refine he i H' hi (e1.trans p2) _ fun v H4 e4 hr => ⟨us, e4 Dl _ p3, sz_lt (by omega), p1, (p2.trans e4).mut p1, us ++ [v], upd_same, by rw [List.length_append, p5] <;> rfl, fun k x hk => ?_⟩
    by_cases hlt : k < us.length
    · rw [List.getElem?_append_left hlt] at hk
      exact p6 k x hk
    · rw [List.getElem?_append_right (by omega)] at hk
      have hk0 : k - us.length = 0 := by
        by_cases z : k - us.length = 0
        · exact z
        · rw [List.getElem?_eq_none (by simp; omega)] at hk
          cases hk
      rw [hk0] at hk
      have ek : k = i := by omega
      rw [ek, ← Option.some.inj hk]
      exact hr
  · obtain ⟨p1, p2, us, p3, p5, p6⟩ := p
    exact q Dl us H' (fresh_back e1 p1) (e1.trans p2) p3 p5 p6
theorem ea_l1 {te : TE} {σ : L2.St} {H : Hp} {xs : List V} {Q : List V → Hp → Prop} (h : EvL te σ H xs) (k : ∀ p H1, H p = none → Ex H H1 → H1 p = some (.lst xs) → Q [.ref p] H1) : tCons te tNil σ H Q := h H (Ex.refl H) _ fun p H1 hp e1 h1 => k p H1 hp e1 h1
theorem ea_l2 {te : TE} {σ : L2.St} {H : Hp} {xs : List V} {i : Nat} {v : V} {Q : List V → Hp → Prop} (h : EvL te σ H xs) (hv : σ[i]? = some (some v)) (k : ∀ p H1, H p = none → Ex H H1 → H1 p = some (.lst xs) → Q [.ref p, v] H1) : tCons te (tCons (tVar i) tNil) σ H Q := h H (Ex.refl H) _ fun p H1 hp e1 h1 => ⟨v, hv, k p H1 hp e1 h1⟩
theorem tc_one {te : TE} {σ : L2.St} {H : Hp} {Q : List V → Hp → Prop} (h : te σ H fun v H1 => Q [v] H1) : tCons te tNil σ H Q := h
theorem row_ok : ∀ {cs : Cols} {rs : List V}, rs.length = cs.length → (∀ (i : Nat) (v : V), rs[i]? = some v → ∃ c, cs[i]? = some c ∧ VK' c.2 v) → RowOk cs rs
  | [], [], _, _ => .nil
  | [], _ :: _, h, _ => by cases h
  | _ :: _, [], h, _ => by cases h
  | (z, k) :: cs, v :: rs, h, hv => by
    obtain ⟨c, hc, hk⟩ := hv 0 v rfl
    cases Option.some.inj hc
    exact .cons hk (row_ok (by simpa using h) fun i u hu => by
      obtain ⟨c, h1, h2⟩ := hv (i + 1) u (by simpa using hu)
      exact ⟨c, by simpa using h1, h2⟩)
theorem find_nd : ∀ {cs : Cols} {i : Nat} {c : Str × Kd}, (cs.map Prod.fst).Nodup → cs[i]? = some c → cs.find? (fun d => decide (d.1 = c.1)) = some c
  | [], _, _, _, h => by cases h
  | d :: cs, 0, c, _, h => by
    cases Option.some.inj h
    rw [List.find?_cons, decide_eq_true rfl]
  | d :: cs, i + 1, c, hn, h => by
    have h : cs[i]? = some c := by simpa using h
    rw [List.map_cons, List.nodup_cons] at hn
    have : ¬ d.1 = c.1 := fun e => hn.1 (by rw [e]; exact List.mem_map.mpr ⟨c, List.mem_of_getElem? h, rfl⟩)
    rw [List.find?_cons, decide_eq_false this]
    exact find_nd hn.2 h
theorem col_fl {z k : Str} (h : SeqAt.shaped (.str z) = true) (h2 : SeqAt.shaped (.str k) = true) : Fl 1 (.tuple [.str z, .str k]) := .tup fun x hx => by
  simp only [List.mem_cons, List.not_mem_nil, or_false] at hx
  rcases hx with e | e <;> rw [e]
  · exact .str _ h
  · exact .str _ h2
theorem kd_sh (k : Kd) : SeqAt.shaped (.str k.s) = true := by cases k <;> decide +kernel
def spLaw (K : PySem.W.Frag) : Sp := fun vs H Q _ => ∃ (a : Addr) (ns : List Int), vs = [.ref a] ∧ SqL K H a (ns.map V.int) ∧ ns.length ≤ 63 ∧ (∀ z ∈ ns, Builtin.Int.intBits z ≤ 1048576) ∧ ∀ H', Q (.bl true) H'
theorem ok_law (T : Txt K mg) : FnOk P w K mg base CX0 20 T.f_law T.d_law ["script"] (spLaw K) := by
  refine T.F_law.ok sc_law (fun vs H Q E h => ?_) (fun cdv A outer s H vs Q E hr h => ?_)
  · obtain ⟨a, ns, rfl, _⟩ := h
    rfl
  · obtain ⟨a, ns, rfl, hS, hlen, hbits, q⟩ := h
    have hw : ∀ n ∈ ns, Wd n := fun n hn => Wd.bits (hbits n hn)
    refine ⟨_, pss_cons (ps_set (i := 1) sc_law.nd rfl (by first | exact Or.inl rfl | exact Or.inr rfl) (pe_call (ok_law_draws T) (hr.mono (by first | decide | omega)) (by rfl) T.g_law_draws T.F_law_draws.kp T.b_law_draws .nil pass0 (pa_cons (pe_call (ok_law_cell T) (hr.mono (by first | decide | omega)) (by rfl) T.g_law_cell T.F_law_cell.kp T.b_law_cell .nil pass0 (pa_cons (pv 0) (pa_cons (pe_int) (pa_nil)))) (pa_cons (pe_int) (pa_cons (pe_int) (pa_cons (pe_int) (pa_nil)))))))
      (pss_cons (ps_set (i := 2) sc_law.nd rfl (by first | exact Or.inl rfl | exact Or.inr rfl) (pe_call (ok_law_words T) (hr.mono (by first | decide | omega)) (by rfl) T.g_law_words T.F_law_words.kp T.b_law_words .nil pass0 (pa_cons (pe_lc (own := [("k", 3)]) (g := gName 3) (tt := tYes) rfl sc_law.nd (pi_range1 (by rfl) T.m_range (pa_cons (pe_int) (pa_nil))) (blkOk_by (N := ["script", "head", "names", "k", "columns", "entries", "parts", "row", "j", "tree", "kind"]) (sc := defScope s_law) (by decide +kernel)) (fun _ _ _ _ _ => pg_name (i := 3) sc_law.nd rfl (Or.inl rfl)) (fun _ _ _ _ _ => pts_nil) (fun _ _ _ _ _ => pe_call (ok_law_thing T) (hr.mono (by first | decide | omega)) (by rfl) T.g_law_thing T.F_law_thing.kp T.b_law_thing .nil pass0 (pa_cons (pv 0) (pa_cons (pe_op op_add (pe_int) (pv 3)) (pa_nil))))) (pa_nil))))
      (pss_cons (ps_set (i := 4) sc_law.nd rfl (by first | exact Or.inl rfl | exact Or.inr rfl) (pe_lst (pa_nil)))
      (pss_cons (ps_for PassesOwn.never rfl (pi_range1 (by rfl) T.m_range (pa_cons (pe_op op_add (pe_int) (pe_op op_mod (pe_callTy call_int1 (by rfl) T.m_int (by decide +kernel) (pa_cons (pe_ix (r := rIxL K) ix_list (pv 1) (pe_int) (fun _ _ => rfl)) (pa_nil))) (pe_int))) (pa_nil))) (pg_name (i := 3) sc_law.nd rfl (by first | exact Or.inl rfl | exact Or.inr rfl))
      (pss_one (ps_expr (pe_bm PySem.F.plainAttrs_list PySem.F.slot_list_append PySem.F.type_list_append mt_append (pv 4) (pa_cons (pe_tup (pa_cons (pe_ix (r := rIxL K) ix_list (pv 2) (pv 3) (fun _ _ => rfl)) (pa_cons (pe_ix (r := rIxL K) ix_list (pe_lst (pa_cons (pe_str) (pa_cons (pe_str) (pa_nil)))) (pe_op op_mod (pe_callTy call_int1 (by rfl) T.m_int (by decide +kernel) (pa_cons (pe_op op_fdivW (pe_ix (r := rIxL K) ix_list (pv 1) (pe_int) (fun _ _ => rfl)) (pe_ix (r := rIxL K) ix_list (pe_lst (pa_cons (pe_int) (pa_cons (pe_int) (pa_cons (pe_int) (pa_cons (pe_int) (pa_nil)))))) (pv 3) (fun _ _ => rfl))) (pa_nil))) (pe_int)) (fun _ _ => rfl)) (pa_nil)))) (pa_nil))))))
      (pss_cons (ps_set (i := 4) sc_law.nd rfl (by first | exact Or.inl rfl | exact Or.inr rfl) (pe_callTy (r := rTupOf K) call_tuple_of (by rfl) T.m_tuple (by decide +kernel) (pa_cons (pv 4) (pa_nil))))
      (pss_cons (ps_set (i := 5) sc_law.nd rfl (by first | exact Or.inl rfl | exact Or.inr rfl) (pe_call (ok_law_drawn T) (hr.mono (by first | decide | omega)) (by rfl) T.g_law_drawn T.F_law_drawn.kp T.b_law_drawn .nil pass0 (pa_cons (pe_lc (own := [("k", 3)]) (g := gName 3) (tt := tYes) rfl sc_law.nd (pi_range1 (by rfl) T.m_range (pa_cons (pe_int) (pa_nil))) (blkOk_by (N := ["script", "head", "names", "k", "columns", "entries", "parts", "row", "j", "tree", "kind"]) (sc := defScope s_law) (by decide +kernel)) (fun _ _ _ _ _ => pg_name (i := 3) sc_law.nd rfl (Or.inl rfl)) (fun _ _ _ _ _ => pts_nil) (fun _ _ _ _ _ => pe_call (ok_law_thing T) (hr.mono (by first | decide | omega)) (by rfl) T.g_law_thing T.F_law_thing.kp T.b_law_thing .nil pass0 (pa_cons (pv 0) (pa_cons (pe_op op_add (pe_int) (pv 3)) (pa_nil))))) (pa_cons (pv 4) (pa_nil)))))
      (pss_cons (ps_set (i := 5) sc_law.nd rfl (by first | exact Or.inl rfl | exact Or.inr rfl) (pe_op op_cat (pv 5) (pe_call (ok_law_drawn T) (hr.mono (by first | decide | omega)) (by rfl) T.g_law_drawn T.F_law_drawn.kp T.b_law_drawn .nil pass0 (pa_cons (pe_lc (own := [("k", 3)]) (g := gName 3) (tt := tYes) rfl sc_law.nd (pi_range1 (by rfl) T.m_range (pa_cons (pe_int) (pa_nil))) (blkOk_by (N := ["script", "head", "names", "k", "columns", "entries", "parts", "row", "j", "tree", "kind"]) (sc := defScope s_law) (by decide +kernel)) (fun _ _ _ _ _ => pg_name (i := 3) sc_law.nd rfl (Or.inl rfl)) (fun _ _ _ _ _ => pts_nil) (fun _ _ _ _ _ => pe_call (ok_law_thing T) (hr.mono (by first | decide | omega)) (by rfl) T.g_law_thing T.F_law_thing.kp T.b_law_thing .nil pass0 (pa_cons (pv 0) (pa_cons (pe_op op_add (pe_int) (pv 3)) (pa_nil))))) (pa_cons (pv 4) (pa_nil))))))
      (pss_cons (ps_for PassesOwn.never rfl (pi_range1 (by rfl) T.m_range (pa_cons (pe_int) (pa_nil))) (pg_name (i := 3) sc_law.nd rfl (by first | exact Or.inl rfl | exact Or.inr rfl))
      (pss_cons (ps_set (i := 6) sc_law.nd rfl (by first | exact Or.inl rfl | exact Or.inr rfl) (pe_call (ok_law_draws T) (hr.mono (by first | decide | omega)) (by rfl) T.g_law_draws T.F_law_draws.kp T.b_law_draws .nil pass0 (pa_cons (pe_call (ok_law_thing T) (hr.mono (by first | decide | omega)) (by rfl) T.g_law_thing T.F_law_thing.kp T.b_law_thing .nil pass0 (pa_cons (pv 0) (pa_cons (pe_op op_add (pe_int) (pv 3)) (pa_nil)))) (pa_cons (pe_int) (pa_cons (pe_int) (pa_cons (pe_op op_pow (pe_int) (pe_int)) (pa_nil)))))))
      (pss_cons (ps_set (i := 7) sc_law.nd rfl (by first | exact Or.inl rfl | exact Or.inr rfl) (pe_callTy (r := rTupOf K) call_tuple_of (by rfl) T.m_tuple (by decide +kernel) (pa_cons (pe_lc (own := [("j", 8)]) (g := gName 8) (tt := tYes) rfl sc_law.nd (pi_range1 (by rfl) T.m_range (pa_cons (pe_callB (r := rLenQ K) call_len_seq (by rfl) T.m_len (by decide +kernel) (pa_cons (pv 4) (pa_nil))) (pa_nil))) (blkOk_by (N := ["script", "head", "names", "k", "columns", "entries", "parts", "row", "j", "tree", "kind"]) (sc := defScope s_law) (by decide +kernel)) (fun _ _ _ _ _ => pg_name (i := 8) sc_law.nd rfl (Or.inl rfl)) (fun _ _ _ _ _ => pts_nil) (fun _ _ _ _ _ => pe_call (ok_law_small T) (hr.mono (by first | decide | omega)) (by rfl) T.g_law_small T.F_law_small.kp T.b_law_small .nil pass0 (pa_cons (pe_ix (r := rIxT K) ix_tup (pe_ix (r := rIxT K) ix_tup (pv 4) (pv 8) (fun _ _ => rfl)) (pe_int) (fun _ _ => rfl)) (pa_cons (pe_ix (r := rIxL K) ix_list (pv 6) (pv 8) (fun _ _ => rfl)) (pa_nil))))) (pa_nil))))
      (pss_one (ps_for PassesOwn.never rfl (pi_list (pv 5)) (pg_tup rfl (pgs_cons (pg_name (i := 9) sc_law.nd rfl (by first | exact Or.inl rfl | exact Or.inr rfl)) (pgs_cons (pg_name (i := 10) sc_law.nd rfl (by first | exact Or.inl rfl | exact Or.inr rfl)) (pgs_nil))))
      (pss_one (ps_if (pt_not (pt_val (pe_call (ok_law_is_value T) (hr.mono (by first | decide | omega)) (by rfl) T.g_law_is_value T.F_law_is_value.kp T.b_law_is_value .nil pass0 (pa_cons (pe_call (ok_evaluate T) (hr.mono (by first | decide | omega)) (by rfl) T.g_evaluate T.F_evaluate.kp T.b_evaluate .nil pass0 (pa_cons (pv 9) (pa_cons (pv 4) (pa_cons (pv 7) (pa_nil))))) (pa_cons (pe_call (ok_law_evaluated T) (hr.mono (by first | decide | omega)) (by rfl) T.g_law_evaluated T.F_law_evaluated.kp T.b_law_evaluated .nil pass0 (pa_cons (pv 9) (pa_cons (pv 4) (pa_cons (pv 7) (pa_nil))))) (pa_nil))))))
      (pss_one (ps_ret (pe_bl)))
      (pss_nil))))))))
      (pss_one (ps_ret (pe_bl)))))))))), ?_⟩
    refine q_asgL (xs := (draws (cellZ ns 0) 0 3 1000).map V.int) (el_call (ea_cons (ev_call (ea_cons (ev_var rfl) (ea_cons ev_c ea_nil)) (cv_cell (k := 0) hS)) (ea_cons ev_c (ea_cons ev_c (ea_cons ev_c ea_nil)))) (cl_draws (count := 3) (Wd.cell hw 0) (by decide) (by decide) (by decide) (by decide))) fun hl H1 n1 e1 h1 => ?_
    have gl : (draws (cellZ ns 0) 0 3 1000).length = 3 := draws_len ..
    have gw : ∀ x ∈ draws (cellZ ns 0) 0 3 1000, 0 ≤ x ∧ x < 1000000000 := draws_lt (by decide) (by decide) 3
    generalize draws (cellZ ns 0) 0 3 1000 = gs at h1 gl gw
    have num : ∀ {H' : Hp} {σ : L2.St} {j : Nat}, Ex H1 H' → σ[1]? = some (some (V.ref hl)) → j < 3 → Ev (tOp (rIxL K) (tVar 1) (tC (.int (j : Int)))) σ H' (.int (gs.getD j 0)) := fun {H' σ j} e hσ hj => ev_ixL (K := K) (ev_var hσ) ev_c (sq_of (e _ _ h1)) (at_nat (by
      rw [List.getElem?_map, List.getD_eq_getElem?_getD, List.getElem?_eq_getElem (by omega)] <;> rfl))
    have th : ∀ {H' : Hp} {σ : L2.St} {te : TE} {E : XK} {k : Nat}, Ex H H' → σ[0]? = some (some (V.ref a)) → k ≤ 100 → Ev te σ H' (.int (k : Int)) → Ev (tCall (sp_thing K) [] E (tCons (tVar 0) (tCons te tNil))) σ H' (.int (thingZ ns k)) := fun e hσ hk ht => ev_call (ea_cons (ev_var hσ) (ea_cons ht ea_nil)) (cv_thing (ex_l e hS) hw (by omega))
    have cs_at : ∀ (d n k : Nat) (y : V), k < n → (((List.range n).map fun k => thingZ ns (d + k)).map V.int)[k]? = some y → y = .int (thingZ ns (d + k)) := fun d n k y hk hy => by
      rw [List.getElem?_map, List.getElem?_map, List.getElem?_range hk] at hy
      exact (Option.some.inj hy).symm
    have cs_w : ∀ (d n : Nat), d ≤ 50 → n ≤ 6 → ∀ c ∈ (List.range n).map fun k => thingZ ns (d + k), Wd c := fun d n hd hn c hc => by
      obtain ⟨k, hk, rfl⟩ := List.mem_map.mp hc
      have := List.mem_range.mp hk
      exact Wd.thing hw (by omega)
    have cs_l : ∀ d n : Nat, ((List.range n).map fun k => thingZ ns (d + k)).length = n := fun d n => by rw [List.length_map, List.length_range]
    refine q_asgK (ea_l1 (el_mapR (n := 4) (ys := ((List.range 4).map fun k => thingZ ns (1 + k)).map V.int) (ea_cons ev_c ea_nil) (by decide) (fun x => rfl) (by rw [List.length_map, cs_l]) ?_) fun p2 H2 _ e2 hp2 => ⟨p2, _, rfl, sq_of hp2, by rw [cs_l]; decide, cs_w 1 4 (by decide) (by decide), fun nl zs H3 e3 hnl hzl hz hnd => ?_⟩)
    · intro k y hk hy H5 e5
      rw [cs_at 1 4 k y hk hy]
      exact th (e1.trans e5) rfl (by omega) (ev_is (ev_bin0 ev_c (ev_var rfl)) (congrArg V.int (show (1 : Int) + (k : Int) = ((1 + k : Nat) : Int) by omega)))
    rw [cs_l] at hzl
    have E3 := (e1.trans e2).trans e3
    refine q_asgL (xs := []) (el_lst ea_nil (by decide)) fun cl H4 n4 e4 h4 => ?_
    have m0 := Int.emod_nonneg (gs.getD 0 0) (by decide : (4 : Int) ≠ 0)
    have m1 := Int.emod_lt_of_pos (gs.getD 0 0) (by decide : (0 : Int) < 4)
    obtain ⟨m, hm⟩ : ∃ m : Nat, 1 + gs.getD 0 0 % 4 = (m : Int) := ⟨(1 + gs.getD 0 0 % 4).toNat, (Int.toNat_of_nonneg (by omega)).symm⟩
    refine q_forR1 (n := (m : Int)) (ea_cons (ev_is (ev_bin0 ev_c (ev_bin (ev_intI (num (j := 0) ((e2.trans e3).trans e4) rfl (by decide))) ev_c (by decide))) (congrArg V.int hm)) ea_nil) (by omega) (fun i σ' H' => ∃ (cs : Cols) (us : List V) (x3 : Option V), σ' = [some (.ref a), some (.ref hl), some (.ref nl), x3, some (.ref cl), none, none, none, none, none, none] ∧ H' cl = some (.lst us) ∧ DpAll K H' us (cs.map fun c => .tuple [.str c.1, .str c.2.s]) ∧ cs.map Prod.fst = zs.take i ∧ (∀ c ∈ cs, c.2 ≠ .truth) ∧ Ex H3 H') (fun H5 e5 => ⟨[], [], _, rfl, e5 _ _ h4, .nil, rfl, (fun c hc => nomatch hc), e4.trans e5⟩) (fun i σ' H' hi hP => ?_) (fun σ' H' hP => ?_)
    · obtain ⟨cs, us, x3, rfl, hcl, hd, hf, hk, eH⟩ := hP
      have hi4 : i < 4 := by omega
      obtain ⟨z, hz1⟩ : ∃ z, zs[i]? = some z := ⟨_, List.getElem?_eq_getElem (by omega)⟩
      obtain ⟨pw, hpw, hpp⟩ : ∃ pw : Int, ([.int 1, .int 2, .int 4, .int 8] : List V)[i]? = some (.int pw) ∧ CDivW 0 pw := by
        have hh : i = 0 ∨ i = 1 ∨ i = 2 ∨ i = 3 := by omega
        rcases hh with e | e | e | e <;> rw [e]
        · exact ⟨1, rfl, by decide, by decide⟩
        · exact ⟨2, rfl, by decide, by decide⟩
        · exact ⟨4, rfl, by decide, by decide⟩
        · exact ⟨8, rfl, by decide, by decide⟩
      have q0 := Int.emod_nonneg (gs.getD 1 0 / pw) (by decide : (2 : Int) ≠ 0)
      have q1 := Int.emod_lt_of_pos (gs.getD 1 0 / pw) (by decide : (0 : Int) < 2)
      obtain ⟨k, hkk, hkt⟩ : ∃ k : Kd, ([.str (Str.ofString "int"), .str (Str.ofString "text")] : List V)[(gs.getD 1 0 / pw % 2).toNat]? = some (.str k.s) ∧ k ≠ .truth := by
        have hh : gs.getD 1 0 / pw % 2 = 0 ∨ gs.getD 1 0 / pw % 2 = 1 := by omega
        rcases hh with e | e <;> rw [e]
        · exact ⟨.int, rfl, by decide⟩
        · exact ⟨.text, rfl, by decide⟩
      have eN := (e2.trans e3).trans eH
      have hcsl : cs.length ≤ 4 := by
        have := congrArg List.length hf
        rw [List.length_map, List.length_take] at this
        omega
      have hul : us.length < 100000 := by
        rw [dpa_len hd, List.length_map]
        omega
      have shz : ∀ c ∈ cs, SeqAt.shaped (.str c.1) = true := fun c hc => by
        have h1 : c.1 ∈ zs.take i := by rw [← hf]; exact List.mem_map.mpr ⟨c, hc, rfl⟩
        exact (hz _ (List.mem_of_mem_take h1)).tx.sh
      have shz1 : SeqAt.shaped (.str z) = true := (hz _ (List.mem_of_getElem? hz1)).tx.sh
      refine s_appU (l := cl) (xs := us) (ys := [.str z, .str k.s]) hcl (ev_var rfl) (eu_tup (ea_cons (ev_ixL (K := K) (ev_var rfl) (ev_var rfl) (sq_of (eH _ _ hnl)) (at_nat (by rw [List.getElem?_map, hz1] <;> rfl))) (ea_cons (ev_ixN (K := K) (xs := [.str (Str.ofString "int"), .str (Str.ofString "text")]) (i := gs.getD 1 0 / pw % 2) (el_lst (ea_cons ev_c (ea_cons ev_c ea_nil)) (by show 2 ≤ 100000; decide)) (fun H5 e5 => ev_bin (ev_intI (ev_bin (num (j := 1) (eN.trans e5) rfl (by decide)) (ev_ixN (K := K) (xs := [.int 1, .int 2, .int 4, .int 8]) (i := (i : Int)) (el_lst (ea_cons ev_c (ea_cons ev_c (ea_cons ev_c (ea_cons ev_c ea_nil)))) (by show 4 ≤ 100000; decide)) (fun H6 e6 => ev_var rfl) (at_nat hpw)) hpp)) ev_c (by decide)) (atI_of q0 hkk)) ea_nil)) (by show 2 ≤ 100000; decide)) hul fun pc H5 hpc e5 h5 => ⟨cs ++ [(z, k)], us ++ [.ref pc], _, rfl, upd_same, ?_, ?_, ?_, ?_⟩
      · rw [List.map_append]
        refine dpa_app (dpa_monoN (n := 1) (ExN.upd (e5 _ _ hcl)) (fun d hd2 => ?_) (dpa_mono e5 hd)) (.cons (dp_monoN (ExN.upd (e5 _ _ hcl)) (col_fl shz1 (kd_sh k)) (.tup (st_of h5) (.cons (.str z) (.cons (.str _) .nil)))) .nil)
        obtain ⟨c, hc, rfl⟩ := List.mem_map.mp hd2
        exact col_fl (shz c hc) (kd_sh _)
      · rw [List.map_append, hf, List.take_add_one, hz1] <;> rfl
      · intro c hc
        rcases List.mem_append.mp hc with h | h
        · exact hk c h
        · rw [List.mem_singleton.mp h]
          exact hkt
      · exact (eH.trans e5).mut n4
    · obtain ⟨cs, us, x3, rfl, hcl, hd, hf, hk, eH⟩ := hP
      have hmt : ((m : Int)).toNat = m := by omega
      rw [hmt] at hf
      have hcsl : cs.length = m := by
        have := congrArg List.length hf
        rw [List.length_map, List.length_take] at this
        omega
      have hco : ColsOk cs := fun i c hc => by
        have hm := List.mem_of_getElem? hc
        have h1 : c.1 ∈ zs.take m := by rw [← hf]; exact List.mem_map.mpr ⟨c, hm, rfl⟩
        refine ⟨(hz _ (List.mem_of_mem_take h1)).tx.sh, hk c hm, ?_⟩
        rw [find_nd (by rw [hf]; exact hnd.sublist (List.take_sublist _ _)) hc] <;> rfl
      refine q_asgK ⟨_, rfl, cl, us, rfl, .inl ⟨sq_of hcl, fun ct hct => ?_⟩⟩
      have E5 := (E3.trans eH).trans (Ex.new (o := .tup us) hct)
      have hC5 : Dp K (upd H' ct (.tup us)) (.ref ct) (colsD cs) := .tup (st_of upd_same) (dpa_mono (Ex.new hct) hd)
      generalize upd H' ct (.tup us) = H5 at E5 hC5
      refine q_asgK (ea_l2 (el_mapR (n := 6) (ys := ((List.range 6).map fun k => thingZ ns (8 + k)).map V.int) (ea_cons ev_c ea_nil) (by decide) (fun x => rfl) (by rw [List.length_map, cs_l]) ?_) rfl fun p6 H6 _ e6 hp6 => ⟨p6, _, .ref ct, cs, rfl, sq_of hp6, by rw [cs_l]; decide, cs_w 8 6 (by decide) (by decide), dp_mono e6 hC5, by omega, by omega, hco, fun l1 es1 H7 _ e7 hl1 hn1 ht1 => ?_⟩)
      · intro k y hk hy H9 e9
        rw [cs_at 8 6 k y hk hy]
        exact th (E5.trans e9) rfl (by omega) (ev_is (ev_bin0 ev_c (ev_var rfl)) (congrArg V.int (show (8 : Int) + (k : Int) = ((8 + k : Nat) : Int) by omega)))
      have E7 := (E5.trans e6).trans e7
      refine q_asgK ⟨_, rfl, ea_l2 (el_mapR (n := 6) (ys := ((List.range 6).map fun k => thingZ ns (14 + k)).map V.int) (ea_cons ev_c ea_nil) (by decide) (fun x => rfl) (by rw [List.length_map, cs_l]) ?_) rfl fun p8 H8 _ e8 hp8 => ⟨p8, _, .ref ct, cs, rfl, sq_of hp8, by rw [cs_l]; decide, cs_w 14 6 (by decide) (by decide), dp_mono ((e6.trans e7).trans e8) hC5, by omega, by omega, hco, fun l2 es2 H9 _ e9 hl2 hn2 ht2 => ⟨l1, l2, es1, es2, rfl, rfl, (e8.trans e9) _ _ hl1, hl2, sz_of (by omega), fun l3 hl3 => ?_⟩⟩⟩
      · intro k y hk hy H9 e9
        rw [cs_at 14 6 k y hk hy]
        exact th (E7.trans e9) rfl (by omega) (ev_is (ev_bin0 ev_c (ev_var rfl)) (congrArg V.int (show (14 : Int) + (k : Int) = ((14 + k : Nat) : Int) by omega)))
      have eX := Ex.new (o := .lst (es1 ++ es2)) hl3
      have E10 := (E7.trans (e8.trans e9)).trans eX
      have hC10 := dp_mono (((e6.trans e7).trans (e8.trans e9)).trans eX) hC5
      have hT10 : ∀ v ∈ es1 ++ es2, EnT K (upd H9 l3 (.lst (es1 ++ es2))) cs 12 v := fun v hv => by
        rcases List.mem_append.mp hv with h | h
        · exact (ht1 v h).mono ((e8.trans e9).trans eX) (Nat.le_refl _)
        · exact (ht2 v h).mono eX (Nat.le_refl _)
      have hl10 : (upd H9 l3 (.lst (es1 ++ es2))) l3 = some (.lst (es1 ++ es2)) := upd_same
      generalize upd H9 l3 (.lst (es1 ++ es2)) = H10 at E10 hC10 hT10 hl10
      refine q_forR1 (n := 3) (ea_cons ev_c ea_nil) (by decide) (fun i σ' H' => ∃ (y3 y6 y7 y8 y9 y10 : Option V), σ' = [some (.ref a), some (.ref hl), some (.ref nl), y3, some (.ref ct), some (.ref l3), y6, y7, y8, y9, y10] ∧ Ex H10 H') (fun H11 e11 => ⟨_, _, _, _, _, _, rfl, e11⟩) (fun i σ' H' hi hP => ?_) (fun σ' H' hP => ?_)
      · obtain ⟨y3, y6, y7, y8, y9, y10, rfl, eI⟩ := hP
        have hi3 : i < 3 := by omega
        refine q_asgL (xs := (draws (thingZ ns (5 + i)) 83 4 (10 ^ 64)).map V.int) (el_call (ea_cons (th (E10.trans eI) rfl (by omega) (ev_is (ev_bin0 ev_c (ev_var rfl)) (congrArg V.int (show (5 : Int) + (i : Int) = ((5 + i : Nat) : Int) by omega)))) (ea_cons ev_c (ea_cons ev_c (ea_cons (ev_bin ev_c ev_c ⟨by decide, by decide, by decide⟩) ea_nil)))) (cl_draws (count := 4) (Wd.thing hw (by omega)) (by decide) (by decide) (by decide) (by decide +kernel))) fun pl H11 _ e11 hpl => ?_
        have pll : (draws (thingZ ns (5 + i)) 83 4 (10 ^ 64)).length = 4 := draws_len ..
        have plw : ∀ x ∈ draws (thingZ ns (5 + i)) 83 4 (10 ^ 64), 0 ≤ x ∧ Wd x := draws_ok (Wd.thing hw (by omega)) (by decide) (Wd.lit (by decide)) 4
        generalize draws (thingZ ns (5 + i)) 83 4 (10 ^ 64) = ps at hpl pll plw
        have hC11 := dp_mono (eI.trans e11) hC10
        obtain ⟨ct2, xs, ect, hxs, hxl, hxat⟩ := cols_at hC11
        cases ect
        refine q_asgK (tc_one (lcR_ex (n := m) (R := fun i v => ∃ c, cs[i]? = some c ∧ VK' c.2 v) (ea_cons (ev_is (ev_lenT (K := K) (ev_var rfl) hxs) (congrArg V.int (by rw [hxl, hcsl]))) ea_nil) (by omega) (fun x => rfl) (fun j H12 hj e12 Q1 q1 => ?_) _ fun pr rs H12 _ e12 hrs hrl hrv => ⟨pr, rs, rfl, .inl ⟨sq_of hrs, fun rt hrt => ?_⟩⟩))
        · obtain ⟨u, hu⟩ : ∃ u, xs[j]? = some u := ⟨_, List.getElem?_eq_getElem (by omega)⟩
          obtain ⟨pc, c, hc, rfl, hpS⟩ := hxat _ _ hu
          obtain ⟨pn, hpn⟩ : ∃ pn, ps[j]? = some pn := ⟨_, List.getElem?_eq_getElem (by omega)⟩
          exact (ea_cons (ev_ixT (K := K) (ev_ixT (K := K) (ev_var rfl) (ev_var rfl) (ex_t e12 hxs) (at_nat hu)) ev_c (ex_t e12 hpS) (at_nat (j := 1) rfl)) (ea_cons (ev_ixL (K := K) (ev_var rfl) (ev_var rfl) (sq_of (e12 _ _ hpl)) (at_nat (by rw [List.getElem?_map, hpn] <;> rfl))) ea_nil)) H12 (Ex.refl _) _ fun H13 e13 => ⟨c.2, pn, rfl, (hco _ _ hc).2.1, (plw _ (List.mem_of_getElem? hpn)).2, fun v H14 e14 hv => q1 v H14 (e13.trans e14) ⟨c, hc, hv⟩⟩
        have hro : RowOk cs rs := row_ok (by omega) hrv
        have eR := Ex.new (o := .tup rs) hrt
        have hR : SqT K (upd H12 rt (.tup rs)) rt rs := st_of upd_same
        have E13 := (eI.trans e11).trans (e12.trans eR)
        generalize upd H12 rt (.tup rs) = H13 at hR E13
        have hC13 := dp_mono E13 hC10
        refine s_forL (K := K) (xs := es1 ++ es2) (ev_var rfl) (sq_of (E13 _ _ hl10)) (fun _ σ' H' => ∃ (y9 y10 : Option V), σ' = [some (.ref a), some (.ref hl), some (.ref nl), some (.int (i : Int)), some (.ref ct), some (.ref l3), some (.ref pl), some (.ref rt), y8, y9, y10] ∧ Ex H13 H') (fun H14 e14 => ⟨_, _, rfl, e14⟩) (fun i2 σ' H' _ hP => ?_) (fun i2 x σ' H' hx hP => ?_) (fun σ' H' hP => ?_)
        · obtain ⟨y9, y10, rfl, eJ⟩ := hP
          exact sq_of ((E13.trans eJ) _ _ hl10)
        · obtain ⟨y9, y10, rfl, eJ⟩ := hP
          obtain ⟨re, vt, t, k, rfl, t1, t2, t3, t4⟩ := hT10 x (List.mem_of_getElem? hx)
          refine ⟨re, [vt, .str k.s], rfl, ex_t (E13.trans eJ) t1, rfl, vt, _, rfl, .str k.s, _, rfl, rfl, ?_⟩
          have cv : ∀ {H2 : Hp}, Ex H13 H2 → SpV (spEv K 16) [vt, .ref ct, .ref rt] H2 (evT cs rs t) := fun {H2} e => cv_ev (dp_mono (E13.trans e) t2) (by omega) t3 (dp_mono e hC13) (ex_t e hR) hro (by omega)
          exact s_when (b := false) (et_is (et_not (et_B (ev_call (ea_cons (ev_call (ea_cons (ev_var rfl) (ea_cons (ev_var rfl) (ea_cons (ev_var rfl) ea_nil))) (cv eJ)) (ea_cons (ev_call (ea_cons (ev_var rfl) (ea_cons (ev_var rfl) (ea_cons (ev_var rfl) ea_nil))) (cv eJ)) ea_nil)) (cv_isval (ev_ok hro t3).flat)))) rfl) (fun z => nomatch z) fun _ H14 e14 => ⟨_, _, rfl, eJ.trans e14⟩
        · obtain ⟨y9, y10, rfl, eJ⟩ := hP
          exact ⟨_, _, _, _, _, _, rfl, E13.trans eJ⟩
      · obtain ⟨y3, y6, y7, y8, y9, y10, rfl, eI⟩ := hP
        exact s_ret ev_c fun H2 e2 => q H2


end

theorem all_mk {l : PySem.W.OpenLaw} {w : World} {K : PySem.W.Frag} {h : Heap} {mg : Str → Option Value} {fa f_law_cell f_law_draws f_law_char f_law_text f_law_literal f_law_operator f_law_turned f_law_drawn f_law_compared f_law_evaluated f_law_is_value f_law_integer f_law_small f_law_thing f_law_free f_law_name f_law_names f_law_words f_bounded f_compare f_compute f_place f_evaluate f_law : Addr} (X : K.In h) (G : h.Ns mainGlobals mg) (hfa : mg "law" = some (.ref fa))
    {od_law_cell an_law_cell : Option Addr} {sl_law_cell : Array (Option Value)} {oc_law_cell kV_law_cell dc_law_cell pm_law_cell cd_law_cell ct_law_cell : Value}
    {od_law_draws an_law_draws : Option Addr} {sl_law_draws : Array (Option Value)} {oc_law_draws kV_law_draws dc_law_draws pm_law_draws cd_law_draws ct_law_draws : Value}
    {od_law_char an_law_char : Option Addr} {sl_law_char : Array (Option Value)} {oc_law_char kV_law_char dc_law_char pm_law_char cd_law_char ct_law_char : Value}
    {od_law_text an_law_text : Option Addr} {sl_law_text : Array (Option Value)} {oc_law_text kV_law_text dc_law_text pm_law_text cd_law_text ct_law_text : Value}
    {od_law_literal an_law_literal : Option Addr} {sl_law_literal : Array (Option Value)} {oc_law_literal kV_law_literal dc_law_literal pm_law_literal cd_law_literal ct_law_literal : Value}
    {od_law_operator an_law_operator : Option Addr} {sl_law_operator : Array (Option Value)} {oc_law_operator kV_law_operator dc_law_operator pm_law_operator cd_law_operator ct_law_operator : Value}
    {od_law_turned an_law_turned : Option Addr} {sl_law_turned : Array (Option Value)} {oc_law_turned kV_law_turned dc_law_turned pm_law_turned cd_law_turned ct_law_turned : Value}
    {od_law_drawn an_law_drawn : Option Addr} {sl_law_drawn : Array (Option Value)} {oc_law_drawn kV_law_drawn dc_law_drawn pm_law_drawn cd_law_drawn ct_law_drawn : Value}
    {od_law_compared an_law_compared : Option Addr} {sl_law_compared : Array (Option Value)} {oc_law_compared kV_law_compared dc_law_compared pm_law_compared cd_law_compared ct_law_compared : Value}
    {od_law_evaluated an_law_evaluated : Option Addr} {sl_law_evaluated : Array (Option Value)} {oc_law_evaluated kV_law_evaluated dc_law_evaluated pm_law_evaluated cd_law_evaluated ct_law_evaluated : Value}
    {od_law_is_value an_law_is_value : Option Addr} {sl_law_is_value : Array (Option Value)} {oc_law_is_value kV_law_is_value dc_law_is_value pm_law_is_value cd_law_is_value ct_law_is_value : Value}
    {od_law_integer an_law_integer : Option Addr} {sl_law_integer : Array (Option Value)} {oc_law_integer kV_law_integer dc_law_integer pm_law_integer cd_law_integer ct_law_integer : Value}
    {od_law_small an_law_small : Option Addr} {sl_law_small : Array (Option Value)} {oc_law_small kV_law_small dc_law_small pm_law_small cd_law_small ct_law_small : Value}
    {od_law_thing an_law_thing : Option Addr} {sl_law_thing : Array (Option Value)} {oc_law_thing kV_law_thing dc_law_thing pm_law_thing cd_law_thing ct_law_thing : Value}
    {od_law_free an_law_free : Option Addr} {sl_law_free : Array (Option Value)} {oc_law_free kV_law_free dc_law_free pm_law_free cd_law_free ct_law_free : Value}
    {od_law_name an_law_name : Option Addr} {sl_law_name : Array (Option Value)} {oc_law_name kV_law_name dc_law_name pm_law_name cd_law_name ct_law_name : Value}
    {od_law_names an_law_names : Option Addr} {sl_law_names : Array (Option Value)} {oc_law_names kV_law_names dc_law_names pm_law_names cd_law_names ct_law_names : Value}
    {od_law_words an_law_words : Option Addr} {sl_law_words : Array (Option Value)} {oc_law_words kV_law_words dc_law_words pm_law_words cd_law_words ct_law_words : Value}
    {od_bounded an_bounded : Option Addr} {sl_bounded : Array (Option Value)} {oc_bounded kV_bounded dc_bounded pm_bounded cd_bounded ct_bounded : Value}
    {od_compare an_compare : Option Addr} {sl_compare : Array (Option Value)} {oc_compare kV_compare dc_compare pm_compare cd_compare ct_compare : Value}
    {od_compute an_compute : Option Addr} {sl_compute : Array (Option Value)} {oc_compute kV_compute dc_compute pm_compute cd_compute ct_compute : Value}
    {od_place an_place : Option Addr} {sl_place : Array (Option Value)} {oc_place kV_place dc_place pm_place cd_place ct_place : Value}
    {od_evaluate an_evaluate : Option Addr} {sl_evaluate : Array (Option Value)} {oc_evaluate kV_evaluate dc_evaluate pm_evaluate cd_evaluate ct_evaluate : Value}
    {od_law an_law : Option Addr} {sl_law : Array (Option Value)} {oc_law kV_law dc_law pm_law cd_law ct_law : Value}
    {t_BOUND : Tok}
    (a_law_cell : PySem.W.nsIn K mainGlobals "_law_cell" = some (some (.ref f_law_cell))) (l_law_cell : K.lookup f_law_cell = some ⟨oc_law_cell, od_law_cell, .func (PySem.W.fnOf "_law_cell" "_law_cell" (defArgs s_law_cell) (defBody s_law_cell) (defScope s_law_cell) .none kV_law_cell dc_law_cell pm_law_cell an_law_cell cd_law_cell ct_law_cell), sl_law_cell⟩) (c_law_cell : PySem.W.codeIn K cd_law_cell "_law_cell" = true) (k_law_cell : PySem.W.keepIn K (.ref f_law_cell) = true)
    (a_law_draws : PySem.W.nsIn K mainGlobals "_law_draws" = some (some (.ref f_law_draws))) (l_law_draws : K.lookup f_law_draws = some ⟨oc_law_draws, od_law_draws, .func (PySem.W.fnOf "_law_draws" "_law_draws" (defArgs s_law_draws) (defBody s_law_draws) (defScope s_law_draws) .none kV_law_draws dc_law_draws pm_law_draws an_law_draws cd_law_draws ct_law_draws), sl_law_draws⟩) (c_law_draws : PySem.W.codeIn K cd_law_draws "_law_draws" = true) (k_law_draws : PySem.W.keepIn K (.ref f_law_draws) = true)
    (a_law_char : PySem.W.nsIn K mainGlobals "_law_char" = some (some (.ref f_law_char))) (l_law_char : K.lookup f_law_char = some ⟨oc_law_char, od_law_char, .func (PySem.W.fnOf "_law_char" "_law_char" (defArgs s_law_char) (defBody s_law_char) (defScope s_law_char) .none kV_law_char dc_law_char pm_law_char an_law_char cd_law_char ct_law_char), sl_law_char⟩) (c_law_char : PySem.W.codeIn K cd_law_char "_law_char" = true) (k_law_char : PySem.W.keepIn K (.ref f_law_char) = true)
    (a_law_text : PySem.W.nsIn K mainGlobals "_law_text" = some (some (.ref f_law_text))) (l_law_text : K.lookup f_law_text = some ⟨oc_law_text, od_law_text, .func (PySem.W.fnOf "_law_text" "_law_text" (defArgs s_law_text) (defBody s_law_text) (defScope s_law_text) .none kV_law_text dc_law_text pm_law_text an_law_text cd_law_text ct_law_text), sl_law_text⟩) (c_law_text : PySem.W.codeIn K cd_law_text "_law_text" = true) (k_law_text : PySem.W.keepIn K (.ref f_law_text) = true)
    (a_law_literal : PySem.W.nsIn K mainGlobals "_law_literal" = some (some (.ref f_law_literal))) (l_law_literal : K.lookup f_law_literal = some ⟨oc_law_literal, od_law_literal, .func (PySem.W.fnOf "_law_literal" "_law_literal" (defArgs s_law_literal) (defBody s_law_literal) (defScope s_law_literal) .none kV_law_literal dc_law_literal pm_law_literal an_law_literal cd_law_literal ct_law_literal), sl_law_literal⟩) (c_law_literal : PySem.W.codeIn K cd_law_literal "_law_literal" = true) (k_law_literal : PySem.W.keepIn K (.ref f_law_literal) = true)
    (a_law_operator : PySem.W.nsIn K mainGlobals "_law_operator" = some (some (.ref f_law_operator))) (l_law_operator : K.lookup f_law_operator = some ⟨oc_law_operator, od_law_operator, .func (PySem.W.fnOf "_law_operator" "_law_operator" (defArgs s_law_operator) (defBody s_law_operator) (defScope s_law_operator) .none kV_law_operator dc_law_operator pm_law_operator an_law_operator cd_law_operator ct_law_operator), sl_law_operator⟩) (c_law_operator : PySem.W.codeIn K cd_law_operator "_law_operator" = true) (k_law_operator : PySem.W.keepIn K (.ref f_law_operator) = true)
    (a_law_turned : PySem.W.nsIn K mainGlobals "_law_turned" = some (some (.ref f_law_turned))) (l_law_turned : K.lookup f_law_turned = some ⟨oc_law_turned, od_law_turned, .func (PySem.W.fnOf "_law_turned" "_law_turned" (defArgs s_law_turned) (defBody s_law_turned) (defScope s_law_turned) .none kV_law_turned dc_law_turned pm_law_turned an_law_turned cd_law_turned ct_law_turned), sl_law_turned⟩) (c_law_turned : PySem.W.codeIn K cd_law_turned "_law_turned" = true) (k_law_turned : PySem.W.keepIn K (.ref f_law_turned) = true)
    (a_law_drawn : PySem.W.nsIn K mainGlobals "_law_drawn" = some (some (.ref f_law_drawn))) (l_law_drawn : K.lookup f_law_drawn = some ⟨oc_law_drawn, od_law_drawn, .func (PySem.W.fnOf "_law_drawn" "_law_drawn" (defArgs s_law_drawn) (defBody s_law_drawn) (defScope s_law_drawn) .none kV_law_drawn dc_law_drawn pm_law_drawn an_law_drawn cd_law_drawn ct_law_drawn), sl_law_drawn⟩) (c_law_drawn : PySem.W.codeIn K cd_law_drawn "_law_drawn" = true) (k_law_drawn : PySem.W.keepIn K (.ref f_law_drawn) = true)
    (a_law_compared : PySem.W.nsIn K mainGlobals "_law_compared" = some (some (.ref f_law_compared))) (l_law_compared : K.lookup f_law_compared = some ⟨oc_law_compared, od_law_compared, .func (PySem.W.fnOf "_law_compared" "_law_compared" (defArgs s_law_compared) (defBody s_law_compared) (defScope s_law_compared) .none kV_law_compared dc_law_compared pm_law_compared an_law_compared cd_law_compared ct_law_compared), sl_law_compared⟩) (c_law_compared : PySem.W.codeIn K cd_law_compared "_law_compared" = true) (k_law_compared : PySem.W.keepIn K (.ref f_law_compared) = true)
    (a_law_evaluated : PySem.W.nsIn K mainGlobals "_law_evaluated" = some (some (.ref f_law_evaluated))) (l_law_evaluated : K.lookup f_law_evaluated = some ⟨oc_law_evaluated, od_law_evaluated, .func (PySem.W.fnOf "_law_evaluated" "_law_evaluated" (defArgs s_law_evaluated) (defBody s_law_evaluated) (defScope s_law_evaluated) .none kV_law_evaluated dc_law_evaluated pm_law_evaluated an_law_evaluated cd_law_evaluated ct_law_evaluated), sl_law_evaluated⟩) (c_law_evaluated : PySem.W.codeIn K cd_law_evaluated "_law_evaluated" = true) (k_law_evaluated : PySem.W.keepIn K (.ref f_law_evaluated) = true)
    (a_law_is_value : PySem.W.nsIn K mainGlobals "_law_is_value" = some (some (.ref f_law_is_value))) (l_law_is_value : K.lookup f_law_is_value = some ⟨oc_law_is_value, od_law_is_value, .func (PySem.W.fnOf "_law_is_value" "_law_is_value" (defArgs s_law_is_value) (defBody s_law_is_value) (defScope s_law_is_value) .none kV_law_is_value dc_law_is_value pm_law_is_value an_law_is_value cd_law_is_value ct_law_is_value), sl_law_is_value⟩) (c_law_is_value : PySem.W.codeIn K cd_law_is_value "_law_is_value" = true) (k_law_is_value : PySem.W.keepIn K (.ref f_law_is_value) = true)
    (a_law_integer : PySem.W.nsIn K mainGlobals "_law_integer" = some (some (.ref f_law_integer))) (l_law_integer : K.lookup f_law_integer = some ⟨oc_law_integer, od_law_integer, .func (PySem.W.fnOf "_law_integer" "_law_integer" (defArgs s_law_integer) (defBody s_law_integer) (defScope s_law_integer) .none kV_law_integer dc_law_integer pm_law_integer an_law_integer cd_law_integer ct_law_integer), sl_law_integer⟩) (c_law_integer : PySem.W.codeIn K cd_law_integer "_law_integer" = true) (k_law_integer : PySem.W.keepIn K (.ref f_law_integer) = true)
    (a_law_small : PySem.W.nsIn K mainGlobals "_law_small" = some (some (.ref f_law_small))) (l_law_small : K.lookup f_law_small = some ⟨oc_law_small, od_law_small, .func (PySem.W.fnOf "_law_small" "_law_small" (defArgs s_law_small) (defBody s_law_small) (defScope s_law_small) .none kV_law_small dc_law_small pm_law_small an_law_small cd_law_small ct_law_small), sl_law_small⟩) (c_law_small : PySem.W.codeIn K cd_law_small "_law_small" = true) (k_law_small : PySem.W.keepIn K (.ref f_law_small) = true)
    (a_law_thing : PySem.W.nsIn K mainGlobals "_law_thing" = some (some (.ref f_law_thing))) (l_law_thing : K.lookup f_law_thing = some ⟨oc_law_thing, od_law_thing, .func (PySem.W.fnOf "_law_thing" "_law_thing" (defArgs s_law_thing) (defBody s_law_thing) (defScope s_law_thing) .none kV_law_thing dc_law_thing pm_law_thing an_law_thing cd_law_thing ct_law_thing), sl_law_thing⟩) (c_law_thing : PySem.W.codeIn K cd_law_thing "_law_thing" = true) (k_law_thing : PySem.W.keepIn K (.ref f_law_thing) = true)
    (a_law_free : PySem.W.nsIn K mainGlobals "_law_free" = some (some (.ref f_law_free))) (l_law_free : K.lookup f_law_free = some ⟨oc_law_free, od_law_free, .func (PySem.W.fnOf "_law_free" "_law_free" (defArgs s_law_free) (defBody s_law_free) (defScope s_law_free) .none kV_law_free dc_law_free pm_law_free an_law_free cd_law_free ct_law_free), sl_law_free⟩) (c_law_free : PySem.W.codeIn K cd_law_free "_law_free" = true) (k_law_free : PySem.W.keepIn K (.ref f_law_free) = true)
    (a_law_name : PySem.W.nsIn K mainGlobals "_law_name" = some (some (.ref f_law_name))) (l_law_name : K.lookup f_law_name = some ⟨oc_law_name, od_law_name, .func (PySem.W.fnOf "_law_name" "_law_name" (defArgs s_law_name) (defBody s_law_name) (defScope s_law_name) .none kV_law_name dc_law_name pm_law_name an_law_name cd_law_name ct_law_name), sl_law_name⟩) (c_law_name : PySem.W.codeIn K cd_law_name "_law_name" = true) (k_law_name : PySem.W.keepIn K (.ref f_law_name) = true)
    (a_law_names : PySem.W.nsIn K mainGlobals "_law_names" = some (some (.ref f_law_names))) (l_law_names : K.lookup f_law_names = some ⟨oc_law_names, od_law_names, .func (PySem.W.fnOf "_law_names" "_law_names" (defArgs s_law_names) (defBody s_law_names) (defScope s_law_names) .none kV_law_names dc_law_names pm_law_names an_law_names cd_law_names ct_law_names), sl_law_names⟩) (c_law_names : PySem.W.codeIn K cd_law_names "_law_names" = true) (k_law_names : PySem.W.keepIn K (.ref f_law_names) = true)
    (a_law_words : PySem.W.nsIn K mainGlobals "_law_words" = some (some (.ref f_law_words))) (l_law_words : K.lookup f_law_words = some ⟨oc_law_words, od_law_words, .func (PySem.W.fnOf "_law_words" "_law_words" (defArgs s_law_words) (defBody s_law_words) (defScope s_law_words) .none kV_law_words dc_law_words pm_law_words an_law_words cd_law_words ct_law_words), sl_law_words⟩) (c_law_words : PySem.W.codeIn K cd_law_words "_law_words" = true) (k_law_words : PySem.W.keepIn K (.ref f_law_words) = true)
    (a_bounded : PySem.W.nsIn K mainGlobals "_bounded" = some (some (.ref f_bounded))) (l_bounded : K.lookup f_bounded = some ⟨oc_bounded, od_bounded, .func (PySem.W.fnOf "_bounded" "_bounded" (defArgs s_bounded) (defBody s_bounded) (defScope s_bounded) .none kV_bounded dc_bounded pm_bounded an_bounded cd_bounded ct_bounded), sl_bounded⟩) (c_bounded : PySem.W.codeIn K cd_bounded "_bounded" = true) (k_bounded : PySem.W.keepIn K (.ref f_bounded) = true)
    (a_compare : PySem.W.nsIn K mainGlobals "_compare" = some (some (.ref f_compare))) (l_compare : K.lookup f_compare = some ⟨oc_compare, od_compare, .func (PySem.W.fnOf "_compare" "_compare" (defArgs s_compare) (defBody s_compare) (defScope s_compare) .none kV_compare dc_compare pm_compare an_compare cd_compare ct_compare), sl_compare⟩) (c_compare : PySem.W.codeIn K cd_compare "_compare" = true) (k_compare : PySem.W.keepIn K (.ref f_compare) = true)
    (a_compute : PySem.W.nsIn K mainGlobals "_compute" = some (some (.ref f_compute))) (l_compute : K.lookup f_compute = some ⟨oc_compute, od_compute, .func (PySem.W.fnOf "_compute" "_compute" (defArgs s_compute) (defBody s_compute) (defScope s_compute) .none kV_compute dc_compute pm_compute an_compute cd_compute ct_compute), sl_compute⟩) (c_compute : PySem.W.codeIn K cd_compute "_compute" = true) (k_compute : PySem.W.keepIn K (.ref f_compute) = true)
    (a_place : PySem.W.nsIn K mainGlobals "_place" = some (some (.ref f_place))) (l_place : K.lookup f_place = some ⟨oc_place, od_place, .func (PySem.W.fnOf "_place" "_place" (defArgs s_place) (defBody s_place) (defScope s_place) .none kV_place dc_place pm_place an_place cd_place ct_place), sl_place⟩) (c_place : PySem.W.codeIn K cd_place "_place" = true) (k_place : PySem.W.keepIn K (.ref f_place) = true)
    (a_evaluate : PySem.W.nsIn K mainGlobals "evaluate" = some (some (.ref f_evaluate))) (l_evaluate : K.lookup f_evaluate = some ⟨oc_evaluate, od_evaluate, .func (PySem.W.fnOf "evaluate" "evaluate" (defArgs s_evaluate) (defBody s_evaluate) (defScope s_evaluate) .none kV_evaluate dc_evaluate pm_evaluate an_evaluate cd_evaluate ct_evaluate), sl_evaluate⟩) (c_evaluate : PySem.W.codeIn K cd_evaluate "evaluate" = true) (k_evaluate : PySem.W.keepIn K (.ref f_evaluate) = true)
    (a_law : PySem.W.nsIn K mainGlobals "law" = some (some (.ref f_law))) (l_law : K.lookup f_law = some ⟨oc_law, od_law, .func (PySem.W.fnOf "law" "law" (defArgs s_law) (defBody s_law) (defScope s_law) .none kV_law dc_law pm_law an_law cd_law ct_law), sl_law⟩) (c_law : PySem.W.codeIn K cd_law "law" = true) (k_law : PySem.W.keepIn K (.ref f_law) = true)
    (z_abs : PySem.W.nsIn K mainGlobals "abs" = some none)
    (z_bool : PySem.W.nsIn K mainGlobals "bool" = some none)
    (z_int : PySem.W.nsIn K mainGlobals "int" = some none)
    (z_isinstance : PySem.W.nsIn K mainGlobals "isinstance" = some none)
    (z_len : PySem.W.nsIn K mainGlobals "len" = some none)
    (z_range : PySem.W.nsIn K mainGlobals "range" = some none)
    (z_str : PySem.W.nsIn K mainGlobals "str" = some none)
    (z_tuple : PySem.W.nsIn K mainGlobals "tuple" = some none)
    (z_BOUND : PySem.W.nsIn K mainGlobals "BOUND" = some (some (.int 1000000000000000000000000000000000000000000000000000000000000 t_BOUND))) :
    ∃ fd : FuncData, (∀ (s : Shared) (v : Value), BindsTo s fd ⟨[v], []⟩ [("script", v)]) ∧ ∀ base : Heap, K.In base → base.Ns mainGlobals mg → FnOk l.prog w K mg base CX0 20 fa fd ["script"] (spLaw K) := by
  have e := hfa.symm.trans (PySem.W.mg_of X G a_law)
  cases e
  have F_law_cell := fun_mk (st := s_law_cell) l_law_cell c_law_cell k_law_cell
  have F_law_draws := fun_mk (st := s_law_draws) l_law_draws c_law_draws k_law_draws
  have F_law_char := fun_mk (st := s_law_char) l_law_char c_law_char k_law_char
  have F_law_text := fun_mk (st := s_law_text) l_law_text c_law_text k_law_text
  have F_law_literal := fun_mk (st := s_law_literal) l_law_literal c_law_literal k_law_literal
  have F_law_operator := fun_mk (st := s_law_operator) l_law_operator c_law_operator k_law_operator
  have F_law_turned := fun_mk (st := s_law_turned) l_law_turned c_law_turned k_law_turned
  have F_law_drawn := fun_mk (st := s_law_drawn) l_law_drawn c_law_drawn k_law_drawn
  have F_law_compared := fun_mk (st := s_law_compared) l_law_compared c_law_compared k_law_compared
  have F_law_evaluated := fun_mk (st := s_law_evaluated) l_law_evaluated c_law_evaluated k_law_evaluated
  have F_law_is_value := fun_mk (st := s_law_is_value) l_law_is_value c_law_is_value k_law_is_value
  have F_law_integer := fun_mk (st := s_law_integer) l_law_integer c_law_integer k_law_integer
  have F_law_small := fun_mk (st := s_law_small) l_law_small c_law_small k_law_small
  have F_law_thing := fun_mk (st := s_law_thing) l_law_thing c_law_thing k_law_thing
  have F_law_free := fun_mk (st := s_law_free) l_law_free c_law_free k_law_free
  have F_law_name := fun_mk (st := s_law_name) l_law_name c_law_name k_law_name
  have F_law_names := fun_mk (st := s_law_names) l_law_names c_law_names k_law_names
  have F_law_words := fun_mk (st := s_law_words) l_law_words c_law_words k_law_words
  have F_bounded := fun_mk (st := s_bounded) l_bounded c_bounded k_bounded
  have F_compare := fun_mk (st := s_compare) l_compare c_compare k_compare
  have F_compute := fun_mk (st := s_compute) l_compute c_compute k_compute
  have F_place := fun_mk (st := s_place) l_place c_place k_place
  have F_evaluate := fun_mk (st := s_evaluate) l_evaluate c_evaluate k_evaluate
  have F_law := fun_mk (st := s_law) l_law c_law k_law
  let T : Txt K mg := {
    f_law_cell := f_law_cell, d_law_cell := _, F_law_cell := F_law_cell, b_law_cell := (F_law_cell.binds (ps := ["script", "k"]) fun _ _ _ _ _ _ us hl => match us, hl with | [_, _], _ => rfl),
    g_law_cell := PySem.W.mg_of X G a_law_cell,
    f_law_draws := f_law_draws, d_law_draws := _, F_law_draws := F_law_draws, b_law_draws := (F_law_draws.binds (ps := ["cell", "salt", "count", "base"]) fun _ _ _ _ _ _ us hl => match us, hl with | [_, _, _, _], _ => rfl),
    g_law_draws := PySem.W.mg_of X G a_law_draws,
    f_law_char := f_law_char, d_law_char := _, F_law_char := F_law_char, b_law_char := (F_law_char.binds (ps := ["number"]) fun _ _ _ _ _ _ us hl => match us, hl with | [_], _ => rfl),
    g_law_char := PySem.W.mg_of X G a_law_char,
    f_law_text := f_law_text, d_law_text := _, F_law_text := F_law_text, b_law_text := (F_law_text.binds (ps := ["cell"]) fun _ _ _ _ _ _ us hl => match us, hl with | [_], _ => rfl),
    g_law_text := PySem.W.mg_of X G a_law_text,
    f_law_literal := f_law_literal, d_law_literal := _, F_law_literal := F_law_literal, b_law_literal := (F_law_literal.binds (ps := ["kind", "cell"]) fun _ _ _ _ _ _ us hl => match us, hl with | [_, _], _ => rfl),
    g_law_literal := PySem.W.mg_of X G a_law_literal,
    f_law_operator := f_law_operator, d_law_operator := _, F_law_operator := F_law_operator, b_law_operator := (F_law_operator.binds (ps := ["left", "right", "number"]) fun _ _ _ _ _ _ us hl => match us, hl with | [_, _, _], _ => rfl),
    g_law_operator := PySem.W.mg_of X G a_law_operator,
    f_law_turned := f_law_turned, d_law_turned := _, F_law_turned := F_law_turned, b_law_turned := (F_law_turned.binds (ps := ["entry", "number"]) fun _ _ _ _ _ _ us hl => match us, hl with | [_, _], _ => rfl),
    g_law_turned := PySem.W.mg_of X G a_law_turned,
    f_law_drawn := f_law_drawn, d_law_drawn := _, F_law_drawn := F_law_drawn, b_law_drawn := (F_law_drawn.binds (ps := ["cells", "columns"]) fun _ _ _ _ _ _ us hl => match us, hl with | [_, _], _ => rfl),
    g_law_drawn := PySem.W.mg_of X G a_law_drawn,
    f_law_compared := f_law_compared, d_law_compared := _, F_law_compared := F_law_compared, b_law_compared := (F_law_compared.binds (ps := ["word", "left", "right"]) fun _ _ _ _ _ _ us hl => match us, hl with | [_, _, _], _ => rfl),
    g_law_compared := PySem.W.mg_of X G a_law_compared,
    f_law_evaluated := f_law_evaluated, d_law_evaluated := _, F_law_evaluated := F_law_evaluated, b_law_evaluated := (F_law_evaluated.binds (ps := ["tree", "columns", "row"]) fun _ _ _ _ _ _ us hl => match us, hl with | [_, _, _], _ => rfl),
    g_law_evaluated := PySem.W.mg_of X G a_law_evaluated,
    f_law_is_value := f_law_is_value, d_law_is_value := _, F_law_is_value := F_law_is_value, b_law_is_value := (F_law_is_value.binds (ps := ["actual", "expected"]) fun _ _ _ _ _ _ us hl => match us, hl with | [_, _], _ => rfl),
    g_law_is_value := PySem.W.mg_of X G a_law_is_value,
    f_law_integer := f_law_integer, d_law_integer := _, F_law_integer := F_law_integer, b_law_integer := (F_law_integer.binds (ps := ["cell"]) fun _ _ _ _ _ _ us hl => match us, hl with | [_], _ => rfl),
    g_law_integer := PySem.W.mg_of X G a_law_integer,
    f_law_small := f_law_small, d_law_small := _, F_law_small := F_law_small, b_law_small := (F_law_small.binds (ps := ["kind", "cell"]) fun _ _ _ _ _ _ us hl => match us, hl with | [_, _], _ => rfl),
    g_law_small := PySem.W.mg_of X G a_law_small,
    f_law_thing := f_law_thing, d_law_thing := _, F_law_thing := F_law_thing, b_law_thing := (F_law_thing.binds (ps := ["script", "k"]) fun _ _ _ _ _ _ us hl => match us, hl with | [_, _], _ => rfl),
    g_law_thing := PySem.W.mg_of X G a_law_thing,
    f_law_free := f_law_free, d_law_free := _, F_law_free := F_law_free, b_law_free := (F_law_free.binds (ps := ["name", "taken"]) fun _ _ _ _ _ _ us hl => match us, hl with | [_, _], _ => rfl),
    g_law_free := PySem.W.mg_of X G a_law_free,
    f_law_name := f_law_name, d_law_name := _, F_law_name := F_law_name, b_law_name := (F_law_name.binds (ps := ["cell"]) fun _ _ _ _ _ _ us hl => match us, hl with | [_], _ => rfl),
    g_law_name := PySem.W.mg_of X G a_law_name,
    f_law_names := f_law_names, d_law_names := _, F_law_names := F_law_names, b_law_names := (F_law_names.binds (ps := ["cells"]) fun _ _ _ _ _ _ us hl => match us, hl with | [_], _ => rfl),
    g_law_names := PySem.W.mg_of X G a_law_names,
    f_law_words := f_law_words, d_law_words := _, F_law_words := F_law_words, b_law_words := (F_law_words.binds (ps := ["cells"]) fun _ _ _ _ _ _ us hl => match us, hl with | [_], _ => rfl),
    g_law_words := PySem.W.mg_of X G a_law_words,
    f_bounded := f_bounded, d_bounded := _, F_bounded := F_bounded, b_bounded := (F_bounded.binds (ps := ["number"]) fun _ _ _ _ _ _ us hl => match us, hl with | [_], _ => rfl),
    g_bounded := PySem.W.mg_of X G a_bounded,
    f_compare := f_compare, d_compare := _, F_compare := F_compare, b_compare := (F_compare.binds (ps := ["word", "left", "right"]) fun _ _ _ _ _ _ us hl => match us, hl with | [_, _, _], _ => rfl),
    g_compare := PySem.W.mg_of X G a_compare,
    f_compute := f_compute, d_compute := _, F_compute := F_compute, b_compute := (F_compute.binds (ps := ["word", "values"]) fun _ _ _ _ _ _ us hl => match us, hl with | [_, _], _ => rfl),
    g_compute := PySem.W.mg_of X G a_compute,
    f_place := f_place, d_place := _, F_place := F_place, b_place := (F_place.binds (ps := ["columns", "name"]) fun _ _ _ _ _ _ us hl => match us, hl with | [_, _], _ => rfl),
    g_place := PySem.W.mg_of X G a_place,
    f_evaluate := f_evaluate, d_evaluate := _, F_evaluate := F_evaluate, b_evaluate := (F_evaluate.binds (ps := ["tree", "columns", "row"]) fun _ _ _ _ _ _ us hl => match us, hl with | [_, _, _], _ => rfl),
    g_evaluate := PySem.W.mg_of X G a_evaluate,
    f_law := fa, d_law := _, F_law := F_law, b_law := (F_law.binds (ps := ["script"]) fun _ _ _ _ _ _ us hl => match us, hl with | [_], _ => rfl),
    g_law := PySem.W.mg_of X G a_law,
    m_abs := PySem.W.mg_none_of X G z_abs,
    m_bool := PySem.W.mg_none_of X G z_bool,
    m_int := PySem.W.mg_none_of X G z_int,
    m_isinstance := PySem.W.mg_none_of X G z_isinstance,
    m_len := PySem.W.mg_none_of X G z_len,
    m_range := PySem.W.mg_none_of X G z_range,
    m_str := PySem.W.mg_none_of X G z_str,
    m_tuple := PySem.W.mg_none_of X G z_tuple,
    t_BOUND := t_BOUND, k_BOUND := PySem.W.mg_of X G z_BOUND }
  exact ⟨PySem.W.fnOf "law" "law" (defArgs s_law) (defBody s_law) (defScope s_law) .none kV_law dc_law pm_law an_law cd_law ct_law, fun s v => .of_eq rfl, fun base _ _ => ok_law T⟩

end Vt

open PySem PySem.W PyProof.Rows
set_option maxHeartbeats 0 in
theorem PySem.Challenge.cw_versiontables_k53_evaluate_holds : PySem.Challenge.rw_versiontables_k53_evaluate.Holds := by
  w_on; o_law; k_head; (case hw => w_witness2)
  k_fill
  refine L2.walk_ofB (l := PySem.Challenge.rw_versiontables_k53_evaluate) (n := 63) (k := 20) (x := "script") (CX := fun _ => L2.CX0) (sp := fun w => Vt.spLaw _) rfl (by decide) rfl ⟨rfl, by decide, by decide⟩ (fun w h Y => PySem.W.kIn_of Y) ?F (fun _ _ a ns hl hb _ hS => ⟨a, ns, rfl, hS, hl, hb, fun _ => rfl⟩) (fun _ _ _ _ _ h => h)
  case F =>
    intro w mg fa h KX G hmg
    refine' Vt.all_mk KX G hmg ?a_law_cell ?l_law_cell ?c_law_cell ?k_law_cell ?a_law_draws ?l_law_draws ?c_law_draws ?k_law_draws ?a_law_char ?l_law_char ?c_law_char ?k_law_char ?a_law_text ?l_law_text ?c_law_text ?k_law_text ?a_law_literal ?l_law_literal ?c_law_literal ?k_law_literal ?a_law_operator ?l_law_operator ?c_law_operator ?k_law_operator ?a_law_turned ?l_law_turned ?c_law_turned ?k_law_turned ?a_law_drawn ?l_law_drawn ?c_law_drawn ?k_law_drawn ?a_law_compared ?l_law_compared ?c_law_compared ?k_law_compared ?a_law_evaluated ?l_law_evaluated ?c_law_evaluated ?k_law_evaluated ?a_law_is_value ?l_law_is_value ?c_law_is_value ?k_law_is_value ?a_law_integer ?l_law_integer ?c_law_integer ?k_law_integer ?a_law_small ?l_law_small ?c_law_small ?k_law_small ?a_law_thing ?l_law_thing ?c_law_thing ?k_law_thing ?a_law_free ?l_law_free ?c_law_free ?k_law_free ?a_law_name ?l_law_name ?c_law_name ?k_law_name ?a_law_names ?l_law_names ?c_law_names ?k_law_names ?a_law_words ?l_law_words ?c_law_words ?k_law_words ?a_bounded ?l_bounded ?c_bounded ?k_bounded ?a_compare ?l_compare ?c_compare ?k_compare ?a_compute ?l_compute ?c_compute ?k_compute ?a_place ?l_place ?c_place ?k_place ?a_evaluate ?l_evaluate ?c_evaluate ?k_evaluate ?a_law ?l_law ?c_law ?k_law ?z_abs ?z_bool ?z_int ?z_isinstance ?z_len ?z_range ?z_str ?z_tuple ?z_BOUND
    (case a_law_cell => k_is)
    (case l_law_cell => k_is)
    (case c_law_cell => k_is)
    (case k_law_cell => k_is)
    (case a_law_draws => k_is)
    (case l_law_draws => k_is)
    (case c_law_draws => k_is)
    (case k_law_draws => k_is)
    (case a_law_char => k_is)
    (case l_law_char => k_is)
    (case c_law_char => k_is)
    (case k_law_char => k_is)
    (case a_law_text => k_is)
    (case l_law_text => k_is)
    (case c_law_text => k_is)
    (case k_law_text => k_is)
    (case a_law_literal => k_is)
    (case l_law_literal => k_is)
    (case c_law_literal => k_is)
    (case k_law_literal => k_is)
    (case a_law_operator => k_is)
    (case l_law_operator => k_is)
    (case c_law_operator => k_is)
    (case k_law_operator => k_is)
    (case a_law_turned => k_is)
    (case l_law_turned => k_is)
    (case c_law_turned => k_is)
    (case k_law_turned => k_is)
    (case a_law_drawn => k_is)
    (case l_law_drawn => k_is)
    (case c_law_drawn => k_is)
    (case k_law_drawn => k_is)
    (case a_law_compared => k_is)
    (case l_law_compared => k_is)
    (case c_law_compared => k_is)
    (case k_law_compared => k_is)
    (case a_law_evaluated => k_is)
    (case l_law_evaluated => k_is)
    (case c_law_evaluated => k_is)
    (case k_law_evaluated => k_is)
    (case a_law_is_value => k_is)
    (case l_law_is_value => k_is)
    (case c_law_is_value => k_is)
    (case k_law_is_value => k_is)
    (case a_law_integer => k_is)
    (case l_law_integer => k_is)
    (case c_law_integer => k_is)
    (case k_law_integer => k_is)
    (case a_law_small => k_is)
    (case l_law_small => k_is)
    (case c_law_small => k_is)
    (case k_law_small => k_is)
    (case a_law_thing => k_is)
    (case l_law_thing => k_is)
    (case c_law_thing => k_is)
    (case k_law_thing => k_is)
    (case a_law_free => k_is)
    (case l_law_free => k_is)
    (case c_law_free => k_is)
    (case k_law_free => k_is)
    (case a_law_name => k_is)
    (case l_law_name => k_is)
    (case c_law_name => k_is)
    (case k_law_name => k_is)
    (case a_law_names => k_is)
    (case l_law_names => k_is)
    (case c_law_names => k_is)
    (case k_law_names => k_is)
    (case a_law_words => k_is)
    (case l_law_words => k_is)
    (case c_law_words => k_is)
    (case k_law_words => k_is)
    (case a_bounded => k_is)
    (case l_bounded => k_is)
    (case c_bounded => k_is)
    (case k_bounded => k_is)
    (case a_compare => k_is)
    (case l_compare => k_is)
    (case c_compare => k_is)
    (case k_compare => k_is)
    (case a_compute => k_is)
    (case l_compute => k_is)
    (case c_compute => k_is)
    (case k_compute => k_is)
    (case a_place => k_is)
    (case l_place => k_is)
    (case c_place => k_is)
    (case k_place => k_is)
    (case a_evaluate => k_is)
    (case l_evaluate => k_is)
    (case c_evaluate => k_is)
    (case k_evaluate => k_is)
    (case a_law => k_is)
    (case l_law => k_is)
    (case c_law => k_is)
    (case k_law => k_is)
    (case z_abs => k_is)
    (case z_bool => k_is)
    (case z_int => k_is)
    (case z_isinstance => k_is)
    (case z_len => k_is)
    (case z_range => k_is)
    (case z_str => k_is)
    (case z_tuple => k_is)
    (case z_BOUND => k_is)
