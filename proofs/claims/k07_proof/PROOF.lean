import PyProof.Rows.All
import Wide.All
import OpenK.AllK
import Wide.FinOn
import HandS.ForMost
import HandS.Evl
import HandS.IsInst
import HandS.FStr
import HandS.WideBits
import HandS.Wide
import HandS.EndBits
import HandS.Exc
import HandS.TupAny
import PyProof.StrOps2
import HandS.ExcOwn
import HandS.ExcIs
import HandS.ExcCtx
import HandS.SuiteRaise
import HandS.RaiseFrom
import HandS.ExcValue
import HandS.ExcValueFrom
import HandS.WordsExc
import HandS.Replace
import HandS.ReplaceLit
import HandS.NoneIn
import HandS.StrMore
import HandS.TupLe
import HandS.Sort
import HandS.SortKw
import HandS.Lambda
import HandS.EndTab
import KE.KNestM
import KE.SortKeyHeap
import KE.SortData
import HandS.Iter
import KE.GoesMore
import KE.GoesEnum
import HandS.SetTxt0
import HandS.Set
import HandS.Strs
import HandS.Star
import HandS.Zip
import KE.KDictZip
import PySem.Challenge.RW_versiontables_k07_split_and_join


set_option Elab.async false
set_option linter.all false
set_option maxRecDepth 100000
set_option maxHeartbeats 400000

namespace Vt
open PySem PySem.Spec PyProof.Rows L2 Evl

def topS (i : Nat) : Stmt := PySem.Challenge.pw_versiontables_k07_split_and_join.main.body.getD i (.Pass ⟨0, 0, 0, 0⟩)

abbrev s_law_cell : Stmt := topS 9

theorem sc_law_cell : FnScope ["script", "k"] ["script", "k"] (defScope s_law_cell) := ⟨rfl, rfl, rfl, by decide +kernel, rfl, by decide +kernel, by decide +kernel⟩

abbrev s_law_draws : Stmt := topS 11

theorem sc_law_draws : FnScope ["cell", "salt", "count", "base", "rest", "numbers", "k", "mixed"] ["cell", "salt", "count", "base"] (defScope s_law_draws) := ⟨rfl, rfl, rfl, by decide +kernel, rfl, by decide +kernel, by decide +kernel⟩

abbrev s_law_name : Stmt := topS 17

theorem sc_law_name : FnScope ["cell", "letters", "length", "number"] ["cell"] (defScope s_law_name) := ⟨rfl, rfl, rfl, by decide +kernel, rfl, by decide +kernel, by decide +kernel⟩

abbrev s_law_names : Stmt := topS 18

theorem sc_law_names : FnScope ["cells", "letters", "names", "cell", "choice", "rest", "name", "place", "k"] ["cells"] (defScope s_law_names) := ⟨rfl, rfl, rfl, by decide +kernel, rfl, by decide +kernel, by decide +kernel⟩

abbrev s_law_integer : Stmt := topS 14

theorem sc_law_integer : FnScope ["cell", "choice", "rest"] ["cell"] (defScope s_law_integer) := ⟨rfl, rfl, rfl, by decide +kernel, rfl, by decide +kernel, by decide +kernel⟩

abbrev s_law_char : Stmt := topS 12

theorem sc_law_char : FnScope ["number", "chars"] ["number"] (defScope s_law_char) := ⟨rfl, rfl, rfl, by decide +kernel, rfl, by decide +kernel, by decide +kernel⟩

abbrev s_law_text : Stmt := topS 13

theorem sc_law_text : FnScope ["cell", "choice", "rest", "length", "number"] ["cell"] (defScope s_law_text) := ⟨rfl, rfl, rfl, by decide +kernel, rfl, by decide +kernel, by decide +kernel⟩

abbrev s_law_value : Stmt := topS 15

theorem sc_law_value : FnScope ["kind", "cell"] ["kind", "cell"] (defScope s_law_value) := ⟨rfl, rfl, rfl, by decide +kernel, rfl, by decide +kernel, by decide +kernel⟩

abbrev s_law_columns : Stmt := topS 19

theorem sc_law_columns : FnScope ["cells", "parts", "cell", "names", "part", "columns", "k", "kind", "link"] ["cells"] (defScope s_law_columns) := ⟨rfl, rfl, rfl, by decide +kernel, rfl, by decide +kernel, by decide +kernel⟩

abbrev s_law_drawn_key : Stmt := topS 20

theorem sc_law_drawn_key : FnScope ["columns", "cell", "place", "name", "kind", "default", "unique", "link", "key", "others", "column"] ["columns", "cell"] (defScope s_law_drawn_key) := ⟨rfl, rfl, rfl, by decide +kernel, rfl, by decide +kernel, by decide +kernel⟩

abbrev s_law_form : Stmt := topS 21

theorem sc_law_form : FnScope ["columns", "key"] ["columns", "key"] (defScope s_law_form) := ⟨rfl, rfl, rfl, by decide +kernel, rfl, by decide +kernel, by decide +kernel⟩

abbrev s_law_is : Stmt := topS 28

theorem sc_law_is : FnScope ["actual", "expected"] ["actual", "expected"] (defScope s_law_is) := ⟨rfl, rfl, rfl, by decide +kernel, rfl, by decide +kernel, by decide +kernel⟩

abbrev s_law_accepts : Stmt := topS 16

theorem sc_law_accepts : FnScope ["kind", "value"] ["kind", "value"] (defScope s_law_accepts) := ⟨rfl, rfl, rfl, by decide +kernel, rfl, by decide +kernel, by decide +kernel⟩

abbrev s_law_row : Stmt := topS 22

theorem sc_law_row : FnScope ["form", "cell", "parts", "k"] ["form", "cell"] (defScope s_law_row) := ⟨rfl, rfl, rfl, by decide +kernel, rfl, by decide +kernel, by decide +kernel⟩

abbrev s_law_same : Stmt := topS 25

theorem sc_law_same : FnScope ["actual", "expected", "k"] ["actual", "expected"] (defScope s_law_same) := ⟨rfl, rfl, rfl, by decide +kernel, rfl, by decide +kernel, by decide +kernel⟩

abbrev s_law_thing : Stmt := topS 10

theorem sc_law_thing : FnScope ["script", "k"] ["script", "k"] (defScope s_law_thing) := ⟨rfl, rfl, rfl, by decide +kernel, rfl, by decide +kernel, by decide +kernel⟩

abbrev s_base_kind : Stmt := topS 1

theorem sc_base_kind : FnScope ["kind"] ["kind"] (defScope s_base_kind) := ⟨rfl, rfl, rfl, by decide +kernel, rfl, by decide +kernel, by decide +kernel⟩

abbrev s_accepts : Stmt := topS 2

theorem sc_accepts : FnScope ["kind", "value"] ["kind", "value"] (defScope s_accepts) := ⟨rfl, rfl, rfl, by decide +kernel, rfl, by decide +kernel, by decide +kernel⟩

abbrev s_fits : Stmt := topS 5

theorem sc_fits : FnScope ["form", "row", "columns", "column", "value"] ["form", "row"] (defScope s_fits) := ⟨rfl, rfl, rfl, by decide +kernel, rfl, by decide +kernel, by decide +kernel⟩

abbrev s_column_names : Stmt := topS 4

theorem sc_column_names : FnScope ["form", "column"] ["form"] (defScope s_column_names) := ⟨rfl, rfl, rfl, by decide +kernel, rfl, by decide +kernel, by decide +kernel⟩

abbrev s_split_row : Stmt := topS 6

theorem sc_split_row : FnScope ["form", "row", "names", "values", "key", "name", "rest"] ["form", "row"] (defScope s_split_row) := ⟨rfl, rfl, rfl, by decide +kernel, rfl, by decide +kernel, by decide +kernel⟩

abbrev s_join_row : Stmt := topS 7

theorem sc_join_row : FnScope ["form", "key", "rest", "names", "other_names", "name", "values"] ["form", "key", "rest"] (defScope s_join_row) := ⟨rfl, rfl, rfl, by decide +kernel, rfl, by decide +kernel, by decide +kernel⟩

abbrev s_law_key_of : Stmt := topS 23

theorem sc_law_key_of : FnScope ["form", "row", "key", "name", "k"] ["form", "row"] (defScope s_law_key_of) := ⟨rfl, rfl, rfl, by decide +kernel, rfl, by decide +kernel, by decide +kernel⟩

abbrev s_law_rest_of : Stmt := topS 24

theorem sc_law_rest_of : FnScope ["form", "row", "k"] ["form", "row"] (defScope s_law_rest_of) := ⟨rfl, rfl, rfl, by decide +kernel, rfl, by decide +kernel, by decide +kernel⟩

abbrev s_law_other_tuple : Stmt := topS 26

theorem sc_law_other_tuple : FnScope ["form", "row", "cell", "numbers", "value", "place", "choice"] ["form", "row", "cell"] (defScope s_law_other_tuple) := ⟨rfl, rfl, rfl, by decide +kernel, rfl, by decide +kernel, by decide +kernel⟩

abbrev s_law_is_row : Stmt := topS 27

theorem sc_law_is_row : FnScope ["form", "row", "k"] ["form", "row"] (defScope s_law_is_row) := ⟨rfl, rfl, rfl, by decide +kernel, rfl, by decide +kernel, by decide +kernel⟩

abbrev s_law : Stmt := topS 29

theorem sc_law : FnScope ["script", "head", "count", "columns", "k", "key", "form", "first", "second", "row", "mixed", "other"] ["script"] (defScope s_law) := ⟨rfl, rfl, rfl, by decide +kernel, rfl, by decide +kernel, by decide +kernel⟩

structure Txt (K : PySem.W.Frag) (mg : Str → Option Value) (base : Heap) where
  f_law_cell : Addr
  d_law_cell : FuncData
  F_law_cell : Fun K "_law_cell" "_law_cell" s_law_cell f_law_cell d_law_cell
  b_law_cell : Binds K d_law_cell ["script", "k"] []
  g_law_cell : mg "_law_cell" = some (.ref f_law_cell)
  f_law_draws : Addr
  d_law_draws : FuncData
  F_law_draws : Fun K "_law_draws" "_law_draws" s_law_draws f_law_draws d_law_draws
  b_law_draws : Binds K d_law_draws ["cell", "salt", "count", "base"] []
  g_law_draws : mg "_law_draws" = some (.ref f_law_draws)
  f_law_name : Addr
  d_law_name : FuncData
  F_law_name : Fun K "_law_name" "_law_name" s_law_name f_law_name d_law_name
  b_law_name : Binds K d_law_name ["cell"] []
  g_law_name : mg "_law_name" = some (.ref f_law_name)
  f_law_names : Addr
  d_law_names : FuncData
  F_law_names : Fun K "_law_names" "_law_names" s_law_names f_law_names d_law_names
  b_law_names : Binds K d_law_names ["cells"] []
  g_law_names : mg "_law_names" = some (.ref f_law_names)
  f_law_integer : Addr
  d_law_integer : FuncData
  F_law_integer : Fun K "_law_integer" "_law_integer" s_law_integer f_law_integer d_law_integer
  b_law_integer : Binds K d_law_integer ["cell"] []
  g_law_integer : mg "_law_integer" = some (.ref f_law_integer)
  f_law_char : Addr
  d_law_char : FuncData
  F_law_char : Fun K "_law_char" "_law_char" s_law_char f_law_char d_law_char
  b_law_char : Binds K d_law_char ["number"] []
  g_law_char : mg "_law_char" = some (.ref f_law_char)
  f_law_text : Addr
  d_law_text : FuncData
  F_law_text : Fun K "_law_text" "_law_text" s_law_text f_law_text d_law_text
  b_law_text : Binds K d_law_text ["cell"] []
  g_law_text : mg "_law_text" = some (.ref f_law_text)
  f_law_value : Addr
  d_law_value : FuncData
  F_law_value : Fun K "_law_value" "_law_value" s_law_value f_law_value d_law_value
  b_law_value : Binds K d_law_value ["kind", "cell"] []
  g_law_value : mg "_law_value" = some (.ref f_law_value)
  f_law_columns : Addr
  d_law_columns : FuncData
  F_law_columns : Fun K "_law_columns" "_law_columns" s_law_columns f_law_columns d_law_columns
  b_law_columns : Binds K d_law_columns ["cells"] []
  g_law_columns : mg "_law_columns" = some (.ref f_law_columns)
  f_law_drawn_key : Addr
  d_law_drawn_key : FuncData
  F_law_drawn_key : Fun K "_law_drawn_key" "_law_drawn_key" s_law_drawn_key f_law_drawn_key d_law_drawn_key
  b_law_drawn_key : Binds K d_law_drawn_key ["columns", "cell"] []
  g_law_drawn_key : mg "_law_drawn_key" = some (.ref f_law_drawn_key)
  f_law_form : Addr
  d_law_form : FuncData
  F_law_form : Fun K "_law_form" "_law_form" s_law_form f_law_form d_law_form
  b_law_form : Binds K d_law_form ["columns", "key"] []
  g_law_form : mg "_law_form" = some (.ref f_law_form)
  f_law_is : Addr
  d_law_is : FuncData
  F_law_is : Fun K "_law_is" "_law_is" s_law_is f_law_is d_law_is
  b_law_is : Binds K d_law_is ["actual", "expected"] []
  g_law_is : mg "_law_is" = some (.ref f_law_is)
  f_law_accepts : Addr
  d_law_accepts : FuncData
  F_law_accepts : Fun K "_law_accepts" "_law_accepts" s_law_accepts f_law_accepts d_law_accepts
  b_law_accepts : Binds K d_law_accepts ["kind", "value"] []
  g_law_accepts : mg "_law_accepts" = some (.ref f_law_accepts)
  f_law_row : Addr
  d_law_row : FuncData
  F_law_row : Fun K "_law_row" "_law_row" s_law_row f_law_row d_law_row
  b_law_row : Binds K d_law_row ["form", "cell"] []
  g_law_row : mg "_law_row" = some (.ref f_law_row)
  f_law_same : Addr
  d_law_same : FuncData
  F_law_same : Fun K "_law_same" "_law_same" s_law_same f_law_same d_law_same
  b_law_same : Binds K d_law_same ["actual", "expected"] []
  g_law_same : mg "_law_same" = some (.ref f_law_same)
  f_law_thing : Addr
  d_law_thing : FuncData
  F_law_thing : Fun K "_law_thing" "_law_thing" s_law_thing f_law_thing d_law_thing
  b_law_thing : Binds K d_law_thing ["script", "k"] []
  g_law_thing : mg "_law_thing" = some (.ref f_law_thing)
  f_base_kind : Addr
  d_base_kind : FuncData
  F_base_kind : Fun K "base_kind" "base_kind" s_base_kind f_base_kind d_base_kind
  b_base_kind : Binds K d_base_kind ["kind"] []
  g_base_kind : mg "base_kind" = some (.ref f_base_kind)
  f_accepts : Addr
  d_accepts : FuncData
  F_accepts : Fun K "accepts" "accepts" s_accepts f_accepts d_accepts
  b_accepts : Binds K d_accepts ["kind", "value"] []
  g_accepts : mg "accepts" = some (.ref f_accepts)
  f_fits : Addr
  d_fits : FuncData
  F_fits : Fun K "fits" "fits" s_fits f_fits d_fits
  b_fits : Binds K d_fits ["form", "row"] []
  g_fits : mg "fits" = some (.ref f_fits)
  f_column_names : Addr
  d_column_names : FuncData
  F_column_names : Fun K "column_names" "column_names" s_column_names f_column_names d_column_names
  b_column_names : Binds K d_column_names ["form"] []
  g_column_names : mg "column_names" = some (.ref f_column_names)
  f_split_row : Addr
  d_split_row : FuncData
  F_split_row : Fun K "split_row" "split_row" s_split_row f_split_row d_split_row
  b_split_row : Binds K d_split_row ["form", "row"] []
  g_split_row : mg "split_row" = some (.ref f_split_row)
  f_join_row : Addr
  d_join_row : FuncData
  F_join_row : Fun K "join_row" "join_row" s_join_row f_join_row d_join_row
  b_join_row : Binds K d_join_row ["form", "key", "rest"] []
  g_join_row : mg "join_row" = some (.ref f_join_row)
  f_law_key_of : Addr
  d_law_key_of : FuncData
  F_law_key_of : Fun K "_law_key_of" "_law_key_of" s_law_key_of f_law_key_of d_law_key_of
  b_law_key_of : Binds K d_law_key_of ["form", "row"] []
  g_law_key_of : mg "_law_key_of" = some (.ref f_law_key_of)
  f_law_rest_of : Addr
  d_law_rest_of : FuncData
  F_law_rest_of : Fun K "_law_rest_of" "_law_rest_of" s_law_rest_of f_law_rest_of d_law_rest_of
  b_law_rest_of : Binds K d_law_rest_of ["form", "row"] []
  g_law_rest_of : mg "_law_rest_of" = some (.ref f_law_rest_of)
  f_law_other_tuple : Addr
  d_law_other_tuple : FuncData
  F_law_other_tuple : Fun K "_law_other_tuple" "_law_other_tuple" s_law_other_tuple f_law_other_tuple d_law_other_tuple
  b_law_other_tuple : Binds K d_law_other_tuple ["form", "row", "cell"] []
  g_law_other_tuple : mg "_law_other_tuple" = some (.ref f_law_other_tuple)
  f_law_is_row : Addr
  d_law_is_row : FuncData
  F_law_is_row : Fun K "_law_is_row" "_law_is_row" s_law_is_row f_law_is_row d_law_is_row
  b_law_is_row : Binds K d_law_is_row ["form", "row"] []
  g_law_is_row : mg "_law_is_row" = some (.ref f_law_is_row)
  f_law : Addr
  d_law : FuncData
  F_law : Fun K "law" "law" s_law f_law d_law
  b_law : Binds K d_law ["script"] []
  g_law : mg "law" = some (.ref f_law)
  m_all : mg "all" = none
  m_bool : mg "bool" = none
  m_dict : mg "dict" = none
  m_int : mg "int" = none
  m_isinstance : mg "isinstance" = none
  m_len : mg "len" = none
  m_list : mg "list" = none
  m_range : mg "range" = none
  m_sorted : mg "sorted" = none
  m_str : mg "str" = none
  m_tuple : mg "tuple" = none
  m_zip : mg "zip" = none
  cc_law_form : Addr
  P_law_form : Addr
  cd_law_form : d_law_form.code = .ref cc_law_form
  tb_law_form : LamX.TabB base mg cc_law_form P_law_form

/-! ### sizes of ints -/
/-- an int of at most some million bits -/
structure Wd (n : Int) : Prop where
  h : n.natAbs.log2 < 1100000
theorem log2_mono {a b : Nat} (h : a ≤ b) : a.log2 ≤ b.log2 := by
  by_cases ha : a = 0
  · subst ha
    exact Nat.le_trans (Nat.le_of_eq (by decide)) (Nat.zero_le _)
  · refine Nat.lt_succ_iff.mp ((Nat.log2_lt ha).mpr (Nat.lt_of_le_of_lt h Nat.lt_log2_self))
theorem Wd.le {n m : Int} (h : Wd n) (e : m.natAbs ≤ n.natAbs) : Wd m := ⟨Nat.lt_of_le_of_lt (log2_mono e) h.h⟩
theorem Wd.lt {n : Int} (h : n.natAbs < 2 ^ 9000) : Wd n := ⟨Nat.lt_trans (PySem.Flt.log2_lt_of (by decide) h) (by decide)⟩
theorem Wd.lit {n : Int} (h : n.natAbs < 2 ^ 256) : Wd n := ⟨Nat.lt_trans (PySem.Flt.log2_lt_of (by decide) h) (by decide)⟩
theorem Wd.bits {n : Int} (h : Builtin.Int.intBits n ≤ 1048576) : Wd n := by
  unfold Builtin.Int.intBits at h
  by_cases e : n = 0
  · subst e
    exact Wd.lit (by decide)
  · rw [if_neg (by simpa using e)] at h
    exact ⟨by omega⟩
theorem Wd.small {n : Int} (h1 : -(2 ^ 64) < n) (h2 : n < 2 ^ 64) : Wd n := Wd.lit (by
  have : n.natAbs < 2 ^ 64 := by omega
  exact Nat.lt_of_lt_of_le this (by decide))
theorem Wd.div {n b : Int} (h : Wd n) : Wd (n / b) := h.le (Int.natAbs_ediv_le_natAbs n b)
theorem Wd.mod {n b : Int} (hb : 0 < b) (h : Wd b) : Wd (n % b) := h.le (by
  have h1 := Int.emod_nonneg n (by omega : b ≠ 0)
  have h2 := Int.emod_lt_of_pos n hb
  omega)
theorem Wd.neg {n : Int} (h : Wd n) : Wd (-n) := h.le (by omega)
theorem bits_log (n : Int) : Builtin.Int.intBits n ≤ n.natAbs.log2 + 1 := by
  unfold Builtin.Int.intBits
  split <;> omega
theorem Wd.mul {i j : Int} (hi : Wd i) (hj : Wd j) : CMulX i j := by
  have a := bits_log i
  have b := bits_log j
  have c := hi.h
  have d := hj.h
  unfold CMulX
  omega
/-- what falls to a comparison of two ints -/
theorem dec_int {i j : Int} : decide (V.int i = V.int j) = decide (i = j) := by
  by_cases h : i = j
  · rw [decide_eq_true h, decide_eq_true (congrArg V.int h)]
  · rw [decide_eq_false h, decide_eq_false fun e => h (V.int.inj e)]
theorem dec_str {i j : Str} : decide (V.str i = V.str j) = decide (i = j) := by
  by_cases h : i = j
  · rw [decide_eq_true h, decide_eq_true (congrArg V.str h)]
  · rw [decide_eq_false h, decide_eq_false fun e => h (V.str.inj e)]
theorem dec_bl {i j : Bool} : decide (V.bl i = V.bl j) = decide (i = j) := by
  by_cases h : i = j
  · rw [decide_eq_true h, decide_eq_true (congrArg V.bl h)]
  · rw [decide_eq_false h, decide_eq_false fun e => h (V.bl.inj e)]
/-- len, tuple of a list or tuple -/
abbrev rLenQ (K : PySem.W.Frag) : List V → Hp → VK → Prop := fun xs H Q => ∃ p ys, xs = [V.ref p] ∧ (SqL K H p ys ∨ SqT K H p ys) ∧ Q (.int ys.length) H
abbrev rTupOf (K : PySem.W.Frag) : List V → Hp → VK → Prop := fun xs H Q => ∃ p ys, xs = [V.ref p] ∧ ((SqL K H p ys ∧ ∀ l, H l = none → Q (.ref l) (upd H l (.tup ys))) ∨ (SqT K H p ys ∧ Q (.ref p) H))
/-! ### more of what evaluates -/
section
variable {K : PySem.W.Frag} {σ : L2.St} {H : Hp} {ta tb te : TE}
theorem ev_eqI {i j : Int} (ha : Ev ta σ H (.int i)) (hb : Ev tb σ H (.int j)) : Ev (tOp rEq ta tb) σ H (.bl (decide (i = j))) := ev_is (ev_op ha hb (rv_eq rfl)) (congrArg V.bl dec_int)
theorem ev_neI {i j : Int} (ha : Ev ta σ H (.int i)) (hb : Ev tb σ H (.int j)) : Ev (tOp rNe ta tb) σ H (.bl (!decide (i = j))) := ev_is (ev_op ha hb (rv_ne rfl)) (congrArg (fun b => V.bl (!b)) dec_int)
theorem ev_eqS {i j : Str} (ha : Ev ta σ H (.str i)) (hb : Ev tb σ H (.str j)) : Ev (tOp rEq ta tb) σ H (.bl (decide (i = j))) := ev_is (ev_op ha hb (rv_eq rfl)) (congrArg V.bl dec_str)
theorem ev_neS {i j : Str} (ha : Ev ta σ H (.str i)) (hb : Ev tb σ H (.str j)) : Ev (tOp rNe ta tb) σ H (.bl (!decide (i = j))) := ev_is (ev_op ha hb (rv_ne rfl)) (congrArg (fun b => V.bl (!b)) dec_str)
theorem ev_eqB {i j : Bool} (ha : Ev ta σ H (.bl i)) (hb : Ev tb σ H (.bl j)) : Ev (tOp rEq ta tb) σ H (.bl (decide (i = j))) := ev_is (ev_op ha hb (rv_eq rfl)) (congrArg V.bl dec_bl)
theorem ev_neB {i j : Bool} (ha : Ev ta σ H (.bl i)) (hb : Ev tb σ H (.bl j)) : Ev (tOp rNe ta tb) σ H (.bl (!decide (i = j))) := ev_is (ev_op ha hb (rv_ne rfl)) (congrArg (fun b => V.bl (!b)) dec_bl)
theorem ev_bin {C : Int → Int → Prop} {g : Int → Int → V} {i j : Int} (ha : Ev ta σ H (.int i)) (hb : Ev tb σ H (.int j)) (hc : C i j) : Ev (tOp (rI C g) ta tb) σ H (g i j) := ev_op ha hb (rv_I hc)
theorem ev_bin0 {g : Int → Int → V} {i j : Int} (ha : Ev ta σ H (.int i)) (hb : Ev tb σ H (.int j)) : Ev (tOp (rI0 g) ta tb) σ H (g i j) := ev_op ha hb rv_I0
theorem ev_intI {i : Int} (h : Ev te σ H (.int i)) : Ev (tCB (fun xs H Q => (∃ i, xs = [V.int i] ∧ Q (.int i) H) ∨ ∃ k, xs = [V.bl k] ∧ Q (.int (if k = true then 1 else 0)) H) (tCons te tNil)) σ H (.int i) := fun H1 e Q q =>
  h H1 e _ fun H2 e2 => .inl ⟨i, rfl, q H2 e2⟩
theorem ev_lenS {z : Str} (h : Ev te σ H (.str z)) (hz : z.length ≤ 100000) : Ev (tCB (fun xs H Q => ∃ z, xs = [V.str z] ∧ z.length ≤ sizeLine ∧ Q (.int z.length) H) (tCons te tNil)) σ H (.int (z.length : Int)) := fun H1 e Q q =>
  h H1 e _ fun H2 e2 => ⟨z, rfl, sz_of hz, q H2 e2⟩
theorem ev_lenQ {p : Addr} {xs : List V} (ha : Ev ta σ H (.ref p)) (h : SqL K H p xs) : Ev (tCB (fun xs H Q => ∃ p ys, xs = [V.ref p] ∧ (SqL K H p ys ∨ SqT K H p ys) ∧ Q (.int ys.length) H) (tCons ta tNil)) σ H (.int (xs.length : Int)) := fun H1 e Q q =>
  ha H1 e _ fun H2 e2 => ⟨p, xs, rfl, Or.inl (ex_l (e.trans e2) h), q H2 e2⟩
theorem ev_lenT {p : Addr} {xs : List V} (ha : Ev ta σ H (.ref p)) (h : SqT K H p xs) : Ev (tCB (fun xs H Q => ∃ p ys, xs = [V.ref p] ∧ (SqL K H p ys ∨ SqT K H p ys) ∧ Q (.int ys.length) H) (tCons ta tNil)) σ H (.int (xs.length : Int)) := fun H1 e Q q =>
  ha H1 e _ fun H2 e2 => ⟨p, xs, rfl, Or.inr (ex_t (e.trans e2) h), q H2 e2⟩
theorem ev_ixL {p : Addr} {xs : List V} {i : Int} {v : V} (ha : Ev ta σ H (.ref p)) (hb : Ev tb σ H (.int i)) (h : SqL K H p xs) (hi : atI xs i = some v) : Ev (tOp (rIxL K) ta tb) σ H v := ev_op ha hb (rv_ixL h hi)
theorem ev_ixT {p : Addr} {xs : List V} {i : Int} {v : V} (ha : Ev ta σ H (.ref p)) (hb : Ev tb σ H (.int i)) (h : SqT K H p xs) (hi : atI xs i = some v) : Ev (tOp (rIxT K) ta tb) σ H v := ev_op ha hb (rv_ixT h hi)
/-- an item of a list that is written there -/
theorem ev_ixN {xs : List V} {i : Int} {v : V} (ha : EvL ta σ H xs) (hb : ∀ H1, Ex H H1 → Ev tb σ H1 (.int i)) (hi : atI xs i = some v) : Ev (tOp (rIxL K) ta tb) σ H v := ev_opL1 ha hb fun p H1 h1 _ => rv_ixL (sq_of h1) hi
theorem ev_ixS {z : Str} {i : Int} {c : Nat} (ha : Ev ta σ H (.str z)) (hb : Ev tb σ H (.int i)) (hz : z.length ≤ 100000) (hi : atI z.cps.toList i = some c) : Ev (tOp rIxS ta tb) σ H (.str ⟨#[c]⟩) := ev_op ha hb (rv_ixS hz hi)
theorem ev_addS {x y : Str} (ha : Ev ta σ H (.str x)) (hb : Ev tb σ H (.str y)) (hz : x.length + y.length ≤ 16777216) : Ev (tOp (fun x y H Q => ∃ i j, x = V.str i ∧ y = V.str j ∧ i.length + j.length ≤ sizeLine ∧ Q (.str (i ++ j)) H) ta tb) σ H (.str (x ++ y)) :=
  ev_op ha hb fun H1 _ Q q => ⟨x, y, rfl, rfl, by rw [sizeLine_eq]; exact hz, q H1 (Ex.refl H1)⟩
theorem ev_neg {i : Int} (h : Ev te σ H (.int i)) : Ev (tUn (rU fun i => .int (-i)) te) σ H (.int (-i)) := ev_un h ru_neg
theorem ev_isN {v : V} (h : Ev te σ H v) : Ev (tOp (fun x y H Q => y = .non ∧ Q (.bl (decide (x = .non))) H) te (tC .non)) σ H (.bl (decide (v = .non))) := fun H1 e Q q => h H1 e _ fun H2 e2 => ⟨rfl, q H2 e2⟩
end
section
variable {σ : L2.St} {H : Hp} {te : TE}
theorem ev_isNt (h : Ev te σ H .non) : Ev (tOp (fun x y H Q => y = .non ∧ Q (.bl (decide (x = .non))) H) te (tC .non)) σ H (.bl true) := ev_is (ev_isN h) (congrArg V.bl (decide_eq_true rfl))
theorem ev_isNf {v : V} (h : Ev te σ H v) (hv : v ≠ .non := by intro z; cases z) : Ev (tOp (fun x y H Q => y = .non ∧ Q (.bl (decide (x = .non))) H) te (tC .non)) σ H (.bl false) := ev_is (ev_isN h) (congrArg V.bl (decide_eq_false hv))
end
theorem at_nat {xs : List V} {j : Nat} {v : V} (h : xs[j]? = some v) : atI xs (j : Int) = some v := atI_nat h
theorem sizeOk {n : Nat} (h : n ≤ 16777216) : n ≤ sizeLine := by rw [sizeLine_eq]; exact h

/-! ### texts, joins, comprehensions -/
theorem str_ext {a b : Str} (h : a.cps.toList = b.cps.toList) : a = b := by
  obtain ⟨a⟩ := a
  obtain ⟨b⟩ := b
  exact congrArg Str.mk (Array.toList_inj.mp h)
/-- the join of one-sign texts -/
theorem join_signs (l : List Nat) : Txt.join (Str.ofString "") (l.map fun c => (⟨#[c]⟩ : Str)) = ⟨l.toArray⟩ := by
  rw [TL.join_eq]
  refine str_ext ?_
  have key : ∀ l : List Nat, TL.joinL [] (l.map fun c => [c]) = l := fun l => by
    induction l with
    | nil => rfl
    | cons a r ih =>
      cases r with
      | nil => rfl
      | cons b r =>
        show [a] ++ ([] ++ TL.joinL [] ((b :: r).map fun c => [c])) = a :: b :: r
        rw [ih] <;> rfl
  have h := TL.tl_join (Str.ofString "") (l.map fun c => (⟨#[c]⟩ : Str))
  have e1 : TL.tl (Str.ofString "") = [] := by decide +kernel
  rw [e1, List.map_map] at h
  exact h.trans (key l)
theorem sum_ones (l : List Nat) : ((l.map fun c => (⟨#[c]⟩ : Str)).map (·.length)).sum = l.length := by
  induction l with
  | nil => rfl
  | cons a r ih =>
    rw [List.map_cons, List.map_cons, List.sum_cons, ih, List.length_cons]
    show 1 + r.length = r.length + 1
    omega
/-- a join of a new list of texts -/
theorem ev_joinN {K : PySem.W.Frag} {σ : L2.St} {H : Hp} {to te : TE} {a : Str} {ys : List Str} (h0 : Ev to σ H (.str a)) (h : EvL te σ H (ys.map V.str)) (hz : (ys.map (·.length)).sum + ys.length * a.length ≤ 16777216) :
    Ev (tM1 (fun x xs H Q => ∃ a p, ∃ ys : List Str, x = .str a ∧ xs = [.ref p] ∧ (SqL K H p (ys.map V.str) ∨ SqT K H p (ys.map V.str)) ∧ (ys.map (·.length)).sum + ys.length * a.length ≤ 16777216 ∧ Q (.str (Txt.join a ys)) H) to te) σ H (.str (Txt.join a ys)) :=
  fun H1 e Q q => h0 H1 e _ fun H2 e2 => ⟨⟨a, rfl⟩, h H2 (e.trans e2) _ fun p H3 hp e3 hl => ⟨a, p, ys, rfl, rfl, .inl (sq_of hl), hz, q H3 (e2.trans e3)⟩⟩
theorem given_all {n : Nat} {v : Nat → V} {xs : List V} (hn : xs.length = n) (h : ∀ i, i < n → xs[i]? = some (v i)) : given n (fun _ => true) v = xs := by
  unfold given
  rw [List.filter_eq_self.mpr (fun _ _ => rfl)]
  refine List.ext_getElem? fun i => ?_
  rw [List.getElem?_map]
  by_cases hi : i < n
  · rw [List.getElem?_range hi, h i hi] <;> rfl
  · rw [List.getElem?_eq_none (by rw [List.length_range]; omega), List.getElem?_eq_none (by omega)] <;> rfl
/-- [f(x) for x in a new list of ints] -/
theorem el_mapN {K : PySem.W.Frag} {σ : L2.St} {H : Hp} {tl te : TE} {j : Nat} {vs : List Nat} {ns : List Int} {f : Int → V} (h : EvL tl σ H (ns.map V.int)) (hz : ns.length ≤ 40000) (hw : ∀ x, wipe ((wipe σ vs).set j (some x)) vs = wipe σ vs)
    (he : ∀ n ∈ ns, ∀ H1, Ex H H1 → Ev te ((wipe σ vs).set j (some (.int n))) H1 (f n)) : EvL (tLc (iList K tl) (gName j) tYes te vs) σ H (ns.map f) := by
  have g : given (ns.map V.int).length (fun _ => true) (fun i => f (ns.getD i 0)) = ns.map f := given_all (by rw [List.length_map, List.length_map]) fun i hi => by
    rw [List.length_map] at hi
    rw [List.getElem?_map, List.getElem?_eq_getElem hi, List.getD_eq_getElem?_getD, List.getElem?_eq_getElem hi] <;> rfl
  rw [← g]
  refine el_lcNL (fun _ => true) (fun i => f (ns.getD i 0)) h (by rw [List.length_map]; exact hz) hw (fun i x H1 e1 hx => ?_) (fun i x H1 e1 hx _ => ?_)
  · exact fun H2 e2 Q q => q H2 (Ex.refl H2)
  · rw [List.getElem?_map] at hx
    cases e : ns[i]? with
    | none =>
      rw [e] at hx
      cases hx
    | some n =>
      rw [e] at hx
      have ex : x = .int n := (Option.some.inj hx).symm
      rw [ex, List.getD_eq_getElem?_getD, e]
      exact he n (List.mem_of_getElem? e) H1 e1
theorem atI_of {xs : List V} {n : Int} {v : V} (h0 : 0 ≤ n) (h : xs[n.toNat]? = some v) : atI xs n = some v := by
  have e : n = ((n.toNat : Nat) : Int) := by omega
  rw [e]
  exact atI_nat (by simpa using h)
theorem at_cps {z : Str} {l : List Nat} (h : z.cps.toList = l) {n : Int} (h0 : 0 ≤ n) (h1 : n < l.length) : atI z.cps.toList n = some (l.getD n.toNat 0) := by
  rw [h]
  have e : n = ((n.toNat : Nat) : Int) := by omega
  have h3 : n.toNat < l.length := by omega
  have h4 : ixN l.length n = some n.toNat := by rw [e]; exact ixN_nat (by omega)
  unfold atI
  rw [h4]
  show l[n.toNat]? = some (l.getD n.toNat 0)
  rw [List.getElem?_eq_getElem h3, List.getD_eq_getElem?_getD, List.getElem?_eq_getElem h3]
  all_goals rfl

/-- the join of texts by their codes -/
theorem join_codes (l : List (List Nat)) : Txt.join (Str.ofString "") (l.map fun c => (⟨c.toArray⟩ : Str)) = ⟨l.flatten.toArray⟩ := by
  rw [TL.join_eq]
  refine str_ext ?_
  have key : ∀ l : List (List Nat), TL.joinL [] l = l.flatten := fun l => by
    induction l with
    | nil => rfl
    | cons a r ih =>
      cases r with
      | nil => simp [TL.joinL]
      | cons b r =>
        show a ++ ([] ++ TL.joinL [] (b :: r)) = (a :: b :: r).flatten
        rw [ih, List.nil_append]
        exact List.flatten_cons.symm
  have h := TL.tl_join (Str.ofString "") (l.map fun c => (⟨c.toArray⟩ : Str))
  have e1 : TL.tl (Str.ofString "") = [] := by decide +kernel
  have e2 : (l.map fun c => (⟨c.toArray⟩ : Str)).map TL.tl = l := by
    rw [List.map_map]
    exact List.map_id l
  rw [e1, e2] at h
  exact h.trans (key l)
theorem sum_codes (l : List (List Nat)) : ((l.map fun c => (⟨c.toArray⟩ : Str)).map (·.length)).sum = l.flatten.length := by
  induction l with
  | nil => rfl
  | cons a r ih =>
    rw [List.map_cons, List.map_cons, List.sum_cons, ih, List.flatten_cons, List.length_append] <;> rfl
/-- [f(x) for x in a tuple] -/
theorem el_mapT {K : PySem.W.Frag} {σ : L2.St} {H : Hp} {tl te : TE} {j : Nat} {vs : List Nat} {a : Addr} {xs ys : List V} (h : Ev tl σ H (.ref a)) (hx : SqT K H a xs) (hz : xs.length ≤ 40000) (hw : ∀ x, wipe ((wipe σ vs).set j (some x)) vs = wipe σ vs) (hl : ys.length = xs.length)
    (he : ∀ (i : Nat) (x y : V), xs[i]? = some x → ys[i]? = some y → ∀ H1, Ex H H1 → Ev te ((wipe σ vs).set j (some x)) H1 y) : EvL (tLc (iTup K tl) (gName j) tYes te vs) σ H ys := by
  intro H0 e Q q
  refine h H0 e _ fun H1 e1 => ⟨a, rfl, ⟨xs, ex_t (e.trans e1) hx⟩, fun Dl hD => ?_⟩
  refine lc_tup (xs := xs) (fun i H' => H1 Dl = none ∧ Ex H1 H' ∧ H' Dl = some (.lst (ys.take i))) ⟨hD, Ex.new hD, upd_same⟩ (fun i H' _ p => ex_t ((e.trans e1).trans p.2.1) hx) (fun i x H' hi p => ⟨hw x, ?_⟩) (fun H' p => ?_)
  · obtain ⟨p1, p2, p3⟩ := p
    have hi2 : i < ys.length := by
      have := (List.getElem?_eq_some_iff.mp hi).1
      omega
    have hy : ys[i]? = some ys[i] := List.getElem?_eq_getElem hi2
    show te ((wipe σ vs).set j (some x)) H' _
    refine he i x ys[i] hi hy H1 (e.trans e1) H' p2 _ fun H4 e4 => ⟨ys.take i, e4 Dl _ p3, sz_lt (by rw [List.length_take]; omega), p1, (p2.trans e4).mut p1, ?_⟩
    rw [upd_same, List.take_add_one, hy] <;> rfl
  · obtain ⟨p1, p2, p3⟩ := p
    rw [← hl, List.take_length] at p3
    exact q Dl H' (fresh_back e1 p1) (e1.trans p2) p3
/-- [f(x) for x in a list] -/
theorem el_mapL {K : PySem.W.Frag} {σ : L2.St} {H : Hp} {tl te : TE} {j : Nat} {vs : List Nat} {a : Addr} {xs ys : List V} (h : Ev tl σ H (.ref a)) (hx : SqL K H a xs) (hz : xs.length ≤ 40000) (hw : ∀ x, wipe ((wipe σ vs).set j (some x)) vs = wipe σ vs) (hl : ys.length = xs.length)
    (he : ∀ (i : Nat) (x y : V), xs[i]? = some x → ys[i]? = some y → ∀ H1, Ex H H1 → Ev te ((wipe σ vs).set j (some x)) H1 y) : EvL (tLc (iList K tl) (gName j) tYes te vs) σ H ys := by
  intro H0 e Q q
  refine h H0 e _ fun H1 e1 => ⟨a, rfl, ⟨xs, ex_l (e.trans e1) hx⟩, fun Dl hD => ?_⟩
  refine lc_list (xs := xs) (fun i H' => H1 Dl = none ∧ Ex H1 H' ∧ H' Dl = some (.lst (ys.take i))) ⟨hD, Ex.new hD, upd_same⟩ (fun i H' _ p => ex_l ((e.trans e1).trans p.2.1) hx) (fun i x H' hi p => ⟨hw x, ?_⟩) (fun H' p => ?_)
  · obtain ⟨p1, p2, p3⟩ := p
    have hi2 : i < ys.length := by
      have := (List.getElem?_eq_some_iff.mp hi).1
      omega
    have hy : ys[i]? = some ys[i] := List.getElem?_eq_getElem hi2
    show te ((wipe σ vs).set j (some x)) H' _
    refine he i x ys[i] hi hy H1 (e.trans e1) H' p2 _ fun H4 e4 => ⟨ys.take i, e4 Dl _ p3, sz_lt (by rw [List.length_take]; omega), p1, (p2.trans e4).mut p1, ?_⟩
    rw [upd_same, List.take_add_one, hy] <;> rfl
  · obtain ⟨p1, p2, p3⟩ := p
    rw [← hl, List.take_length] at p3
    exact q Dl H' (fresh_back e1 p1) (e1.trans p2) p3
/-- [f(k) for k in range(n)] -/
theorem el_mapR {σ : L2.St} {H : Hp} {ta : TA} {te : TE} {j : Nat} {vs : List Nat} {n : Nat} {ys : List V} (h : EvA ta σ H [.int (n : Int)]) (hz : n ≤ 40000) (hw : ∀ x, wipe ((wipe σ vs).set j (some x)) vs = wipe σ vs) (hl : ys.length = n)
    (he : ∀ (i : Nat) (y : V), i < n → ys[i]? = some y → ∀ H1, Ex H H1 → Ev te ((wipe σ vs).set j (some (.int (i : Int)))) H1 y) : EvL (tLc (iRng1 ta) (gName j) tYes te vs) σ H ys := by
  have g : given (n : Int).toNat (fun _ => true) (fun i => ys.getD i .non) = ys := given_all (by omega) fun i hi => by
    have hi2 : i < ys.length := by omega
    rw [List.getElem?_eq_getElem hi2, List.getD_eq_getElem?_getD, List.getElem?_eq_getElem hi2] <;> rfl
  rw [← g]
  refine el_lcR1 (fun _ => true) (fun i => ys.getD i .non) h (by omega) hw (fun i H1 e1 hi => ?_) (fun i H1 e1 hi _ => ?_)
  · exact fun H2 e2 Q q => q H2 (Ex.refl H2)
  · have hi2 : i < ys.length := by omega
    have hy : ys[i]? = some (ys.getD i .non) := by rw [List.getElem?_eq_getElem hi2, List.getD_eq_getElem?_getD, List.getElem?_eq_getElem hi2] <;> rfl
    exact he i _ (by omega) hy H1 e1
/-- for c in a text -/
theorem s_forS {σ : L2.St} {H : Hp} {te : TE} {tu : TS} {D : Ends} {j : Nat} {z : Str} (h : Ev te σ H (.str z)) (Pv : Nat → L2.St → Hp → Prop) (h0 : ∀ H1, Ex H H1 → Pv 0 σ H1)
    (hs : ∀ i c σ' H', z.cps.toList[i]? = some c → Pv i σ' H' → tu { D with nx := Pv (i + 1), ct := Pv (i + 1), bk := D.nx } (σ'.set j (some (.str ⟨#[c]⟩))) H') (hd : ∀ σ' H', Pv z.cps.toList.length σ' H' → D.nx σ' H') : tFor (iStr te) (gName j) tu D σ H := by
  refine h H (Ex.refl H) _ fun H1 e => ⟨z, rfl, fun i m σ' H' => m = z.cps.toList.length - i ∧ i ≤ z.cps.toList.length ∧ Pv i σ' H', ⟨_, rfl, Nat.zero_le _, h0 H1 e⟩, ?_⟩
  rintro i m σ' H' ⟨rfl, hi, p⟩
  by_cases hlt : i < z.cps.toList.length
  · refine .inr ⟨(by show i < z.cps.size; simpa using hlt), Pv (i + 1), fun σ2 H2 p2 => ⟨_, by omega, rfl, hlt, p2⟩, fun x H2 y => ?_⟩
    obtain ⟨rfl, c, hc, rfl⟩ := y
    exact hs i c σ' H2 (by simpa using hc) p
  · have ei : i = z.cps.toList.length := by omega
    subst ei
    exact .inl ⟨(by show z.cps.size ≤ z.cps.toList.length; simp), hd σ' H' p⟩
theorem q_forS {σ : L2.St} {H : Hp} {te : TE} {tu tz : TS} {D : Ends} {j : Nat} {z : Str} (h : Ev te σ H (.str z)) (Pv : Nat → L2.St → Hp → Prop) (h0 : ∀ H1, Ex H H1 → Pv 0 σ H1)
    (hs : ∀ i c σ' H', z.cps.toList[i]? = some c → Pv i σ' H' → tu { D with nx := Pv (i + 1), ct := Pv (i + 1), bk := tz D } (σ'.set j (some (.str ⟨#[c]⟩))) H') (hd : ∀ σ' H', Pv z.cps.toList.length σ' H' → tz D σ' H') : tSeq (tFor (iStr te) (gName j) tu) tz D σ H :=
  s_forS (D := { D with nx := tz D }) h Pv h0 hs hd
/-! ### isinstance against a built-in type; f-strings -/
theorem tyx_tup {K : PySem.W.Frag} {H : Hp} {a : Addr} {xs : List V} (h : SqT K H a xs) : TyX K H (.ref a) (.type "tuple") := by
  rcases h with (h | ⟨o, h⟩) | ⟨o, its, n, h, hc, _⟩
  · exact .base (.tup h)
  · exact .fTuple h
  · exact .kTuple h hc
theorem ev_isi {K : PySem.W.Frag} {σ : L2.St} {H : Hp} {te : TE} {x : V} {a b : String} {r : Bool} (h : Ev te σ H x) (ht : ∀ H1, Ex H H1 → TyX K H1 x (.type a)) (hk : kitB a b = some r) : Ev (tCB (rIsi K) (tCons te (tCons (tC (.ty b)) tNil))) σ H (.bl r) := fun H1 e Q q =>
  h H1 e _ fun H2 e2 => ⟨x, .ty b, .type a, .type b, r, rfl, .ty b, ht H2 (e.trans e2), kit_ty hk, q H2 e2⟩
/-- parts that evaluate to texts -/
inductive EvJ (σ : L2.St) (H : Hp) : List TE → List Str → Prop where
  | nil : EvJ σ H [] []
  | cons {t : TE} {ts : List TE} {y : Str} {ys : List Str} (h : Ev t σ H (.str y)) (r : EvJ σ H ts ys) : EvJ σ H (t :: ts) (y :: ys)
theorem evj_run {σ : L2.St} {H : Hp} {ts : List TE} {ys : List Str} (h : EvJ σ H ts ys) : ∀ (acc : Str) (H1 : Hp) (Q : Str → Hp → Prop), Ex H H1 → acc.length + (ys.map (·.length)).sum ≤ 16777216 → (∀ H2, Ex H1 H2 → Q (ys.foldl (· ++ ·) acc) H2) → tJs ts acc σ H1 Q := by
  induction h with
  | nil => exact fun acc H1 Q _ _ q => q H1 (Ex.refl H1)
  | @cons t ts y ys h r ih =>
    intro acc H1 Q e hz q
    rw [List.map_cons, List.sum_cons] at hz
    have el : (acc ++ y).length = acc.length + y.length := by
      show (acc.cps ++ y.cps).size = acc.cps.size + y.cps.size
      exact Array.size_append
    refine h H1 e _ fun H2 e2 => ⟨y, rfl, sizeOk (by rw [el]; omega), ih (acc ++ y) H2 Q (e.trans e2) (by rw [el]; omega) fun H3 e3 => q H3 (e2.trans e3)⟩
theorem ev_joined {σ : L2.St} {H : Hp} {ts : List TE} {ys : List Str} (h : EvJ σ H ts ys) (hz : (ys.map (·.length)).sum ≤ 16777216) : Ev (fun σ H Q => tJs ts Str.empty σ H fun out H1 => Q (.str out) H1) σ H (.str (ys.foldl (· ++ ·) Str.empty)) := fun H1 e Q q =>
  evj_run h Str.empty H1 _ e (by show 0 + _ ≤ _; omega) fun H2 e2 => q H2 e2
theorem ev_fmtS {σ : L2.St} {H : Hp} {te : TE} {y : Str} (h : Ev te σ H (.str y)) (hz : y.length ≤ 16777216) : Ev (tFmt te) σ H (.str y) := fun H1 e Q q => h H1 e _ fun H2 e2 => .inl ⟨y, rfl, sizeOk hz, q H2 e2⟩
theorem ev_fmtI {σ : L2.St} {H : Hp} {te : TE} {i : Int} (h : Ev te σ H (.int i)) (hz : i.natAbs.log2 < 1920) : Ev (tFmt te) σ H (.str (toString i)) := fun H1 e Q q => h H1 e _ fun H2 e2 => .inr ⟨i, rfl, hz, q H2 e2⟩
theorem ev_strI {σ : L2.St} {H : Hp} {te : TE} {i : Int} (h : Ev te σ H (.int i)) (hz : i.natAbs.log2 < 1920) : Ev (tCB (fun xs H Q => ∃ i : Int, xs = [V.int i] ∧ i.natAbs.log2 < 1920 ∧ Q (.str (toString i)) H) (tCons te tNil)) σ H (.str (toString i)) := fun H1 e Q q => h H1 e _ fun H2 e2 => ⟨i, rfl, hz, q H2 e2⟩
theorem ev_ordS {σ : L2.St} {H : Hp} {te : TE} {c : Nat} (h : Ev te σ H (.str ⟨#[c]⟩)) : Ev (tCB (fun xs H Q => ∃ x : Str, xs = [V.str x] ∧ x.length = 1 ∧ Q (.int (x.cps.getD 0 0 : Nat)) H) (tCons te tNil)) σ H (.int (c : Int)) := fun H1 e Q q => h H1 e _ fun H2 e2 => ⟨_, rfl, rfl, q H2 e2⟩
theorem ev_ends {σ : L2.St} {H : Hp} {to te : TE} {a b : Str} (h0 : Ev to σ H (.str a)) (h : Ev te σ H (.str b)) : Ev (tM1 (fun x xs H Q => ∃ a b, x = V.str a ∧ xs = [V.str b] ∧ Q (.bl (Txt.endswith a b)) H) to te) σ H (.bl (Txt.endswith a b)) := fun H1 e Q q =>
  h0 H1 e _ fun H2 e2 => ⟨⟨a, rfl⟩, h H2 (e.trans e2) _ fun H3 e3 => ⟨a, b, rfl, rfl, q H3 (e2.trans e3)⟩⟩
theorem ev_slS {σ : L2.St} {H : Hp} {te : TE} {tl th : TO} {z : Str} {lo hi : Option Int} (h : Ev te σ H (.str z)) (h1 : EvO tl σ H lo) (h2 : EvO th σ H hi) (hz : z.length ≤ 100000) : Ev (tSl rSlS te tl th) σ H (.str (cutS z lo hi)) := fun H1 e Q q =>
  h H1 e _ fun H2 e2 => h1 H2 (e.trans e2) _ fun H3 e3 => h2 H3 ((e.trans e2).trans e3) _ fun H4 e4 => ⟨z, rfl, sz_of hz, q H4 ((e2.trans e3).trans e4)⟩
/-- tuple(a new list) -/
theorem eu_ofN {K : PySem.W.Frag} {σ : L2.St} {H : Hp} {te : TE} {xs : List V} (h : EvL te σ H xs) : EvU (tCB (fun xs H Q => ∃ p ys, xs = [V.ref p] ∧ ((SqL K H p ys ∧ ∀ l, H l = none → Q (.ref l) (upd H l (.tup ys))) ∨ (SqT K H p ys ∧ Q (.ref p) H))) (tCons te tNil)) σ H xs := fun H1 e Q q =>
  h H1 e _ fun p H2 _ e2 hp => ⟨p, xs, rfl, .inl ⟨sq_of hp, fun l hl => q l _ (fresh_back e2 hl) (e2.trans (Ex.new hl)) upd_same⟩⟩
theorem eu_ofL {K : PySem.W.Frag} {σ : L2.St} {H : Hp} {te : TE} {p : Addr} {xs : List V} (h : Ev te σ H (.ref p)) (hx : SqL K H p xs) : EvU (tCB (fun xs H Q => ∃ p ys, xs = [V.ref p] ∧ ((SqL K H p ys ∧ ∀ l, H l = none → Q (.ref l) (upd H l (.tup ys))) ∨ (SqT K H p ys ∧ Q (.ref p) H))) (tCons te tNil)) σ H xs := fun H1 e Q q =>
  h H1 e _ fun H2 e2 => ⟨p, xs, rfl, .inl ⟨ex_l (e.trans e2) hx, fun l hl => q l _ (fresh_back e2 hl) (e2.trans (Ex.new hl)) upd_same⟩⟩
/-- a def that hands back a new tuple -/
def SpU (sp : Sp) (vs : List V) (H : Hp) (xs : List V) : Prop := ∀ H1, Ex H H1 → ∀ Q : VK, (∀ p H2, Ex H1 H2 → H2 p = some (.tup xs) → Q (.ref p) H2) → ∀ E : XK, sp vs H1 Q E
theorem q_callU {sp : Sp} {dvs vs xs : List V} {E : XK} {ta : TA} {σ : L2.St} {H : Hp} {tz : TS} {D : Ends} {i : Nat} (h : EvA ta σ H vs) (hs : SpU sp (vs ++ dvs) H xs) (k : ∀ p H1, Ex H H1 → H1 p = some (.tup xs) → tz D (σ.set i (some (.ref p))) H1) : tSeq (tAsg (tCall sp dvs E ta) (gName i)) tz D σ H :=
  h H (Ex.refl H) _ fun H2 e2 => hs H2 e2 _ (fun p H3 e3 hp => k p H3 (e2.trans e3) hp) E
theorem s_callU {sp : Sp} {dvs vs xs : List V} {E : XK} {ta : TA} {σ : L2.St} {H : Hp} {D : Ends} {i : Nat} (h : EvA ta σ H vs) (hs : SpU sp (vs ++ dvs) H xs) (k : ∀ p H1, Ex H H1 → H1 p = some (.tup xs) → D.nx (σ.set i (some (.ref p))) H1) : tAsg (tCall sp dvs E ta) (gName i) D σ H :=
  h H (Ex.refl H) _ fun H2 e2 => hs H2 e2 _ (fun p H3 e3 hp => k p H3 (e2.trans e3) hp) E
/-- a call whose one argument is a new tuple -/
theorem ev_callU {sp : Sp} {dvs xs : List V} {z : V} {E : XK} {te : TE} {σ : L2.St} {H : Hp} (h : EvU te σ H xs) (hs : ∀ p H1, H1 p = some (.tup xs) → Ex H H1 → SpV sp ([.ref p] ++ dvs) H1 z) : Ev (tCall sp dvs E (tCons te tNil)) σ H z := fun H1 e Q q =>
  h H1 e _ fun p H2 _ e2 hp => hs p H2 hp (e.trans e2) H2 (Ex.refl H2) Q (fun H3 e3 => q H3 (e2.trans e3)) E
/-- written tuples, one behind the other -/
def EvP (ta : TA) (σ : L2.St) (H : Hp) (xss : List (List V)) : Prop := ∀ H1, Ex H H1 → ∀ Q : List V → Hp → Prop, (∀ (ps : List Addr) H2, Ex H1 H2 → Paired (fun p xs => H2 p = some (.tup xs)) ps xss → Q (ps.map V.ref) H2) → ta σ H1 Q
theorem paired_mono {H H' : Hp} (e : Ex H H') : ∀ {ps : List Addr} {xss : List (List V)}, Paired (fun p xs => H p = some (.tup xs)) ps xss → Paired (fun p xs => H' p = some (.tup xs)) ps xss
  | _, _, .nil => .nil
  | _, _, .cons h r => .cons (e _ _ h) (paired_mono e r)
theorem ep_nil {σ : L2.St} {H : Hp} : EvP tNil σ H [] := fun H1 e Q q => q [] H1 (Ex.refl H1) .nil
theorem ep_cons {σ : L2.St} {H : Hp} {te : TE} {tr : TA} {xs : List V} {xss : List (List V)} (h : EvU te σ H xs) (r : EvP tr σ H xss) : EvP (tCons te tr) σ H (xs :: xss) := fun H1 e Q q =>
  h H1 e _ fun p H2 _ e2 hp => r H2 (e.trans e2) _ fun ps H3 e3 hr => q (p :: ps) H3 (e2.trans e3) (.cons (e3 p _ hp) hr)
theorem q_asgLP {ta : TA} {xss : List (List V)} {σ : L2.St} {H : Hp} {tz : TS} {D : Ends} {i : Nat} (h : EvP ta σ H xss) (hz : xss.length ≤ 100000) (k : ∀ p ps H1, Ex H H1 → H1 p = some (.lst (ps.map V.ref)) → Paired (fun p xs => H1 p = some (.tup xs)) ps xss → tz D (σ.set i (some (.ref p))) H1) :
    tSeq (tAsg (tLst ta) (gName i)) tz D σ H := h H (Ex.refl H) _ fun ps H1 e1 hps => by
  have el : ∀ {as : List Addr} {bs : List (List V)}, Paired (fun p xs => H1 p = some (.tup xs)) as bs → as.length = bs.length := fun h => by
    induction h with
    | nil => rfl
    | cons _ _ ih => exact congrArg (· + 1) ih
  exact ⟨sz_of (by rw [List.length_map, el hps]; exact hz), fun p hp => k p ps _ (e1.trans (Ex.new hp)) upd_same (paired_mono (Ex.new hp) hps)⟩
theorem paired_at {H : Hp} : ∀ {ps : List Addr} {xss : List (List V)}, Paired (fun p xs => H p = some (.tup xs)) ps xss → ∀ {i : Nat} {xs : List V}, xss[i]? = some xs → ∃ p, ps[i]? = some p ∧ H p = some (.tup xs)
  | _, _, .cons h _, 0, xs, e => by
    have e := Option.some.inj e
    subst e
    exact ⟨_, rfl, h⟩
  | _, _, .cons _ r, i + 1, xs, e => by
    obtain ⟨p, h1, h2⟩ := paired_at r (i := i) (by simpa using e)
    exact ⟨p, by simpa using h1, h2⟩
theorem paired_len {α β : Type} {R : α → β → Prop} : ∀ {as : List α} {bs : List β}, Paired R as bs → as.length = bs.length
  | _, _, .nil => rfl
  | _, _, .cons _ r => congrArg (· + 1) (paired_len r)
/-- a list that is tracked, and a new one behind it -/
theorem el_catV {K : PySem.W.Frag} {σ : L2.St} {H : Hp} {ta tb : TE} {p : Addr} {xs ys : List V} (ha : Ev ta σ H (.ref p)) (hp : H p = some (.lst xs)) (hb : EvL tb σ H ys) (hz : xs.length + ys.length ≤ 100000) : EvL (tOp rCat ta tb) σ H (xs ++ ys) := fun H1 e Q q =>
  ha H1 e _ fun H2 e2 => hb H2 (e.trans e2) _ fun r H3 hr e3 h3 => ⟨p, r, xs, ys, rfl, rfl, ((e.trans e2).trans e3) p _ hp, h3, sz_of hz, fun l hl => q l _ (fresh_back (e2.trans e3) hl) ((e2.trans e3).trans (Ex.new hl)) upd_same⟩
theorem codes_app {a b : Str} {x y : List Nat} (ha : a.cps.toList = x) (hb : b.cps.toList = y) : (a ++ b).cps.toList = x ++ y := by
  show (a.cps ++ b.cps).toList = x ++ y
  rw [Array.toList_append, ha, hb]
theorem str_len (z : Str) : z.length = z.cps.toList.length := by simp [Str.length]
theorem mk_of {z : Str} {l : List Nat} (h : z.cps.toList = l) : z = ⟨l.toArray⟩ := str_ext h
/-- long texts -/
theorem ev_lenB {σ : L2.St} {H : Hp} {te : TE} {z : Str} (h : Ev te σ H (.str z)) (hz : z.length ≤ 16777216) : Ev (tCB (fun xs H Q => ∃ z, xs = [V.str z] ∧ z.length ≤ sizeLine ∧ Q (.int z.length) H) (tCons te tNil)) σ H (.int (z.length : Int)) := fun H1 e Q q =>
  h H1 e _ fun H2 e2 => ⟨z, rfl, sizeOk hz, q H2 e2⟩
theorem ev_ixB {σ : L2.St} {H : Hp} {ta tb : TE} {z : Str} {i : Int} {c : Nat} (ha : Ev ta σ H (.str z)) (hb : Ev tb σ H (.int i)) (hz : z.length ≤ 16777216) (hi : atI z.cps.toList i = some c) : Ev (tOp rIxS ta tb) σ H (.str ⟨#[c]⟩) :=
  ev_op ha hb fun H1 _ _ q => ⟨z, i, c, rfl, rfl, sizeOk hz, hi, q H1 (Ex.refl H1)⟩
theorem ev_slB {σ : L2.St} {H : Hp} {te : TE} {tl th : TO} {z : Str} {lo hi : Option Int} (h : Ev te σ H (.str z)) (h1 : EvO tl σ H lo) (h2 : EvO th σ H hi) (hz : z.length ≤ 16777216) : Ev (tSl rSlS te tl th) σ H (.str (cutS z lo hi)) := fun H1 e Q q =>
  h H1 e _ fun H2 e2 => h1 H2 (e.trans e2) _ fun H3 e3 => h2 H3 ((e.trans e2).trans e3) _ fun H4 e4 => ⟨z, rfl, sizeOk hz, q H4 ((e2.trans e3).trans e4)⟩
theorem at_natS {l : List Nat} {j c : Nat} (h : l[j]? = some c) : atI l (j : Int) = some c := by
  have hj := (List.getElem?_eq_some_iff.mp h).1
  unfold atI
  rw [ixN_nat hj]
  exact h
theorem q_asgAug {σ : L2.St} {H : Hp} {te : TE} {tz : TS} {D : Ends} {i : Nat} {a b : Int} (hx : σ[i]? = some (some (.int a))) (h : Ev te σ H (.int b)) (k : ∀ H1, Ex H H1 → tz D (σ.set i (some (.int (a + b)))) H1) : tSeq (tAug i te (ipI fun i j => i + j)) tz D σ H := q_aug hx h k
theorem q_callV {sp : Sp} {dvs vs : List V} {E : XK} {ta : TA} {σ : L2.St} {H : Hp} {tz : TS} {D : Ends} {i : Nat} (h : EvA ta σ H vs) (k : ∀ H1, Ex H H1 → sp (vs ++ dvs) H1 (fun v H2 => tz D (σ.set i (some v)) H2) E) : tSeq (tAsg (tCall sp dvs E ta) (gName i)) tz D σ H := h H (Ex.refl H) _ fun H1 e1 => k H1 e1
/-! ### a small tactic: what an expression evaluates to -/
local macro_rules | `(tactic| walk_at "side") => `(tactic| first | assumption | decide | (show (0 : Int) < _; omega) | omega | (show CDivW _ _; exact ⟨by first | decide | omega, by decide⟩) | (show CPow _ _; exact ⟨by decide, by decide, by decide⟩) | (show CMulX _ _; (refine Wd.mul ?_ ?_ <;> walk_at "wd")))
local macro_rules | `(tactic| walk_at "wd") => `(tactic| first | assumption | exact Wd.lit (by decide) | exact Wd.small (by omega) (by omega) | (refine Wd.div ?_; walk_at "wd") | (refine Wd.mod ?_ ?_; (first | decide | omega); (walk_at "wd")) | (refine Wd.neg ?_; walk_at "wd"))
local macro_rules | `(tactic| walk_at "call") => `(tactic| fail "no call")
local macro_rules | `(tactic| walk_at "seq") => `(tactic| first | assumption | (refine ex_l ?_ ?_ <;> assumption) | exact sq_of (by assumption))
local macro_rules | `(tactic| walk_at "ev") => `(tactic| first
  | with_reducible exact ev_c
  | exact ev_var rfl
  | (refine ev_intI ?_; walk_at "ev")
  | (refine ev_bin0 ?_ ?_; (walk_at "ev"); (walk_at "ev"))
  | (refine ev_bin ?_ ?_ ?_; (walk_at "ev"); (walk_at "ev"); (walk_at "side"))
  | (refine ev_eqI ?_ ?_; (walk_at "ev"); (walk_at "ev"))
  | (refine ev_neI ?_ ?_; (walk_at "ev"); (walk_at "ev"))
  | (refine ev_eqS ?_ ?_; (walk_at "ev"); (walk_at "ev"))
  | (refine ev_neS ?_ ?_; (walk_at "ev"); (walk_at "ev"))
  | (refine ev_neg ?_; walk_at "ev")
  | walk_at "call")
local macro_rules | `(tactic| walk_at "et") => `(tactic| first
  | (refine et_test ?_; walk_at "ev")
  | (refine et_B ?_; walk_at "ev")
  | (refine et_not ?_; walk_at "et"))
local macro_rules | `(tactic| walk_at "ea") => `(tactic| first | exact ea_nil | (refine ea_cons ?_ ?_; (walk_at "ev"); (walk_at "ea")))


/-! ### a text times a number -/
theorem foldl_reps (a : Array Nat) : ∀ (m : Nat) (acc : Array Nat), ((List.replicate m a).foldl (· ++ ·) acc).toList = acc.toList ++ (List.replicate m a.toList).flatten
  | 0, acc => by simp
  | m + 1, acc => by
    rw [List.replicate_succ, List.replicate_succ, List.foldl_cons, foldl_reps a m (acc ++ a), Array.toList_append, List.flatten_cons, List.append_assoc]
def repC (z : Str) (n : Nat) : List Nat := (List.replicate n z.cps.toList).flatten
theorem op_repS {X : Cx} : OpR X (binaryOp .Mult) (fun x y H Q => ∃ (z : Str) (k : Int), x = V.str z ∧ y = V.int k ∧ 0 ≤ k ∧ z.length * k.toNat ≤ 16777216 ∧ k < 2 ^ 60 ∧ Q (.str ⟨(repC z k.toNat).toArray⟩) H) := by
  intro pins s σ H x y v u Q I rx ry h
  obtain ⟨z, k, rfl, rfl, h0, hz, hk, q⟩ := h
  obtain ⟨t, rfl⟩ := rx
  obtain ⟨t', rfl⟩ := ry
  have ez : z.length = z.cps.toList.length := by simp [Str.length]
  have hzi : (z.length : Int) * k ≤ 16777216 := by
    have e : ((z.length * k.toNat : Nat) : Int) = (z.length : Int) * k := by
      rw [Int.natCast_mul, Int.toNat_of_nonneg h0]
    omega
  refine PySem.P.mul_str ?_ (fun h1 _ z2 => ?_) (fun h1 _ => ?_) ?_
  · rw [decide_eq_false (by omega), decide_eq_false (by omega)] <;> rfl
  · have h3 : (z.length : Int) ≤ (2 ^ 63 - 1) / k := Int.le_ediv_of_mul_le (by omega) (by omega)
    omega
  · have : ¬ z.length * k.toNat > sizeLine := by
      rw [sizeLine_eq]
      omega
    unfold Builtin.Str.tooLong
    exact decide_eq_false this
  · have e1 : ∀ y : Str, y.cps.toList = repC z k.toNat → y = ⟨(repC z k.toNat).toArray⟩ := fun y hy => by
      obtain ⟨y⟩ := y
      exact congrArg Str.mk (Array.toList_inj.mp (hy.trans rfl))
    have er : (repC z k.toNat).length = k.toNat * z.length := by
      unfold repC
      rw [List.length_flatten, List.map_replicate, List.sum_replicate_nat, ez]
    split
    · have e2 : Str.empty = (⟨(repC z k.toNat).toArray⟩ : Str) := e1 _ (by
        have : k.toNat = 0 := by omega
        unfold repC
        rw [this] <;> rfl)
      refine ⟨by decide, ?_⟩
      rw [e2]
      exact ⟨.str ⟨(repC z k.toNat).toArray⟩, H, I.tok _, ⟨_, rfl⟩, q⟩
    · split
      · rename_i h1 h2
        have e2 : z = (⟨(repC z k.toNat).toArray⟩ : Str) := e1 _ (by
          unfold repC
          rw [Bool.or_eq_true, beq_iff_eq, beq_iff_eq] at h2
          rcases h2 with h2 | h2
          · rw [h2]
            show _ = (List.replicate 1 _).flatten
            simp
          · have : z.cps.toList = [] := List.length_eq_zero_iff.mp (by omega)
            rw [this]
            simp)
        show EP X pins σ Q _ _
        rw [← e2] at q
        exact ⟨.str z, H, I, ⟨t, rfl⟩, q⟩
      · have e2 : (⟨(List.replicate k.toNat z.cps).foldl (· ++ ·) #[]⟩ : Str) = ⟨(repC z k.toNat).toArray⟩ := e1 _ (by
          show ((List.replicate k.toNat z.cps).foldl (· ++ ·) #[]).toList = _
          rw [foldl_reps] <;> rfl)
        rw [e2]
        refine ⟨?_, ⟨.str ⟨(repC z k.toNat).toArray⟩, H, I.tok _, ⟨_, rfl⟩, q⟩⟩
        show (repC z k.toNat).toArray.size ≤ sizeLine
        rw [List.size_toArray, er, sizeLine_eq, Nat.mul_comm]
        exact hz
theorem ev_repS {σ : L2.St} {H : Hp} {ta tb : TE} {z : Str} {n : Nat} (ha : Ev ta σ H (.str z)) (hb : Ev tb σ H (.int (n : Int))) (hz : z.length * n ≤ 16777216) (hn : n ≤ 16777216) : Ev (tOp (fun x y H Q => ∃ (z : Str) (k : Int), x = V.str z ∧ y = V.int k ∧ 0 ≤ k ∧ z.length * k.toNat ≤ 16777216 ∧ k < 2 ^ 60 ∧ Q (.str ⟨(repC z k.toNat).toArray⟩) H) ta tb) σ H (.str ⟨(repC z n).toArray⟩) :=
  ev_op ha hb fun H1 _ Q q => ⟨z, n, rfl, rfl, by omega, hz, by omega, q H1 (Ex.refl H1)⟩


/-! ### items and their written form -/
inductive It where
  | non
  | int (i : Int)
  | str (z : Str)
  | tup (xs : List It)
def numC (i : Int) : List Nat := (toString i : Str).cps.toList
mutual
/-- the codes of the written item -/
def encC : It → List Nat
  | .non => [110]
  | .int i => 105 :: (numC i ++ [59])
  | .str z => 116 :: (numC (z.length : Int) ++ (58 :: z.cps.toList))
  | .tup xs => 40 :: (encL xs ++ [41])
def encL : List It → List Nat
  | [] => []
  | d :: ds => encC d ++ encL ds
end
theorem encL_flat : ∀ ds : List It, encL ds = (ds.map encC).flatten
  | [] => rfl
  | d :: ds => by
    show encC d ++ encL ds = _
    rw [encL_flat ds, List.map_cons, List.flatten_cons]
theorem encL_app : ∀ a b : List It, encL (a ++ b) = encL a ++ encL b
  | [], b => rfl
  | x :: a, b => by
    show encC x ++ encL (a ++ b) = encC x ++ encL a ++ encL b
    rw [encL_app a b, List.append_assoc]
theorem encC_pos (d : It) : 1 ≤ (encC d).length := by
  cases d with
  | non => exact Nat.le_refl 1
  | int i => show 1 ≤ (105 :: _).length; simp
  | str z => show 1 ≤ (116 :: _).length; simp
  | tup xs => show 1 ≤ (40 :: _).length; simp
theorem encL_mem : ∀ {ds : List It} {d : It}, d ∈ ds → (encC d).length ≤ (encL ds).length
  | d' :: ds, d, h => by
    show _ ≤ (encC d' ++ encL ds).length
    rw [List.length_append]
    rcases List.mem_cons.mp h with e | e
    · rw [e]; omega
    · have := encL_mem e; omega
mutual
/-- the value v of the heap is the item -/
inductive Dv (K : PySem.W.Frag) (H : Hp) : V → It → Prop
  | non : Dv K H .non .non
  | int (i : Int) : Dv K H (.int i) (.int i)
  | str (z : Str) : Dv K H (.str z) (.str z)
  | tup {a : Addr} {xs : List V} {ds : List It} (h : SqT K H a xs) (r : DvL K H xs ds) : Dv K H (.ref a) (.tup ds)
inductive DvL (K : PySem.W.Frag) (H : Hp) : List V → List It → Prop
  | nil : DvL K H [] []
  | cons {v : V} {vs : List V} {d : It} {ds : List It} (h : Dv K H v d) (r : DvL K H vs ds) : DvL K H (v :: vs) (d :: ds)
end
/-- all but lists stands as it stood -/
def ExN (H H' : Hp) : Prop := ∀ a o, H a = some o → (∀ xs, o ≠ .lst xs) → H' a = some o
theorem exN_t {K : PySem.W.Frag} {H H' : Hp} {a : Addr} {xs : List V} (e : ExN H H') (h : SqT K H a xs) : SqT K H' a xs := by
  rcases h with (h | ⟨o, h⟩) | h
  · exact .inl (.inl (e _ _ h fun _ z => nomatch z))
  · exact .inl (.inr ⟨o, e _ _ h fun _ z => nomatch z⟩)
  · exact .inr h
theorem Ex.n {H H' : Hp} (e : Ex H H') : ExN H H' := fun a o h _ => e a o h
theorem ExN.trans {H H1 H2 : Hp} (a : ExN H H1) (b : ExN H1 H2) : ExN H H2 := fun x o h n => b x o (a x o h n) n
theorem ExN.upd {H : Hp} {p : Addr} {xs : List V} {o : HO} (h : H p = some (.lst xs)) : ExN H (upd H p o) := fun a u e n => by
  rw [upd_ne (fun z => n xs (by rw [z, h] at e; exact (Option.some.inj e).symm))]
  exact e
mutual
theorem Dv.monoN {K : PySem.W.Frag} {H H' : Hp} (e : ExN H H') : ∀ {v : V} {d : It}, Dv K H v d → Dv K H' v d
  | _, _, .non => .non
  | _, _, .int i => .int i
  | _, _, .str z => .str z
  | _, _, .tup h r => .tup (exN_t e h) (DvL.monoN e r)
theorem DvL.monoN {K : PySem.W.Frag} {H H' : Hp} (e : ExN H H') : ∀ {vs : List V} {ds : List It}, DvL K H vs ds → DvL K H' vs ds
  | _, _, .nil => .nil
  | _, _, .cons h r => .cons (Dv.monoN e h) (DvL.monoN e r)
end
theorem Dv.mono {K : PySem.W.Frag} {H H' : Hp} (e : Ex H H') {v : V} {d : It} (h : Dv K H v d) : Dv K H' v d := h.monoN (Ex.n e)
theorem DvL.mono {K : PySem.W.Frag} {H H' : Hp} (e : Ex H H') {vs : List V} {ds : List It} (h : DvL K H vs ds) : DvL K H' vs ds := h.monoN (Ex.n e)
theorem DvL.app {K : PySem.W.Frag} {H : Hp} : ∀ {vs us : List V} {ds es : List It}, DvL K H vs ds → DvL K H us es → DvL K H (vs ++ us) (ds ++ es)
  | _, _, _, _, .nil, h => h
  | _, _, _, _, .cons a r, h => .cons a (r.app h)
theorem DvL.take {K : PySem.W.Frag} {H : Hp} : ∀ {vs : List V} {ds : List It} (n : Nat), DvL K H vs ds → DvL K H (vs.take n) (ds.take n)
  | _, _, 0, _ => .nil
  | _, _, _ + 1, .nil => .nil
  | _, _, n + 1, .cons a r => .cons a (r.take n)
theorem DvL.drop {K : PySem.W.Frag} {H : Hp} : ∀ {vs : List V} {ds : List It} (n : Nat), DvL K H vs ds → DvL K H (vs.drop n) (ds.drop n)
  | _, _, 0, h => h
  | _, _, _ + 1, .nil => .nil
  | _, _, n + 1, .cons _ r => r.drop n
theorem DvL.len {K : PySem.W.Frag} {H : Hp} : ∀ {vs : List V} {ds : List It}, DvL K H vs ds → vs.length = ds.length
  | _, _, .nil => rfl
  | _, _, .cons _ r => congrArg (· + 1) r.len
theorem DvL.at {K : PySem.W.Frag} {H : Hp} : ∀ {vs : List V} {ds : List It}, DvL K H vs ds → ∀ {i : Nat} {v : V} {d : It}, vs[i]? = some v → ds[i]? = some d → Dv K H v d
  | _, _, .cons h _, 0, v, d, e1, e2 => by
    have e1 := Option.some.inj e1
    have e2 := Option.some.inj e2
    subst e1 e2
    exact h
  | _, _, .cons _ r, i + 1, v, d, e1, e2 => r.at (i := i) (by simpa using e1) (by simpa using e2)
/-- depth, width and sizes -/
def It.fit : Nat → It → Prop
  | 0, x => match x with
    | .non => True
    | .int i => -(10 ^ 60) < i ∧ i < 10 ^ 60
    | .str z => z.length ≤ 999999
    | .tup _ => False
  | n + 1, x => match x with
    | .non => True
    | .int i => -(10 ^ 60) < i ∧ i < 10 ^ 60
    | .str z => z.length ≤ 999999
    | .tup xs => xs.length ≤ 1000 ∧ ∀ y ∈ xs, It.fit n y
theorem log60 {i : Int} (h : -(10 ^ 60) < i ∧ i < 10 ^ 60) : i.natAbs.log2 < 1920 := by
  have e60 : (10 : Int) ^ 60 = 1000000000000000000000000000000000000000000000000000000000000 := by decide
  rw [e60] at h
  exact Nat.lt_of_lt_of_le (PySem.Flt.log2_lt_of (k := 256) (by decide) (by omega)) (by decide)
theorem fit_int60 {n : Nat} {i : Int} (h : It.fit n (.int i)) : -(10 ^ 60) < i ∧ i < 10 ^ 60 := by cases n <;> exact h
theorem fit_int {n : Nat} {i : Int} (h : It.fit n (.int i)) : i.natAbs.log2 < 1920 := log60 (fit_int60 h)
theorem fit_str {n : Nat} {z : Str} (h : It.fit n (.str z)) : z.length ≤ 999999 := by cases n <;> exact h
theorem It.fit_mono : ∀ {n m : Nat} {d : It}, It.fit n d → n ≤ m → It.fit m d
  | n, m, .non, _, _ => by cases m <;> trivial
  | n, m, .int i, h, _ => by
    have := fit_int60 h
    cases m <;> exact this
  | n, m, .str z, h, _ => by
    have := fit_str h
    cases m <;> exact this
  | 0, m, .tup xs, h, _ => h.elim
  | n + 1, 0, .tup xs, h, e => by omega
  | n + 1, m + 1, .tup xs, h, e => ⟨h.1, fun y hy => It.fit_mono (h.2 y hy) (by omega)⟩
def spEnc (K : PySem.W.Frag) (n : Nat) : Sp := fun vs H Q _ => ∃ (v : V) (d : It), vs = [v] ∧ Dv K H v d ∧ d.fit n ∧ (encC d).length ≤ 16000000 ∧ ∀ H', Ex H H' → Q (.str ⟨(encC d).toArray⟩) H'
theorem cv_enc {K : PySem.W.Frag} {n : Nat} {v : V} {d : It} {H : Hp} (h : Dv K H v d) (hf : d.fit n) (hz : (encC d).length ≤ 16000000) : SpV (spEnc K n) [v] H (.str ⟨(encC d).toArray⟩) := fun H1 e Q q E => ⟨v, d, rfl, h.mono e, hf, hz, fun H2 e2 => q H2 e2⟩
/-- '(' + ''.join([f(part) for part in item]) + ')' -/
theorem ev_parts {K : PySem.W.Frag} {σ : L2.St} {H : Hp} {te tl : TE} {j : Nat} {vs : List Nat} {a : Addr} {xs : List V} {ds : List It} {n : Nat} (hl : Ev tl σ H (.ref a)) (h : SqT K H a xs) (r : DvL K H xs ds) (hf : It.fit (n + 1) (.tup ds)) (hz : (encC (.tup ds)).length ≤ 16000000)
    (hw : ∀ x, wipe ((wipe σ vs).set j (some x)) vs = wipe σ vs)
    (he : ∀ (x : V) (d : It) H1, Ex H H1 → Dv K H1 x d → d.fit n → (encC d).length ≤ 16000000 → Ev te ((wipe σ vs).set j (some x)) H1 (.str ⟨(encC d).toArray⟩)) :
    Ev (tOp (fun x y H Q => ∃ i j, x = V.str i ∧ y = V.str j ∧ i.length + j.length ≤ sizeLine ∧ Q (.str (i ++ j)) H) (tOp (fun x y H Q => ∃ i j, x = V.str i ∧ y = V.str j ∧ i.length + j.length ≤ sizeLine ∧ Q (.str (i ++ j)) H) (tC (.str (Str.ofString "(")))
      (tM1 (fun x xs H Q => ∃ a p, ∃ ys : List Str, x = .str a ∧ xs = [.ref p] ∧ (SqL K H p (ys.map V.str) ∨ SqT K H p (ys.map V.str)) ∧ (ys.map (·.length)).sum + ys.length * a.length ≤ 16777216 ∧ Q (.str (Txt.join a ys)) H) (tC (.str (Str.ofString ""))) (tLc (iTup K tl) (gName j) tYes te vs)))
      (tC (.str (Str.ofString ")")))) σ H (.str ⟨(encC (.tup ds)).toArray⟩) := by
  have ez : (encC (.tup ds)).length = (encL ds).length + 2 := by
    show (40 :: (encL ds ++ [41])).length = _
    rw [List.length_cons, List.length_append] <;> rfl
  have ef : (encL ds) = (ds.map encC).flatten := encL_flat ds
  have ej : Txt.join (Str.ofString "") ((ds.map encC).map fun c => (⟨c.toArray⟩ : Str)) = ⟨(encL ds).toArray⟩ := by rw [join_codes, ef]
  have e1 : (⟨(encC (.tup ds)).toArray⟩ : Str) = Str.ofString "(" ++ Txt.join (Str.ofString "") ((ds.map encC).map fun c => (⟨c.toArray⟩ : Str)) ++ Str.ofString ")" := by
    refine str_ext ?_
    rw [ej]
    have a1 : (Str.ofString "(").cps.toList = [40] := by decide +kernel
    have a2 : (Str.ofString ")").cps.toList = [41] := by decide +kernel
    rw [codes_app (codes_app a1 rfl) a2]
    show 40 :: (encL ds ++ [41]) = _
    simp
  rw [e1]
  have l1 : (Str.ofString "(").length = 1 := by decide +kernel
  have l2 : (Str.ofString ")").length = 1 := by decide +kernel
  have l3 : (Str.ofString "(" ++ Txt.join (Str.ofString "") ((ds.map encC).map fun c => (⟨c.toArray⟩ : Str))).length = 1 + (encL ds).length := by
    rw [ej, str_len, codes_app (x := [40]) (by decide +kernel) rfl, List.length_append]
    simp
  have l4 : (Txt.join (Str.ofString "") ((ds.map encC).map fun c => (⟨c.toArray⟩ : Str))).length = (encL ds).length := by
    rw [ej, str_len]
  refine ev_addS (ev_addS ev_c (ev_joinN (K := K) ev_c (el_mapT (K := K) hl h ?_ hw ?_ fun i x y hx hy H1 ex => ?_) ?_) ?_) ev_c ?_
  · have := hf.1
    rw [r.len]; omega
  · rw [List.length_map, List.length_map, List.length_map, r.len]
  · rw [List.getElem?_map, List.getElem?_map, List.getElem?_map] at hy
    cases e : ds[i]? with
    | none =>
      rw [e] at hy
      cases hy
    | some d =>
      rw [e] at hy
      have ey : y = .str ⟨(encC d).toArray⟩ := (Option.some.inj hy).symm
      have hm := List.mem_of_getElem? e
      rw [ey]
      have := encL_mem hm
      exact he x d H1 ex ((r.at hx e).mono ex) (hf.2 d hm) (by omega)
  · rw [sum_codes, ← ef]
    show _ + _ * 0 ≤ 16777216
    omega
  · rw [l1, l4]; omega
  · rw [l3, l2]; omega
/-- return f'i{item};' -/
theorem enc_int {n : Nat} {i : Int} {σ : L2.St} {H : Hp} {D : Ends} (hf : It.fit n (.int i)) (hz : (encC (.int i)).length ≤ 16000000) (q : ∀ H1, Ex H H1 → D.rt (.str ⟨(encC (.int i)).toArray⟩) H1) {te : TE} (he : Ev te σ H (.int i) := by exact ev_var rfl) :
    tRet (fun σ H Q => tJs [tC (.str (Str.ofString "i")), tFmt te, tC (.str (Str.ofString ";"))] Str.empty σ H fun out H1 => Q (.str out) H1) D σ H := by
  have a1 : (Str.ofString "i").cps.toList = [105] := by decide +kernel
  have a2 : (Str.ofString ";").cps.toList = [59] := by decide +kernel
  have a0 : (Str.empty).cps.toList = [] := by decide +kernel
  have ey : ([Str.ofString "i", (toString i : Str), Str.ofString ";"].foldl (· ++ ·) Str.empty : Str) = ⟨(encC (.int i)).toArray⟩ := mk_of (by
    show (((Str.empty ++ Str.ofString "i") ++ (toString i : Str)) ++ Str.ofString ";").cps.toList = _
    rw [codes_app (codes_app (codes_app a0 a1) rfl) a2]
    show _ = 105 :: (numC i ++ [59])
    simp [numC])
  refine s_ret (ev_is (ev_joined (.cons ev_c (.cons (ev_fmtI he (fit_int hf)) (.cons ev_c .nil))) ?_) (congrArg V.str ey)) q
  have e1 : (encC (.int i)).length = 2 + (numC i).length := by
    show (105 :: (numC i ++ [59])).length = _
    rw [List.length_cons, List.length_append, List.length_singleton]
    omega
  have e2 : ([Str.ofString "i", (toString i : Str), Str.ofString ";"].map (·.length)).sum = 1 + ((numC i).length + (1 + 0)) := by
    show (Str.ofString "i").length + ((toString i : Str).length + ((Str.ofString ";").length + 0)) = _
    rw [str_len, str_len, str_len, a1, a2] <;> rfl
  omega
/-- return f't{len(item)}:{item}' -/
theorem enc_str {n : Nat} {z : Str} {σ : L2.St} {H : Hp} {D : Ends} (hf : It.fit n (.str z)) (hz : (encC (.str z)).length ≤ 16000000) (q : ∀ H1, Ex H H1 → D.rt (.str ⟨(encC (.str z)).toArray⟩) H1) {te : TE} (he : Ev te σ H (.str z) := by exact ev_var rfl) :
    tRet (fun σ H Q => tJs [tC (.str (Str.ofString "t")), tFmt (tCB (fun xs H Q => ∃ z, xs = [V.str z] ∧ z.length ≤ sizeLine ∧ Q (.int z.length) H) (tCons te tNil)), tC (.str (Str.ofString ":")), tFmt te] Str.empty σ H fun out H1 => Q (.str out) H1) D σ H := by
  have a1 : (Str.ofString "t").cps.toList = [116] := by decide +kernel
  have a2 : (Str.ofString ":").cps.toList = [58] := by decide +kernel
  have a0 : (Str.empty).cps.toList = [] := by decide +kernel
  have hl := fit_str hf
  have hl2 : z.length ≤ sizeLine := sizeOk (by omega)
  have hs : ((z.length : Int)).natAbs.log2 < 1920 := Nat.lt_of_lt_of_le (PySem.Flt.log2_lt_of (k := 64) (by decide) (by omega)) (by decide)
  have ey : ([Str.ofString "t", (toString (z.length : Int) : Str), Str.ofString ":", z].foldl (· ++ ·) Str.empty : Str) = ⟨(encC (.str z)).toArray⟩ := mk_of (by
    show ((((Str.empty ++ Str.ofString "t") ++ (toString (z.length : Int) : Str)) ++ Str.ofString ":") ++ z).cps.toList = _
    rw [codes_app (codes_app (codes_app (codes_app a0 a1) rfl) a2) rfl]
    show _ = 116 :: (numC (z.length : Int) ++ (58 :: z.cps.toList))
    simp [numC])
  refine s_ret (ev_is (ev_joined (.cons ev_c (.cons (ev_fmtI (fun H1 e Q q => he H1 e _ fun H2 e2 => ⟨z, rfl, hl2, q H2 e2⟩) hs) (.cons ev_c (.cons (ev_fmtS he (by omega)) .nil)))) ?_) (congrArg V.str ey)) q
  have e1 : (encC (.str z)).length = 2 + (numC (z.length : Int)).length + z.cps.toList.length := by
    show (116 :: (numC (z.length : Int) ++ (58 :: z.cps.toList))).length = _
    rw [List.length_cons, List.length_append, List.length_cons]
    omega
  have e2 : ([Str.ofString "t", (toString (z.length : Int) : Str), Str.ofString ":", z].map (·.length)).sum = 1 + ((numC (z.length : Int)).length + (1 + (z.cps.toList.length + 0))) := by
    show (Str.ofString "t").length + ((toString (z.length : Int) : Str).length + ((Str.ofString ":").length + (z.length + 0))) = _
    rw [str_len, str_len (toString _ : Str), str_len (Str.ofString ":"), str_len z, a1, a2] <;> rfl
  omega

def rCatS' : R2 := fun x y H Q => ∃ i j, x = V.str i ∧ y = V.str j ∧ i.length + j.length ≤ sizeLine ∧ Q (.str (i ++ j)) H
/-- return 'i' + str(item) + ';' -/
theorem wr_int {n : Nat} {i : Int} {σ : L2.St} {H : Hp} {D : Ends} (hf : It.fit n (.int i)) (hz : (encC (.int i)).length ≤ 16000000) (q : ∀ H1, Ex H H1 → D.rt (.str ⟨(encC (.int i)).toArray⟩) H1) {te : TE} (he : Ev te σ H (.int i) := by exact ev_var rfl) :
    tRet (tOp rCatS' (tOp rCatS' (tC (.str (Str.ofString "i"))) (tCB (fun xs H Q => ∃ i : Int, xs = [V.int i] ∧ i.natAbs.log2 < 1920 ∧ Q (.str (toString i)) H) (tCons te tNil))) (tC (.str (Str.ofString ";")))) D σ H := by
  have a1 : (Str.ofString "i").cps.toList = [105] := by decide +kernel
  have a2 : (Str.ofString ";").cps.toList = [59] := by decide +kernel
  have ey : ((Str.ofString "i" ++ (toString i : Str)) ++ Str.ofString ";") = (⟨(encC (.int i)).toArray⟩ : Str) := mk_of (by
    rw [codes_app (codes_app a1 rfl) a2]
    show _ = 105 :: (numC i ++ [59])
    simp [numC])
  have e1 : (encC (.int i)).length = 2 + (numC i).length := by
    show (105 :: (numC i ++ [59])).length = _
    rw [List.length_cons, List.length_append, List.length_singleton]
    omega
  have e3 : (toString i : Str).length = (numC i).length := str_len _
  have e2 : (Str.ofString "i" ++ (toString i : Str)).length = 1 + (numC i).length := by
    rw [str_len, codes_app a1 rfl, List.length_append] <;> rfl
  have l1 : (Str.ofString "i").length = 1 := by decide +kernel
  have l2 : (Str.ofString ";").length = 1 := by decide +kernel
  refine s_ret (ev_is (ev_addS (ev_addS ev_c (ev_strI he (fit_int hf)) ?_) ev_c ?_) (congrArg V.str ey)) q
  · rw [l1, e3]; omega
  · rw [e2, l2]; omega
/-- return 't' + str(len(item)) + ':' + item -/
theorem wr_str {n : Nat} {z : Str} {σ : L2.St} {H : Hp} {D : Ends} (hf : It.fit n (.str z)) (hz : (encC (.str z)).length ≤ 16000000) (q : ∀ H1, Ex H H1 → D.rt (.str ⟨(encC (.str z)).toArray⟩) H1) {te : TE} (he : Ev te σ H (.str z) := by exact ev_var rfl) :
    tRet (tOp rCatS' (tOp rCatS' (tOp rCatS' (tC (.str (Str.ofString "t"))) (tCB (fun xs H Q => ∃ i : Int, xs = [V.int i] ∧ i.natAbs.log2 < 1920 ∧ Q (.str (toString i)) H) (tCons (tCB (fun xs H Q => ∃ z, xs = [V.str z] ∧ z.length ≤ sizeLine ∧ Q (.int z.length) H) (tCons te tNil)) tNil))) (tC (.str (Str.ofString ":")))) te) D σ H := by
  have a1 : (Str.ofString "t").cps.toList = [116] := by decide +kernel
  have a2 : (Str.ofString ":").cps.toList = [58] := by decide +kernel
  have hl := fit_str hf
  have hl2 : z.length ≤ sizeLine := sizeOk (by omega)
  have hs : ((z.length : Int)).natAbs.log2 < 1920 := Nat.lt_of_lt_of_le (PySem.Flt.log2_lt_of (k := 64) (by decide) (by omega)) (by decide)
  have ey : (((Str.ofString "t" ++ (toString (z.length : Int) : Str)) ++ Str.ofString ":") ++ z) = (⟨(encC (.str z)).toArray⟩ : Str) := mk_of (by
    rw [codes_app (codes_app (codes_app a1 rfl) a2) rfl]
    show _ = 116 :: (numC (z.length : Int) ++ (58 :: z.cps.toList))
    simp [numC])
  have e1 : (encC (.str z)).length = 2 + (numC (z.length : Int)).length + z.cps.toList.length := by
    show (116 :: (numC (z.length : Int) ++ (58 :: z.cps.toList))).length = _
    rw [List.length_cons, List.length_append, List.length_cons]
    omega
  have e3 : (toString (z.length : Int) : Str).length = (numC (z.length : Int)).length := str_len _
  have e2 : (Str.ofString "t" ++ (toString (z.length : Int) : Str)).length = 1 + (numC (z.length : Int)).length := by
    rw [str_len, codes_app a1 rfl, List.length_append] <;> rfl
  have e4 : ((Str.ofString "t" ++ (toString (z.length : Int) : Str)) ++ Str.ofString ":").length = 2 + (numC (z.length : Int)).length := by
    rw [str_len, codes_app (codes_app a1 rfl) a2, List.length_append, List.length_append]
    show 1 + _ + 1 = _
    unfold numC
    omega
  have l1 : (Str.ofString "t").length = 1 := by decide +kernel
  have l2 : (Str.ofString ":").length = 1 := by decide +kernel
  have l4 := str_len z
  refine s_ret (ev_is (ev_addS (ev_addS (ev_addS ev_c (ev_strI (fun H1 e Q q => he H1 e _ fun H2 e2 => ⟨z, rfl, hl2, q H2 e2⟩) hs) ?_) ev_c ?_) he ?_) (congrArg V.str ey)) q
  · rw [l1, e3]; omega
  · rw [e2, l2]; omega
  · rw [e4]; omega
/-! ### sizes -/
theorem numC_len {i : Int} (h : i.natAbs.log2 < 1920) : (numC i).length ≤ 1921 := by
  have e := int_text_length_le (k := 1920) (by decide) h
  have e2 : (numC i).length = (toString i : Str).length := (str_len _).symm
  rw [e2]
  show (Str.ofString (toString i)).length ≤ 1921
  rw [PySem.ofString_length]
  exact e
theorem enc_int_len {i : Int} (h : i.natAbs.log2 < 1920) : (encC (.int i)).length ≤ 1923 := by
  have := numC_len h
  show (105 :: (numC i ++ [59])).length ≤ _
  rw [List.length_cons, List.length_append, List.length_singleton]
  omega
theorem enc_str_len {z : Str} (h : z.length ≤ 1000000) : (encC (.str z)).length ≤ 1923 + z.length := by
  have hs : ((z.length : Int)).natAbs.log2 < 1920 := Nat.lt_of_lt_of_le (PySem.Flt.log2_lt_of (k := 64) (by decide) (by omega)) (by decide)
  have := numC_len hs
  have e := str_len z
  show (116 :: (numC (z.length : Int) ++ (58 :: z.cps.toList))).length ≤ _
  rw [List.length_cons, List.length_append, List.length_cons]
  omega
/-- a value of the document: None, an int below 10 ** 60, a text of some signs -/
def It.sc : It → Prop
  | .non => True
  | .int i => -(10 ^ 60) < i ∧ i < 10 ^ 60
  | .str z => z.length ≤ 200
  | .tup _ => False
def vz : It → V
  | .non => .non
  | .int i => .int i
  | .str z => .str z
  | .tup _ => .non
theorem It.sc_fit {d : It} (h : d.sc) (n : Nat) : d.fit n := by
  cases d with
  | non => cases n <;> trivial
  | int i => cases n <;> exact h
  | str z =>
    have h : z.length ≤ 200 := h
    cases n <;> (show z.length ≤ 999999; omega)
  | tup xs => exact h.elim
theorem It.sc_len {d : It} (h : d.sc) : (encC d).length ≤ 2200 := by
  cases d with
  | non => show 1 ≤ 2200; decide
  | int i => exact Nat.le_trans (enc_int_len (log60 h)) (by decide)
  | str z =>
    have h : z.length ≤ 200 := h
    have := enc_str_len (z := z) (by omega)
    omega
  | tup xs => exact h.elim
theorem Dv.sc {K : PySem.W.Frag} {H : Hp} {d : It} (h : d.sc) : Dv K H (vz d) d := by
  cases d with
  | non => exact .non
  | int i => exact .int i
  | str z => exact .str z
  | tup xs => exact h.elim
theorem DvL.sc {K : PySem.W.Frag} {H : Hp} : ∀ {ds : List It}, (∀ d ∈ ds, d.sc) → DvL K H (ds.map vz) ds
  | [], _ => .nil
  | d :: ds, h => .cons (.sc (h d (List.mem_cons_self ..))) (.sc fun x hx => h x (List.mem_cons_of_mem _ hx))
theorem encL_len : ∀ {ds : List It} {m : Nat}, (∀ d ∈ ds, (encC d).length ≤ m) → (encL ds).length ≤ ds.length * m
  | [], m, _ => Nat.zero_le _
  | d :: ds, m, h => by
    have h1 := h d (List.mem_cons_self ..)
    have h2 := encL_len (ds := ds) (m := m) fun x hx => h x (List.mem_cons_of_mem _ hx)
    show (encC d ++ encL ds).length ≤ (ds.length + 1) * m
    rw [List.length_append, Nat.add_mul]
    omega
theorem enc_tup_len (ds : List It) : (encC (.tup ds)).length = (encL ds).length + 2 := by
  show (40 :: (encL ds ++ [41])).length = _
  rw [List.length_cons, List.length_append] <;> rfl


/-- the digest -/
def digS (t : Int) (c : Nat) : Int := (31 * t + (c : Int)) % 1000003
def digZ (l : List Nat) : Int := l.foldl digS 7
theorem digZ_succ {l : List Nat} {i c : Nat} (h : l[i]? = some c) : digZ (l.take (i + 1)) = (31 * digZ (l.take i) + (c : Int)) % 1000003 := by
  unfold digZ
  rw [List.take_add_one, h]
  show ((l.take i) ++ [c]).foldl digS 7 = _
  rw [List.foldl_append] <;> rfl
theorem digZ_ge : ∀ (l : List Nat), 0 ≤ digZ l ∧ digZ l < 1000003 := by
  intro l
  unfold digZ
  have key : ∀ (l : List Nat) (t : Int), 0 ≤ t ∧ t < 1000003 → 0 ≤ l.foldl digS t ∧ l.foldl digS t < 1000003 := by
    intro l
    induction l with
    | nil => exact fun t h => h
    | cons a r ih => exact fun t _ => ih (digS t a) ⟨Int.emod_nonneg (31 * t + (a : Int)) (by decide : (1000003 : Int) ≠ 0), Int.emod_lt_of_pos (31 * t + (a : Int)) (by decide : (0 : Int) < 1000003)⟩
  exact key l 7 ⟨by decide, by decide⟩
def spDig : Sp := fun vs H Q _ => ∃ z : Str, vs = [.str z] ∧ ∀ H', Ex H H' → Q (.int (digZ z.cps.toList)) H'
theorem cv_dig {z : Str} {H : Hp} : SpV spDig [.str z] H (.int (digZ z.cps.toList)) := fun H1 e Q q E => ⟨z, rfl, fun H2 e2 => q H2 e2⟩


/-! ### what is read back -/
theorem numC_nat (n : Nat) : numC ((n : Nat) : Int) = TL.numL n := TL.tl_num n
theorem neg_text (n : Nat) : (toString (Int.negSucc n) : String) = "-" ++ toString ((n + 1 : Nat) : Int) := rfl
theorem ofString_app (a b : String) : Str.ofString (a ++ b) = Str.ofString a ++ Str.ofString b := by
  refine str_ext ?_
  rw [codes_app (signs_ofString a) (signs_ofString b), signs_ofString, String.toList_append, List.map_append]
theorem numC_neg (n : Nat) : numC (Int.negSucc n) = 45 :: TL.numL (n + 1) := by
  show (Str.ofString (toString (Int.negSucc n))).cps.toList = _
  rw [neg_text, ofString_app, codes_app (x := [45]) (by decide +kernel) rfl]
  exact congrArg (List.cons 45) (numC_nat (n + 1))
/-- digits without a leading zero -/
structure Digs (ds : List Nat) (most : Nat) : Prop where
  all : ∀ c ∈ ds, 48 ≤ c ∧ c ≤ 57
  ne : ds ≠ []
  len : ds.length ≤ most
  lead : ds.length = 1 ∨ ds.head? ≠ some 48
theorem numL_head : ∀ n : Nat, (TL.numL n).length = 1 ∨ (TL.numL n).head? ≠ some 48 := by
  intro n
  induction n using Nat.strongRecOn with
  | _ n ih =>
    by_cases h : n < 10
    · exact .inl (by rw [TL.numL_lt h] <;> rfl)
    · refine .inr ?_
      have h10 : 10 ≤ n := by omega
      rw [TL.numL_step h10]
      have hne := TL.numL_ne (n / 10)
      cases e : TL.numL (n / 10) with
      | nil => exact absurd e hne
      | cons c r =>
        show some c ≠ some 48
        rcases ih (n / 10) (by omega) with h1 | h1
        · rw [e] at h1
          have hr : r = [] := List.length_eq_zero_iff.mp (by simpa using h1)
          subst hr
          have hq : n / 10 < 10 := by
            by_cases hq : n / 10 < 10
            · exact hq
            · rw [TL.numL_step (by omega)] at e
              have := congrArg List.length e
              have h3 := List.length_pos_iff.mpr (TL.numL_ne (n / 10 / 10))
              rw [List.length_append, List.length_singleton, List.length_singleton] at this
              omega
          rw [TL.numL_lt hq] at e
          have e2 : 48 + n / 10 = c := by simpa using e
          intro z
          have := Option.some.inj z
          omega
        · rw [e] at h1
          exact h1
theorem digs_num {n most : Nat} (hm : 0 < most) (h : n < 10 ^ most) : Digs (TL.numL n) most := ⟨TL.numL_digits n, TL.numL_ne n, TL.numL_len hm h, numL_head n⟩
theorem slice_app {l a b c : List Nat} (h : l = a ++ (b ++ c)) : (l.drop a.length).take b.length = b := by
  rw [h, List.drop_left, List.take_left]
/-- text[i:j] of a text that is known there -/
theorem cutS_at {z : Str} {a b c : List Nat} (h : z.cps.toList = a ++ (b ++ c)) : cutS z (some (a.length : Int)) (some ((a.length + b.length : Nat) : Int)) = ⟨b.toArray⟩ := by
  have el : z.length = a.length + (b.length + c.length) := by rw [str_len, h, List.length_append, List.length_append]
  unfold cutS
  rw [HT.sIx_nat, HT.sIx_nat, Nat.min_eq_left (by omega), Nat.min_eq_left (by omega), Nat.add_sub_cancel_left, slice_app h]
theorem int_at {i : Int} (h : -(10 ^ 60) < i ∧ i < 10 ^ 60) : intText? (⟨(numC i).toArray⟩ : Str) = some i ∧ (⟨(numC i).toArray⟩ : Str).length ≤ 640 := by
  have e60 : (10 : Int) ^ 60 = 1000000000000000000000000000000000000000000000000000000000000 := by decide
  have n60 : (10 : Nat) ^ 60 = 1000000000000000000000000000000000000000000000000000000000000 := by decide
  rw [e60] at h
  cases i with
  | ofNat n =>
    have hn : n < 10 ^ 60 := by
      rw [n60]
      have := h.2
      simp at this
      omega
    have hl := TL.numL_len (by decide) hn
    have e : (⟨(numC (Int.ofNat n)).toArray⟩ : Str) = Str.ofString (toString ((n : Nat) : Int)) := str_ext rfl
    refine ⟨?_, ?_⟩
    · rw [e]
      exact TL.int_num (by omega)
    · rw [str_len]
      show (numC ((n : Nat) : Int)).length ≤ 640
      rw [numC_nat]
      omega
  | negSucc n =>
    have hn : n + 1 < 10 ^ 60 := by
      rw [n60]
      have := h.1
      omega
    have hl := TL.numL_len (by decide) hn
    have ec : (⟨(numC (Int.negSucc n)).toArray⟩ : Str).cps.toList = 45 :: TL.numL (n + 1) := numC_neg n
    have ln : (⟨(numC (Int.negSucc n)).toArray⟩ : Str).length = (TL.numL (n + 1)).length + 1 := by rw [str_len, ec] <;> rfl
    refine ⟨?_, by omega⟩
    have := PySem.intText_neg ec (TL.numL_digits _) (TL.numL_ne _) (by omega)
    rw [TL.numL_val] at this
    rw [this]
    exact congrArg some (by omega)
/-! ### a chain of two comparisons of texts -/
theorem le_str1 (a c : Nat) : (!decide ((⟨#[c]⟩ : Str).cps.toList < (⟨#[a]⟩ : Str).cps.toList)) = decide (a ≤ c) := by
  have e : ((⟨#[c]⟩ : Str).cps.toList < (⟨#[a]⟩ : Str).cps.toList) ↔ c < a := by
    show ([c] : List Nat) < [a] ↔ c < a
    constructor
    · intro h
      cases h with
      | rel h => exact h
      | cons h => cases h
    · intro h
      exact List.Lex.rel h
  by_cases h : c < a
  · rw [decide_eq_true (e.mpr h), decide_eq_false (by omega)] <;> rfl
  · rw [decide_eq_false (fun z => h (e.mp z)), decide_eq_true (by omega)] <;> rfl
abbrev rLeS : R2 := fun x y H Q => ∃ i j, x = .str i ∧ y = .str j ∧ Q (.bl (!decide (j.cps.toList < i.cps.toList))) H
theorem et_dig {σ : L2.St} {H : Hp} {tb : TE} {c : Nat} (hb : Ev tb σ H (.str ⟨#[c]⟩)) : EvT (tTest (tChain rLeS rLeS (tC (.str (Str.ofString "0"))) tb (tC (.str (Str.ofString "9"))))) σ H (decide (48 ≤ c ∧ c ≤ 57)) := fun H1 e Q q => by
  have e0 : (Str.ofString "0") = ⟨#[48]⟩ := by decide +kernel
  have e9 : (Str.ofString "9") = ⟨#[57]⟩ := by decide +kernel
  refine hb H1 e _ fun H2 e2 => ⟨_, _, rfl, rfl, decide (48 ≤ c), ?_, ?_⟩
  · rw [e0]
    exact congrArg V.bl (le_str1 48 c)
  · by_cases h : 48 ≤ c
    · rw [decide_eq_true h]
      refine iteT ⟨_, _, rfl, rfl, decide (c ≤ 57), ?_, ?_⟩
      · rw [e9]
        exact congrArg V.bl (le_str1 c 57)
      · have : decide (48 ≤ c ∧ c ≤ 57) = decide (c ≤ 57) := decide_eq_decide.mpr ⟨fun z => z.2, fun z => ⟨h, z⟩⟩
        rw [← this]
        exact q H2 e2
    · rw [decide_eq_false h]
      refine iteF ⟨false, rfl, ?_⟩
      have : decide (48 ≤ c ∧ c ≤ 57) = false := decide_eq_false fun z => h z.1
      rw [← this]
      exact q H2 e2
theorem str1_eq {a c : Nat} : decide ((⟨#[c]⟩ : Str) = ⟨#[a]⟩) = decide (c = a) := decide_eq_decide.mpr ⟨fun h => by
  have := congrArg (fun s : Str => s.cps.toList) h
  simpa using this, fun h => by rw [h]⟩
def spDec (K : PySem.W.Frag) : Sp := fun vs H Q _ => ∃ (z : Str) (d : It), vs = [.str z] ∧ z = ⟨(encC d).toArray⟩ ∧ d.fit 12 ∧ (encC d).length ≤ 16000000 ∧ ∀ v H', Ex H H' → Dv K H' v d → Q v H'


/-! ### kinds -/
def kIn (k : Str) (xs : List String) : Bool := inV (.str k) (xs.map fun x => V.str (Str.ofString x))
def baseT (k : Str) : Str := if kIn k ["int", "int?"] then Str.ofString "int" else Str.ofString "text"
theorem ev_kinU {K : PySem.W.Frag} {σ : L2.St} {H : Hp} {ta tb : TE} {k : Str} {xs : List String} (ha : Ev ta σ H (.str k)) (hb : EvU tb σ H (xs.map fun x => V.str (Str.ofString x))) (hf : (xs.map fun x => V.str (Str.ofString x)).all flatV = true := by rfl) : Ev (tOp (rIn K false) ta tb) σ H (.bl (kIn k xs)) := ev_inU ha hb rfl hf
theorem ev_kinL {K : PySem.W.Frag} {σ : L2.St} {H : Hp} {ta tb : TE} {k : Str} {xs : List String} (ha : Ev ta σ H (.str k)) (hb : EvL tb σ H (xs.map fun x => V.str (Str.ofString x))) (hf : (xs.map fun x => V.str (Str.ofString x)).all flatV = true := by rfl) : Ev (tOp (rIn K false) ta tb) σ H (.bl (kIn k xs)) := ev_opL ha hb fun _ _ h _ => rv_isL (sq_of h) rfl hf
/-- None, an integer or a text -/
inductive Sc : V → Prop
  | non : Sc .non
  | int (i : Int) : Sc (.int i)
  | str (z : Str) : Sc (.str z)
def accB (k : Str) : V → Bool
  | .non => kIn k ["int?", "text?"]
  | .int _ => decide (baseT k = Str.ofString "int")
  | _ => !decide (baseT k = Str.ofString "int")


/-! ### names: a comprehension over a text, all, chains -/
theorem el_lcS {σ : L2.St} {H : Hp} {te tl : TE} {z : Str} {j : Nat} {vs : List Nat} {ys : List V} (h : Ev te σ H (.str z)) (hz : z.cps.toList.length ≤ 40000) (hw : ∀ x, wipe ((wipe σ vs).set j (some x)) vs = wipe σ vs) (hl : ys.length = z.cps.toList.length)
    (he : ∀ (i c : Nat) (y : V), z.cps.toList[i]? = some c → ys[i]? = some y → ∀ H1, Ex H H1 → Ev tl ((wipe σ vs).set j (some (.str ⟨#[c]⟩))) H1 y) : EvL (tLc (iStr te) (gName j) tYes tl vs) σ H ys := fun H0 e Q q => h H0 e _ fun H1 e1 => ⟨z, rfl, fun D hD => by
  have g : given z.cps.toList.length (fun _ => true) (fun i => ys.getD i .non) = ys := given_all hl fun i hi => by
    have hi2 : i < ys.length := by omega
    rw [List.getElem?_eq_getElem hi2, List.getD_eq_getElem?_getD, List.getElem?_eq_getElem hi2] <;> rfl
  refine ⟨fun i m H' => m = z.cps.toList.length - i ∧ i ≤ z.cps.toList.length ∧ Cw H1 (fun _ => true) (fun i => ys.getD i .non) D i H', ⟨_, rfl, Nat.zero_le _, hD, Ex.new hD, upd_same⟩, ?_⟩
  rintro i m H' ⟨rfl, hi, p⟩
  by_cases hlt : i < z.cps.toList.length
  · refine .inr ⟨(by show i < z.cps.size; simpa using hlt), Cw H1 (fun _ => true) (fun i => ys.getD i .non) D (i + 1), fun H2 p2 => ⟨_, by omega, rfl, hlt, p2⟩, fun x H2 y => ?_⟩
    obtain ⟨rfl, c, hc, rfl⟩ := y
    have hc' : z.cps.toList[i]? = some c := by simpa using hc
    have hi2 : i < ys.length := by omega
    have hy : ys[i]? = some (ys.getD i .non) := by rw [List.getElem?_eq_getElem hi2, List.getD_eq_getElem?_getD, List.getElem?_eq_getElem hi2] <;> rfl
    exact ⟨hw _, cw_turn p (by omega) (fun H3 e3 Q q => q H3 (Ex.refl H3)) fun _ => (he i c _ hc' hy H1 (e.trans e1))⟩
  · have ei : i = z.cps.toList.length := by omega
    subst ei
    refine .inl ⟨(by show z.cps.size ≤ z.cps.toList.length; simp), ?_⟩
    have p2 := p.2.2
    rw [g] at p2
    exact q D H' (fresh_back e1 p.1) (e1.trans p.2.1) p2⟩
theorem ev_allN {K : PySem.W.Frag} {σ : L2.St} {H : Hp} {te : TE} {bs : List Bool} (h : EvL te σ H (bs.map V.bl)) : Ev (tCB (rAll K) (tCons te tNil)) σ H (.bl (bs.all id)) := fun H1 e Q q =>
  h H1 e _ fun p H2 _ e2 hp => ⟨p, bs, rfl, sq_of hp, q H2 e2⟩
theorem ev_chainI {f g : Int → Int → V} {σ : L2.St} {H : Hp} {tb : TE} {i j k : Int} {a b : Bool} (hb : Ev tb σ H (.int j)) (hf : f i j = .bl a) (hg : g j k = .bl b) : Ev (tChain (rI0 f) (rI0 g) (tC (.int i)) tb (tC (.int k))) σ H (.bl (a && b)) := fun H1 e Q q =>
  hb H1 e _ fun H2 e2 => ⟨i, j, rfl, rfl, a, hf, by
    cases a with
    | true => exact iteT ⟨j, k, rfl, rfl, by rw [hg]; exact q H2 e2⟩
    | false => exact iteF (q H2 e2)⟩
theorem ev_chainS {σ : L2.St} {H : Hp} {tb : TE} {x y c : Nat} {sx sy : Str} (hx : sx = ⟨#[x]⟩) (hy : sy = ⟨#[y]⟩) (hb : Ev tb σ H (.str ⟨#[c]⟩)) : Ev (tChain rLeS rLeS (tC (.str sx)) tb (tC (.str sy))) σ H (.bl (decide (x ≤ c ∧ c ≤ y))) := fun H1 e Q q => by
  subst hx hy
  refine hb H1 e _ fun H2 e2 => ⟨_, _, rfl, rfl, decide (x ≤ c), congrArg V.bl (le_str1 x c), ?_⟩
  by_cases h : x ≤ c
  · rw [decide_eq_true h]
    refine iteT ⟨_, _, rfl, rfl, ?_⟩
    rw [le_str1 c y]
    have : decide (x ≤ c ∧ c ≤ y) = decide (c ≤ y) := decide_eq_decide.mpr ⟨fun z => z.2, fun z => ⟨h, z⟩⟩
    rw [← this]
    exact q H2 e2
  · rw [decide_eq_false h]
    refine iteF ?_
    have : decide (x ≤ c ∧ c ≤ y) = false := decide_eq_false fun z => h z.1
    rw [← this]
    exact q H2 e2
def lowerC (c : Nat) : Bool := decide (97 ≤ c ∧ c ≤ 122)
def nameB (z : Str) : Bool := decide (1 ≤ z.length ∧ z.length ≤ 12) && z.cps.toList.all lowerC


/-! ### data of the heap -/
mutual
theorem dp_mono {K : PySem.W.Frag} {H H' : Hp} (e : Ex H H') : ∀ {v : V} {d : PyData}, Dp K H v d → Dp K H' v d
  | _, _, .non => .non
  | _, _, .bl b => .bl b
  | _, _, .int i => .int i
  | _, _, .str z => .str z
  | _, _, .lst h r => .lst (ex_l e h) (dpa_mono e r)
  | _, _, .tup h r => .tup (ex_t e h) (dpa_mono e r)
theorem dpa_mono {K : PySem.W.Frag} {H H' : Hp} (e : Ex H H') : ∀ {vs : List V} {ds : List PyData}, DpAll K H vs ds → DpAll K H' vs ds
  | _, _, .nil => .nil
  | _, _, .cons h r => .cons (dp_mono e h) (dpa_mono e r)
end
theorem dpa_len {K : PySem.W.Frag} {H : Hp} : ∀ {vs : List V} {ds : List PyData}, DpAll K H vs ds → vs.length = ds.length
  | _, _, .nil => rfl
  | _, _, .cons _ r => congrArg (· + 1) (dpa_len r)
theorem dpa_app {K : PySem.W.Frag} {H : Hp} : ∀ {vs us : List V} {ds es : List PyData}, DpAll K H vs ds → DpAll K H us es → DpAll K H (vs ++ us) (ds ++ es)
  | _, _, _, _, .nil, h => h
  | _, _, _, _, .cons a r, h => .cons a (dpa_app r h)
theorem dpa_at {K : PySem.W.Frag} {H : Hp} : ∀ {vs : List V} {ds : List PyData}, DpAll K H vs ds → ∀ {i : Nat} {v : V}, vs[i]? = some v → ∃ d, ds[i]? = some d ∧ Dp K H v d
  | _, _, .cons h _, 0, v, e => by
    cases Option.some.inj e
    exact ⟨_, rfl, h⟩
  | _, _, .cons _ r, i + 1, v, e => by
    obtain ⟨d, h1, h2⟩ := dpa_at r (i := i) (by simpa using e)
    exact ⟨d, by simpa using h1, h2⟩
theorem dpa_get {K : PySem.W.Frag} {H : Hp} : ∀ {vs : List V} {ds : List PyData}, DpAll K H vs ds → ∀ {i : Nat} {d : PyData}, ds[i]? = some d → ∃ v, vs[i]? = some v ∧ Dp K H v d
  | _, _, .cons h _, 0, d, e => by
    cases Option.some.inj e
    exact ⟨_, rfl, h⟩
  | _, _, .cons _ r, i + 1, d, e => by
    obtain ⟨v, h1, h2⟩ := dpa_get r (i := i) (by simpa using e)
    exact ⟨v, by simpa using h1, h2⟩
/-- data without lists, bools and dicts, of nesting at most n -/
inductive Fl : Nat → PyData → Prop
  | non (n : Nat) : Fl n .none
  | int (n : Nat) (i : Int) : Fl n (.int i)
  | str (n : Nat) {z : Str} (h : SeqAt.shaped (.str z) = true) : Fl n (.str z)
  | tup {n : Nat} {ds : List PyData} (h : ∀ d ∈ ds, Fl n d) (hl : ds.length ≤ 1000 := by first | decide | simp) : Fl (n + 1) (.tuple ds)
theorem Fl.mono : ∀ {n m : Nat} {d : PyData}, Fl n d → n ≤ m → Fl m d
  | _, _, _, .non _, _ => .non _
  | _, _, _, .int _ i, _ => .int _ i
  | _, _, _, .str _ h, _ => .str _ h
  | n + 1, m + 1, _, .tup h l, e => .tup (fun d hd => (h d hd).mono (by omega)) l
  | n + 1, 0, _, .tup h _, e => by omega
mutual
theorem dp_monoN {K : PySem.W.Frag} {H H' : Hp} (e : ExN H H') : ∀ {n : Nat} {v : V} {d : PyData}, Fl n d → Dp K H v d → Dp K H' v d
  | _, _, _, .non _, .non => .non
  | _, _, _, .int _ i, .int _ => .int i
  | _, _, _, .str _ _, .str z => .str z
  | _ + 1, _, _, .tup f _, .tup h r => .tup (exN_t e h) (dpa_monoN e f r)
theorem dpa_monoN {K : PySem.W.Frag} {H H' : Hp} (e : ExN H H') : ∀ {n : Nat} {vs : List V} {ds : List PyData}, (∀ d ∈ ds, Fl n d) → DpAll K H vs ds → DpAll K H' vs ds
  | _, _, _, _, .nil => .nil
  | _, _, _, f, .cons h r => .cons (dp_monoN e (f _ (List.mem_cons_self ..)) h) (dpa_monoN e (fun d hd => f d (List.mem_cons_of_mem _ hd)) r)
end
theorem q_asgK {te : TE} {σ : L2.St} {H : Hp} {tz : TS} {D : Ends} {i : Nat} (k : te σ H fun v H1 => tz D (σ.set i (some v)) H1) : tSeq (tAsg te (gName i)) tz D σ H := k
theorem q_asgG {te : TE} {g : TG} {σ : L2.St} {H : Hp} {tz : TS} {D : Ends} (k : te σ H fun v H1 => g v σ H1 (tz D)) : tSeq (tAsg te g) tz D σ H := k
/-! ### equality of data -/
/-- no bool, no dict -/
inductive Pl : PyData → Prop
  | non : Pl .none
  | int (i : Int) : Pl (.int i)
  | str (z : Str) : Pl (.str z)
  | lst {ds : List PyData} (h : ∀ d ∈ ds, Pl d) : Pl (.list ds)
  | tup {ds : List PyData} (h : ∀ d ∈ ds, Pl d) : Pl (.tuple ds)
theorem Fl.pl : ∀ {n : Nat} {d : PyData}, Fl n d → Pl d
  | _, _, .non _ => .non
  | _, _, .int _ i => .int i
  | _, _, .str _ _ => .str _
  | _ + 1, _, .tup h _ => .tup fun d hd => (h d hd).pl
mutual
theorem eqv_iff : ∀ (d e : PyData), Pl d → Pl e → (PyData.eqv d e = true ↔ d = e)
  | .none, e, _, he => by cases he <;> simp [PyData.eqv]
  | .int i, e, _, he => by cases he <;> simp [PyData.eqv]
  | .str z, e, _, he => by cases he <;> simp [PyData.eqv]
  | .list xs, e, hd, he => by
    cases hd with
    | lst hd =>
      cases he with
      | lst he =>
        rename_i ys
        rw [show PyData.eqv (.list xs) (.list ys) = PyData.eqvAll xs ys by simp [PyData.eqv], eqvAll_iff xs ys hd he]
        simp
      | _ => simp [PyData.eqv]
  | .tuple xs, e, hd, he => by
    cases hd with
    | tup hd =>
      cases he with
      | tup he =>
        rename_i ys
        rw [show PyData.eqv (.tuple xs) (.tuple ys) = PyData.eqvAll xs ys by simp [PyData.eqv], eqvAll_iff xs ys hd he]
        simp
      | _ => simp [PyData.eqv]
  | .bool _, _, hd, _ => by cases hd
  | .dict _, _, hd, _ => by cases hd
theorem eqvAll_iff : ∀ (xs ys : List PyData), (∀ d ∈ xs, Pl d) → (∀ d ∈ ys, Pl d) → (PyData.eqvAll xs ys = true ↔ xs = ys)
  | [], [], _, _ => by simp [PyData.eqvAll]
  | [], y :: ys, _, _ => by simp [PyData.eqvAll]
  | x :: xs, [], _, _ => by simp [PyData.eqvAll]
  | x :: xs, y :: ys, hx, hy => by
    rw [show PyData.eqvAll (x :: xs) (y :: ys) = (PyData.eqv x y && PyData.eqvAll xs ys) by simp [PyData.eqvAll], Bool.and_eq_true,
      eqv_iff x y (hx x (List.mem_cons_self ..)) (hy y (List.mem_cons_self ..)), eqvAll_iff xs ys (fun d hd => hx d (List.mem_cons_of_mem _ hd)) (fun d hd => hy d (List.mem_cons_of_mem _ hd))]
    simp
end
noncomputable def eqB (d e : PyData) : Bool := PyData.eqv d e
theorem eqv_dec {d e : PyData} (hd : Pl d) (he : Pl e) [Decidable (d = e)] : PyData.eqv d e = decide (d = e) := by
  by_cases h : d = e
  · rw [decide_eq_true h]
    exact (eqv_iff d e hd he).mpr h
  · rw [decide_eq_false h]
    cases x : PyData.eqv d e with
    | false => rfl
    | true => exact absurd ((eqv_iff d e hd he).mp x) h
mutual
theorem canLay_fl : ∀ {n : Nat} {d : PyData}, Fl n d → d.canLay0 = true
  | _, .none, _ => by simp [PyData.canLay0]
  | _, .int _, _ => by simp [PyData.canLay0]
  | _, .str z, h => by
    cases h with
    | str _ h => exact SeqAt.canLay_of_shaped h
  | _, .tuple xs, h => by
    cases h with
    | tup h _ =>
      rw [show (PyData.tuple xs).canLay0 = PyData.canLayAll0 xs by simp [PyData.canLay0]]
      exact canLayAll_fl h
  | _, .bool _, h => by cases h
  | _, .list _, h => by cases h
  | _, .dict _, h => by cases h
theorem canLayAll_fl : ∀ {n : Nat} {ds : List PyData}, (∀ d ∈ ds, Fl n d) → PyData.canLayAll0 ds = true
  | _, [], _ => by simp [PyData.canLayAll0]
  | _, d :: ds, h => by
    rw [show PyData.canLayAll0 (d :: ds) = (d.canLay0 && PyData.canLayAll0 ds) by simp [PyData.canLayAll0], canLay_fl (h d (List.mem_cons_self ..)), canLayAll_fl fun x hx => h x (List.mem_cons_of_mem _ hx)] <;> rfl
end
mutual
theorem depth_fl : ∀ {n : Nat} {d : PyData}, Fl n d → d.depth ≤ n + 1
  | _, .none, _ => by simp [PyData.depth]
  | _, .int _, _ => by simp [PyData.depth]
  | _, .str z, _ => by simp [PyData.depth]
  | _ + 1, .tuple xs, .tup h _ => by
    rw [show (PyData.tuple xs).depth = 1 + PyData.depthAll xs by simp [PyData.depth, Nat.add_comm]]
    have := depthAll_fl h
    omega
  | _, .bool _, h => by cases h
  | _, .list _, h => by cases h
  | _, .dict _, h => by cases h
theorem depthAll_fl : ∀ {n : Nat} {ds : List PyData}, (∀ d ∈ ds, Fl n d) → PyData.depthAll ds ≤ n + 1
  | _, [], _ => by simp [PyData.depthAll]
  | n, d :: ds, h => by
    have h1 := depth_fl (h d (List.mem_cons_self ..))
    have h2 := depthAll_fl fun x hx => h x (List.mem_cons_of_mem _ hx)
    rw [show PyData.depthAll (d :: ds) = max d.depth (PyData.depthAll ds) by simp [PyData.depthAll]]
    omega
end
theorem shaped_fl {n : Nat} {d : PyData} (h : Fl n d) (hn : n ≤ 60) : SeqAt.shaped d = true := by
  have := depth_fl h
  unfold SeqAt.shaped
  rw [canLay_fl h, decide_eq_true (by omega)] <;> rfl
theorem shaped_lst {n : Nat} {ds : List PyData} (h : ∀ d ∈ ds, Fl n d) (hn : n ≤ 60) : SeqAt.shaped (.list ds) = true := by
  have := depthAll_fl h
  unfold SeqAt.shaped
  rw [show (PyData.list ds).canLay0 = PyData.canLayAll0 ds by simp [PyData.canLay0], canLayAll_fl h, decide_eq_true (by
    rw [show (PyData.list ds).depth = 1 + PyData.depthAll ds by simp [PyData.depth, Nat.add_comm]]
    omega)] <;> rfl
/-! ### what evaluates to data -/
def EP (K : PySem.W.Frag) (te : TE) (σ : L2.St) (H : Hp) (R : PyData → Prop) : Prop := ∀ H1, Ex H H1 → ∀ Q : VK, (∀ v d H2, Ex H1 H2 → R d → Dp K H2 v d → Q v H2) → te σ H1 Q
def EPA (K : PySem.W.Frag) (ta : TA) (σ : L2.St) (H : Hp) (R : List PyData → Prop) : Prop := ∀ H1, Ex H H1 → ∀ Q : List V → Hp → Prop, (∀ vs ds H2, Ex H1 H2 → R ds → DpAll K H2 vs ds → Q vs H2) → ta σ H1 Q
/-- a new list -/
def EPL (K : PySem.W.Frag) (te : TE) (σ : L2.St) (H : Hp) (R : List PyData → Prop) : Prop := ∀ H1, Ex H H1 → ∀ Q : VK, (∀ p vs ds H2, H1 p = none → Ex H1 H2 → H2 p = some (.lst vs) → R ds → DpAll K H2 vs ds → Q (.ref p) H2) → te σ H1 Q
section
variable {K : PySem.W.Frag} {σ : L2.St} {H : Hp} {te ta tb : TE}
theorem ep_is {v : V} {d : PyData} {R : PyData → Prop} (h : Ev te σ H v) (hd : Dp K H v d) (hr : R d) : EP K te σ H R := fun H1 e Q q => h H1 e _ fun H2 e2 => q v d H2 e2 hr (dp_mono (e.trans e2) hd)
theorem ep_int {i : Int} (h : Ev te σ H (.int i)) : EP K te σ H (· = .int i) := ep_is h (.int i) rfl
theorem ep_str {z : Str} (h : Ev te σ H (.str z)) : EP K te σ H (· = .str z) := ep_is h (.str z) rfl
theorem ep_non (h : Ev te σ H .non) : EP K te σ H (· = .none) := ep_is h .non rfl
theorem EP.imp {R S : PyData → Prop} (h : EP K te σ H R) (i : ∀ d, R d → S d) : EP K te σ H S := fun H1 e Q q => h H1 e Q fun v d H2 e2 r D => q v d H2 e2 (i d r) D
theorem EP.mono {R : PyData → Prop} {H' : Hp} (e : Ex H H') (h : EP K te σ H R) : EP K te σ H' R := fun H1 e1 => h H1 (e.trans e1)
theorem epa_nil : EPA K tNil σ H (· = []) := fun H1 _ _ q => q [] [] H1 (Ex.refl H1) rfl .nil
theorem epa_cons {tr : TA} {R : PyData → Prop} {S : List PyData → Prop} (h : EP K te σ H R) (r : EPA K tr σ H S) : EPA K (tCons te tr) σ H (fun ds => ∃ d r, ds = d :: r ∧ R d ∧ S r) := fun H1 e Q q =>
  h H1 e _ fun v d H2 e2 hr hd => r H2 (e.trans e2) _ fun vs ds H3 e3 hs hds => q (v :: vs) (d :: ds) H3 (e2.trans e3) ⟨d, ds, rfl, hr, hs⟩ (.cons (dp_mono e3 hd) hds)
theorem epa_c {tr : TA} {d : PyData} {ds : List PyData} (h : EP K te σ H (· = d)) (r : EPA K tr σ H (· = ds)) : EPA K (tCons te tr) σ H (· = d :: ds) := fun H1 e Q q =>
  h H1 e _ fun v d' H2 e2 hr hd => r H2 (e.trans e2) _ fun vs ds' H3 e3 hs hds => q (v :: vs) (d' :: ds') H3 (e2.trans e3) (by rw [hr, hs]) (.cons (dp_mono e3 hd) hds)
theorem ep_tup {ta : TA} {R : PyData → Prop} {S : List PyData → Prop} (h : EPA K ta σ H S) (i : ∀ ds, S ds → ds.length ≤ 100000 ∧ R (.tuple ds)) : EP K (tTup ta) σ H R := fun H1 e Q q =>
  h H1 e _ fun vs ds H2 e2 hs hds => ⟨sz_of (by rw [dpa_len hds]; exact (i ds hs).1), fun p hp => q _ _ _ (e2.trans (Ex.new hp)) (i ds hs).2 (.tup (st_of upd_same) (dpa_mono (Ex.new hp) hds))⟩
theorem ep_t {ta : TA} {ds : List PyData} (h : EPA K ta σ H (· = ds)) (hl : ds.length ≤ 100000) : EP K (tTup ta) σ H (· = .tuple ds) := ep_tup h fun ds' e => by
  rw [e]
  exact ⟨hl, rfl⟩
theorem epl_lst {ta : TA} {S : List PyData → Prop} (h : EPA K ta σ H S) (i : ∀ ds, S ds → ds.length ≤ 100000) : EPL K (tLst ta) σ H S := fun H1 e Q q =>
  h H1 e _ fun vs ds H2 e2 hs hds => ⟨sz_of (by rw [dpa_len hds]; exact i ds hs), fun p hp => q p vs ds _ (fresh_back e2 hp) (e2.trans (Ex.new hp)) upd_same hs (dpa_mono (Ex.new hp) hds)⟩
theorem EPL.ep {R : PyData → Prop} {S : List PyData → Prop} (h : EPL K te σ H S) (i : ∀ ds, S ds → R (.list ds)) : EP K te σ H R := fun H1 e Q q =>
  h H1 e _ fun p vs ds H2 hp e2 h2 hs hds => q _ _ H2 e2 (i ds hs) (.lst (sq_of h2) hds)
theorem s_retP {D : Ends} {R : PyData → Prop} (h : EP K te σ H R) (k : ∀ v d H1, Ex H H1 → R d → Dp K H1 v d → D.rt v H1) : tRet te D σ H := h H (Ex.refl H) _ k
theorem s_retPL {D : Ends} {S : List PyData → Prop} (h : EPL K te σ H S) (k : ∀ p vs ds H1, H p = none → Ex H H1 → H1 p = some (.lst vs) → S ds → DpAll K H1 vs ds → D.rt (.ref p) H1) : tRet te D σ H := h H (Ex.refl H) _ k
theorem q_asgP {D : Ends} {tz : TS} {i : Nat} {R : PyData → Prop} (h : EP K te σ H R) (k : ∀ v d H1, Ex H H1 → R d → Dp K H1 v d → tz D (σ.set i (some v)) H1) : tSeq (tAsg te (gName i)) tz D σ H := h H (Ex.refl H) _ k
theorem q_asgPL {D : Ends} {tz : TS} {i : Nat} {S : List PyData → Prop} (h : EPL K te σ H S) (k : ∀ p vs ds H1, H p = none → Ex H H1 → H1 p = some (.lst vs) → S ds → DpAll K H1 vs ds → tz D (σ.set i (some (.ref p))) H1) : tSeq (tAsg te (gName i)) tz D σ H := h H (Ex.refl H) _ k
theorem s_retTup {ta : TA} {D : Ends} {S : List PyData → Prop} (h : EPA K ta σ H S) (l : ∀ ds, S ds → ds.length ≤ 100000) (k : ∀ p ds H1, H p = none → Ex H H1 → S ds → Dp K H1 (.ref p) (.tuple ds) → D.rt (.ref p) H1) : tRet (tTup ta) D σ H :=
  h H (Ex.refl H) _ fun vs ds H1 e1 hs hds => ⟨sz_of (by rw [dpa_len hds]; exact l ds hs), fun p hp => k p ds _ (fresh_back e1 hp) (e1.trans (Ex.new hp)) hs (.tup (st_of upd_same) (dpa_mono (Ex.new hp) hds))⟩
/-- == and != of data -/
theorem ev_eqP {x y : V} {d e : PyData} {b : Bool} (ha : Ev ta σ H x) (hb : Ev tb σ H y) (hd : Dp K H x d) (he : Dp K H y e) (sd : SeqAt.shaped d = true) (se : SeqAt.shaped e = true) (hv : PyData.eqv d e = b) : Ev (tOp (rEqD K) ta tb) σ H (.bl b) :=
  ev_op ha hb fun H1 e1 _ q => ⟨d, e, dp_mono e1 hd, dp_mono e1 he, sd, se, by rw [hv]; exact q H1 (Ex.refl H1)⟩
theorem ev_neP {x y : V} {d e : PyData} {b : Bool} (ha : Ev ta σ H x) (hb : Ev tb σ H y) (hd : Dp K H x d) (he : Dp K H y e) (sd : SeqAt.shaped d = true) (se : SeqAt.shaped e = true) (hv : (!PyData.eqv d e) = b) : Ev (tOp (rNeD K) ta tb) σ H (.bl b) :=
  ev_op ha hb fun H1 e1 _ q => ⟨d, e, dp_mono e1 hd, dp_mono e1 he, sd, se, by rw [hv]; exact q H1 (Ex.refl H1)⟩
/-- [f(k) for k in range(n)] -/
theorem epl_mapR {ta : TA} {j : Nat} {vs : List Nat} {n : Nat} {R : Nat → PyData → Prop} (h : EvA ta σ H [.int (n : Int)]) (hz : n ≤ 40000) (hw : ∀ x, wipe ((wipe σ vs).set j (some x)) vs = wipe σ vs) {m : Nat} (hf : ∀ i d, R i d → Fl m d)
    (he : ∀ (i : Nat) H1, i < n → Ex H H1 → EP K te ((wipe σ vs).set j (some (.int (i : Int)))) H1 (R i)) : EPL K (tLc (iRng1 ta) (gName j) tYes te vs) σ H (fun ds => ds.length = n ∧ ∀ i d, ds[i]? = some d → R i d) := by
  intro H0 e Q q
  refine h H0 e _ fun H1 e1 => ⟨(n : Int), rfl, by omega, by omega, fun Dl hD => ?_⟩
  rw [show ((n : Int)).toNat = n by omega]
  refine lc_range (n := n) (fun i H' => H1 Dl = none ∧ Ex H1 H' ∧ ∃ us ds, H' Dl = some (.lst us) ∧ DpAll K H' us ds ∧ ds.length = i ∧ ∀ i d, ds[i]? = some d → R i d) ⟨hD, Ex.new hD, [], [], upd_same, .nil, rfl, fun i d z => nomatch z⟩ (fun i H' hi p => ⟨hw _, ?_⟩) (fun H' p => ?_)
  · obtain ⟨p1, p2, us, ds, p3, p4, p5, p6⟩ := p
    show te ((wipe σ vs).set j (some (.int (0 + (i : Int))))) H' _
    rw [Int.zero_add]
    refine he i H1 hi (e.trans e1) H' p2 _ fun v d H4 e4 hr hd => ⟨us, e4 Dl _ p3, sz_lt (by rw [dpa_len p4, p5]; omega), p1, (p2.trans e4).mut p1, us ++ [v], ds ++ [d], upd_same, ?_, by rw [List.length_append, p5] <;> rfl, fun k x hk => ?_⟩
    · exact dpa_app (dpa_monoN (ExN.upd (e4 Dl _ p3)) (fun x hx => by
        obtain ⟨k, hk⟩ := List.getElem?_of_mem hx
        exact hf k x (p6 k x hk)) (dpa_mono e4 p4)) (.cons (dp_monoN (ExN.upd (e4 Dl _ p3)) (hf i d hr) hd) .nil)
    · by_cases hlt : k < ds.length
      · rw [List.getElem?_append_left hlt] at hk
        exact p6 k x hk
      · rw [List.getElem?_append_right (by omega)] at hk
        have hk0 : k - ds.length = 0 := by
          by_cases z : k - ds.length = 0
          · exact z
          · rw [List.getElem?_eq_none (by simp; omega)] at hk
            cases hk
        rw [hk0] at hk
        have ek : k = i := by omega
        rw [ek, ← Option.some.inj hk]
        exact hr
  · obtain ⟨p1, p2, us, ds, p3, p4, p5, p6⟩ := p
    exact q Dl us ds H' (fresh_back e1 p1) (e1.trans p2) p3 ⟨p5, p6⟩ p4
end
section
variable {K : PySem.W.Frag} {σ : L2.St} {H : Hp} {te tl : TE}
theorem acc_add {K : PySem.W.Frag} {H H4 : Hp} {Dl : Addr} {us : List V} {ds : List PyData} {v : V} {d : PyData} {m : Nat} {R : Nat → PyData → Prop} (hf : ∀ i d, R i d → Fl m d) (e4 : Ex H H4) (p3 : H Dl = some (.lst us)) (p4 : DpAll K H us ds) (p6 : ∀ i d, ds[i]? = some d → R i d) (hr : R ds.length d) (hd : Dp K H4 v d) :
    DpAll K (upd H4 Dl (.lst (us ++ [v]))) (us ++ [v]) (ds ++ [d]) ∧ (ds ++ [d]).length = ds.length + 1 ∧ ∀ i x, (ds ++ [d])[i]? = some x → R i x := by
  refine ⟨dpa_app (dpa_monoN (n := m) (ExN.upd (e4 Dl _ p3)) (fun x hx => ?_) (dpa_mono e4 p4)) (.cons (dp_monoN (ExN.upd (e4 Dl _ p3)) (hf _ d hr) hd) .nil), by simp, fun k x hk => ?_⟩
  · obtain ⟨k, hk⟩ := List.getElem?_of_mem hx
    exact hf k x (p6 k x hk)
  · by_cases hlt : k < ds.length
    · rw [List.getElem?_append_left hlt] at hk
      exact p6 k x hk
    · rw [List.getElem?_append_right (by omega)] at hk
      have hk0 : k - ds.length = 0 := by
        by_cases z : k - ds.length = 0
        · exact z
        · rw [List.getElem?_eq_none (by simp; omega)] at hk
          cases hk
      rw [hk0] at hk
      have ek : k = ds.length := by omega
      rw [ek, ← Option.some.inj hk]
      exact hr
/-- [f(x) for x in a tuple] -/
theorem epl_mapT {j : Nat} {vs : List Nat} {a : Addr} {xs : List V} {R : Nat → PyData → Prop} (h : Ev tl σ H (.ref a)) (hx : SqT K H a xs) (hz : xs.length ≤ 40000) (hw : ∀ x, wipe ((wipe σ vs).set j (some x)) vs = wipe σ vs) {m : Nat} (hf : ∀ i d, R i d → Fl m d)
    (he : ∀ (i : Nat) x H1, xs[i]? = some x → Ex H H1 → EP K te ((wipe σ vs).set j (some x)) H1 (R i)) : EPL K (tLc (iTup K tl) (gName j) tYes te vs) σ H (fun ds => ds.length = xs.length ∧ ∀ i d, ds[i]? = some d → R i d) := by
  intro H0 e Q q
  refine h H0 e _ fun H1 e1 => ⟨a, rfl, ⟨xs, ex_t (e.trans e1) hx⟩, fun Dl hD => ?_⟩
  refine lc_tup (xs := xs) (fun i H' => H1 Dl = none ∧ Ex H1 H' ∧ ∃ us ds, H' Dl = some (.lst us) ∧ DpAll K H' us ds ∧ ds.length = i ∧ ∀ i d, ds[i]? = some d → R i d) ⟨hD, Ex.new hD, [], [], upd_same, .nil, rfl, fun i d z => nomatch z⟩ (fun i H' _ p => ex_t ((e.trans e1).trans p.2.1) hx) (fun i x H' hi p => ⟨hw x, ?_⟩) (fun H' p => ?_)
  · obtain ⟨p1, p2, us, ds, p3, p4, p5, p6⟩ := p
    have hi2 := (List.getElem?_eq_some_iff.mp hi).1
    show te ((wipe σ vs).set j (some x)) H' _
    refine he i x H1 hi (e.trans e1) H' p2 _ fun v d H4 e4 hr hd => ⟨us, e4 Dl _ p3, sz_lt (by rw [dpa_len p4, p5]; omega), p1, (p2.trans e4).mut p1, us ++ [v], ds ++ [d], upd_same, ?_⟩
    rw [← p5] at hr ⊢
    exact acc_add hf e4 p3 p4 p6 hr hd
  · obtain ⟨p1, p2, us, ds, p3, p4, p5, p6⟩ := p
    exact q Dl us ds H' (fresh_back e1 p1) (e1.trans p2) p3 ⟨p5, p6⟩ p4
/-- [f(x) for x in a list] -/
theorem epl_mapL {j : Nat} {vs : List Nat} {a : Addr} {xs : List V} {R : Nat → PyData → Prop} (h : Ev tl σ H (.ref a)) (hx : SqL K H a xs) (hz : xs.length ≤ 40000) (hw : ∀ x, wipe ((wipe σ vs).set j (some x)) vs = wipe σ vs) {m : Nat} (hf : ∀ i d, R i d → Fl m d)
    (he : ∀ (i : Nat) x H1, xs[i]? = some x → Ex H H1 → EP K te ((wipe σ vs).set j (some x)) H1 (R i)) : EPL K (tLc (iList K tl) (gName j) tYes te vs) σ H (fun ds => ds.length = xs.length ∧ ∀ i d, ds[i]? = some d → R i d) := by
  intro H0 e Q q
  refine h H0 e _ fun H1 e1 => ⟨a, rfl, ⟨xs, ex_l (e.trans e1) hx⟩, fun Dl hD => ?_⟩
  refine lc_list (xs := xs) (fun i H' => H1 Dl = none ∧ Ex H1 H' ∧ ∃ us ds, H' Dl = some (.lst us) ∧ DpAll K H' us ds ∧ ds.length = i ∧ ∀ i d, ds[i]? = some d → R i d) ⟨hD, Ex.new hD, [], [], upd_same, .nil, rfl, fun i d z => nomatch z⟩ (fun i H' _ p => ex_l ((e.trans e1).trans p.2.1) hx) (fun i x H' hi p => ⟨hw x, ?_⟩) (fun H' p => ?_)
  · obtain ⟨p1, p2, us, ds, p3, p4, p5, p6⟩ := p
    have hi2 := (List.getElem?_eq_some_iff.mp hi).1
    show te ((wipe σ vs).set j (some x)) H' _
    refine he i x H1 hi (e.trans e1) H' p2 _ fun v d H4 e4 hr hd => ⟨us, e4 Dl _ p3, sz_lt (by rw [dpa_len p4, p5]; omega), p1, (p2.trans e4).mut p1, us ++ [v], ds ++ [d], upd_same, ?_⟩
    rw [← p5] at hr ⊢
    exact acc_add hf e4 p3 p4 p6 hr hd
  · obtain ⟨p1, p2, us, ds, p3, p4, p5, p6⟩ := p
    exact q Dl us ds H' (fresh_back e1 p1) (e1.trans p2) p3 ⟨p5, p6⟩ p4
end
/-- tuple(a new list of data) -/
theorem ep_tupOf {K : PySem.W.Frag} {σ : L2.St} {H : Hp} {te : TE} {R : PyData → Prop} {S : List PyData → Prop} (h : EPL K te σ H S) (i : ∀ ds, S ds → R (.tuple ds)) : EP K (tCB (rTupOf K) (tCons te tNil)) σ H R := fun H1 e Q q =>
  h H1 e _ fun p vs ds H2 _ e2 hp hs hds => ⟨p, vs, rfl, .inl ⟨sq_of hp, fun l hl => q _ _ _ (e2.trans (Ex.new hl)) (i ds hs) (.tup (st_of upd_same) (dpa_mono (Ex.new hl) hds))⟩⟩
theorem list_same {ds es : List PyData} (hl : ds.length = es.length) (h : ∀ (i : Nat) (d : PyData), ds[i]? = some d → es[i]? = some d) : ds = es := by
  refine List.ext_getElem? fun i => ?_
  by_cases hi : i < ds.length
  · rw [List.getElem?_eq_getElem hi]
    exact (h i _ (List.getElem?_eq_getElem hi)).symm
  · rw [List.getElem?_eq_none (by omega), List.getElem?_eq_none (by omega)]
/-- isinstance of data against tuple, list -/
def isTup : PyData → Bool
  | .tuple _ => true
  | _ => false
def isLst : PyData → Bool
  | .list _ => true
  | _ => false
def isStrD : PyData → Bool
  | .str _ => true
  | _ => false
def isIntD : PyData → Bool
  | .int _ => true
  | .bool _ => true
  | _ => false
def isBoolD : PyData → Bool
  | .bool _ => true
  | _ => false
theorem tyx_lst {K : PySem.W.Frag} {H : Hp} {a : Addr} {xs : List V} (h : SqL K H a xs) : TyX K H (.ref a) (.type "list") := by
  rcases h with (h | ⟨o, h⟩) | ⟨o, its, n, h, hc, _⟩
  · exact .base (.lst h)
  · exact .base (.frz h)
  · exact .kList h hc
theorem ev_isT {K : PySem.W.Frag} {σ : L2.St} {H : Hp} {te : TE} {x : V} {d : PyData} (h : Ev te σ H x) (hd : Dp K H x d) : Ev (tCB (rIsi K) (tCons te (tCons (tC (.ty "tuple")) tNil))) σ H (.bl (isTup d)) := by
  cases hd with
  | non => exact ev_isi (a := "NoneType") (r := false) h (fun _ _ => .base .non) (by decide +kernel)
  | bl b => exact ev_isi (a := "bool") (r := false) h (fun _ _ => .base (.bl b)) (by decide +kernel)
  | int i => exact ev_isi (a := "int") (r := false) h (fun _ _ => .base (.int i)) (by decide +kernel)
  | str z => exact ev_isi (a := "str") (r := false) h (fun _ _ => .base (.str z)) (by decide +kernel)
  | lst hs _ => exact ev_isi (a := "list") (r := false) h (fun H2 e2 => tyx_lst (ex_l e2 hs)) (by decide +kernel)
  | tup hs _ => exact ev_isi (a := "tuple") (r := true) h (fun H2 e2 => tyx_tup (ex_t e2 hs)) (by decide +kernel)
theorem ev_isL {K : PySem.W.Frag} {σ : L2.St} {H : Hp} {te : TE} {x : V} {d : PyData} (h : Ev te σ H x) (hd : Dp K H x d) : Ev (tCB (rIsi K) (tCons te (tCons (tC (.ty "list")) tNil))) σ H (.bl (isLst d)) := by
  cases hd with
  | non => exact ev_isi (a := "NoneType") (r := false) h (fun _ _ => .base .non) (by decide +kernel)
  | bl b => exact ev_isi (a := "bool") (r := false) h (fun _ _ => .base (.bl b)) (by decide +kernel)
  | int i => exact ev_isi (a := "int") (r := false) h (fun _ _ => .base (.int i)) (by decide +kernel)
  | str z => exact ev_isi (a := "str") (r := false) h (fun _ _ => .base (.str z)) (by decide +kernel)
  | lst hs _ => exact ev_isi (a := "list") (r := true) h (fun H2 e2 => tyx_lst (ex_l e2 hs)) (by decide +kernel)
  | tup hs _ => exact ev_isi (a := "tuple") (r := false) h (fun H2 e2 => tyx_tup (ex_t e2 hs)) (by decide +kernel)
theorem ev_isS {K : PySem.W.Frag} {σ : L2.St} {H : Hp} {te : TE} {x : V} {d : PyData} (h : Ev te σ H x) (hd : Dp K H x d) : Ev (tCB (rIsi K) (tCons te (tCons (tC (.ty "str")) tNil))) σ H (.bl (isStrD d)) := by
  cases hd with
  | non => exact ev_isi (a := "NoneType") (r := false) h (fun _ _ => .base .non) (by decide +kernel)
  | bl b => exact ev_isi (a := "bool") (r := false) h (fun _ _ => .base (.bl b)) (by decide +kernel)
  | int i => exact ev_isi (a := "int") (r := false) h (fun _ _ => .base (.int i)) (by decide +kernel)
  | str z => exact ev_isi (a := "str") (r := true) h (fun _ _ => .base (.str z)) (by decide +kernel)
  | lst hs _ => exact ev_isi (a := "list") (r := false) h (fun H2 e2 => tyx_lst (ex_l e2 hs)) (by decide +kernel)
  | tup hs _ => exact ev_isi (a := "tuple") (r := false) h (fun H2 e2 => tyx_tup (ex_t e2 hs)) (by decide +kernel)
theorem ev_isNum {K : PySem.W.Frag} {σ : L2.St} {H : Hp} {te : TE} {x : V} {d : PyData} (h : Ev te σ H x) (hd : Dp K H x d) : Ev (tCB (rIsi K) (tCons te (tCons (tC (.ty "int")) tNil))) σ H (.bl (isIntD d)) := by
  cases hd with
  | non => exact ev_isi (a := "NoneType") (r := false) h (fun _ _ => .base .non) (by decide +kernel)
  | bl b => exact ev_isi (a := "bool") (r := true) h (fun _ _ => .base (.bl b)) (by decide +kernel)
  | int i => exact ev_isi (a := "int") (r := true) h (fun _ _ => .base (.int i)) (by decide +kernel)
  | str z => exact ev_isi (a := "str") (r := false) h (fun _ _ => .base (.str z)) (by decide +kernel)
  | lst hs _ => exact ev_isi (a := "list") (r := false) h (fun H2 e2 => tyx_lst (ex_l e2 hs)) (by decide +kernel)
  | tup hs _ => exact ev_isi (a := "tuple") (r := false) h (fun H2 e2 => tyx_tup (ex_t e2 hs)) (by decide +kernel)
theorem ev_isBl {K : PySem.W.Frag} {σ : L2.St} {H : Hp} {te : TE} {x : V} {d : PyData} (h : Ev te σ H x) (hd : Dp K H x d) : Ev (tCB (rIsi K) (tCons te (tCons (tC (.ty "bool")) tNil))) σ H (.bl (isBoolD d)) := by
  cases hd with
  | non => exact ev_isi (a := "NoneType") (r := false) h (fun _ _ => .base .non) (by decide +kernel)
  | bl b => exact ev_isi (a := "bool") (r := true) h (fun _ _ => .base (.bl b)) (by decide +kernel)
  | int i => exact ev_isi (a := "int") (r := false) h (fun _ _ => .base (.int i)) (by decide +kernel)
  | str z => exact ev_isi (a := "str") (r := false) h (fun _ _ => .base (.str z)) (by decide +kernel)
  | lst hs _ => exact ev_isi (a := "list") (r := false) h (fun H2 e2 => tyx_lst (ex_l e2 hs)) (by decide +kernel)
  | tup hs _ => exact ev_isi (a := "tuple") (r := false) h (fun H2 e2 => tyx_tup (ex_t e2 hs)) (by decide +kernel)
/-- an item of a list or a tuple -/
def rIxD (K : PySem.W.Frag) : R2 := fun x y H Q => rIxL K x y H Q ∨ rIxT K x y H Q
theorem ix_any {X : Cx} {r1 r2 : R2} (h1 : IxR X r1) (h2 : IxR X r2) : IxR X (fun x y H Q => r1 x y H Q ∨ r2 x y H Q) := fun value slice pins s σ H x y v u Q I rx ry h hs => h.elim (fun h => h1 value slice pins s σ H x y v u Q I rx ry h hs) (fun h => h2 value slice pins s σ H x y v u Q I rx ry h hs)
theorem op_any {X : Cx} {f : Value → Value → Sem Value} {r1 r2 : R2} (h1 : OpR X f r1) (h2 : OpR X f r2) : OpR X f (fun x y H Q => r1 x y H Q ∨ r2 x y H Q) := fun pins s σ H x y v u Q I rx ry h => h.elim (fun h => h1 pins s σ H x y v u Q I rx ry h) (fun h => h2 pins s σ H x y v u Q I rx ry h)


/-! ### version texts -/
def mkS (l : List Nat) : Str := ⟨l.toArray⟩
theorem mkS_inj {a b : List Nat} (h : mkS a = mkS b) : a = b := by
  have := congrArg (fun z : Str => z.cps.toList) h
  simpa [mkS] using this
theorem mkS_codes (z : Str) : z = mkS z.cps.toList := mk_of rfl
theorem mkS_len (l : List Nat) : (mkS l).length = l.length := by rw [str_len] <;> rfl
def stC (c : Nat) : Bool := decide (c = 126 ∨ c = 94)
theorem tw_lt {p : Nat → Bool} : ∀ {l : List Nat} {i : Nat}, i < (l.takeWhile p).length → ∃ c, l[i]? = some c ∧ p c = true
  | [], i, h => by simp at h
  | a :: l, i, h => by
    by_cases ha : p a = true
    · rw [List.takeWhile_cons_of_pos ha] at h
      cases i with
      | zero => exact ⟨a, rfl, ha⟩
      | succ i =>
        obtain ⟨c, h1, h2⟩ := tw_lt (l := l) (i := i) (by simpa using h)
        exact ⟨c, by simpa using h1, h2⟩
    · rw [List.takeWhile_cons_of_neg ha] at h
      simp at h
theorem tw_eq {p : Nat → Bool} : ∀ {l : List Nat} {c : Nat}, l[(l.takeWhile p).length]? = some c → p c = false
  | [], c, h => by simp at h
  | a :: l, c, h => by
    by_cases ha : p a = true
    · rw [List.takeWhile_cons_of_pos ha] at h
      exact tw_eq (l := l) (by simpa using h)
    · rw [List.takeWhile_cons_of_neg ha] at h
      have e : a = c := by simpa using h
      rw [← e]
      simpa using ha
theorem tw_le (p : Nat → Bool) (l : List Nat) : (l.takeWhile p).length ≤ l.length := by
  induction l with
  | nil => simp
  | cons a l ih =>
    by_cases ha : p a = true
    · rw [List.takeWhile_cons_of_pos ha]; simp; exact ih
    · rw [List.takeWhile_cons_of_neg ha]; simp
/-- the length without the steps at the end -/
def rsz (l : List Nat) : Nat := l.length - (l.reverse.takeWhile stC).length
theorem rsz_le (l : List Nat) : rsz l ≤ l.length := Nat.sub_le _ _
theorem rev_at {l : List Nat} {i : Nat} (h : i < l.length) : l.reverse[i]? = l[l.length - 1 - i]? := by
  rw [List.getElem?_reverse h]
/-- what the law's own loop keeps -/
theorem rsz_step {l : List Nat} {k s : Nat} (hk : k < l.length) (hs : s = max (rsz l) (l.length - k)) : (0 < s → ∃ c, l[s - 1]? = some c ∧ (if stC c = true then s - 1 else s) = max (rsz l) (l.length - (k + 1))) ∧ (s = 0 → s = max (rsz l) (l.length - (k + 1))) := by
  have hw := tw_le stC l.reverse
  rw [List.length_reverse] at hw
  unfold rsz at *
  refine ⟨fun h0 => ?_, fun h0 => by omega⟩
  by_cases hkw : k < (l.reverse.takeWhile stC).length
  · obtain ⟨c, h1, h2⟩ := tw_lt hkw
    rw [rev_at hk] at h1
    have e : s - 1 = l.length - 1 - k := by omega
    refine ⟨c, by rw [e]; exact h1, ?_⟩
    rw [if_pos h2]
    omega
  · have hlt : l.length - (l.reverse.takeWhile stC).length - 1 < l.length := by omega
    have es : s = l.length - (l.reverse.takeWhile stC).length := by omega
    have hp : (l.reverse.takeWhile stC).length < l.length := by omega
    have e2 := rev_at hp
    obtain ⟨c, hc⟩ : ∃ c, l[s - 1]? = some c := ⟨_, List.getElem?_eq_getElem (by omega)⟩
    have e3 : l.reverse[(l.reverse.takeWhile stC).length]? = some c := by
      rw [e2, ← hc]
      congr 1
      omega
    have := tw_eq e3
    refine ⟨c, hc, ?_⟩
    rw [if_neg (by rw [this]; exact Bool.false_ne_true)]
    omega
def digC (c : Nat) : Bool := decide (48 ≤ c ∧ c ≤ 57)
def addrB (b : List Nat) : Bool := decide (1 ≤ b.length ∧ b.length ≤ 18) && (!decide (b.head? = some 48) && b.all digC)
def verD (b : List Nat) (s : Str) : Option PyData :=
  if b = [64] then some (.tuple [.str (Str.ofString "head"), .none, .str s])
  else if nameB (mkS b) = true then some (.tuple [.str (Str.ofString "name"), .str (mkS b), .str s])
  else if b.head? = some 47 ∧ nameB (mkS (b.drop 1)) = true then some (.tuple [.str (Str.ofString "far"), .str (mkS (b.drop 1)), .str s])
  else if b.head? = some 58 ∧ addrB (b.drop 1) = true then some (.tuple [.str (Str.ofString "address"), .int (PySem.NumText.digitsVal (b.drop 1) : Nat), .str s])
  else none
def verO (l : List Nat) : Option PyData := if 60 < l.length then none else verD (l.take (rsz l)) (mkS (l.drop (rsz l)))
theorem at_eq : Str.ofString "@" = mkS [64] := by decide +kernel
theorem rstrip_eq (z : Str) : Txt.rstripChars z (Str.ofString "~^") = mkS (z.cps.toList.take (rsz z.cps.toList)) := by
  have ec : (fun c => (Str.ofString "~^").cps.contains c) = stC := by
    funext c
    have e : (Str.ofString "~^").cps = #[126, 94] := by decide +kernel
    rw [e]
    show (#[126, 94] : Array Nat).contains c = decide (c = 126 ∨ c = 94)
    by_cases h : c = 126
    · subst h; simp
    · by_cases h2 : c = 94
      · subst h2; simp
      · rw [decide_eq_false (by omega)]
        simp [Array.contains, h, h2]
  have e0 : stripLo (fun c => (Str.ofString "~^").cps.contains c) false z = 0 := rfl
  have e1 : stripHi (fun c => (Str.ofString "~^").cps.contains c) true z 0 = rsz z.cps.toList := by
    show z.length - ((z.cps.toList.drop 0).reverse.takeWhile _).length = _
    rw [ec, List.drop_zero, str_len] <;> rfl
  show (if stripSame (fun c => (Str.ofString "~^").cps.contains c) false true z = true then z else stripped (fun c => (Str.ofString "~^").cps.contains c) false true z) = _
  unfold stripSame stripped
  rw [e0, e1]
  split
  · rename_i h
    have h2 : rsz z.cps.toList = z.length := by simpa using h
    rw [h2, str_len, List.take_length]
    exact mkS_codes z
  · refine str_ext ?_
    rw [PySem.StrLaws.strSub_toList, List.drop_zero, Nat.sub_zero] <;> rfl
theorem starts_one (b : List Nat) (c : Nat) : Txt.startswith (mkS b) (mkS [c]) = decide (b.head? = some c) := by
  unfold Txt.startswith
  rw [PySem.StrLaws.subAt_eq, mkS_len, mkS_len]
  show (decide (0 + 1 ≤ b.length) && ((b.drop 0).take 1 == [c])) = _
  cases b with
  | nil => rfl
  | cons a r =>
    show (decide (0 + 1 ≤ r.length + 1) && ([a] == [c])) = decide (some a = some c)
    rw [decide_eq_true (by omega), Bool.true_and]
    by_cases h : a = c
    · subst h; simp
    · simp [h]
theorem cutS_from (b : List Nat) (n : Nat) : cutS (mkS b) (some (n : Int)) none = mkS (b.drop n) := by
  refine str_ext ?_
  show (b.drop (HT.sIx (mkS b).length 0 (some (n : Int)))).take _ = b.drop n
  rw [HT.sIx_nat, mkS_len, HT.sIx_none]
  by_cases h : n ≤ b.length
  · rw [Nat.min_eq_left h, List.take_of_length_le (by rw [List.length_drop]; omega)]
  · rw [Nat.min_eq_right (by omega), List.drop_of_length_le (Nat.le_refl _), List.drop_of_length_le (by omega)] <;> simp
theorem cutS_to (b : List Nat) (n : Nat) : cutS (mkS b) none (some (n : Int)) = mkS (b.take n) := by
  refine str_ext ?_
  show (b.drop (HT.sIx (mkS b).length 0 none)).take (HT.sIx (mkS b).length (mkS b).length (some (n : Int)) - HT.sIx (mkS b).length 0 none) = b.take n
  rw [HT.sIx_nat, mkS_len, HT.sIx_none, List.drop_zero, Nat.sub_zero]
  by_cases h : n ≤ b.length
  · rw [Nat.min_eq_left h]
  · rw [Nat.min_eq_right (by omega), List.take_of_length_le (Nat.le_refl _), List.take_of_length_le (by omega)]
theorem take_len {l : List Nat} {n : Nat} (h : n ≤ l.length) : (l.take n).length = n := by rw [List.length_take]; omega
/-! ### comprehensions with a test over a text -/
theorem given_filter {l : List Nat} (p : Nat → Bool) (g : Nat → V) : given l.length (fun i => p (l.getD i 0)) (fun i => g (l.getD i 0)) = (l.filter p).map g := by
  have e : l = (List.range l.length).map fun i => l.getD i 0 := by
    refine List.ext_getElem? fun i => ?_
    rw [List.getElem?_map]
    by_cases hi : i < l.length
    · rw [List.getElem?_range hi, List.getElem?_eq_getElem hi, Option.map_some, List.getD_eq_getElem?_getD, List.getElem?_eq_getElem hi] <;> rfl
    · rw [List.getElem?_eq_none (by omega), List.getElem?_eq_none (by rw [List.length_range]; omega)] <;> rfl
  unfold given
  conv => rhs; rw [e, List.filter_map, List.map_map]
  rfl
theorem el_flS {σ : L2.St} {H : Hp} {te tl : TE} {tt : TT} {z : Str} {j : Nat} {vs : List Nat} {p : Nat → Bool} (h : Ev te σ H (.str z)) (hz : z.cps.toList.length ≤ 40000) (hw : ∀ x, wipe ((wipe σ vs).set j (some x)) vs = wipe σ vs)
    (ht : ∀ (c : Nat), c ∈ z.cps.toList → ∀ H1, Ex H H1 → EvT tt ((wipe σ vs).set j (some (.str ⟨#[c]⟩))) H1 (p c)) (he : ∀ (c : Nat) H1, Ex H H1 → Ev tl ((wipe σ vs).set j (some (.str ⟨#[c]⟩))) H1 (.str ⟨#[c]⟩)) : EvL (tLc (iStr te) (gName j) tt tl vs) σ H ((z.cps.toList.filter p).map fun c => .str ⟨#[c]⟩) := fun H0 e Q q => h H0 e _ fun H1 e1 => ⟨z, rfl, fun D hD => by
  rw [← given_filter (l := z.cps.toList) p fun c => .str ⟨#[c]⟩] at q
  refine ⟨fun i m H' => m = z.cps.toList.length - i ∧ i ≤ z.cps.toList.length ∧ Cw H1 (fun i => p (z.cps.toList.getD i 0)) (fun i => .str ⟨#[z.cps.toList.getD i 0]⟩) D i H', ⟨_, rfl, Nat.zero_le _, hD, Ex.new hD, upd_same⟩, ?_⟩
  rintro i m H' ⟨rfl, hi, pp⟩
  by_cases hlt : i < z.cps.toList.length
  · refine .inr ⟨(by show i < z.cps.size; simpa using hlt), Cw H1 (fun i => p (z.cps.toList.getD i 0)) (fun i => .str ⟨#[z.cps.toList.getD i 0]⟩) D (i + 1), fun H2 p2 => ⟨_, by omega, rfl, hlt, p2⟩, fun x H2 y => ?_⟩
    obtain ⟨rfl, c, hc, rfl⟩ := y
    have hc' : z.cps.toList[i]? = some c := by simpa using hc
    have ed : z.cps.toList.getD i 0 = c := by rw [List.getD_eq_getElem?_getD, hc'] <;> rfl
    have t1 := ht c (List.mem_of_getElem? hc') H1 (e.trans e1)
    have t2 := he c H1 (e.trans e1)
    refine ⟨hw _, cw_turn pp (by omega) (by rw [ed]; exact t1) fun _ => (by rw [ed]; exact t2)⟩
  · have ei : i = z.cps.toList.length := by omega
    subst ei
    exact .inl ⟨(by show z.cps.size ≤ z.cps.toList.length; simp), q D H' (fresh_back e1 pp.1) (e1.trans pp.2.1) pp.2.2⟩⟩
theorem dpa_strs {K : PySem.W.Frag} {H : Hp} : ∀ zs : List Str, DpAll K H (zs.map V.str) (zs.map PyData.str)
  | [] => .nil
  | z :: zs => .cons (.str z) (dpa_strs zs)
/-- a new list == [] -/
theorem ev_eqNil {K : PySem.W.Frag} {σ : L2.St} {H : Hp} {ta : TE} {zs : List Str} (h : EvL ta σ H (zs.map V.str)) (hz : ∀ z ∈ zs, SeqAt.shaped (.str z) = true) : Ev (tOp (rEqD K) ta (tLst tNil)) σ H (.bl zs.isEmpty) := by
  refine ev_opLL h (el_lst ea_nil (by decide)) fun p q H1 hp hq _ => rv_val fun H2 e2 Q k => ⟨_, _, .lst (sq_of (e2 _ _ hp)) (dpa_strs zs), .lst (sq_of (e2 _ _ hq)) .nil, shaped_lst (n := 0) (fun d hd => ?_) (by decide), by decide, ?_⟩
  · obtain ⟨z, hz', rfl⟩ := List.mem_map.mp hd
    exact .str 0 (hz z hz')
  · have e : PyData.eqv (.list (zs.map PyData.str)) (.list []) = zs.isEmpty := by
      cases zs <;> simp [PyData.eqv, PyData.eqvAll]
    rw [e]
    exact k
/-- [f(k) for k in range(n)], n any int -/
theorem el_mapRI {σ : L2.St} {H : Hp} {ta : TA} {te : TE} {j : Nat} {vs : List Nat} {n : Int} {ys : List V} (h : EvA ta σ H [.int n]) (hz : -100000 ≤ n ∧ n ≤ 40000) (hw : ∀ x, wipe ((wipe σ vs).set j (some x)) vs = wipe σ vs) (hl : ys.length = n.toNat)
    (he : ∀ (i : Nat) (y : V), (i : Int) < n → ys[i]? = some y → ∀ H1, Ex H H1 → Ev te ((wipe σ vs).set j (some (.int (i : Int)))) H1 y) : EvL (tLc (iRng1 ta) (gName j) tYes te vs) σ H ys := by
  intro H0 e Q q
  refine h H0 e _ fun H1 e1 => ⟨n, rfl, by omega, by omega, fun Dl hD => ?_⟩
  refine lc_range (n := n.toNat) (fun i H' => H1 Dl = none ∧ Ex H1 H' ∧ H' Dl = some (.lst (ys.take i))) ⟨hD, Ex.new hD, upd_same⟩ (fun i H' hi p => ⟨hw _, ?_⟩) (fun H' p => ?_)
  · obtain ⟨p1, p2, p3⟩ := p
    have hi2 : i < ys.length := by omega
    have hy : ys[i]? = some ys[i] := List.getElem?_eq_getElem hi2
    show te ((wipe σ vs).set j (some (.int (0 + (i : Int))))) H' _
    rw [Int.zero_add]
    refine he i ys[i] (by omega) hy H1 (e.trans e1) H' p2 _ fun H4 e4 => ⟨ys.take i, e4 Dl _ p3, sz_lt (by rw [List.length_take]; omega), p1, (p2.trans e4).mut p1, ?_⟩
    rw [upd_same, List.take_add_one, hy] <;> rfl
  · obtain ⟨p1, p2, p3⟩ := p
    rw [← hl, List.take_length] at p3
    exact q Dl H' (fresh_back e1 p1) (e1.trans p2) p3
/-- texts that the law makes -/
def TxOk (n : Nat) (z : Str) : Prop := z.length ≤ n ∧ ∀ c ∈ z.cps.toList, c ≤ 1000
theorem TxOk.sh {n : Nat} {z : Str} (h : TxOk n z) : SeqAt.shaped (.str z) = true := by
  unfold SeqAt.shaped
  have e : PyData.strOk z = true := by
    unfold PyData.strOk
    rw [Array.all_eq_true']
    intro c hc
    have := h.2 c (by simpa using hc)
    simp only [decide_eq_true_eq]
    omega
  rw [show (PyData.str z).canLay0 = PyData.strOk z by simp [PyData.canLay0], e] <;> rfl
theorem TxOk.app {n m : Nat} {a b : Str} (h : TxOk n a) (k : TxOk m b) : TxOk (n + m) (a ++ b) := by
  refine ⟨?_, fun c hc => ?_⟩
  · rw [str_len, codes_app rfl rfl, List.length_append, ← str_len, ← str_len]
    have := h.1
    have := k.1
    omega
  · rw [codes_app (x := a.cps.toList) (y := b.cps.toList) rfl rfl] at hc
    rcases List.mem_append.mp hc with z | z
    · exact h.2 c z
    · exact k.2 c z
theorem TxOk.cut {n : Nat} {z : Str} (h : TxOk n z) (lo hi : Option Int) : TxOk n (cutS z lo hi) := by
  refine ⟨Nat.le_trans (cutS_length z lo hi) h.1, fun c hc => h.2 c ?_⟩
  exact List.mem_of_mem_drop (List.mem_of_mem_take (by exact hc))
theorem TxOk.mono {n m : Nat} {z : Str} (h : TxOk n z) (e : n ≤ m) : TxOk m z := ⟨Nat.le_trans h.1 e, h.2⟩
theorem TxOk.one {c : Nat} (h : c ≤ 1000) : TxOk 1 ⟨#[c]⟩ := ⟨Nat.le_refl 1, fun d hd => by
  have : d = c := by simpa using hd
  omega⟩
/-- a join of signs -/
theorem ev_joinS {K : PySem.W.Frag} {σ : L2.St} {H : Hp} {te : TE} {l : List Nat} (h : EvL te σ H (l.map fun c => V.str ⟨#[c]⟩)) (hz : l.length ≤ 100000) :
    Ev (tM1 (fun x xs H Q => ∃ a p, ∃ ys : List Str, x = .str a ∧ xs = [.ref p] ∧ (SqL K H p (ys.map V.str) ∨ SqT K H p (ys.map V.str)) ∧ (ys.map (·.length)).sum + ys.length * a.length ≤ 16777216 ∧ Q (.str (Txt.join a ys)) H) (tC (.str (Str.ofString ""))) te) σ H (.str (mkS l)) := by
  have e : (l.map fun c => V.str ⟨#[c]⟩) = (l.map fun c => (⟨#[c]⟩ : Str)).map V.str := by rw [List.map_map] <;> rfl
  rw [e] at h
  refine ev_is (ev_joinN (K := K) ev_c h ?_) (congrArg V.str (join_signs l))
  rw [sum_ones, List.length_map]
  have : (Str.ofString "").length = 0 := by decide +kernel
  rw [this]
  omega
theorem ev_starts {σ : L2.St} {H : Hp} {to te : TE} {a b : Str} (h0 : Ev to σ H (.str a)) (h : Ev te σ H (.str b)) : Ev (tM1 (fun x xs H Q => ∃ a b, x = V.str a ∧ xs = [V.str b] ∧ Q (.bl (Txt.startswith a b)) H) to te) σ H (.bl (Txt.startswith a b)) := fun H1 e Q q =>
  h0 H1 e _ fun H2 e2 => ⟨⟨a, rfl⟩, h H2 (e.trans e2) _ fun H3 e3 => ⟨a, b, rfl, rfl, q H3 (e2.trans e3)⟩⟩
theorem ev_rstrip {σ : L2.St} {H : Hp} {to te : TE} {a b : Str} (h0 : Ev to σ H (.str a)) (h : Ev te σ H (.str b)) (hz : a.length ≤ 16777216) : Ev (tM1 (fun x xs H Q => ∃ a b, x = V.str a ∧ xs = [V.str b] ∧ a.length ≤ sizeLine ∧ Q (.str (Txt.rstripChars a b)) H) to te) σ H (.str (Txt.rstripChars a b)) := fun H1 e Q q =>
  h0 H1 e _ fun H2 e2 => ⟨⟨a, rfl⟩, h H2 (e.trans e2) _ fun H3 e3 => ⟨a, b, rfl, rfl, sizeOk hz, q H3 (e2.trans e3)⟩⟩
theorem ev_intS {σ : L2.St} {H : Hp} {te : TE} {a : Str} {n : Int} (h : Ev te σ H (.str a)) (hn : PySem.intText? a = some n) (hz : a.length ≤ 640) : Ev (tCB (fun xs H Q => ∃ a n, xs = [V.str a] ∧ PySem.intText? a = some n ∧ a.length ≤ 640 ∧ Q (.int n) H) (tCons te tNil)) σ H (.int n) := fun H1 e Q q =>
  h H1 e _ fun H2 e2 => ⟨a, n, rfl, hn, hz, q H2 e2⟩
theorem addr_int {b : List Nat} (h : addrB b = true) : PySem.intText? (mkS b) = some ((PySem.NumText.digitsVal b : Nat) : Int) ∧ (mkS b).length ≤ 640 := by
  unfold addrB at h
  simp only [Bool.and_eq_true, decide_eq_true_eq, List.all_eq_true] at h
  obtain ⟨h1, _, h2⟩ := h
  refine ⟨intText_digits (x := mkS b) (fun c hc => ?_) (fun z => ?_) (by rw [mkS_len]; omega), by rw [mkS_len]; omega⟩
  · have := h2 c hc
    unfold digC at this
    simpa using this
  · have : b = [] := z
    subst this
    simp at h1
theorem ev_intB {σ : L2.St} {H : Hp} {te : TE} {b : Bool} (h : Ev te σ H (.bl b)) : Ev (tCB (fun xs H Q => (∃ i, xs = [V.int i] ∧ Q (.int i) H) ∨ ∃ k, xs = [V.bl k] ∧ Q (.int (if k = true then 1 else 0)) H) (tCons te tNil)) σ H (.int (if b = true then 1 else 0)) := fun H1 e Q q =>
  h H1 e _ fun H2 e2 => .inr ⟨b, rfl, q H2 e2⟩


/-! ### what evaluates to some text -/
def ES (te : TE) (σ : L2.St) (H : Hp) (R : Str → Prop) : Prop := ∀ H1, Ex H H1 → ∀ Q : VK, (∀ z H2, Ex H1 H2 → R z → Q (.str z) H2) → te σ H1 Q
def ESA (ta : TA) (σ : L2.St) (H : Hp) (R : Str → Prop) (n : Nat) : Prop := ∀ H1, Ex H H1 → ∀ Q : List V → Hp → Prop, (∀ (zs : List Str) H2, Ex H1 H2 → zs.length = n → (∀ z ∈ zs, R z) → Q (zs.map V.str) H2) → ta σ H1 Q
section
variable {K : PySem.W.Frag} {σ : L2.St} {H : Hp} {te ta tb : TE} {R R1 R2 : Str → Prop}
theorem es_ev {z : Str} (h : Ev te σ H (.str z)) (r : R z) : ES te σ H R := fun H1 e Q q => h H1 e _ fun H2 e2 => q z H2 e2 r
theorem ES.imp (h : ES te σ H R1) (i : ∀ z, R1 z → R z) : ES te σ H R := fun H1 e Q q => h H1 e Q fun z H2 e2 r => q z H2 e2 (i z r)
theorem ES.mono {H' : Hp} (e : Ex H H') (h : ES te σ H R) : ES te σ H' R := fun H1 e1 => h H1 (e.trans e1)
theorem es_add (ha : ES ta σ H R1) (hb : ES tb σ H R2) (hR : ∀ a b, R1 a → R2 b → a.length + b.length ≤ 16777216 ∧ R (a ++ b)) : ES (tOp (fun x y H Q => ∃ i j, x = V.str i ∧ y = V.str j ∧ i.length + j.length ≤ sizeLine ∧ Q (.str (i ++ j)) H) ta tb) σ H R := fun H1 e Q q =>
  ha H1 e _ fun a H2 e2 ra => hb H2 (e.trans e2) _ fun b H3 e3 rb => ⟨a, b, rfl, rfl, sizeOk (hR a b ra rb).1, q _ H3 (e2.trans e3) (hR a b ra rb).2⟩
theorem esa_nil : ESA tNil σ H R 0 := fun H1 _ _ q => q [] H1 (Ex.refl H1) rfl fun _ z => nomatch z
theorem esa_cons {tr : TA} {n : Nat} (h : ES te σ H R) (r : ESA tr σ H R n) : ESA (tCons te tr) σ H R (n + 1) := fun H1 e Q q =>
  h H1 e _ fun z H2 e2 rz => r H2 (e.trans e2) _ fun zs H3 e3 hl hz => q (z :: zs) H3 (e2.trans e3) (by rw [List.length_cons, hl]) fun y hy => by
    rcases List.mem_cons.mp hy with h | h
    · rw [h]; exact rz
    · exact hz y h
theorem es_ixN {tr : TA} {n : Nat} {i : Int} (h : ESA tr σ H R n) (hi : ∀ H1, Ex H H1 → Ev tb σ H1 (.int i)) (h0 : 0 ≤ i) (h1 : i < n) (hn : n ≤ 100000) : ES (tOp (rIxL K) (tLst tr) tb) σ H R := fun H1 e Q q =>
  h H1 e _ fun zs H2 e2 hl hz => ⟨sz_of (by rw [List.length_map, hl]; exact hn), fun p hp => hi _ (e.trans (e2.trans (Ex.new hp))) _ (Ex.refl _) _ fun H3 e3 => by
    obtain ⟨z, hzz⟩ : ∃ z, zs[i.toNat]? = some z := ⟨_, List.getElem?_eq_getElem (by omega)⟩
    exact ⟨p, zs.map V.str, i, .str z, rfl, rfl, sq_of (e3 _ _ upd_same), atI_of h0 (by rw [List.getElem?_map, hzz] <;> rfl), q z H3 ((e2.trans (Ex.new hp)).trans e3) (hz z (List.mem_of_getElem? hzz))⟩⟩
theorem q_asgS {D : Ends} {tz : TS} {i : Nat} (h : ES te σ H R) (k : ∀ z H1, Ex H H1 → R z → tz D (σ.set i (some (.str z))) H1) : tSeq (tAsg te (gName i)) tz D σ H := h H (Ex.refl H) _ k
theorem s_asgS {D : Ends} {i : Nat} (h : ES te σ H R) (k : ∀ z H1, Ex H H1 → R z → D.nx (σ.set i (some (.str z))) H1) : tAsg te (gName i) D σ H := h H (Ex.refl H) _ k
theorem s_retS {D : Ends} (h : ES te σ H R) (k : ∀ z H1, Ex H H1 → R z → D.rt (.str z) H1) : tRet te D σ H := h H (Ex.refl H) _ k
end
/-- for x in [a, b, c], texts -/
theorem s_forTx {K : PySem.W.Frag} {σ : L2.St} {H : Hp} {ta : TA} {tu : TS} {D : Ends} {j n : Nat} {R : Str → Prop} (h : ESA ta σ H R n) (hn : n ≤ 100000) (Pv : Hp → L2.St → Hp → Prop) (h0 : ∀ H1, Ex H H1 → Pv H1 σ H1) (he : ∀ H1 σ' H', Pv H1 σ' H' → Ex H1 H')
    (hs : ∀ H1 z σ' H', Ex H H1 → R z → Pv H1 σ' H' → tu { D with nx := Pv H1, ct := Pv H1, bk := D.nx } (σ'.set j (some (.str z))) H') (hd : ∀ H1 σ' H', Ex H H1 → Pv H1 σ' H' → D.nx σ' H') : tFor (iList K (tLst ta)) (gName j) tu D σ H := by
  refine h H (Ex.refl H) _ fun zs H2 e2 hl hz => ⟨sz_of (by rw [List.length_map, hl]; exact hn), fun p hp => ⟨p, rfl, ⟨zs.map V.str, sq_of upd_same⟩, ?_⟩⟩
  have e3 := e2.trans (Ex.new (o := .lst (zs.map V.str)) hp)
  refine for_list (xs := zs.map V.str) (fun i σ' H' => Pv (upd H2 p (.lst (zs.map V.str))) σ' H') (h0 _ e3) (fun i σ' H' _ hP => sq_of (he _ _ _ hP p _ upd_same)) (fun i x σ' H' hi hP => ?_) (fun σ' H' hP => hd _ _ _ e3 hP)
  rw [List.getElem?_map] at hi
  cases e : zs[i]? with
  | none => rw [e] at hi; cases hi
  | some z =>
    rw [e] at hi
    have ex : x = .str z := (Option.some.inj hi).symm
    subst ex
    exact hs _ z σ' H' e3 (hz z (List.mem_of_getElem? e)) hP


/-! ### expressions -/
inductive Bop | add | sub | mul | equal | unequal | less | atmost | more | atleast | and | or
  deriving DecidableEq
def Bop.s : Bop → Str
  | .add => "add"
  | .sub => "sub"
  | .mul => "mul"
  | .equal => "equal"
  | .unequal => "unequal"
  | .less => "less"
  | .atmost => "atmost"
  | .more => "more"
  | .atleast => "atleast"
  | .and => "and"
  | .or => "or"
inductive Tr | int (n : Int) | text (z : Str) | col (z : Str) | neg (a : Tr) | null (a : Tr) | not (a : Tr) | bin (o : Bop) (a b : Tr)
def Tr.d : Tr → PyData
  | .int n => .tuple [.str "int", .int n]
  | .text z => .tuple [.str "text", .str z]
  | .col z => .tuple [.str "column", .str z]
  | .neg a => .tuple [.str "neg", a.d]
  | .null a => .tuple [.str "null", a.d]
  | .not a => .tuple [.str "not", a.d]
  | .bin o a b => .tuple [.str o.s, a.d, b.d]
def Tr.h : Tr → Nat
  | .int _ => 0
  | .text _ => 0
  | .col _ => 0
  | .neg a => a.h + 1
  | .null a => a.h + 1
  | .not a => a.h + 1
  | .bin _ a b => max a.h b.h + 1
inductive Kd | int | text | truth
  deriving DecidableEq
def Kd.s : Kd → Str
  | .int => "int"
  | .text => "text"
  | .truth => "truth"
def Bop.ar (o : Bop) : Bool := o = .add ∨ o = .sub ∨ o = .mul
def Bop.lg (o : Bop) : Bool := o = .and ∨ o = .or
/-- the columns: names and kinds -/
abbrev Cols := List (Str × Kd)
inductive Ty (cs : Cols) : Tr → Kd → Prop
  | int {n : Int} (h : 0 ≤ n ∧ n < 10 ^ 18) : Ty cs (.int n) .int
  | text {z : Str} (h : SeqAt.shaped (.str z) = true) : Ty cs (.text z) .text
  | col {z : Str} {k : Kd} (h : SeqAt.shaped (.str z) = true) (hk : k ≠ .truth) (f : (cs.find? fun c => decide (c.1 = z)).map (·.2) = some k) : Ty cs (.col z) k
  | neg {a : Tr} (h : Ty cs a .int) : Ty cs (.neg a) .int
  | null {a : Tr} {k : Kd} (h : Ty cs a k) (hk : k ≠ .truth) : Ty cs (.null a) .truth
  | not {a : Tr} (h : Ty cs a .truth) : Ty cs (.not a) .truth
  | ar {o : Bop} {a b : Tr} (ho : o.ar = true) (h : Ty cs a .int) (h2 : Ty cs b .int) : Ty cs (.bin o a b) .int
  | cmp {o : Bop} {a b : Tr} {k : Kd} (ho : o.ar = false) (ho2 : o.lg = false) (hk : k ≠ .truth) (h : Ty cs a k) (h2 : Ty cs b k) : Ty cs (.bin o a b) .truth
  | lg {o : Bop} {a b : Tr} (ho : o.lg = true) (h : Ty cs a .truth) (h2 : Ty cs b .truth) : Ty cs (.bin o a b) .truth
theorem Ty.fl {cs : Cols} {t : Tr} {k : Kd} (h : Ty cs t k) : Fl (t.h + 1) t.d := by
  have two : ∀ {n : Nat} {a : String} {d : PyData}, SeqAt.shaped (.str (Str.ofString a)) = true → Fl n d → Fl (n + 1) (.tuple [.str a, d]) := fun hs h => .tup fun x hx => by
    simp only [List.mem_cons, List.not_mem_nil, or_false] at hx
    rcases hx with z | z <;> rw [z]
    · exact .str _ hs
    · exact h
  have s : ∀ o : Bop, SeqAt.shaped (.str o.s) = true := by intro o; cases o <;> decide +kernel
  have three : ∀ {o : Bop} {n m : Nat} {d e : PyData}, Fl n d → Fl m e → Fl (max n m + 1) (.tuple [.str o.s, d, e]) := fun {o n m d e} h1 h2 => .tup fun x hx => by
    simp only [List.mem_cons, List.not_mem_nil, or_false] at hx
    rcases hx with z | z | z <;> rw [z]
    · exact .str _ (s o)
    · exact h1.mono (Nat.le_max_left _ _)
    · exact h2.mono (Nat.le_max_right _ _)
  have mx : ∀ {o : Bop} {a b : Tr}, Fl (a.h + 1) a.d → Fl (b.h + 1) b.d → Fl ((Tr.bin o a b).h + 1) (Tr.bin o a b).d := fun {o a b} h1 h2 => (three (o := o) h1 h2).mono (by show _ ≤ max a.h b.h + 1 + 1; omega)
  induction h with
  | int h => exact two (by decide +kernel) (.int 0 _)
  | text h => exact two (by decide +kernel) (.str 0 h)
  | col h _ _ => exact two (by decide +kernel) (.str 0 h)
  | neg _ ih => exact two (by decide +kernel) ih
  | null _ _ ih => exact two (by decide +kernel) ih
  | not _ ih => exact two (by decide +kernel) ih
  | ar _ _ _ i1 i2 => exact mx i1 i2
  | cmp _ _ _ _ _ i1 i2 => exact mx i1 i2
  | lg _ _ _ i1 i2 => exact mx i1 i2
theorem lg_ar {o : Bop} (h : o.ar = true) (h2 : o.lg = true) : False := by cases o <;> simp [Bop.ar, Bop.lg] at h h2
theorem Ty.kd_u {cs : Cols} {t : Tr} {k k' : Kd} (h : Ty cs t k) (h2 : Ty cs t k') : k = k' := by
  cases h with
  | int _ => cases h2; rfl
  | text _ => cases h2; rfl
  | col _ _ f =>
    cases h2 with
    | col _ _ f2 => exact Option.some.inj (f.symm.trans f2)
  | neg _ => cases h2; rfl
  | null _ _ => cases h2; rfl
  | not _ => cases h2; rfl
  | ar ho _ _ =>
    cases h2 with
    | ar _ _ _ => rfl
    | cmp h _ _ _ _ => exact Bool.noConfusion (ho.symm.trans h)
    | lg h _ _ => exact (lg_ar ho h).elim
  | cmp ho ho2 _ _ _ =>
    cases h2 with
    | ar h _ _ => exact Bool.noConfusion (h.symm.trans ho)
    | cmp _ _ _ _ _ => rfl
    | lg h _ _ => exact Bool.noConfusion (h.symm.trans ho2)
  | lg ho _ _ =>
    cases h2 with
    | ar h _ _ => exact (lg_ar h ho).elim
    | cmp _ h _ _ _ => exact Bool.noConfusion (ho.symm.trans h)
    | lg _ _ _ => rfl
/-! ### values -/
def bndV (n : Int) : V := if n.natAbs < 10 ^ 60 then .int n else .non
def colV : Cols → List V → Str → V
  | (c, _) :: cs, v :: vs, z => if c = z then v else colV cs vs z
  | _, _, _ => .non
def cmpV (o : Bop) (x y : V) : V := match x, y with
  | .int i, .int j => (match o with
    | .add => bndV (i + j)
    | .sub => bndV (i - j)
    | .mul => bndV (i * j)
    | .equal => .bl (decide (i = j))
    | .unequal => .bl (!decide (i = j))
    | .less => .bl (decide (i < j))
    | .atmost => .bl (decide (i ≤ j))
    | .more => .bl (decide (j < i))
    | .atleast => .bl (decide (j ≤ i))
    | _ => .non)
  | .str i, .str j => (match o with
    | .equal => .bl (decide (i = j))
    | .unequal => .bl (!decide (i = j))
    | .less => .bl (decide (i.cps.toList < j.cps.toList))
    | .atmost => .bl (!decide (j.cps.toList < i.cps.toList))
    | .more => .bl (decide (j.cps.toList < i.cps.toList))
    | .atleast => .bl (!decide (i.cps.toList < j.cps.toList))
    | _ => .non)
  | _, _ => .non
def andV (x y : V) : V := if x = .bl false ∨ y = .bl false then .bl false else if x = .non ∨ y = .non then .non else .bl true
def orV (x y : V) : V := if x = .bl true ∨ y = .bl true then .bl true else if x = .non ∨ y = .non then .non else .bl false
def evT (cs : Cols) (row : List V) : Tr → V
  | .int n => .int n
  | .text z => .str z
  | .col z => colV cs row z
  | .neg a => match evT cs row a with
    | .int i => bndV (-i)
    | _ => .non
  | .null a => .bl (decide (evT cs row a = .non))
  | .not a => match evT cs row a with
    | .bl b => .bl (!b)
    | _ => .non
  | .bin o a b => if o = .and then andV (evT cs row a) (evT cs row b) else if o = .or then orV (evT cs row a) (evT cs row b) else cmpV o (evT cs row a) (evT cs row b)
/-- a value of that kind -/
inductive VK' : Kd → V → Prop
  | non (k : Kd) : VK' k .non
  | int {i : Int} (h : i.natAbs < 10 ^ 60) : VK' .int (.int i)
  | str (z : Str) : VK' .text (.str z)
  | bl (b : Bool) : VK' .truth (.bl b)
theorem bnd_ok (i : Int) : VK' .int (bndV i) := by
  unfold bndV
  split
  · rename_i h; exact .int h
  · exact .non _
inductive RowOk : Cols → List V → Prop
  | nil : RowOk [] []
  | cons {c : Str} {k : Kd} {cs : Cols} {v : V} {vs : List V} (h : VK' k v) (r : RowOk cs vs) : RowOk ((c, k) :: cs) (v :: vs)
theorem RowOk.len : ∀ {cs : Cols} {vs : List V}, RowOk cs vs → vs.length = cs.length
  | _, _, .nil => rfl
  | _, _, .cons _ r => congrArg (· + 1) r.len
theorem colV_ok : ∀ {cs : Cols} {vs : List V} {z : Str} {k : Kd}, RowOk cs vs → (cs.find? fun c => decide (c.1 = z)).map (·.2) = some k → VK' k (colV cs vs z)
  | _, _, z, k, .cons (c := c) (k := k') (cs := cs) (v := v) (vs := vs) h r, f => by
    rw [List.find?_cons] at f
    unfold colV
    by_cases e : c = z
    · rw [decide_eq_true (show (c, k').1 = z from e)] at f
      rw [if_pos e, ← Option.some.inj f]
      exact h
    · rw [decide_eq_false (show ¬ (c, k').1 = z from e)] at f
      rw [if_neg e]
      exact colV_ok r f
theorem ev_ok {cs : Cols} {row : List V} (hr : RowOk cs row) {t : Tr} {k : Kd} (h : Ty cs t k) : VK' k (evT cs row t) := by
  induction h with
  | int h => exact .int (by omega)
  | text h => exact .str _
  | col h hk f => exact colV_ok hr f
  | @neg a h ih =>
    unfold evT
    generalize evT cs row a = x at ih
    cases ih with
    | non => exact .non _
    | int _ => exact bnd_ok _
  | null h hk ih => exact .bl _
  | @not a h ih =>
    unfold evT
    generalize evT cs row a = x at ih
    cases ih with
    | non => exact .non _
    | bl b => exact .bl _
  | @ar o a b ho h h2 ih ih2 =>
    unfold evT
    rw [if_neg (by intro z; rw [z] at ho; cases ho), if_neg (by intro z; rw [z] at ho; cases ho)]
    generalize evT cs row a = x at ih
    generalize evT cs row b = y at ih2
    cases ih with
    | non => cases ih2 <;> exact .non _
    | int _ =>
      cases ih2 with
      | non => exact .non _
      | int _ => cases o <;> first | exact bnd_ok _ | cases ho
  | @cmp o a b k ho ho2 hk h h2 ih ih2 =>
    unfold evT
    rw [if_neg (by intro z; rw [z] at ho2; cases ho2), if_neg (by intro z; rw [z] at ho2; cases ho2)]
    generalize evT cs row a = x at ih
    generalize evT cs row b = y at ih2
    cases ih with
    | non => cases ih2 <;> exact .non _
    | int _ =>
      cases ih2 with
      | non => exact .non _
      | int _ => cases o <;> first | exact .bl _ | exact .non _ | cases ho | cases ho2
    | str _ =>
      cases ih2 with
      | non => exact .non _
      | str _ => cases o <;> first | exact .bl _ | exact .non _ | cases ho | cases ho2
    | bl _ => exact absurd rfl hk
  | @lg o a b ho h h2 ih ih2 =>
    unfold evT
    by_cases e : o = .and
    · rw [if_pos e]
      unfold andV
      split
      · exact .bl _
      · split
        · exact .non _
        · exact .bl _
    · rw [if_neg e]
      by_cases e2 : o = .or
      · rw [if_pos e2]
        unfold orV
        split
        · exact .bl _
        · split
          · exact .non _
          · exact .bl _
      · cases o <;> first | exact absurd rfl e | exact absurd rfl e2 | cases ho
theorem VK'.flat {k : Kd} {v : V} (h : VK' k v) : flatV v = true := by cases h <;> rfl
def colsD (cs : Cols) : PyData := .tuple (cs.map fun c => .tuple [.str c.1, .str c.2.s])


/-! ### tuples of two and three; slices of tuples; membership of values -/
theorem dp_two {K : PySem.W.Frag} {H : Hp} {v : V} {a : Str} {d : PyData} (h : Dp K H v (.tuple [.str a, d])) : ∃ p x, v = .ref p ∧ SqT K H p [.str a, x] ∧ Dp K H x d := by
  cases h with
  | tup hs hds =>
    cases hds with
    | cons h1 r =>
      cases r with
      | cons h2 r =>
        cases r
        cases h1
        exact ⟨_, _, rfl, hs, h2⟩
theorem dp_three {K : PySem.W.Frag} {H : Hp} {v : V} {a : Str} {d e : PyData} (h : Dp K H v (.tuple [.str a, d, e])) : ∃ p x y, v = .ref p ∧ SqT K H p [.str a, x, y] ∧ Dp K H x d ∧ Dp K H y e := by
  cases h with
  | tup hs hds =>
    cases hds with
    | cons h1 r =>
      cases r with
      | cons h2 r =>
        cases r with
        | cons h3 r =>
          cases r
          cases h1
          exact ⟨_, _, _, rfl, hs, h2, h3⟩
/-- t[1:] of a tuple -/
theorem eu_sl1 {K : PySem.W.Frag} {σ : L2.St} {H : Hp} {te : TE} {tl th : TO} {a : Addr} {x : V} {xs : List V} (h : Ev te σ H (.ref a)) (h1 : EvO tl σ H (some 1)) (h2 : EvO th σ H none) (hx : SqT K H a (x :: xs)) : EvU (tSl (rSlA K) te tl th) σ H xs := fun H0 e Q q =>
  h H0 e _ fun H2 e2 => h1 H2 (e.trans e2) _ fun H3 e3 => h2 H3 ((e.trans e2).trans e3) _ fun H4 e4 => by
    have z1 : HT.sIx (x :: xs).length 0 (some 1) = 1 := by
      show HT.sIx (xs.length + 1) 0 (some ((1 : Nat) : Int)) = 1
      rw [HT.sIx_nat]
      omega
    refine ⟨a, x :: xs, rfl, ex_t (((e.trans e2).trans e3).trans e4) hx, fun z => ?_, fun _ p hp => ?_⟩
    · have := z.1
      rw [z1] at this
      cases this
    · have ec : cutV (x :: xs) (some 1) none = xs := by
        unfold cutV
        rw [z1, HT.sIx_none]
        show (xs.take (xs.length + 1 - 1)) = xs
        exact List.take_of_length_le (Nat.le_refl _)
      rw [ec]
      exact q p _ (fresh_back ((e2.trans e3).trans e4) hp) (((e2.trans e3).trans e4).trans (Ex.new hp)) upd_same
/-- [f(x) for x in a new tuple] -/
theorem el_mapTN {K : PySem.W.Frag} {σ : L2.St} {H : Hp} {tl te : TE} {j : Nat} {vs : List Nat} {xs ys : List V} (h : EvU tl σ H xs) (hz : xs.length ≤ 40000) (hw : ∀ x, wipe ((wipe σ vs).set j (some x)) vs = wipe σ vs) (hl : ys.length = xs.length)
    (he : ∀ (i : Nat) (x y : V), xs[i]? = some x → ys[i]? = some y → ∀ H1, Ex H H1 → Ev te ((wipe σ vs).set j (some x)) H1 y) : EvL (tLc (iTup K tl) (gName j) tYes te vs) σ H ys := by
  intro H0 e Q q
  refine h H0 e _ fun a H1 _ e1 ha => ⟨a, rfl, ⟨xs, st_of ha⟩, fun Dl hD => ?_⟩
  refine lc_tup (xs := xs) (fun i H' => H1 Dl = none ∧ Ex H1 H' ∧ H' Dl = some (.lst (ys.take i))) ⟨hD, Ex.new hD, upd_same⟩ (fun i H' _ p => ex_t p.2.1 (st_of ha)) (fun i x H' hi p => ⟨hw x, ?_⟩) (fun H' p => ?_)
  · obtain ⟨p1, p2, p3⟩ := p
    have hi2 : i < ys.length := by
      have := (List.getElem?_eq_some_iff.mp hi).1
      omega
    have hy : ys[i]? = some ys[i] := List.getElem?_eq_getElem hi2
    show te ((wipe σ vs).set j (some x)) H' _
    refine he i x ys[i] hi hy H1 (e.trans e1) H' p2 _ fun H4 e4 => ⟨ys.take i, e4 Dl _ p3, sz_lt (by rw [List.length_take]; omega), p1, (p2.trans e4).mut p1, ?_⟩
    rw [upd_same, List.take_add_one, hy] <;> rfl
  · obtain ⟨p1, p2, p3⟩ := p
    rw [← hl, List.take_length] at p3
    exact q Dl H' (fresh_back e1 p1) (e1.trans p2) p3
/-- list.index -/
theorem ev_index {K : PySem.W.Frag} {σ : L2.St} {H : Hp} {to te : TE} {ys : List V} {y z : V} {j : Nat} (h : EvL to σ H ys) (hy : ∀ H1, Ex H H1 → Ev te σ H1 y) (fy : flatV y = true) (fs : ys.all flatV = true) (hj : ys[j]? = some z) (hz : eqV z y = true) (hn : ∀ (m : Nat) (z' : V), m < j → ys[m]? = some z' → eqV z' y = false) :
    Ev (tBM K "list" (rIndex K) to (tCons te tNil)) σ H (.int (j : Int)) := fun H1 e Q q =>
  h H1 e _ fun p H2 _ e2 hp => ⟨.inl ⟨rfl, _, sq_of hp⟩, hy H2 (e.trans e2) _ (Ex.refl H2) _ fun H3 e3 => ⟨p, ys, y, j, z, rfl, rfl, sq_of (e3 _ _ hp), fy, fs, hj, hz, hn, q H3 (e2.trans e3)⟩⟩
theorem ev_abs {σ : L2.St} {H : Hp} {te : TE} {i : Int} (h : Ev te σ H (.int i)) : Ev (tCB (fun xs H Q => ∃ i, xs = [V.int i] ∧ Q (.int (if i < 0 then -i else i)) H) (tCons te tNil)) σ H (.int (i.natAbs : Int)) := fun H1 e Q q =>
  h H1 e _ fun H2 e2 => ⟨i, rfl, by
    have : (if i < 0 then -i else i) = (i.natAbs : Int) := by split <;> omega
    rw [this]
    exact q H2 e2⟩
theorem eqS_refl (z : Str) : eqV (.str z) (.str z) = true := by show (z == z) = true; simp
theorem eqS_ne {a b : Str} (h : a ≠ b) : eqV (.str a) (.str b) = false := by
  show (a == b) = false
  simpa using h
theorem in_non {x y : V} : inV .non [x, y] = decide (x = .non ∨ y = .non) := by
  have e : ∀ v : V, eqV v .non = decide (v = .non) := by intro v; cases v <;> rfl
  unfold inV
  simp only [List.any_cons, List.any_nil, Bool.or_false, e]
  by_cases h : x = .non <;> by_cases h2 : y = .non <;> simp [h, h2]
theorem in_non1 {x : V} : inV .non [x] = decide (x = .non) := by
  have e : ∀ v : V, eqV v .non = decide (v = .non) := by intro v; cases v <;> rfl
  unfold inV
  simp only [List.any_cons, List.any_nil, Bool.or_false, e]
theorem in_bl {x y : V} {b : Bool} (hx : VK' .truth x) (hy : VK' .truth y) : inV (.bl b) [x, y] = decide (x = .bl b ∨ y = .bl b) := by
  have e : ∀ v : V, VK' .truth v → eqV v (.bl b) = decide (v = .bl b) := by
    intro v h
    cases h with
    | non => rfl
    | bl c => cases b <;> cases c <;> rfl
  unfold inV
  simp only [List.any_cons, List.any_nil, Bool.or_false, e x hx, e y hy]
  by_cases h : x = .bl b <;> by_cases h2 : y = .bl b <;> simp [h, h2]
theorem kin_bop (o : Bop) : kIn o.s ["int", "text"] = false ∧ decide (o.s = Str.ofString "column") = false ∧ decide (o.s = Str.ofString "null") = false ∧ kIn o.s ["and", "or"] = o.lg ∧ decide (o.s = Str.ofString "or") = decide (o = .or) ∧ decide (o.s = Str.ofString "and") = decide (o = .and) ∧ decide (o.s = Str.ofString "not") = false ∧ kIn o.s ["neg", "add", "sub", "mul"] = o.ar ∧ decide (o.s = Str.ofString "neg") = false ∧ decide (o.s = Str.ofString "add") = decide (o = .add) ∧ decide (o.s = Str.ofString "sub") = decide (o = .sub) ∧ decide (o.s = Str.ofString "mul") = decide (o = .mul) ∧ decide (o.s = Str.ofString "equal") = decide (o = .equal) ∧ decide (o.s = Str.ofString "unequal") = decide (o = .unequal) ∧ decide (o.s = Str.ofString "less") = decide (o = .less) ∧ decide (o.s = Str.ofString "atmost") = decide (o = .atmost) ∧ decide (o.s = Str.ofString "more") = decide (o = .more) := by
  cases o <;> decide +kernel
def spEv (K : PySem.W.Frag) (n : Nat) : Sp := fun vs H Q _ => ∃ (t : Tr) (k : Kd) (cs : Cols) (row : List V) (vt vc : V) (r : Addr), vs = [vt, vc, .ref r] ∧ Dp K H vt t.d ∧ t.h ≤ n ∧ Ty cs t k ∧ Dp K H vc (colsD cs) ∧ SqT K H r row ∧ RowOk cs row ∧ cs.length ≤ 100 ∧ ∀ H', Ex H H' → Q (evT cs row t) H'
theorem cv_ev {K : PySem.W.Frag} {n : Nat} {t : Tr} {k : Kd} {cs : Cols} {row : List V} {vt vc : V} {r : Addr} {H : Hp} (h1 : Dp K H vt t.d) (h2 : t.h ≤ n) (h3 : Ty cs t k) (h4 : Dp K H vc (colsD cs)) (h5 : SqT K H r row) (h6 : RowOk cs row) (h7 : cs.length ≤ 100) : SpV (spEv K n) [vt, vc, .ref r] H (evT cs row t) := fun H1 e Q q E => ⟨t, k, cs, row, vt, vc, r, rfl, dp_mono e h1, h2, h3, dp_mono e h4, ex_t e h5, h6, h7, fun H2 e2 => q H2 e2⟩
/-- the columns in the heap -/
theorem cols_at {K : PySem.W.Frag} {H : Hp} {vc : V} {cs : Cols} (h : Dp K H vc (colsD cs)) : ∃ (c : Addr) (xs : List V), vc = .ref c ∧ SqT K H c xs ∧ xs.length = cs.length ∧ ∀ (i : Nat) (x : V), xs[i]? = some x → ∃ p c, cs[i]? = some c ∧ x = .ref p ∧ SqT K H p [.str c.1, .str c.2.s] := by
  cases h with
  | tup hs hds =>
    refine ⟨_, _, rfl, hs, by rw [dpa_len hds, List.length_map], fun i x hx => ?_⟩
    obtain ⟨d, h1, h2⟩ := dpa_at hds hx
    rw [List.getElem?_map] at h1
    cases e : cs[i]? with
    | none => rw [e] at h1; cases h1
    | some c =>
      rw [e] at h1
      rw [← Option.some.inj h1] at h2
      obtain ⟨p, y, rfl, h3, h4⟩ := dp_two h2
      cases h4
      exact ⟨p, c, rfl, rfl, h3⟩
def plc : Cols → Str → Nat
  | [], _ => 0
  | (c, _) :: cs, z => if c = z then 0 else plc cs z + 1
theorem plc_spec : ∀ {cs : Cols} {z : Str} {k : Kd} {row : List V}, (cs.find? fun c => decide (c.1 = z)).map (·.2) = some k → row.length = cs.length → (∃ c, cs[plc cs z]? = some c ∧ c.1 = z) ∧ row[plc cs z]? = some (colV cs row z) ∧ ∀ (m : Nat) c, m < plc cs z → cs[m]? = some c → c.1 ≠ z
  | (c, k') :: cs, z, k, v :: row, f, hl => by
    rw [List.find?_cons] at f
    unfold plc colV
    by_cases e : c = z
    · rw [if_pos e, if_pos e]
      exact ⟨⟨_, rfl, e⟩, rfl, fun m c h => by omega⟩
    · rw [decide_eq_false (show ¬ (c, k').1 = z from e)] at f
      rw [if_neg e, if_neg e]
      obtain ⟨⟨d, h1, h2⟩, h3, h4⟩ := plc_spec (cs := cs) (row := row) f (by simpa using hl)
      refine ⟨⟨d, by simpa using h1, h2⟩, by simpa using h3, fun m d' hm hd => ?_⟩
      cases m with
      | zero =>
        have : (c, k') = d' := by simpa using hd
        rw [← this]
        exact e
      | succ m => exact h4 m d' (by omega) (by simpa using hd)
  | (c, k') :: cs, z, k, [], f, hl => by simp at hl
  | [], z, k, row, f, hl => by cases f
/-- two ints or two texts -/
def Two (x y : V) : Prop := (∃ i j, x = .int i ∧ y = .int j) ∨ ∃ a b, x = .str a ∧ y = .str b
def rAny2 (f : Int → Int → Bool) (g : Str → Str → Bool) : R2 := fun x y H Q => (rI0 fun i j => .bl (f i j)) x y H Q ∨ (∃ i j, x = .str i ∧ y = .str j ∧ Q (.bl (g i j)) H)
theorem ev_two {σ : L2.St} {H : Hp} {ta tb : TE} {x y v : V} {f : Int → Int → Bool} {g : Str → Str → Bool} (ha : Ev ta σ H x) (hb : Ev tb σ H y) (h : Two x y) (hi : ∀ i j, x = .int i → y = .int j → v = .bl (f i j)) (hs : ∀ i j, x = .str i → y = .str j → v = .bl (g i j)) : Ev (tOp (rAny2 f g) ta tb) σ H v := by
  rcases h with ⟨i, j, rfl, rfl⟩ | ⟨i, j, rfl, rfl⟩
  · rw [hi i j rfl rfl]
    exact ev_op ha hb fun H1 e1 Q q => .inl ⟨i, j, rfl, rfl, q H1 (Ex.refl H1)⟩
  · rw [hs i j rfl rfl]
    exact ev_op ha hb fun H1 e1 Q q => .inr ⟨i, j, rfl, rfl, q H1 (Ex.refl H1)⟩
theorem ev_lt2 {σ : L2.St} {H : Hp} {ta tb : TE} {x y : V} (ha : Ev ta σ H x) (hb : Ev tb σ H y) (h : Two x y) : Ev (tOp (rAny2 (fun i j => decide (i < j)) (fun i j => decide (i.cps.toList < j.cps.toList))) ta tb) σ H (cmpV .less x y) := ev_two ha hb h (fun i j hx hy => by rw [hx, hy] <;> rfl) (fun i j hx hy => by rw [hx, hy] <;> rfl)
theorem less_bl {x y : V} (h : Two x y) : ∃ b, cmpV .less x y = .bl b ∧ cmpV .atleast x y = .bl (!b) ∧ cmpV .more y x = .bl b ∧ cmpV .atmost y x = .bl (!b) := by
  rcases h with ⟨i, j, rfl, rfl⟩ | ⟨i, j, rfl, rfl⟩
  · refine ⟨decide (i < j), rfl, ?_, rfl, ?_⟩
    · show V.bl (decide (j ≤ i)) = V.bl (!decide (i < j))
      rw [show decide (j ≤ i) = !decide (i < j) by by_cases h : i < j <;> simp [h] <;> omega]
    · show V.bl (decide (j ≤ i)) = V.bl (!decide (i < j))
      rw [show decide (j ≤ i) = !decide (i < j) by by_cases h : i < j <;> simp [h] <;> omega]
  · exact ⟨decide (i.cps.toList < j.cps.toList), rfl, rfl, rfl, rfl⟩
theorem Two.symm {x y : V} (h : Two x y) : Two y x := by
  rcases h with ⟨i, j, rfl, rfl⟩ | ⟨i, j, rfl, rfl⟩
  · exact .inl ⟨j, i, rfl, rfl⟩
  · exact .inr ⟨j, i, rfl, rfl⟩
/-- x is True, x is False, x None or a bool -/
def rIsF : R2 := fun x y H Q => ∃ b, y = .bl b ∧ ((x = .non ∧ Q (.bl false) H) ∨ ∃ a, x = .bl a ∧ Q (.bl (decide (a = b))) H)
theorem op_isF {X : Cx} : OpR X (compareOp .Is) rIsF := by
  intro pins s σ H x y v u Q I rx ry h
  obtain ⟨b, rfl, ⟨rfl, q⟩ | ⟨a, rfl, q⟩⟩ := h
  · cases (show v = Value.none from rx)
    cases (show u = Value.bool b from ry)
    exact wpAny_is_other rfl (fun z => nomatch z) ⟨.bl false, H, I, rfl, q⟩
  · exact op_is_bl pins s σ H (.bl a) (.bl b) v u Q I rx ry ⟨a, b, rfl, rfl, q⟩
theorem ev_isF {σ : L2.St} {H : Hp} {te : TE} {v : V} {b : Bool} (h : Ev te σ H v) (hv : VK' .truth v) : Ev (tOp rIsF te (tC (.bl b))) σ H (.bl (decide (v = .bl b))) := fun H1 e Q q => h H1 e _ fun H2 e2 => by
  cases hv with
  | non => exact ⟨b, rfl, .inl ⟨rfl, q H2 e2⟩⟩
  | bl a =>
    refine ⟨b, rfl, .inr ⟨a, rfl, ?_⟩⟩
    have : decide (V.bl a = V.bl b) = decide (a = b) := dec_bl
    rw [← this]
    exact q H2 e2
/-- [x for x in xs if p(x)] -/
theorem el_flL {K : PySem.W.Frag} {σ : L2.St} {H : Hp} {te tl : TE} {tt : TT} {a : Addr} {xs : List V} {j : Nat} {vs : List Nat} {p : V → Bool} (h : Ev te σ H (.ref a)) (hx : SqL K H a xs) (hz : xs.length ≤ 40000) (hw : ∀ x, wipe ((wipe σ vs).set j (some x)) vs = wipe σ vs)
    (ht : ∀ x, x ∈ xs → ∀ H1, Ex H H1 → EvT tt ((wipe σ vs).set j (some x)) H1 (p x)) (he : ∀ x H1, x ∈ xs → Ex H H1 → Ev tl ((wipe σ vs).set j (some x)) H1 x) : EvL (tLc (iList K te) (gName j) tt tl vs) σ H (xs.filter p) := by
  intro H0 e Q q
  refine h H0 e _ fun H1 e1 => ⟨a, rfl, ⟨xs, ex_l (e.trans e1) hx⟩, fun Dl hD => ?_⟩
  refine lc_list (xs := xs) (fun i H' => H1 Dl = none ∧ Ex H1 H' ∧ H' Dl = some (.lst ((xs.take i).filter p))) ⟨hD, Ex.new hD, upd_same⟩ (fun i H' _ z => ex_l ((e.trans e1).trans z.2.1) hx) (fun i x H' hi z => ⟨hw x, ?_⟩) (fun H' z => ?_)
  · obtain ⟨p1, p2, p3⟩ := z
    have hi2 := (List.getElem?_eq_some_iff.mp hi).1
    have hm := List.mem_of_getElem? hi
    have et : (xs.take (i + 1)).filter p = (xs.take i).filter p ++ (if p x = true then [x] else []) := by
      rw [List.take_add_one, hi, List.filter_append]
      show _ ++ [x].filter p = _
      by_cases hp : p x = true
      · rw [if_pos hp, List.filter_cons_of_pos hp] <;> rfl
      · rw [if_neg hp, List.filter_cons_of_neg hp] <;> rfl
    refine ht x hm H1 (e.trans e1) H' p2 _ fun H3 e3 => ?_
    cases hp : p x with
    | true =>
      show tl _ H3 _
      refine he x H1 hm (e.trans e1) H3 (p2.trans e3) _ fun H4 e4 => ⟨_, e4 Dl _ (e3 Dl _ p3), sz_lt ?_, p1, ((p2.trans e3).trans e4).mut p1, ?_⟩
      · have := List.length_filter_le p (xs.take i)
        rw [List.length_take] at this
        omega
      · rw [upd_same, et, if_pos hp]
    | false =>
      show H1 Dl = none ∧ _
      refine ⟨p1, p2.trans e3, ?_⟩
      rw [et, if_neg (by rw [hp]; exact Bool.false_ne_true), List.append_nil]
      exact e3 Dl _ p3
  · obtain ⟨p1, p2, p3⟩ := z
    rw [List.take_length] at p3
    exact q Dl H' (fresh_back e1 p1) (e1.trans p2) p3
theorem dpa_nons {K : PySem.W.Frag} {H : Hp} : ∀ {ys : List V}, (∀ y ∈ ys, y = .non) → DpAll K H ys (ys.map fun _ => PyData.none)
  | [], _ => .nil
  | y :: ys, h => by
    rw [h y (List.mem_cons_self ..)]
    exact .cons .non (dpa_nons fun z hz => h z (List.mem_cons_of_mem _ hz))
theorem ev_neNil {K : PySem.W.Frag} {σ : L2.St} {H : Hp} {ta : TE} {ys : List V} (h : EvL ta σ H ys) (hz : ∀ y ∈ ys, y = .non) : Ev (tOp (rNeD K) ta (tLst tNil)) σ H (.bl (!ys.isEmpty)) := by
  refine ev_opLL h (el_lst ea_nil (by decide)) fun p q H1 hp hq _ => rv_val fun H2 e2 Q k => ⟨_, _, .lst (sq_of (e2 _ _ hp)) (dpa_nons hz), .lst (sq_of (e2 _ _ hq)) .nil, shaped_lst (n := 0) (fun d hd => ?_) (by decide), by decide, ?_⟩
  · obtain ⟨z, hz', rfl⟩ := List.mem_map.mp hd
    exact .non 0
  · have e : PyData.eqv (.list (ys.map fun _ => PyData.none)) (.list []) = ys.isEmpty := by
      cases ys <;> simp [PyData.eqv, PyData.eqvAll]
    rw [e]
    exact k
theorem given_first {n j : Nat} {f : Nat → Bool} {v : Nat → V} (hj : j < n) (hf : f j = true) (hn : ∀ m, m < j → f m = false) : (given n f v)[0]? = some (v j) := by
  unfold given
  rw [List.getElem?_map]
  have : ((List.range n).filter f)[0]? = some j := by
    rw [← List.head?_eq_getElem?, List.head?_filter, List.find?_range_eq_some]
    exact ⟨hf, List.mem_range.mpr hj, fun m hm => by rw [hn m hm] <;> rfl⟩
  rw [this] <;> rfl
theorem et_andF {t u : TT} {σ : L2.St} {H : Hp} (h : EvT t σ H false) : EvT (tAnd t u) σ H false := et_is (et_and (a := false) (b := false) h fun z => nomatch z) rfl


/-- names of at most b letters -/
def Nm (b : Nat) (z : Str) : Prop := 1 ≤ z.length ∧ z.length ≤ b ∧ ∀ c ∈ z.cps.toList, 97 ≤ c ∧ c ≤ 122
theorem Nm.mono {a b : Nat} {z : Str} (h : Nm a z) (e : a ≤ b) : Nm b z := ⟨h.1, Nat.le_trans h.2.1 e, h.2.2⟩
theorem Nm.tx {b : Nat} {z : Str} (h : Nm b z) : TxOk b z := ⟨h.2.1, fun c hc => by have := h.2.2 c hc; omega⟩
def alphaZ : List Nat := (List.range 26).map (· + 97)
theorem alpha_eq : (Str.ofString "abcdefghijklmnopqrstuvwxyz") = ⟨alphaZ.toArray⟩ := by decide +kernel
theorem alpha_at (i : Int) (h : 0 ≤ i ∧ i < 26) : 97 ≤ alphaZ.getD i.toNat 0 ∧ alphaZ.getD i.toNat 0 ≤ 122 := by
  have : ∀ k : Nat, k < 26 → 97 ≤ alphaZ.getD k 0 ∧ alphaZ.getD k 0 ≤ 122 := by decide
  exact this _ (by omega)
theorem alpha_len : alphaZ.length = 26 := by decide
/-- letters[i] -/
theorem ev_letter {σ : L2.St} {H : Hp} {ta tb : TE} {i : Int} (ha : Ev ta σ H (.str (Str.ofString "abcdefghijklmnopqrstuvwxyz"))) (hb : Ev tb σ H (.int i)) (h : 0 ≤ i ∧ i < 26) : Ev (tOp rIxS ta tb) σ H (.str ⟨#[alphaZ.getD i.toNat 0]⟩) :=
  ev_ixB (z := ⟨alphaZ.toArray⟩) (ev_is ha (congrArg V.str alpha_eq)) hb (by decide +kernel) (at_cps (l := alphaZ) rfl h.1 (by rw [alpha_len]; exact h.2))
theorem Nm.one {i : Int} (h : 0 ≤ i ∧ i < 26) : Nm 1 ⟨#[alphaZ.getD i.toNat 0]⟩ := ⟨Nat.le_refl 1, Nat.le_refl 1, fun c hc => by
  have : c = alphaZ.getD i.toNat 0 := by simpa using hc
  rw [this]
  exact alpha_at i h⟩
theorem Nm.app {a b : Nat} {x y : Str} (h : Nm a x) (k : TxOk b y ∧ ∀ c ∈ y.cps.toList, 97 ≤ c ∧ c ≤ 122) : Nm (a + b) (x ++ y) := by
  have hl : (x ++ y).length = x.length + y.length := by rw [str_len, codes_app rfl rfl, List.length_append, ← str_len, ← str_len]
  refine ⟨by have := h.1; omega, by have := h.2.1; have := k.1.1; omega, fun c hc => ?_⟩
  rw [codes_app (x := x.cps.toList) (y := y.cps.toList) rfl rfl] at hc
  rcases List.mem_append.mp hc with z | z
  · exact h.2.2 c z
  · exact k.2 c z
def spNames (K : PySem.W.Frag) : Sp := fun vs H Q _ => ∃ (p : Addr) (cs : List Int), vs = [.ref p] ∧ SqL K H p (cs.map V.int) ∧ cs.length ≤ 12 ∧ (∀ c ∈ cs, Wd c) ∧ ∀ q' (zs : List Str) H', H q' = none → Ex H H' → H' q' = some (.lst (zs.map V.str)) → zs.length = cs.length → (∀ z ∈ zs, Nm 12 z) → Q (.ref q') H'
theorem Nm.cutTo {z : Str} (p : Nat) : cutS z none (some (p : Int)) = mkS (z.cps.toList.take p) := by
  rw [mkS_codes z]
  exact cutS_to _ p
theorem Nm.cutFrom {z : Str} (p : Nat) : cutS z (some (p : Int)) none = mkS (z.cps.toList.drop p) := by
  rw [mkS_codes z]
  exact cutS_from _ p
/-- one letter put in another's place -/
theorem Nm.spoil {b : Nat} {z c : Str} {p : Nat} (h : Nm b z) (hp : p < z.length) (hc : Nm 1 c) : Nm b (cutS z none (some (p : Int)) ++ c ++ cutS z (some ((p + 1 : Nat) : Int)) none) := by
  rw [Nm.cutTo, Nm.cutFrom]
  obtain ⟨h1, h2, h3⟩ := h
  have hl := str_len z
  have hcl := str_len c
  have e : (mkS (z.cps.toList.take p) ++ c ++ mkS (z.cps.toList.drop (p + 1))).cps.toList = (z.cps.toList.take p ++ c.cps.toList) ++ z.cps.toList.drop (p + 1) := by
    rw [codes_app (x := z.cps.toList.take p ++ c.cps.toList) (y := z.cps.toList.drop (p + 1)) (codes_app rfl rfl) rfl]
  refine ⟨?_, ?_, fun d hd => ?_⟩
  · rw [str_len, e, List.length_append, List.length_append, ← hcl]
    have := hc.1
    omega
  · rw [str_len, e, List.length_append, List.length_append, ← hcl, List.length_take, List.length_drop]
    have := hc.2.1
    omega
  · rw [e] at hd
    rcases List.mem_append.mp hd with k | k
    · rcases List.mem_append.mp k with k | k
      · exact h3 d (List.mem_of_mem_take k)
      · exact hc.2.2 d k
    · exact h3 d (List.mem_of_mem_drop k)
/-- a list as a test -/
theorem et_lst {K : PySem.W.Frag} {σ : L2.St} {H : Hp} {te : TE} {p : Addr} {xs : List V} (h : Ev te σ H (.ref p)) (hS : ∀ H1, Ex H H1 → SqL K H1 p xs) : EvT (fun σ H Q => te σ H fun x H' => ∃ k, TruV K x H' k ∧ Q k H') σ H (!xs.isEmpty) := fun H1 e Q q =>
  h H1 e _ fun H2 e2 => ⟨!xs.isEmpty, .inl ⟨xs, hS H2 (e.trans e2), rfl⟩, q H2 e2⟩
theorem ev_inStrs {K : PySem.W.Frag} {σ : L2.St} {H : Hp} {ta tb : TE} {z : Str} {p : Addr} {zs : List Str} (ha : Ev ta σ H (.str z)) (hb : Ev tb σ H (.ref p)) (h : SqL K H p (zs.map V.str)) : Ev (tOp (rIn K false) ta tb) σ H (.bl (inV (.str z) (zs.map V.str))) := ev_op ha hb (rv_isL h rfl (by rw [List.all_map]; exact List.all_eq_true.mpr fun _ _ => rfl))
theorem inS_mem {z : Str} {zs : List Str} : inV (.str z) (zs.map V.str) = decide (z ∈ zs) := by
  have e : ∀ a b : Str, eqV (.str a) (.str b) = decide (a = b) := fun a b => by
    by_cases h : a = b
    · rw [h, eqS_refl, decide_eq_true rfl]
    · rw [eqS_ne h, decide_eq_false h]
  unfold inV
  rw [List.any_map]
  induction zs with
  | nil => rfl
  | cons y ys ih =>
    rw [List.any_cons, ih]
    simp only [Function.comp_apply, e]
    by_cases h1 : z = y
    · subst h1
      simp
    · by_cases h2 : z ∈ ys
      · simp [h2]
      · have h3 : ¬ y = z := fun k => h1 k.symm
        simp [h1, h2, h3]
theorem pigeon {f : Nat → Str} : ∀ (n : Nat) (l : List Str), (∀ j, j < n → f j ∈ l) → (∀ j k, j < n → k < n → f j = f k → j = k) → n ≤ l.length
  | 0, _, _, _ => Nat.zero_le _
  | n + 1, l, h, inj => by
    have hm := h n (Nat.lt_succ_self n)
    have hl := List.length_pos_of_mem hm
    have := pigeon n (l.erase (f n)) (fun j hj => (List.mem_erase_of_ne fun e => by
      have := inj j n (by omega) (by omega) e
      omega).mpr (h j (by omega))) fun j k hj hk => inj j k (by omega) (by omega)
    rw [List.length_erase_of_mem hm] at this
    omega
def candZ (k : Nat) : Str := Str.ofString "z" ++ (⟨#[alphaZ.getD ((k : Int) / 26).toNat 0]⟩ : Str) ++ (⟨#[alphaZ.getD ((k : Int) % 26).toNat 0]⟩ : Str)
theorem cand_inj : ∀ j, j < 13 → ∀ k, k < 13 → candZ j = candZ k → j = k := by decide +kernel


/-! ### a lambda as the key of sorted -/
section
open LamX
/-- the function object of a lambda that captures nothing -/
def LamO (f c' : Addr) (q : Str) (params : Arguments) (body : Expr) (scope : Scope) : HO := .ext fun h => ∃ pm ctv, h.get? f = some (PySem.W.kla_obj "<lambda>" q params body scope [] pm c' ctv)
/-- the table of a def with one lambda, once that is made -/
def tabOf (pos : Pos) (c' : Addr) : Array Value := #[rawInt pos.line, rawInt pos.col, .ref c']
/-- the lambda's code object is there -/
def LamTab (H : Hp) (P : Addr) (pos : Pos) (q : Str) : Prop := ∃ c', H P = some (.tbl (tabOf pos c')) ∧ H c' = some (CodeO c' q)
def tLam (P : Addr) (q : Str) (params : Arguments) (body : Expr) (scope : Scope) (pos : Pos) : TE := fun _ H Q =>
  (H P = some (.tbl #[]) ∧ ∀ c' f, H c' = none → H f = none → c' ≠ f → Q (.ref f) (upd (upd (upd H P (.tbl (tabOf pos c'))) c' (CodeO c' q)) f (LamO f c' q params body scope))) ∨
  (∃ c', H P = some (.tbl (tabOf pos c')) ∧ H c' = some (CodeO c' q) ∧ ∀ f, H f = none → Q (.ref f) (upd H f (LamO f c' q params body scope)))
theorem lamO_ok {P : Program} {w : World} {H : Hp} {h : Heap} {f c' : Addr} {q : Str} {params : Arguments} {body : Expr} {scope : Scope} {pm ctv : Value} (e : h.get? f = some (PySem.W.kla_obj "<lambda>" q params body scope [] pm c' ctv)) :
    ObjOk P w (upd H f (LamO f c' q params body scope)) h f (LamO f c' q params body scope) :=
  ⟨⟨pm, ctv, e⟩, ⟨_, e⟩, fun _ _ ⟨a, b, z⟩ st => ⟨a, b, st _ z⟩⟩
theorem among_one {pos : Pos} {c' : Addr} : codeAmong pos (tabOf pos c').toList = some (.ref c') := by
  unfold tabOf rawInt codeAmong
  simp
theorem pe_lam {X : Cx} {params : Arguments} {body : Expr} {scope : Scope} {pos : Pos} {c P : Addr} (TB : TabB X.base X.mg c P) (hcode : X.env.code = .ref c) (hdef : defaultsOf params X.env = ([], []) := by rfl)
    (hfree : ∀ y ∈ scope.names, y.2 = .free → ∃ c, X.env.cells.lookup y.1 = some c) (hclo : cloFrom X.env.cells scope.names [] = []) : PE X (.Lambda params body scope pos) (tLam P (X.env.qual ++ "<lambda>") params body scope pos) := by
  refine ⟨fun pins s σ H Q I h => ?_⟩
  have bP : s.heap.BuiltinsAt X.mg P := TB.bm.keeps I.bk
  refine PySem.W.kla_eval hdef ?_
  rcases h with ⟨hP, h⟩ | ⟨c', hP, hc', h⟩
  · have hP' : s.heap.get? P = some { cls := .none, data := .fields #[] } := I.hok P _ hP
    refine PySem.W.kla_makeFunction (mg := X.mg) (c := c) (P := P) (ps := #[]) (closure_ok hfree) I.ok.glob (I.mod.glob.keeps I.bk) hcode (TB.code.keeps I.bk) hP' trivial rfl TB.gP bP fun c' ctv h' tk hx hge hlt hrec htb => ?_
    obtain ⟨c2, oc, vs, t, e2, hoc, hd, hv⟩ := hrec
    cases e2
    have hsz : s.heap.objs.size ≤ h'.objs.size := Nat.le_trans hge (Nat.le_of_lt hlt)
    have I0 := inv_table (t' := tk) (more := #[rawInt pos.line, rawInt pos.col, .ref c']) (h' := h') I hP (fun b o hb e => hx b o hb e) htb hge ⟨oc, vs, t, hoc, hd, hv⟩
    rw [hclo]
    have hf : (h'.push (PySem.W.kla_obj "<lambda>" (X.env.qual ++ "<lambda>") params body scope [] ((X.mg "__name__").getD .none) c' ctv)).get? h'.objs.size = some _ := Heap.get?_push_size _ rfl
    have I1 := I0.laid (t' := tk) (a := h'.objs.size) (o := LamO h'.objs.size c' (X.env.qual ++ "<lambda>") params body scope) (fun b o e => Heap.get?_push_of_some _ e) (Nat.le_refl _) (lamO_ok hf)
    refine ⟨.ref h'.objs.size, _, I1, rfl, ?_⟩
    have z : (#[] : Array Value) ++ #[rawInt pos.line, rawInt pos.col, Value.ref c'] = tabOf pos c' := by
      unfold tabOf
      simp
    rw [z]
    exact h c' h'.objs.size (I.hok.fresh hge) (I.hok.fresh hsz) (Nat.ne_of_lt hlt)
  · have hP' : s.heap.get? P = some { cls := .none, data := .fields (tabOf pos c') } := I.hok P _ hP
    refine PySem.W.kla_makeFunctionHit (mg := X.mg) (c := c) (P := P) (ps := tabOf pos c') (closure_ok hfree) I.ok.glob (I.mod.glob.keeps I.bk) hcode (TB.code.keeps I.bk) hP' ?ht among_one bP fun ctv h' tk hx hsz => ?_
    case ht =>
      unfold tabOf rawInt
      trivial
    have I0 : Inv X pins σ H { s with heap := h', toks := tk } := I.kept hx
    rw [hclo]
    have hf : (h'.push (PySem.W.kla_obj "<lambda>" (X.env.qual ++ "<lambda>") params body scope [] ((X.mg "__name__").getD .none) c' ctv)).get? h'.objs.size = some _ := Heap.get?_push_size _ rfl
    have I1 := I0.laid (t' := tk) (a := h'.objs.size) (o := LamO h'.objs.size c' (X.env.qual ++ "<lambda>") params body scope) (fun b o e => Heap.get?_push_of_some _ e) (Nat.le_refl _) (lamO_ok hf)
    exact ⟨.ref h'.objs.size, _, I1, rfl, h _ (I.hok.fresh hsz)⟩
end
section
open LamX
/-- x[0] -/
abbrev lamBody (x : Str) (p1 p2 p3 : Pos) (j : Nat) : Expr := .Subscript (.Name x p1) (.Constant (.int 0) j p2) p3
/-- the lambda is called: the first item of a tuple, a text -/
theorem lam_turn {prog : Program} {w : World} {A : Around} {s : Shared} {f c' t : Addr} {q x : Str} {params : Arguments} {scope : Scope} {pm ctv : Value} {p1 p2 p3 : Pos} {j : Nat} {its : List Value} {k : Str} {tk : Tok}
    (hf : s.heap.get? f = some (PySem.W.kla_obj "<lambda>" q params (lamBody x p1 p2 p3 j) scope [] pm c' ctv)) (hc : s.heap.CodeRec (.ref c') q) (ht : IsTup s.heap t its.toArray) (h0 : its[0]? = some (.str k tk))
    (hd : A.depth < recursionLimit) (hlim : s.heap.NoLimit) (hb : bindArgs (PySem.W.kla_fn "<lambda>" q params (lamBody x p1 p2 p3 j) scope [] pm (.ref c') ctv) ⟨[.ref t], []⟩ = pure [(x, .ref t)])
    (hl : scope.names.lookup x = some .local) (hk : scope.kind = .function) (hco : scope.isCoroutine = false) (hgen : scope.isGenerator = false) (hcell : ∀ y ∈ scope.names, y.2 ≠ .cell) (hx : (x == ("__debug__" : Str)) = false) :
    wpAny (model prog w) A (call (.ref f) [.ref t]) (PySem.W.KeyPure (.str k) s) (fun _ _ => False) s := by
  refine wpAny_call (PySem.W.kla_callFunE hd hf rfl hco hgen rfl hc ?_)
  rw [hb]
  refine wpAny_pure (wpAny_newFunctionEnv hcell (fun y hy => by
    rcases List.mem_singleton.mp hy with rfl
    exact hl) (fun h₁ hns hsb => ⟨hlim.fresh _ hsb, ?_⟩) hk)
  have kp : ∀ b o, s.heap.get? b = some o → h₁.get? b = some o := fun b o e => hsb.extBut b o (Nat.ne_of_lt (Heap.lt_size e)) (Heap.get?_push_of_some _ e)
  have ht' : IsTup h₁ t its.toArray := by
    obtain ⟨o, e, r⟩ := ht
    exact ⟨o, kp _ _ e, r⟩
  refine PySem.W.kla_codeExpr (Subscript_ (wpAny_Name (wpAny_loadName_local (m := fun y => [(x, Value.ref t)].reverse.lookup y) (v := .ref t) hk ?_ hns ?_ (wpAny_Constant_int ?_)) hx))
  · exact hl
  · show List.lookup x [(x, Value.ref t)] = some (Value.ref t)
    rw [List.lookup_cons_self]
  · refine item_tupleL (l := its) (j := 0) (x := .str k tk) ht' (by decide) (by decide) ?_ h0 ?_
    · exact seqIndex_of (by decide) (by
        have := (List.getElem?_eq_some_iff.mp h0).1
        show (0 : Int) < _
        omega)
    · exact ⟨h₁, _, rfl, kp, .str k tk⟩
end
/-- a tuple whose first item is a text -/
def KeyAt (K : PySem.W.Frag) (H : Hp) (x : V) (k : Str) : Prop := ∃ (t : Addr) (ys : List V), x = .ref t ∧ SqT K H t (.str k :: ys)
def leK (a b : V × Str) : Bool := decide (a.2.cps.toList ≤ b.2.cps.toList)
section
open LamX
def rSortLam (K : PySem.W.Frag) (q x : Str) (params : Arguments) (scope : Scope) (p1 p2 p3 : Pos) (j : Nat) : List V → List V → Hp → VK → Prop := fun vs zs H Q => ∃ (a f c' : Addr) (zk : List (V × Str)), vs = [V.ref a] ∧ zs = [V.ref f] ∧ SqL K H a (zk.map (·.1)) ∧ (∀ p ∈ zk, KeyAt K H p.1 p.2) ∧
  H f = some (LamO f c' q params (lamBody x p1 p2 p3 j) scope) ∧ H c' = some (CodeO c' q) ∧ ∀ l, H l = none → Q (.ref l) (upd H l (.lst ((zk.mergeSort leK).map (·.1))))
theorem each_vals : ∀ {zk : List (V × Str)} {its : List Value}, Vals (zk.map (·.1)) its → PySem.W.EachIs (fun v (p : V × Str) => RelV p.1 v) its zk
  | [], _, h => by
    cases h
    exact .nil
  | p :: r, _, h => by
    cases h with
    | cons h1 h2 => exact .cons h1 (each_vals h2)
theorem vals_each : ∀ {zk : List (V × Str)} {its : List Value}, PySem.W.EachIs (fun v (p : V × Str) => RelV p.1 v) its zk → Vals (zk.map (·.1)) its
  | [], _, h => by
    cases h
    exact .nil
  | p :: r, _, h => by
    cases h with
    | cons h1 h2 => exact .cons h1 (vals_each h2)
theorem cr_sortLam {X : Cx} {q x : Str} {params : Arguments} {scope : Scope} {p1 p2 p3 : Pos} {j : Nat} (hr : Room 2 X.A)
    (hb : ∀ (pm cv ctv : Value) (v : Value), bindArgs (PySem.W.kla_fn "<lambda>" q params (lamBody x p1 p2 p3 j) scope [] pm cv ctv) ⟨[v], []⟩ = pure [(x, v)])
    (hl : scope.names.lookup x = some .local) (hk : scope.kind = .function) (hco : scope.isCoroutine = false) (hgen : scope.isGenerator = false) (hcell : ∀ y ∈ scope.names, y.2 ≠ .cell) (hx : (x == ("__debug__" : Str)) = false) :
    CallRK X (.builtin "sorted") [Str.ofString "key"] (rSortLam X.K q x params scope p1 p2 p3 j) := by
  intro pins s σ H vs zs us ws Q I r rz h
  obtain ⟨a, f, c', zk, rfl, rfl, hs, hkey, hf, hc, hq⟩ := h
  obtain rfl := Vals.ref1 r
  obtain ⟨w1, rfl, e1⟩ := vals1 rz
  obtain rfl : w1 = Value.ref f := e1
  obtain ⟨its, rv, pl, hz⟩ := I.list hs
  rw [List.length_map] at hz
  obtain ⟨pm, ctv, hfo⟩ := (I.hok f _ hf).1
  obtain ⟨oc, cvs, ct, hco1, hco2, hco3⟩ := (I.hok c' _ hc).1
  have dp := hr.dp
  have un := hr.un
  refine PySem.W.sorted_key_data (β := V × Str) (R := fun v p => RelV p.1 v) (bs := zk) (vs := its) (b := false) (fun p => PyData.str p.2) pl.isList (each_vals rv) (PySem.W.AllAlike.of fun _ _ => rfl) (PySem.W.Sortable.others fun _ => ⟨fun z => (nomatch z), fun _ z => (nomatch z)⟩) hz
    (fun p _ => ?_) (PyProof.Rows.ksk_s1 _ _) (fun _ => PyProof.Rows.ksk_l1 _ _) (fun l => PyProof.Rows.ksk_t1 f l) (fun v p hv hp h tk kp => ?_) (fun out c h' tk kp hn hat hlen he => ?_)
  · show X.A.units + 2 + 0 < cLine
    omega
  · obtain ⟨t, ys, ep, hT⟩ := hkey p hp
    rw [ep] at hv
    obtain rfl : v = Value.ref t := hv
    obtain ⟨its', rv', ht, _⟩ := I.tuple hT
    cases rv' with
    | @cons _ _ _ ir h1 h2 =>
      obtain ⟨tk', rfl⟩ := h1
      have ht' : IsTup h t (Value.str p.2 tk' :: ir).toArray := by
        obtain ⟨o, e, z⟩ := ht
        exact ⟨o, kp _ _ e, z⟩
      refine lam_turn (s := { s with heap := h, toks := tk }) (kp _ _ hfo) ⟨c', oc, cvs, ct, rfl, kp _ _ hco1, hco2, hco3⟩ ht' rfl ?_ (I.nolimit.keeps kp) (hb _ _ _ _) hl hk hco hgen hcell hx
      · show X.A.depth + 0 < recursionLimit
        omega
  · have e0 : PySem.W.dataLe false (fun p : V × Str => PyData.str p.2) = leK := PySem.W.dataLe_str fun p : V × Str => p.2
    rw [e0] at he
    refine ⟨.ref _, _, I.laid (o := .lst ((zk.mergeSort leK).map (·.1))) kp (Nat.le_succ _) ⟨?_, out, c, vals_each he, hat⟩, rfl, hq _ (I.hok.fresh (Nat.le_succ _))⟩
    rw [List.length_map, List.length_mergeSort]
    exact hz
end
section
open LamX
/-- sorted(e, key=lambda x: x[0]) -/
theorem pe_sortLam {X : Cx} {e : Expr} {te : TE} {x : Str} {params : Arguments} {scope : Scope} {p pos kpos lpos p1 p2 p3 : Pos} {j : Nat} {c P : Addr} (hr : Room 2 X.A) (TB : TabB X.base X.mg c P) (hcode : X.env.code = .ref c) (ha : PA X [e] (tCons te tNil)) (hg : Gl X "sorted") (hm : X.mg "sorted" = none)
    (hn : ∀ y ∈ scope.names, y.2 = .local := by decide) (hl : scope.names.lookup x = some .local := by rfl) (hk : scope.kind = .function := by rfl) (hco : scope.isCoroutine = false := by rfl) (hgen : scope.isGenerator = false := by rfl) (hx : (x == ("__debug__" : Str)) = false := by decide)
    (hdef : defaultsOf params X.env = ([], []) := by rfl) (hclo : cloFrom X.env.cells scope.names [] = [] := by rfl)
    (hb : ∀ (q : Str) (pm cv ctv : Value) (v : Value), bindArgs (PySem.W.kla_fn "<lambda>" q params (lamBody x p1 p2 p3 j) scope [] pm cv ctv) ⟨[v], []⟩ = pure [(x, v)] := by intros; rfl)
    (h1 : backTo pos (starEach [e] X.env) = (false, eval e X.env) :: backTo pos (starEach [] X.env) := by rfl) (h2 : (backTo pos (starEach [e] X.env)).any (·.1) = false := by rfl)
    (h3 : (backToKw pos (keywordEach [⟨some (Str.ofString "key"), .Lambda params (lamBody x p1 p2 p3 j) scope lpos, kpos⟩] X.env)).all (·.1.isSome) = true := by rfl) (h4 : (backToKw pos (keywordEach [⟨some (Str.ofString "key"), .Lambda params (lamBody x p1 p2 p3 j) scope lpos, kpos⟩] X.env)).any (·.1.isNone) = false := by rfl)
    (h5 : (backToKw pos (keywordEach [⟨some (Str.ofString "key"), .Lambda params (lamBody x p1 p2 p3 j) scope lpos, kpos⟩] X.env)).filterMap (·.1) = [Str.ofString "key"] := by rfl) :
    PE X (.Call (.Name "sorted" p) [e] [⟨some (Str.ofString "key"), .Lambda params (lamBody x p1 p2 p3 j) scope lpos, kpos⟩] pos)
      (tCKw (rSortLam X.K (X.env.qual ++ "<lambda>") x params scope p1 p2 p3 j) (tCons te tNil) (tCons (tLam P (X.env.qual ++ "<lambda>") params (lamBody x p1 p2 p3 j) scope lpos) tNil)) :=
  pe_callBK (cr_sortLam hr (hb _) hl hk hco hgen (fun y hy z => by rw [hn y hy] at z; cases z) hx) hg hm (by decide +kernel) ha (pk_cons (pe_lam TB hcode hdef (fun y hy z => by rw [hn y hy] at z; cases z) hclo) pk_nil) (by decide) (by decide) h1 h2 h3 h4 h5
end


/-! ### all but tables of code objects stay -/
theorem Ex.xn {H H' : Hp} (e : Ex H H') : LamX.ExtN H H' := fun b o h _ => e b o h
theorem xn_rd {H H' : Hp} {a : Addr} {u : HO} (e : LamX.ExtN H H') (n : ∀ ps, u ≠ .tbl ps) (h : Rd H a u) : Rd H' a u := by
  rcases h with h | ⟨o, h⟩
  · exact .inl (e _ _ h n)
  · exact .inr ⟨o, e _ _ h fun ps z => by cases z⟩
theorem xn_l {K : PySem.W.Frag} {H H' : Hp} {a : Addr} {xs : List V} (e : LamX.ExtN H H') (h : SqL K H a xs) : SqL K H' a xs := by
  rcases h with h | h
  · exact .inl (xn_rd e (fun ps z => by cases z) h)
  · exact .inr h
theorem xn_t {K : PySem.W.Frag} {H H' : Hp} {a : Addr} {xs : List V} (e : LamX.ExtN H H') (h : SqT K H a xs) : SqT K H' a xs := by
  rcases h with h | h
  · exact .inl (xn_rd e (fun ps z => by cases z) h)
  · exact .inr h
mutual
theorem dp_monoX {K : PySem.W.Frag} {H H' : Hp} (e : LamX.ExtN H H') : ∀ {v : V} {d : PyData}, Dp K H v d → Dp K H' v d
  | _, _, .non => .non
  | _, _, .bl b => .bl b
  | _, _, .int i => .int i
  | _, _, .str z => .str z
  | _, _, .lst h r => .lst (xn_l e h) (dpa_monoX e r)
  | _, _, .tup h r => .tup (xn_t e h) (dpa_monoX e r)
theorem dpa_monoX {K : PySem.W.Frag} {H H' : Hp} (e : LamX.ExtN H H') : ∀ {vs : List V} {ds : List PyData}, DpAll K H vs ds → DpAll K H' vs ds
  | _, _, .nil => .nil
  | _, _, .cons h r => .cons (dp_monoX e h) (dpa_monoX e r)
end
/-! ### columns and forms -/
inductive Kn | int | intq | text | textq
  deriving DecidableEq
def Kn.s : Kn → Str
  | .int => "int"
  | .intq => "int?"
  | .text => "text"
  | .textq => "text?"
def Kn.tx : Kn → Bool
  | .int => false
  | .intq => false
  | .text => true
  | .textq => true
def Kn.q : Kn → Bool
  | .int => false
  | .intq => true
  | .text => false
  | .textq => true
theorem kn_last (k : Kn) : atI k.s.cps.toList (-1) = some (if k.q = true then 63 else 116) := by cases k <;> decide +kernel
theorem kn_last_eq (k : Kn) : decide ((⟨#[if k.q = true then 63 else 116]⟩ : Str) = Str.ofString "?") = k.q := by cases k <;> decide +kernel
/-- None, an int, a text -/
inductive ScV : V → PyData → Prop
  | non : ScV .non .none
  | int (i : Int) : ScV (.int i) (.int i)
  | str (z : Str) : ScV (.str z) (.str z)
theorem ScV.dp {K : PySem.W.Frag} {H : Hp} {v : V} {d : PyData} (h : ScV v d) : Dp K H v d := by
  cases h with
  | non => exact .non
  | int i => exact .int i
  | str z => exact .str z
/-- what a kind accepts -/
inductive ValOf (k : Kn) : PyData → Prop
  | non (h : k.q = true) : ValOf k .none
  | int (i : Int) (h : k.tx = false) : ValOf k (.int i)
  | str {z : Str} (h : k.tx = true) (s : SeqAt.shaped (.str z) = true) : ValOf k (.str z)
theorem ValOf.fl {k : Kn} {d : PyData} (h : ValOf k d) : Fl 0 d := by
  cases h with
  | non _ => exact .non 0
  | int i _ => exact .int 0 i
  | str _ s => exact .str 0 s
theorem kn_base (k : Kn) : baseT k.s = if k.tx = true then Str.ofString "text" else Str.ofString "int" := by cases k <;> decide +kernel
theorem kn_cut (k : Kn) : cutS k.s none (some 3) = if k.tx = true then Str.ofString "tex" else Str.ofString "int" := by cases k <;> decide +kernel
theorem kn_sh (k : Kn) : SeqAt.shaped (.str k.s) = true := by cases k <;> decide +kernel
theorem kn_len (k : Kn) : k.s.length ≤ 100000 := by cases k <;> decide +kernel
structure Co where
  nm : Str
  kd : Kn
  df : PyData
  un : Int
  lk : Str
def Co.d (c : Co) : PyData := .tuple [.str c.nm, .str c.kd.s, c.df, .int c.un, .str c.lk]
structure Co.ok (c : Co) : Prop where
  nm : SeqAt.shaped (.str c.nm) = true
  df : Fl 0 c.df
  lk : SeqAt.shaped (.str c.lk) = true
theorem Co.ok.fl {c : Co} (h : c.ok) : Fl 1 c.d := .tup fun x hx => by
  simp only [List.mem_cons, List.not_mem_nil, or_false] at hx
  rcases hx with z | z | z | z | z <;> rw [z]
  · exact .str _ h.nm
  · exact .str _ (kn_sh _)
  · exact h.df
  · exact .int _ _
  · exact .str _ h.lk
theorem Co.ok.sh {c : Co} (h : c.ok) : SeqAt.shaped c.d = true := shaped_fl h.fl (by decide)
theorem co_at {K : PySem.W.Frag} {H : Hp} {v : V} {c : Co} (h : Dp K H v c.d) : ∃ p x, v = .ref p ∧ SqT K H p [.str c.nm, .str c.kd.s, x, .int c.un, .str c.lk] ∧ Dp K H x c.df := by
  cases h with
  | tup hs hds =>
    cases hds with
    | cons h1 r =>
      cases r with
      | cons h2 r =>
        cases r with
        | cons h3 r =>
          cases r with
          | cons h4 r =>
            cases r with
            | cons h5 r =>
              cases r
              cases h1
              cases h2
              cases h4
              cases h5
              exact ⟨_, _, rfl, hs, h3⟩
theorem co_get {K : PySem.W.Frag} {H : Hp} {xs : List V} {cs : List Co} {i : Nat} {x : V} (h : DpAll K H xs (cs.map Co.d)) (hx : xs[i]? = some x) : ∃ c, cs[i]? = some c ∧ Dp K H x c.d := by
  obtain ⟨d, h1, h2⟩ := dpa_at h hx
  rw [List.getElem?_map] at h1
  cases e : cs[i]? with
  | none => rw [e] at h1; cases h1
  | some c =>
    rw [e] at h1
    rw [← Option.some.inj h1] at h2
    exact ⟨c, rfl, h2⟩
theorem co_len {K : PySem.W.Frag} {H : Hp} {xs : List V} {cs : List Co} (h : DpAll K H xs (cs.map Co.d)) : xs.length = cs.length := by rw [dpa_len h, List.length_map]
theorem co_fl {cs : List Co} (h : ∀ c ∈ cs, c.ok) : ∀ d ∈ cs.map Co.d, Fl 1 d := fun d hd => by
  obtain ⟨c, hc, rfl⟩ := List.mem_map.mp hd
  exact (h c hc).fl
def leC (a b : Co) : Bool := decide (a.nm.cps.toList ≤ b.nm.cps.toList)
structure Fm where
  cs : List Co
  ks : List Str
def Fm.d (f : Fm) : PyData := .tuple [.tuple (f.cs.map Co.d), .tuple (f.ks.map PyData.str)]
structure Fm.ok (f : Fm) : Prop where
  cs : ∀ c ∈ f.cs, c.ok
  ln : f.cs.length ≤ 12
  kl : f.ks.length ≤ 2
  ki : ∀ z ∈ f.ks, (z = Str.ofString "id" ∨ z = Str.ofString "key") ∧ ∃ c ∈ f.cs, c.nm = z
  nd : (f.cs.map Co.nm).Nodup
  so : f.cs.Pairwise fun a b => leC a b = true
theorem dpa_strs_eq {K : PySem.W.Frag} {H : Hp} : ∀ {ks : List Str} {ys : List V}, DpAll K H ys (ks.map PyData.str) → ys = ks.map V.str
  | [], _, h => by
    cases h
    rfl
  | k :: r, _, h => by
    cases h with
    | cons h1 h2 =>
      cases h1
      rw [dpa_strs_eq h2] <;> rfl
theorem fm_at {K : PySem.W.Frag} {H : Hp} {v : V} {f : Fm} (h : Dp K H v f.d) : ∃ p a b xs, v = .ref p ∧ SqT K H p [.ref a, .ref b] ∧ SqT K H a xs ∧ DpAll K H xs (f.cs.map Co.d) ∧ SqT K H b (f.ks.map V.str) := by
  cases h with
  | tup hs hds =>
    cases hds with
    | cons h1 r =>
      cases r with
      | cons h2 r =>
        cases r
        cases h1 with
        | tup ha da =>
          cases h2 with
          | tup hb db =>
            rw [dpa_strs_eq db] at hb
            exact ⟨_, _, _, _, rfl, hs, ha, da, hb⟩
theorem fm_mk {K : PySem.W.Frag} {H : Hp} {p : Addr} {va vb : V} {cs : List Co} {ks : List Str} (h : SqT K H p [va, vb]) (ha : Dp K H va (.tuple (cs.map Co.d))) (hb : Dp K H vb (.tuple (ks.map PyData.str))) : Dp K H (.ref p) (Fm.mk cs ks).d := .tup h (.cons ha (.cons hb .nil))
def findC (cs : List Co) (z : Str) : Option Co := cs.find? fun c => decide (c.nm = z)
theorem find_first : ∀ {cs : List Co} {i : Nat} {c : Co} {z : Str}, cs[i]? = some c → c.nm = z → (∀ (k : Nat) d, k < i → cs[k]? = some d → d.nm ≠ z) → findC cs z = some c
  | [], _, _, _, h, _, _ => by cases h
  | d :: cs, 0, c, z, h, e, _ => by
    cases Option.some.inj h
    unfold findC
    rw [List.find?_cons, decide_eq_true e]
  | d :: cs, i + 1, c, z, h, e, n => by
    have h0 := n 0 d (by omega) rfl
    unfold findC
    rw [List.find?_cons, decide_eq_false h0]
    exact find_first (i := i) (by simpa using h) e fun k d' hk hd => n (k + 1) d' (by omega) (by simpa using hd)
theorem find_no {cs : List Co} {z : Str} (h : ∀ c ∈ cs, c.nm ≠ z) : findC cs z = none := List.find?_eq_none.mpr fun c hc => by simpa using h c hc
theorem find_place : ∀ {cs : List Co} {c : Co} {z : Str}, findC cs z = some c → ∃ i : Nat, cs[i]? = some c ∧ c.nm = z ∧ ∀ (k : Nat) d, k < i → cs[k]? = some d → d.nm ≠ z
  | [], _, _, h => by cases h
  | d :: cs, c, z, h => by
    unfold findC at h
    rw [List.find?_cons] at h
    by_cases e : d.nm = z
    · rw [decide_eq_true e] at h
      cases Option.some.inj h
      exact ⟨0, rfl, e, fun k d hk => by omega⟩
    · rw [decide_eq_false e] at h
      obtain ⟨i, h1, h2, h3⟩ := find_place (cs := cs) h
      refine ⟨i + 1, by simpa using h1, h2, fun k d' hk hd => ?_⟩
      cases k with
      | zero =>
        cases Option.some.inj hd
        exact e
      | succ k => exact h3 k d' (by omega) (by simpa using hd)
theorem find_mem {cs : List Co} {c : Co} {z : Str} (h : findC cs z = some c) : c ∈ cs ∧ c.nm = z := by
  obtain ⟨i, h1, h2, _⟩ := find_place h
  exact ⟨List.mem_of_getElem? h1, h2⟩
def optD : Option Co → PyData
  | none => .none
  | some c => c.d
def sortC (cs : List Co) : List Co := cs.mergeSort leC
theorem sortC_mem {cs : List Co} {c : Co} : c ∈ sortC cs ↔ c ∈ cs := List.mem_mergeSort
theorem leC_trans (a b c : Co) (h : leC a b = true) (k : leC b c = true) : leC a c = true := by
  unfold leC at *
  rw [decide_eq_true_eq] at *
  exact List.le_trans h k
theorem leC_total (a b : Co) : (leC a b || leC b a) = true := by
  unfold leC
  rw [Bool.or_eq_true, decide_eq_true_eq, decide_eq_true_eq]
  exact List.le_total _ _
theorem sortC_so (cs : List Co) : (sortC cs).Pairwise fun a b => leC a b = true := List.pairwise_mergeSort leC_trans leC_total cs
theorem sortC_len (cs : List Co) : (sortC cs).length = cs.length := List.length_mergeSort _
theorem sortC_nd {cs : List Co} (h : (cs.map Co.nm).Nodup) : ((sortC cs).map Co.nm).Nodup := ((List.mergeSort_perm cs leC).map Co.nm).nodup_iff.mpr h
theorem nd_inj : ∀ {cs : List Co} {c d : Co}, (cs.map Co.nm).Nodup → c ∈ cs → d ∈ cs → c.nm = d.nm → c = d
  | [], _, _, _, h, _, _ => by cases h
  | e :: cs, c, d, hn, hc, hd, h => by
    rw [List.map_cons, List.nodup_cons] at hn
    rcases List.mem_cons.mp hc with rfl | hc
    · rcases List.mem_cons.mp hd with rfl | hd
      · rfl
      · exact absurd (List.mem_map.mpr ⟨d, hd, h.symm⟩) hn.1
    · rcases List.mem_cons.mp hd with e | hd
      · rw [e] at h
        exact absurd (List.mem_map.mpr ⟨c, hc, h⟩) hn.1
      · exact nd_inj hn.2 hc hd h
theorem nd_fl {cs : List Co} {p : Co → Bool} {d : Co} (h : (cs.map Co.nm).Nodup) (hd : ∀ c ∈ cs, p c = true → c.nm ≠ d.nm) : ((cs.filter p ++ [d]).map Co.nm).Nodup := by
  rw [List.map_append, List.nodup_append]
  refine ⟨h.sublist (List.filter_sublist.map _), by simp, fun x hx y hy => ?_⟩
  obtain ⟨c, hc, rfl⟩ := List.mem_map.mp hx
  rw [List.map_cons, List.map_nil, List.mem_singleton] at hy
  rw [hy]
  exact hd c (List.mem_filter.mp hc).1 (List.mem_filter.mp hc).2
theorem nd_fl0 {cs : List Co} {p : Co → Bool} (h : (cs.map Co.nm).Nodup) : ((cs.filter p).map Co.nm).Nodup := h.sublist (List.filter_sublist.map _)
theorem find_nd2 {cs : List Co} {c : Co} (h : (cs.map Co.nm).Nodup) (hc : c ∈ cs) : findC cs c.nm = some c := by
  cases e : findC cs c.nm with
  | none =>
    have := List.find?_eq_none.mp e c hc
    simp at this
  | some d =>
    obtain ⟨h1, h2⟩ := find_mem e
    rw [nd_inj h h1 hc h2]
/-! ### lists of columns -/
/-- a new list of just these columns -/
def ECL (K : PySem.W.Frag) (te : TE) (σ : L2.St) (H : Hp) (cs : List Co) : Prop := ∀ H1, Ex H H1 → ∀ Q : VK, (∀ p vs H2, H1 p = none → Ex H1 H2 → H2 p = some (.lst vs) → DpAll K H2 vs (cs.map Co.d) → Q (.ref p) H2) → te σ H1 Q
section
variable {K : PySem.W.Frag} {σ : L2.St} {H : Hp} {te ta tb tl : TE} {tt : TT}
/-- [x for x in xs if p(x)] -/
theorem ecl_flL {a : Addr} {xs : List V} {cs : List Co} {j : Nat} {vs : List Nat} {p : Co → Bool} (h : Ev te σ H (.ref a)) (hx : SqL K H a xs) (hd : DpAll K H xs (cs.map Co.d)) (hok : ∀ c ∈ cs, c.ok) (hz : xs.length ≤ 40000) (hw : ∀ x, wipe ((wipe σ vs).set j (some x)) vs = wipe σ vs)
    (ht : ∀ x c, c ∈ cs → ∀ H1, Ex H H1 → Dp K H1 x c.d → EvT tt ((wipe σ vs).set j (some x)) H1 (p c)) (he : ∀ x H1, Ev tl ((wipe σ vs).set j (some x)) H1 x) : ECL K (tLc (iList K te) (gName j) tt tl vs) σ H (cs.filter p) := by
  intro H0 e Q q
  have hl := co_len hd
  refine h H0 e _ fun H1 e1 => ⟨a, rfl, ⟨xs, ex_l (e.trans e1) hx⟩, fun Dl hD => ?_⟩
  refine lc_list (xs := xs) (fun i H' => H1 Dl = none ∧ Ex H1 H' ∧ ∃ us, H' Dl = some (.lst us) ∧ us.length ≤ i ∧ DpAll K H' us (((cs.take i).filter p).map Co.d)) ⟨hD, Ex.new hD, [], upd_same, Nat.le_refl 0, .nil⟩ (fun i H' _ z => ex_l ((e.trans e1).trans z.2.1) hx) (fun i x H' hi z => ⟨hw x, ?_⟩) (fun H' z => ?_)
  · obtain ⟨p1, p2, us, p3, p4, p5⟩ := z
    have hi2 := (List.getElem?_eq_some_iff.mp hi).1
    obtain ⟨c, hc, hdx⟩ := co_get hd hi
    have hm := List.mem_of_getElem? hc
    have et : (cs.take (i + 1)).filter p = (cs.take i).filter p ++ (if p c = true then [c] else []) := by
      rw [List.take_add_one, hc, List.filter_append]
      show _ ++ [c].filter p = _
      by_cases hp : p c = true
      · rw [if_pos hp, List.filter_cons_of_pos hp] <;> rfl
      · rw [if_neg hp, List.filter_cons_of_neg hp] <;> rfl
    refine ht x c hm H' ((e.trans e1).trans p2) (dp_mono ((e.trans e1).trans p2) hdx) H' (Ex.refl H') _ fun H3 e3 => ?_
    cases hp : p c with
    | true =>
      show tl _ H3 _
      refine he x H3 H3 (Ex.refl H3) _ fun H4 e4 => ⟨us, e4 Dl _ (e3 Dl _ p3), sz_lt (by omega), p1, ((p2.trans e3).trans e4).mut p1, us ++ [x], upd_same, by rw [List.length_append]; show us.length + 1 ≤ i + 1; omega, ?_⟩
      rw [et, if_pos hp, List.map_append]
      have E4 := e3.trans e4
      refine dpa_app (dpa_monoN (n := 1) (ExN.upd (E4 Dl _ p3)) (fun d hd' => ?_) (dpa_mono E4 p5)) (.cons (dp_monoN (ExN.upd (E4 Dl _ p3)) (hok c hm).fl (dp_mono (((e.trans e1).trans p2).trans E4) hdx)) .nil)
      obtain ⟨c', hc', rfl⟩ := List.mem_map.mp hd'
      exact (hok c' (List.mem_of_mem_take (List.mem_filter.mp hc').1)).fl
    | false =>
      show H1 Dl = none ∧ _
      refine ⟨p1, p2.trans e3, us, e3 Dl _ p3, by omega, ?_⟩
      rw [et, if_neg (by rw [hp]; exact Bool.false_ne_true), List.append_nil]
      exact dpa_mono e3 p5
  · obtain ⟨p1, p2, us, p3, p4, p5⟩ := z
    rw [hl, List.take_length] at p5
    exact q Dl us H' (fresh_back e1 p1) (e1.trans p2) p3 p5
/-- a + b of new lists -/
theorem ecl_cat {cs ds : List Co} (ha : ECL K ta σ H cs) (hb : ECL K tb σ H ds) (hc : ∀ c ∈ cs, c.ok) (hd : ∀ c ∈ ds, c.ok) (hz : cs.length + ds.length ≤ 100000) : ECL K (tOp rCat ta tb) σ H (cs ++ ds) := fun H1 e Q q =>
  ha H1 e _ fun p vs H2 hp e2 h2 d2 => hb H2 (e.trans e2) _ fun p' us H3 hp' e3 h3 d3 => ⟨p, p', vs, us, rfl, rfl, e3 _ _ h2, h3, sz_of (by rw [co_len d2, co_len d3]; exact hz), fun r hr => q r (vs ++ us) _ (fresh_back (e2.trans e3) hr) ((e2.trans e3).trans (Ex.new hr)) upd_same (by
    rw [List.map_append]
    exact dpa_mono (Ex.new hr) (dpa_app (dpa_mono e3 d2) d3))⟩
/-- [x], a new list of one column -/
theorem ecl_one {c : Co} (h : EP K te σ H (· = c.d)) : ECL K (tLst (tCons te tNil)) σ H [c] := fun H1 e Q q =>
  h H1 e _ fun v d H2 e2 hd hD => ⟨(by show 1 ≤ sizeLine; decide), fun p hp => q p [v] _ (fresh_back e2 hp) (e2.trans (Ex.new hp)) upd_same (.cons (dp_mono (Ex.new hp) (by
    rw [← show d = c.d from hd]
    exact hD)) .nil)⟩
theorem q_asgCL {D : Ends} {tz : TS} {i : Nat} {cs : List Co} (h : ECL K te σ H cs) (k : ∀ p vs H1, H p = none → Ex H H1 → H1 p = some (.lst vs) → DpAll K H1 vs (cs.map Co.d) → tz D (σ.set i (some (.ref p))) H1) : tSeq (tAsg te (gName i)) tz D σ H := h H (Ex.refl H) _ k
theorem s_asgCL {D : Ends} {i : Nat} {cs : List Co} (h : ECL K te σ H cs) (k : ∀ p vs H1, H p = none → Ex H H1 → H1 p = some (.lst vs) → DpAll K H1 vs (cs.map Co.d) → D.nx (σ.set i (some (.ref p))) H1) : tAsg te (gName i) D σ H := h H (Ex.refl H) _ k
/-- list(t) of a tuple -/
theorem el_listT {p : Addr} {xs : List V} (ha : Ev ta σ H (.ref p)) (h : SqT K H p xs) : EvL (tCB (rListS K) (tCons ta tNil)) σ H xs := fun H1 e Q q =>
  ha H1 e _ fun H2 e2 => ⟨p, xs, rfl, .inr (ex_t (e.trans e2) h), fun l hl => q l _ (fresh_back e2 hl) (e2.trans (Ex.new hl)) upd_same⟩
/-- [f(x) for x in a tuple if p(x)], by places -/
theorem el_lcT {a : Addr} {xs : List V} {j : Nat} {vs : List Nat} {f : Nat → Bool} {v : Nat → V} (h : Ev te σ H (.ref a)) (hx : SqT K H a xs) (hz : xs.length ≤ 40000) (hw : ∀ x, wipe ((wipe σ vs).set j (some x)) vs = wipe σ vs)
    (ht : ∀ i x H1, xs[i]? = some x → Ex H H1 → EvT tt ((wipe σ vs).set j (some x)) H1 (f i)) (he : ∀ i x H1, xs[i]? = some x → f i = true → Ex H H1 → Ev tl ((wipe σ vs).set j (some x)) H1 (v i)) : EvL (tLc (iTup K te) (gName j) tt tl vs) σ H (given xs.length f v) := by
  intro H0 e Q q
  refine h H0 e _ fun H1 e1 => ⟨a, rfl, ⟨xs, ex_t (e.trans e1) hx⟩, fun Dl hD => ?_⟩
  refine lc_tup (xs := xs) (fun i H' => H1 Dl = none ∧ Ex H1 H' ∧ H' Dl = some (.lst (given i f v))) ⟨hD, Ex.new hD, upd_same⟩ (fun i H' _ z => ex_t ((e.trans e1).trans z.2.1) hx) (fun i x H' hi z => ⟨hw x, ?_⟩) (fun H' z => ?_)
  · obtain ⟨p1, p2, p3⟩ := z
    have hi2 := (List.getElem?_eq_some_iff.mp hi).1
    refine ht i x H' hi ((e.trans e1).trans p2) H' (Ex.refl H') _ fun H3 e3 => ?_
    cases hp : f i with
    | true =>
      show tl _ H3 _
      refine he i x H3 hi hp (((e.trans e1).trans p2).trans e3) H3 (Ex.refl H3) _ fun H4 e4 => ⟨_, e4 Dl _ (e3 Dl _ p3), sz_lt ?_, p1, ((p2.trans e3).trans e4).mut p1, ?_⟩
      · have := given_len i f v
        omega
      · rw [upd_same, given_yes hp]
    | false =>
      show H1 Dl = none ∧ _
      refine ⟨p1, p2.trans e3, ?_⟩
      rw [given_no hp]
      exact e3 Dl _ p3
  · obtain ⟨p1, p2, p3⟩ := z
    exact q Dl H' (fresh_back e1 p1) (e1.trans p2) p3
/-- a tuple of data as a value -/
theorem ep_var {i : Nat} {x : V} {d : PyData} (h : σ[i]? = some (some x)) (hd : Dp K H x d) : EP K (tVar i) σ H (· = d) := ep_is (ev_var h) hd rfl
end
theorem el_catN {σ : L2.St} {H : Hp} {ta tb : TE} {xs ys : List V} (ha : EvL ta σ H xs) (hb : EvL tb σ H ys) (hz : xs.length + ys.length ≤ 100000) : EvL (tOp rCat ta tb) σ H (xs ++ ys) := fun H1 e Q q =>
  ha H1 e _ fun p H2 hp e2 h2 => hb H2 (e.trans e2) _ fun p' H3 hp' e3 h3 => ⟨p, p', xs, ys, rfl, rfl, e3 _ _ h2, h3, sz_of hz, fun r hr => q r _ (fresh_back (e2.trans e3) hr) ((e2.trans e3).trans (Ex.new hr)) upd_same⟩
/-- xs.append(x), x data -/
theorem s_appP {K : PySem.W.Frag} {σ : L2.St} {H : Hp} {te : TE} {D : Ends} {j : Nat} {l : Addr} {xs : List V} {R : PyData → Prop} (hl : H l = some (.lst xs)) (ha : σ[j]? = some (some (V.ref l))) (h : EP K te σ H R) (hz : xs.length < 100000) (k : ∀ v d H1, Ex H H1 → R d → Dp K H1 v d → D.nx σ (upd H1 l (.lst (xs ++ [v])))) :
    tDrop (tBM K "list" rAppend (tVar j) (tCons te tNil)) D σ H :=
  ⟨_, ha, .inl ⟨rfl, _, sq_of hl⟩, h H (Ex.refl H) _ fun v d H1 e1 hr hd => ⟨l, xs, v, rfl, rfl, e1 _ _ hl, sz_lt hz, k v d H1 e1 hr hd⟩⟩
theorem q_appP {K : PySem.W.Frag} {σ : L2.St} {H : Hp} {te : TE} {tz : TS} {D : Ends} {j : Nat} {l : Addr} {xs : List V} {R : PyData → Prop} (hl : H l = some (.lst xs)) (ha : σ[j]? = some (some (V.ref l))) (h : EP K te σ H R) (hz : xs.length < 100000) (k : ∀ v d H1, Ex H H1 → R d → Dp K H1 v d → tz D σ (upd H1 l (.lst (xs ++ [v])))) :
    tSeq (tDrop (tBM K "list" rAppend (tVar j) (tCons te tNil))) tz D σ H := s_appP (D := { D with nx := tz D }) hl ha h hz k
theorem col_app {K : PySem.W.Frag} {H : Hp} {l : Addr} {xs : List V} {v : V} {cs : List Co} {c : Co} (hl : H l = some (.lst xs)) (hd : DpAll K H xs (cs.map Co.d)) (hok : ∀ c ∈ cs, c.ok) (hv : Dp K H v c.d) (hc : c.ok) :
    DpAll K (upd H l (.lst (xs ++ [v]))) (xs ++ [v]) ((cs ++ [c]).map Co.d) ∧ ∀ x ∈ cs ++ [c], x.ok := by
  refine ⟨?_, fun x hx => ?_⟩
  · rw [List.map_append]
    exact dpa_app (dpa_monoN (n := 1) (ExN.upd hl) (co_fl hok) hd) (.cons (dp_monoN (ExN.upd hl) hc.fl hv) .nil)
  · rcases List.mem_append.mp hx with z | z
    · exact hok x z
    · rw [List.mem_singleton.mp z]
      exact hc
/-- a value of a column -/
theorem ev_co {K : PySem.W.Frag} {σ : L2.St} {H : Hp} {te : TE} {x : V} {c : Co} (h : Ev te σ H x) (hd : Dp K H x c.d) : Ev (tOp (rIxT K) te (tC (.int 0))) σ H (.str c.nm) ∧ Ev (tOp (rIxT K) te (tC (.int 1))) σ H (.str c.kd.s) ∧ Ev (tOp (rIxT K) te (tC (.int 3))) σ H (.int c.un) ∧ Ev (tOp (rIxT K) te (tC (.int 4))) σ H (.str c.lk) := by
  obtain ⟨p, y, rfl, hs, _⟩ := co_at hd
  exact ⟨ev_ixT h ev_c hs (at_nat (j := 0) rfl), ev_ixT h ev_c hs (at_nat (j := 1) rfl), ev_ixT h ev_c hs (at_nat (j := 3) rfl), ev_ixT h ev_c hs (at_nat (j := 4) rfl)⟩
theorem eu_run {te : TE} {σ : L2.St} {H : Hp} {xs : List V} {Q : VK} (h : EvU te σ H xs) (q : ∀ p H2, H p = none → Ex H H2 → H2 p = some (.tup xs) → Q (.ref p) H2) : te σ H Q := h H (Ex.refl H) Q q
theorem cat_run {H : Hp} {p p' : Addr} {vs us : List V} {Q : VK} (h1 : H p = some (.lst vs)) (h2 : H p' = some (.lst us)) (hz : vs.length + us.length ≤ 100000) (q : ∀ r, H r = none → Q (.ref r) (upd H r (.lst (vs ++ us)))) : rCat (.ref p) (.ref p') H Q := ⟨p, p', vs, us, rfl, rfl, h1, h2, sz_of hz, q⟩
theorem ecl_run {K : PySem.W.Frag} {te : TE} {σ : L2.St} {H : Hp} {cs : List Co} {Q : VK} (h : ECL K te σ H cs) (q : ∀ p vs H1, H p = none → Ex H H1 → H1 p = some (.lst vs) → DpAll K H1 vs (cs.map Co.d) → Q (.ref p) H1) : te σ H Q := h H (Ex.refl H) Q q
/-- x is not None -/
theorem ev_isnt {σ : L2.St} {H : Hp} {te : TE} {v : V} (h : Ev te σ H v) : Ev (tOp (fun x y H Q => y = .non ∧ Q (.bl (!decide (x = .non))) H) te (tC .non)) σ H (.bl (!decide (v = .non))) := fun H1 e Q q => h H1 e _ fun H2 e2 => ⟨rfl, q H2 e2⟩
/-- t[:3] of a tuple of five -/
theorem eu_sl3 {K : PySem.W.Frag} {σ : L2.St} {H : Hp} {te : TE} {p : Addr} {a b c d e : V} (h : Ev te σ H (.ref p)) (hx : SqT K H p [a, b, c, d, e]) : EvU (tSl (rSlA K) te tNoPart (tPart (tC (.int 3)))) σ H [a, b, c] := fun H0 e0 Q q =>
  h H0 e0 _ fun H2 e2 => ⟨3, rfl, p, [a, b, c, d, e], rfl, ex_t (e0.trans e2) hx, (fun z => by
    have := z.2
    exact absurd (show HT.sIx 5 5 (some 3) = 5 from this) (by decide)), fun _ r hr => q r _ (fresh_back e2 hr) (e2.trans (Ex.new hr)) upd_same⟩
def spFind (K : PySem.W.Frag) : Sp := fun vs H Q _ => ∃ (f : Fm) (vf : V) (z : Str), vs = [vf, .str z] ∧ Dp K H vf f.d ∧ f.cs.length ≤ 1000 ∧ ∀ v H', Ex H H' → Dp K H' v (optD (findC f.cs z)) → Q v H'
theorem cv_dummy : True := trivial
theorem op_run {r : R2} {ta tb : TE} {σ : L2.St} {H : Hp} {Q : VK} (k : ta σ H fun x H1 => tb σ H1 fun y H2 => r x y H2 Q) : tOp r ta tb σ H Q := k
theorem lst_run {ta : TA} {σ : L2.St} {H : Hp} {Q : VK} (k : ta σ H fun vs H1 => vs.length ≤ sizeLine ∧ ∀ p, H1 p = none → Q (.ref p) (upd H1 p (.lst vs))) : tLst ta σ H Q := k
theorem tup_run {ta : TA} {σ : L2.St} {H : Hp} {Q : VK} (k : ta σ H fun vs H1 => vs.length ≤ sizeLine ∧ ∀ p, H1 p = none → Q (.ref p) (upd H1 p (.tup vs))) : tTup ta σ H Q := k
theorem cons_run {te : TE} {tr : TA} {σ : L2.St} {H : Hp} {Q : List V → Hp → Prop} (k : te σ H fun v H1 => tr σ H1 fun vs H2 => Q (v :: vs) H2) : tCons te tr σ H Q := k
theorem call_run {sp : Sp} {dvs : List V} {E : XK} {ta : TA} {σ : L2.St} {H : Hp} {Q : VK} (k : ta σ H fun vs H1 => sp (vs ++ dvs) H1 Q E) : tCall sp dvs E ta σ H Q := k
theorem asg_run {te : TE} {σ : L2.St} {H : Hp} {D : Ends} {i : Nat} (k : te σ H fun v H1 => D.nx (σ.set i (some v)) H1) : tAsg te (gName i) D σ H := k
theorem ret_run {te : TE} {σ : L2.St} {H : Hp} {D : Ends} (k : te σ H D.rt) : tRet te D σ H := k
theorem c_run {σ : L2.St} {H : Hp} {Q : VK} {v : V} (q : Q v H) : tC v σ H Q := q
theorem if_run {t : TT} {ta tb : TE} {σ : L2.St} {H : Hp} {b : Bool} {Q : VK} (h : EvT t σ H b) (h1 : b = true → ∀ H1, Ex H H1 → ta σ H1 Q) (h2 : b = false → ∀ H1, Ex H H1 → tb σ H1 Q) : tIf t ta tb σ H Q := h H (Ex.refl H) _ fun H1 e => by
  cases b with
  | true => exact h1 rfl H1 e
  | false => exact h2 rfl H1 e
theorem var_run {i : Nat} {σ : L2.St} {H : Hp} {Q : VK} {v : V} (h : σ[i]? = some (some v)) (q : Q v H) : tVar i σ H Q := ⟨v, h, q⟩
/-- an expression read where a bare goal goes on -/
theorem ev_run {te : TE} {σ : L2.St} {H : Hp} {v : V} {Q : VK} (h : Ev te σ H v) (q : ∀ H2, Ex H H2 → Q v H2) : te σ H Q := h H (Ex.refl H) Q q
theorem el_run {te : TE} {σ : L2.St} {H : Hp} {xs : List V} {Q : VK} (h : EvL te σ H xs) (q : ∀ p H2, H p = none → Ex H H2 → H2 p = some (.lst xs) → Q (.ref p) H2) : te σ H Q := h H (Ex.refl H) Q q
/-! ### the lambda's def -/
def lamQ : Str := ((Str.ofString "_law_in_columns") ++ (Str.ofString ".<locals>.")) ++ Str.ofString "<lambda>"
/-- its table: made, or empty -/
def spInCols (K : PySem.W.Frag) (P : Addr) (pos : Pos) : Sp := fun vs H Q _ => ∃ (a : Addr) (xs : List V) (cs : List Co), vs = [.ref a] ∧ SqL K H a xs ∧ DpAll K H xs (cs.map Co.d) ∧ cs.length ≤ 1000 ∧
  ((LamTab H P pos lamQ ∧ ∀ v H', Ex H H' → Dp K H' v (.tuple ((sortC cs).map Co.d)) → Q v H') ∨ (H P = some (.tbl #[]) ∧ ∀ v H', LamX.ExtN H H' → LamTab H' P pos lamQ → Dp K H' v (.tuple ((sortC cs).map Co.d)) → Q v H'))
theorem LamTab.mono {H H' : Hp} {P : Addr} {pos : Pos} {q : Str} (e : Ex H H') (h : LamTab H P pos q) : LamTab H' P pos q := by
  obtain ⟨c, h1, h2⟩ := h
  exact ⟨c, e _ _ h1, e _ _ h2⟩
/-- the code of a def, told -/
theorem fun_code {P : Program} {w : World} {K : PySem.W.Frag} {mg : Str → Option Value} {base : Heap} {x qual : Str} {st : Stmt} {f c : Addr} {fd : FuncData} {N ps : List Str} {k : Nat} {sp : Sp} (F : L2.Fun K x qual st f fd) (hc : fd.code = .ref c)
    (S : FnScope N ps (defScope st)) (ln : ∀ vs H Q E, sp vs H Q E → vs.length = ps.length)
    (hb : ∀ (A : Around) (outer : List Env) (s : Shared) (H : Hp) (vs : List V) (Q : VK) (E : XK), Room k (A.deeper (envOfC qual (defScope st) s.heap.objs.size f (.ref c))) → sp vs H Q E →
      ∃ t, PSs (cxOf CX0 P w K mg base N qual (defScope st) f (.ref c) A outer s H E).nox (defBody st) t ∧ t { nx := fun _ H' => Q .non H', rt := Q } (start N vs) H) :
    FnOk P w K mg base CX0 (k + 1) f fd ps sp := by
  obtain ⟨oc, od, kV, doc, pm, an, cv, ct, osl, e, lk, hcd⟩ := F.ex
  subst e
  have e2 : cv = .ref c := hc
  subst e2
  refine fn_of lk hcd S ln fun A outer s H vs Q E hr h => ?_
  obtain ⟨t, h1, h2⟩ := hb A outer s H vs Q E hr h
  exact ⟨t, h1.nox, h2⟩


/-- two things and what they are -/
structure Th (K : PySem.W.Frag) (H : Hp) (v : V) (d : PyData) : Prop where
  dp : Dp K H v d
  sh : SeqAt.shaped d = true
  pl : Pl d
theorem Th.mono {K : PySem.W.Frag} {H H' : Hp} {v : V} {d : PyData} (e : Ex H H') (h : Th K H v d) : Th K H' v d := ⟨dp_mono e h.dp, h.sh, h.pl⟩
/-- a thing: flat, or a list of flat data -/
def Thg (K : PySem.W.Frag) (H : Hp) (v : V) (d : PyData) : Prop := (Fl 2 d ∧ Dp K H v d) ∨ ∃ p xs ds, v = .ref p ∧ d = .list ds ∧ H p = some (.lst xs) ∧ DpAll K H xs ds ∧ (∀ x ∈ ds, Fl 2 x) ∧ ds.length ≤ 10
theorem Thg.dp {K : PySem.W.Frag} {H : Hp} {v : V} {d : PyData} (h : Thg K H v d) : Dp K H v d := by
  rcases h with ⟨_, h⟩ | ⟨p, xs, ds, rfl, rfl, h1, h2, _⟩
  · exact h
  · exact .lst (sq_of h1) h2
theorem Thg.th {K : PySem.W.Frag} {H : Hp} {v : V} {d : PyData} (h : Thg K H v d) : Th K H v d := by
  refine ⟨h.dp, ?_, ?_⟩
  · rcases h with ⟨h, _⟩ | ⟨p, xs, ds, rfl, rfl, _, _, h, _⟩
    · exact shaped_fl h (by decide)
    · exact shaped_lst h (by decide)
  · rcases h with ⟨h, _⟩ | ⟨p, xs, ds, rfl, rfl, _, _, h, _⟩
    · exact h.pl
    · exact .lst fun d hd => (h d hd).pl
theorem Thg.mono {K : PySem.W.Frag} {H H' : Hp} {v : V} {d : PyData} (e : Ex H H') (h : Thg K H v d) : Thg K H' v d := by
  rcases h with ⟨h1, h2⟩ | ⟨p, xs, ds, h1, h2, h3, h4, h5⟩
  · exact .inl ⟨h1, dp_mono e h2⟩
  · exact .inr ⟨p, xs, ds, h1, h2, e _ _ h3, dpa_mono e h4, h5⟩
/-- a list elsewhere changes -/
theorem Thg.upd {K : PySem.W.Frag} {H : Hp} {v : V} {d : PyData} {q : Addr} {ys : List V} {o : HO} (h : Thg K H v d) (hq : H q = some (.lst ys)) (hn : isLst d = true → v ≠ .ref q) : Thg K (upd H q o) v d := by
  rcases h with ⟨h1, h2⟩ | ⟨p, xs, ds, rfl, h2, h3, h4, h5, h6⟩
  · exact .inl ⟨h1, dp_monoN (ExN.upd hq) h1 h2⟩
  · exact .inr ⟨p, xs, ds, rfl, h2, by rw [upd_ne (fun z => hn (by rw [h2] <;> rfl) (by rw [z]))]; exact h3, dpa_monoN (ExN.upd hq) h5 h4, h5, h6⟩
def NewV (H : Hp) (v : V) : Prop := ∀ p, v = .ref p → H p = none
def clashB (a b c : PyData) : Bool := !PyData.eqv b a && (!PyData.eqv c a && !PyData.eqv c b)
theorem eqv_sym {x y : PyData} (hx : Pl x) (hy : Pl y) : PyData.eqv x y = PyData.eqv y x := by
  cases h : PyData.eqv y x with
  | true => exact (eqv_iff x y hx hy).mpr ((eqv_iff y x hy hx).mp h).symm
  | false =>
    cases h2 : PyData.eqv x y with
    | false => rfl
    | true => rw [(eqv_iff y x hy hx).mpr ((eqv_iff x y hx hy).mp h2).symm] at h; cases h
theorem clash_sym {a x y : PyData} (hx : Pl x) (hy : Pl y) : clashB a x y = clashB a y x := by
  unfold clashB
  rw [eqv_sym hx hy]
  cases PyData.eqv x a <;> cases PyData.eqv y a <;> rfl


/-! ### rows of scalars -/
inductive Sh : V → Prop
  | non : Sh .non
  | int (i : Int) : Sh (.int i)
  | str {z : Str} (h : SeqAt.shaped (.str z) = true) : Sh (.str z)
def pd : V → PyData
  | .int i => .int i
  | .str z => .str z
  | _ => .none
theorem Sh.dp {K : PySem.W.Frag} {H : Hp} {v : V} (h : Sh v) : Dp K H v (pd v) := by
  cases h with
  | non => exact .non
  | int i => exact .int i
  | str _ => exact .str _
theorem Sh.fl {v : V} (h : Sh v) : Fl 0 (pd v) := by
  cases h with
  | non => exact .non 0
  | int i => exact .int 0 i
  | str h => exact .str 0 h
theorem Sh.th {K : PySem.W.Frag} {H : Hp} {v : V} (h : Sh v) : Th K H v (pd v) := ⟨h.dp, shaped_fl h.fl (by decide), h.fl.pl⟩
/-- a row or none -/
abbrev Row := Option (List V)
def rowD : Row → PyData
  | none => .none
  | some vs => .tuple (vs.map pd)
/-- its values in the heap -/
def RowAt (K : PySem.W.Frag) (H : Hp) (n : Nat) (v : V) : Row → Prop
  | none => v = .non
  | some vs => ∃ p, v = .ref p ∧ SqT K H p vs ∧ vs.length = n ∧ ∀ x ∈ vs, Sh x
theorem dpa_sh {K : PySem.W.Frag} {H : Hp} : ∀ {vs : List V}, (∀ x ∈ vs, Sh x) → DpAll K H vs (vs.map pd)
  | [], _ => .nil
  | x :: r, h => .cons (h x (List.mem_cons_self ..)).dp (dpa_sh fun y hy => h y (List.mem_cons_of_mem _ hy))
theorem fl_sh {vs : List V} (h : ∀ x ∈ vs, Sh x) : ∀ d ∈ vs.map pd, Fl 0 d := fun d hd => by
  obtain ⟨x, hx, rfl⟩ := List.mem_map.mp hd
  exact (h x hx).fl
theorem RowAt.th {K : PySem.W.Frag} {H : Hp} {n : Nat} {v : V} {r : Row} (h : RowAt K H n v r) (hn : n ≤ 1000) : Th K H v (rowD r) := by
  cases r with
  | none =>
    have e : v = .non := h
    rw [e]
    exact ⟨.non, by decide, .non⟩
  | some vs =>
    obtain ⟨p, rfl, hs, hl, ha⟩ := h
    have f : Fl 1 (.tuple (vs.map pd)) := .tup (fl_sh ha) (by rw [List.length_map]; omega)
    exact ⟨.tup hs (dpa_sh ha), shaped_fl f (by decide), f.pl⟩
theorem RowAt.mono {K : PySem.W.Frag} {H H' : Hp} {n : Nat} {v : V} {r : Row} (e : Ex H H') (h : RowAt K H n v r) : RowAt K H' n v r := by
  cases r with
  | none => exact h
  | some vs =>
    obtain ⟨p, rfl, hs, hl, ha⟩ := h
    exact ⟨p, rfl, ex_t e hs, hl, ha⟩
theorem RowAt.monoN {K : PySem.W.Frag} {H H' : Hp} {n : Nat} {v : V} {r : Row} (e : ExN H H') (h : RowAt K H n v r) : RowAt K H' n v r := by
  cases r with
  | none => exact h
  | some vs =>
    obtain ⟨p, rfl, hs, hl, ha⟩ := h
    exact ⟨p, rfl, exN_t e hs, hl, ha⟩
/-! ### the merge of rows -/
def eqP (x y : V) : Bool := PyData.eqv (pd x) (pd y)
/-- do the values at place k clash -/
def czV (b : Row) (os ts : List V) (k : Nat) : Bool := match b with
  | none => !eqP (os.getD k .non) (ts.getD k .non)
  | some bs => clashB (pd (bs.getD k .non)) (pd (os.getD k .non)) (pd (ts.getD k .non))
/-- the value at place k -/
def vzM (os ts : List V) (k : Nat) : Row → V
  | none => os.getD k .non
  | some bs => if eqP (os.getD k .non) (bs.getD k .non) = true then ts.getD k .non else os.getD k .non
def vzV (b : Row) (os ts : List V) (k : Nat) : V := if czV b os ts k = true then os.getD k .non else vzM os ts k b
def czL (nms : List Str) (b : Row) (os ts : List V) (n : Nat) : List Str := ((List.range n).filter fun k => czV b os ts k).map fun k => nms.getD k ""
def vzL (b : Row) (os ts : List V) (n : Nat) : List V := (List.range n).map (vzV b os ts)
def strsD (zs : List Str) : PyData := if zs.isEmpty = true then .none else .tuple (zs.map PyData.str)
def mrgM (nms : List Str) (b : Row) : Row → Row → PyData × PyData
  | some os, some ts => (.tuple ((vzL b os ts os.length).map pd), strsD (czL nms b os ts os.length))
  | some os, none => (rowD (some os), .tuple [])
  | none, _ => (.none, .tuple [])
/-- the merged row, the names in conflict -/
def mrgZ (nms : List Str) (b o t : Row) : PyData × PyData :=
  if clashB (rowD b) (rowD o) (rowD t) = false then (if PyData.eqv (rowD o) (rowD b) = true then rowD t else rowD o, .none)
  else mrgM nms b o t
theorem czL_succ (nms : List Str) (b : Row) (os ts : List V) (n : Nat) : czL nms b os ts (n + 1) = czL nms b os ts n ++ (if czV b os ts n = true then [nms.getD n ""] else []) := by
  unfold czL
  rw [List.range_succ, List.filter_append, List.map_append]
  congr 1
  by_cases h : czV b os ts n = true
  · rw [if_pos h, List.filter_cons_of_pos h] <;> rfl
  · rw [if_neg h, List.filter_cons_of_neg h] <;> rfl
theorem vzL_succ (b : Row) (os ts : List V) (n : Nat) : vzL b os ts (n + 1) = vzL b os ts n ++ [vzV b os ts n] := by
  unfold vzL
  rw [List.range_succ, List.map_append] <;> rfl
theorem vzL_len (b : Row) (os ts : List V) (n : Nat) : (vzL b os ts n).length = n := by
  unfold vzL
  rw [List.length_map, List.length_range]
theorem czL_len (nms : List Str) (b : Row) (os ts : List V) (n : Nat) : (czL nms b os ts n).length ≤ n := by
  unfold czL
  rw [List.length_map]
  exact Nat.le_trans (List.length_filter_le _ _) (Nat.le_of_eq (List.length_range))
theorem getD_at {vs : List V} {k : Nat} (h : k < vs.length) : vs[k]? = some (vs.getD k .non) := by
  rw [List.getD_eq_getElem?_getD, List.getElem?_eq_getElem h] <;> rfl
theorem getD_sh {vs : List V} {k : Nat} (h : ∀ x ∈ vs, Sh x) : Sh (vs.getD k .non) := by
  by_cases hk : k < vs.length
  · exact h _ (List.mem_of_getElem? (getD_at hk))
  · rw [List.getD_eq_getElem?_getD, List.getElem?_eq_none (by omega)]
    exact .non
theorem vz_sh {b : Row} {os ts : List V} {k : Nat} (ho : ∀ x ∈ os, Sh x) (ht : ∀ x ∈ ts, Sh x) : Sh (vzV b os ts k) := by
  unfold vzV
  split
  · exact getD_sh ho
  · cases b with
    | none => exact getD_sh ho
    | some bs =>
      show Sh (if _ then _ else _)
      split
      · exact getD_sh ht
      · exact getD_sh ho
theorem cz_sym {b : Row} {os ts : List V} (ho : ∀ x ∈ os, Sh x) (ht : ∀ x ∈ ts, Sh x) (k : Nat) : czV b os ts k = czV b ts os k := by
  unfold czV
  cases b with
  | none =>
    show (!eqP _ _) = !eqP _ _
    unfold eqP
    rw [eqv_sym (getD_sh ho).fl.pl (getD_sh ht).fl.pl]
  | some bs => exact clash_sym (getD_sh ho).fl.pl (getD_sh ht).fl.pl
def mrgD (nms : List Str) (b o t : Row) : PyData := .tuple [(mrgZ nms b o t).1, (mrgZ nms b o t).2]
def nmsF (f : Fm) : List Str := f.cs.map Co.nm
def spMrg (K : PySem.W.Frag) : Sp := fun vs H Q _ => ∃ (f : Fm) (b o t : Row) (n : Nat) (vf vb vo vt : V), vs = [vf, vb, vo, vt] ∧ Dp K H vf f.d ∧ f.ok ∧ f.cs.length = n ∧ n ≤ 12 ∧ RowAt K H n vb b ∧ RowAt K H n vo o ∧ RowAt K H n vt t ∧ ∀ v H', Ex H H' → Dp K H' v (mrgD (nmsF f) b o t) → Q v H'
/-- a pair of data -/
theorem ret_two {K : PySem.W.Frag} {H : Hp} {Q : VK} {x y : V} {d e : PyData} (hx : Dp K H x d) (hy : Dp K H y e) (q : ∀ v H', Ex H H' → Dp K H' v (.tuple [d, e]) → Q v H') : ([x, y] : List V).length ≤ sizeLine ∧ ∀ p, H p = none → Q (.ref p) (upd H p (.tup [x, y])) :=
  ⟨(by show 2 ≤ sizeLine; decide), fun p hp => q (.ref p) _ (Ex.new hp) (.tup (st_of upd_same) (.cons (dp_mono (Ex.new hp) hx) (.cons (dp_mono (Ex.new hp) hy) .nil)))⟩
theorem cz_names {f : Fm} (h : f.ok) {b : Row} {os ts : List V} {n : Nat} (hn : f.cs.length = n) : ∀ z ∈ czL (nmsF f) b os ts n, SeqAt.shaped (.str z) = true := fun z hz => by
  unfold czL at hz
  obtain ⟨k, hk, rfl⟩ := List.mem_map.mp hz
  have hk2 := List.mem_range.mp (List.mem_filter.mp hk).1
  have hc : f.cs[k]? = some f.cs[k] := List.getElem?_eq_getElem (by omega)
  unfold nmsF
  rw [List.getD_eq_getElem?_getD, List.getElem?_map, hc]
  exact (h.cs _ (List.getElem_mem _)).nm
/-- a list of texts == [] -/
theorem ev_eqE {K : PySem.W.Frag} {σ : L2.St} {H : Hp} {ta : TE} {p : Addr} {zs : List Str} (h : Ev ta σ H (.ref p)) (hp : SqL K H p (zs.map V.str)) (hz : ∀ z ∈ zs, SeqAt.shaped (.str z) = true) : Ev (tOp (rEqD K) ta (tLst tNil)) σ H (.bl zs.isEmpty) := by
  refine ev_opL h (el_lst ea_nil (by decide)) fun r H1 hr e1 => rv_val fun H2 e2 Q k => ⟨.list (zs.map PyData.str), .list [], .lst (ex_l (e1.trans e2) hp) (dpa_strs zs), .lst (sq_of (e2 _ _ hr)) .nil, shaped_lst (n := 0) (fun d hd => ?_) (by decide), by decide, ?_⟩
  · obtain ⟨z, hz', rfl⟩ := List.mem_map.mp hd
    exact .str 0 (hz z hz')
  · have : PyData.eqv (.list (zs.map PyData.str)) (.list []) = zs.isEmpty := by cases zs <;> simp [PyData.eqv, PyData.eqvAll]
    rw [this]
    exact k


/-! ### dict(zip(x, y)) of two tuples -/
section
open PySem
variable {P : Program} {w : World} {A : Around} {E : Value → Shared → Prop} {s : Shared}
/-- the next pair, while the one before is still held by somebody -/
theorem zt_item {z TI TO T i1 i2 l1 l2 : Addr} {f : Bool} {oT : Obj} {k1 k2 : Nat} {xs ys : Array Value} {x y : Value} {Q : Value → Shared → Prop} (D : ZipApart z TI TO i1 i2 l1 l2)
    (hz : IsZipHeld s.heap z TI TO T f) (hT : s.heap.get? T = some oT) (hTI : IsPair s.heap TI (.ref i1) (.ref i2))
    (h1 : s.heap.IsTupleIter i1 l1 k1) (h2 : s.heap.IsTupleIter i2 l2 k2) (hl1 : s.heap.IsTuple l1 xs) (hl2 : s.heap.IsTuple l2 ys) (hx : xs[k1]? = some x) (hy : ys[k2]? = some y)
    (q : ∀ h', IsZipHeld h' z TI TO T true → h'.IsTupleIter i1 l1 (k1 + 1) → h'.IsTupleIter i2 l2 (k2 + 1) → IsPair h' s.heap.objs.size x y →
      (∀ c o, c ≠ z → c ≠ i1 → c ≠ i2 → s.heap.get? c = some o → h'.get? c = some o) → Q (.ref s.heap.objs.size) { s with heap := h' }) :
    wpAny (model P w) A (Builtin.«zip.__next__» ⟨[.ref z], []⟩) (fun fin s' => ∃ v, fin = .done (.ret v) ∧ Q v s') E s := by
  refine wpAny_bind (m := field (.ref z) 2) (wpAny_field hz rfl (x := .bool false) rfl ?_)
  refine wpAny_bind (m := field (.ref z) 3) (wpAny_field hz rfl (x := .ref TI) rfl (wpAny_bind (wpAny_seqItems hTI rfl ?_)))
  refine wpAny_bind (m := Builtin.SmallTypes.ownedTupleIsFree (.ref z)) (wpAny_tupleHeld_zip hz hT fun ha za sa => ?_)
  simp only [Bool.false_eq_true, if_false]
  refine wpAny_bind ?_
  rw [← Array.forIn_toList]
  simp only [List.forIn_cons, List.forIn_nil]
  refine wpAny_bind (wpAny_bind (wpAny_holding ?_))
  refine wpAny_bind (m := Builtin.SmallTypes.nextOf (.ref i1)) (RZ.nextOf_tuple_item (s := { s with heap := ha }) (h1.extBut sa.extBut D.i1z) (hl1.extBut sa.extBut D.l1z) hx fun hb b1 sb => wpAny_pure (wpAny_pure ?_))
  refine wpAny_bind (wpAny_bind (wpAny_holding ?_))
  refine wpAny_bind (m := Builtin.SmallTypes.nextOf (.ref i2)) (RZ.nextOf_tuple_item (s := { s with heap := hb }) ((h2.extBut sa.extBut D.i2z).extBut sb.extBut D.i12.symm) ((hl2.extBut sa.extBut D.l2z).extBut sb.extBut D.l2i1) hy fun hc c2 sc => wpAny_pure (wpAny_pure (wpAny_pure ?_)))
  refine wpAny_bind (m := newTuple [x, y]) (wpAny_newTuple ?_)
  have hsz : hc.objs.size = s.heap.objs.size := by rw [sc.1, sb.1, sa.1]
  have hk : ∀ c o, c ≠ z → c ≠ i1 → c ≠ i2 → s.heap.get? c = some o → hc.get? c = some o := fun c o a1 a2 a3 e => sc.extBut _ _ a3 (sb.extBut _ _ a2 (sa.extBut _ _ a1 e))
  have up : ∀ c o, hc.get? c = some o → (hc.push { cls := .type "tuple", data := .seq #[x, y] }).get? c = some o := fun c o e => Heap.get?_push_of_some _ e
  have hp : IsPair (hc.push { cls := .type "tuple", data := .seq #[x, y] }) hc.objs.size x y := Heap.get?_push_size _ rfl
  rw [hsz] at hp
  refine wpAny_pure ⟨_, rfl, ?_⟩
  show Q (.ref hc.objs.size) _
  rw [hsz]
  exact q _ (up _ _ (sc.extBut _ _ D.i2z.symm (sb.extBut _ _ D.i1z.symm za))) ((b1.extBut sc.extBut D.i12).at fun o e => up _ o e) (c2.at fun o e => up _ o e) hp fun c o a1 a2 a3 e => up _ _ (hk c o a1 a2 a3 e)
/-- no further pair -/
theorem zt_end {z TI TO T i1 i2 l1 l2 : Addr} {f : Bool} {oT : Obj} {k1 k2 : Nat} {xs ys : Array Value} {Q : Fin → Shared → Prop} (hh : A.handled = none) (D : ZipApart z TI TO i1 i2 l1 l2)
    (hz : IsZipHeld s.heap z TI TO T f) (hT : s.heap.get? T = some oT) (hTI : IsPair s.heap TI (.ref i1) (.ref i2))
    (h1 : s.heap.IsTupleIter i1 l1 k1) (h2 : s.heap.IsTupleIter i2 l2 k2) (hl1 : s.heap.IsTuple l1 xs) (hl2 : s.heap.IsTuple l2 ys) (hend : xs[k1]? = none ∨ ys[k2]? = none)
    (q : ∀ h' e, (∀ c o, c ≠ z → c ≠ i1 → c ≠ i2 → s.heap.get? c = some o → h'.get? c = some o) → (∃ o, h'.get? e = some o ∧ o.cls = .type "StopIteration") → E (.ref e) { s with heap := h' }) :
    wpAny (model P w) A (Builtin.«zip.__next__» ⟨[.ref z], []⟩) Q E s := by
  refine wpAny_bind (m := field (.ref z) 2) (wpAny_field hz rfl (x := .bool false) rfl ?_)
  refine wpAny_bind (m := field (.ref z) 3) (wpAny_field hz rfl (x := .ref TI) rfl (wpAny_bind (wpAny_seqItems hTI rfl ?_)))
  refine wpAny_bind (m := Builtin.SmallTypes.ownedTupleIsFree (.ref z)) (wpAny_tupleHeld_zip hz hT fun ha za sa => ?_)
  simp only [Bool.false_eq_true, if_false]
  refine wpAny_bind ?_
  rw [← Array.forIn_toList]
  simp only [List.forIn_cons, List.forIn_nil]
  refine wpAny_bind (wpAny_bind (wpAny_holding ?_))
  cases hx : xs[k1]? with
  | none => exact wpAny_bind (m := Builtin.SmallTypes.nextOf (.ref i1)) (RZ.nextOf_tuple_end (s := { s with heap := ha }) hh (h1.extBut sa.extBut D.i1z) (hl1.extBut sa.extBut D.l1z) hx fun hb e sb he => q hb e (fun c o a1 a2 _ x => sb _ _ a2 (sa.extBut _ _ a1 x)) he)
  | some x =>
    have hy : ys[k2]? = none := hend.resolve_left (by rw [hx]; exact fun z => nomatch z)
    refine wpAny_bind (m := Builtin.SmallTypes.nextOf (.ref i1)) (RZ.nextOf_tuple_item (s := { s with heap := ha }) (h1.extBut sa.extBut D.i1z) (hl1.extBut sa.extBut D.l1z) hx fun hb b1 sb => wpAny_pure (wpAny_pure ?_))
    refine wpAny_bind (wpAny_bind (wpAny_holding ?_))
    exact wpAny_bind (m := Builtin.SmallTypes.nextOf (.ref i2)) (RZ.nextOf_tuple_end (s := { s with heap := hb }) hh ((h2.extBut sa.extBut D.i2z).extBut sb.extBut D.i12.symm) ((hl2.extBut sa.extBut D.l2z).extBut sb.extBut D.l2i1) hy fun hc e sc he => q hc e (fun c o a1 a2 a3 x => sc _ _ a3 (sb.extBut _ _ a2 (sa.extBut _ _ a1 x))) he)
theorem zt_next {z TI TO T i1 i2 l1 l2 : Addr} {f : Bool} {oT : Obj} {k1 k2 : Nat} {xs ys : Array Value} {x y : Value} {Q : Option Value → Shared → Prop} (D : ZipApart z TI TO i1 i2 l1 l2)
    (hz : IsZipHeld s.heap z TI TO T f) (hT : s.heap.get? T = some oT) (hTI : IsPair s.heap TI (.ref i1) (.ref i2))
    (h1 : s.heap.IsTupleIter i1 l1 k1) (h2 : s.heap.IsTupleIter i2 l2 k2) (hl1 : s.heap.IsTuple l1 xs) (hl2 : s.heap.IsTuple l2 ys) (hx : xs[k1]? = some x) (hy : ys[k2]? = some y)
    (q : ∀ h', IsZipHeld h' z TI TO T true → h'.IsTupleIter i1 l1 (k1 + 1) → h'.IsTupleIter i2 l2 (k2 + 1) → IsPair h' s.heap.objs.size x y →
      (∀ c o, c ≠ z → c ≠ i1 → c ≠ i2 → s.heap.get? c = some o → h'.get? c = some o) → Q (some (.ref s.heap.objs.size)) { s with heap := h' }) : wpAny (model P w) A (pyNext (.ref z)) Q E s := by
  have ty : s.TypeIs (.ref z) "zip" := ⟨_, hz, rfl⟩
  unfold pyNext
  exact wpAny_bind (wpAny_attempt (wpAny_callSpecial?_slot (name := Str.ofString "__next__") ty F.slot_zip_next
    (wpAny_call_entry F.slot_zip_next ty F.entry_zip_next (zt_item D hz hT hTI h1 h2 hl1 hl2 hx hy fun h' a1 a2 a3 a4 a5 => wpAny_pure (q h' a1 a2 a3 a4 a5)) (F.args_zip_next_1 _))))
theorem zt_stop {z TI TO T i1 i2 l1 l2 : Addr} {f : Bool} {oT : Obj} {k1 k2 : Nat} {xs ys : Array Value} {Q : Option Value → Shared → Prop} (hh : A.handled = none) (D : ZipApart z TI TO i1 i2 l1 l2)
    (hz : IsZipHeld s.heap z TI TO T f) (hT : s.heap.get? T = some oT) (hTI : IsPair s.heap TI (.ref i1) (.ref i2))
    (h1 : s.heap.IsTupleIter i1 l1 k1) (h2 : s.heap.IsTupleIter i2 l2 k2) (hl1 : s.heap.IsTuple l1 xs) (hl2 : s.heap.IsTuple l2 ys) (hend : xs[k1]? = none ∨ ys[k2]? = none)
    (q : ∀ h', (∀ c o, c ≠ z → c ≠ i1 → c ≠ i2 → s.heap.get? c = some o → h'.get? c = some o) → Q none { s with heap := h' }) : wpAny (model P w) A (pyNext (.ref z)) Q E s := by
  have ty : s.TypeIs (.ref z) "zip" := ⟨_, hz, rfl⟩
  unfold pyNext
  refine wpAny_bind (wpAny_attempt (wpAny_callSpecial?_slot (name := Str.ofString "__next__") ty F.slot_zip_next
    (wpAny_call_entry F.slot_zip_next ty F.entry_zip_next (zt_end hh D hz hT hTI h1 h2 hl1 hl2 hend fun h' e hk he => ?_) (F.args_zip_next_1 _))))
  obtain ⟨o, ho, hc⟩ := he
  exact wpAny_bind (wpAny_isInstance (T := "StopIteration") (b := true) ⟨o, ho, hc⟩ isSubtype_stop (wpAny_pure (q _ hk)))
end
section
open PySem
variable {P : Program} {w : World}
theorem tup_keep {h h' : Heap} {l : Addr} {xs : Array Value} (x : h.IsTuple l xs) (k : ∀ o, h.get? l = some o → h'.get? l = some o) : h'.IsTuple l xs := by
  obtain ⟨o, ho, r⟩ := x
  exact ⟨o, k o ho, r⟩
/-- a zip of two tuples as the argument of dict -/
theorem arg_zt (z TI TO i1 i2 l1 l2 : Addr) (D : ZipApart z TI TO i1 i2 l1 l2) (xs ys : Array Value) :
    PairArg P w "zip" z [z, TI, TO, i1, i2, l1, l2] [z, TO, i1, i2] (min xs.size ys.size) (fun i k v => xs[i]? = some k ∧ ys[i]? = some v)
      (fun h => IsZip h z TI TO .none ∧ IsPair h TI (.ref i1) (.ref i2) ∧ (∃ a b, IsPair h TO a b) ∧ h.IsTupleIter i1 l1 0 ∧ h.IsTupleIter i2 l2 0 ∧ h.IsTuple l1 xs ∧ h.IsTuple l2 ys) where
  type := fun s ok => ⟨_, ok.1, rfl⟩
  notDict := by decide
  keep := fun h h' ok hk => by
    obtain ⟨hz, hTI, ⟨a, b, hTO⟩, h1, h2, t1, t2⟩ := ok
    exact ⟨hk _ _ hz, hk _ _ hTI, ⟨a, b, hk _ _ hTO⟩, h1.at fun o e => hk _ o e, h2.at fun o e => hk _ o e, tup_keep t1 fun o e => hk _ o e, tup_keep t2 fun o e => hk _ o e⟩
  there := fun h ok b hb => by
    obtain ⟨hz, hTI, ⟨a, c, hTO⟩, ⟨o1, h1, _⟩, ⟨o2, h2, _⟩, ⟨o3, t1, _⟩, ⟨o4, t2, _⟩⟩ := ok
    simp only [List.mem_cons, List.not_mem_nil, or_false] at hb
    rcases hb with rfl | rfl | rfl | rfl | rfl | rfl | rfl
    · exact ⟨_, hz⟩
    · exact ⟨_, hTI⟩
    · exact ⟨_, hTO⟩
    · exact ⟨_, h1⟩
    · exact ⟨_, h2⟩
    · exact ⟨_, t1⟩
    · exact ⟨_, t2⟩
  sub := fun b hb => by
    simp only [List.mem_cons, List.not_mem_nil, or_false] at hb ⊢
    rcases hb with rfl | rfl | rfl | rfl <;> simp
  noKeys := fun A s Q E hA ok h => getAttrOr_miss_zip ok.1 rfl rfl rfl zip_no_keys (by decide +kernel) hA h
  iter := fun A s d Q E hA ok hd hdf h => by
    obtain ⟨hz, hTI, ⟨a, b, hTO⟩, h1, h2, t1, t2⟩ := ok
    simp only [List.mem_cons, List.not_mem_nil, or_false, not_or] at hdf
    obtain ⟨dz, dTI, dTO, d1, d2, e1, e2⟩ := hdf
    refine wpAny_pyIter_zip hz (h z [z, TO, i1, i2] (fun i h => IsPair h TI (.ref i1) (.ref i2) ∧ h.IsTupleIter i1 l1 i ∧ h.IsTupleIter i2 l2 i ∧ h.IsTuple l1 xs ∧ h.IsTuple l2 ys ∧
      ((IsZip h z TI TO .none ∧ ∃ a b, IsPair h TO a b) ∨ ∃ T f oT, IsZipHeld h z TI TO T f ∧ h.get? T = some oT ∧ T ≠ z ∧ T ≠ i1 ∧ T ≠ i2 ∧ T ≠ d)) s.heap s.toks ?_
      ⟨hTI, h1, h2, t1, t2, .inl ⟨hz, a, b, hTO⟩⟩ (fun _ _ e => e) fun b hb => .inl hb)
    refine { off := fun hm => ?_, frame := fun i ha hb st hk => ?_, item := fun i s Q E hi st hds q => ?_, done := fun s Q E st q => ?_ }
    · simp only [List.mem_cons, List.not_mem_nil, or_false] at hm
      rcases hm with e | e | e | e
      · exact dz e
      · exact dTO e
      · exact d1 e
      · exact d2 e
    · obtain ⟨hTI, h1, h2, t1, t2, hz⟩ := st
      refine ⟨hk _ _ (Ne.symm dTI) hTI, h1.at fun o e => hk _ o (Ne.symm d1) e, h2.at fun o e => hk _ o (Ne.symm d2) e, tup_keep t1 fun o e => hk _ o (Ne.symm e1) e, tup_keep t2 fun o e => hk _ o (Ne.symm e2) e, ?_⟩
      rcases hz with ⟨hz, a, b, hTO⟩ | ⟨T, f, oT, hz, hT, r1, r2, r3, r4⟩
      · exact .inl ⟨hk _ _ (Ne.symm dz) hz, a, b, hk _ _ (Ne.symm dTO) hTO⟩
      · exact .inr ⟨T, f, oT, hk _ _ (Ne.symm dz) hz, hk _ _ r4 hT, r1, r2, r3, r4⟩
    · obtain ⟨hTI, h1, h2, t1, t2, hz⟩ := st
      have ex := Array.getElem?_eq_getElem (show i < xs.size from Nat.lt_of_lt_of_le hi (Nat.min_le_left ..))
      have ey := Array.getElem?_eq_getElem (show i < ys.size from Nat.lt_of_lt_of_le hi (Nat.min_le_right ..))
      have lt : ∀ {c o}, s.heap.get? c = some o → s.heap.objs.size ≠ c := fun e => Nat.ne_of_gt (Heap.lt_size e)
      have n1 : s.heap.objs.size ≠ i1 := let ⟨_, e, _⟩ := h1; lt e
      have n2 : s.heap.objs.size ≠ i2 := let ⟨_, e, _⟩ := h2; lt e
      rcases hz with ⟨hz, a, b, hTO⟩ | ⟨T, f, oT, hz, hT, r1, r2, r3, r4⟩
      · refine RZ.pyNext_zipT_item D hz hTI hTO h1 h2 t1 t2 ex ey fun h' a1 a2 a3 a4 a5 a6 hk => ?_
        exact q s.heap.objs.size _ _ h' s.toks ⟨ex, ey⟩ (.inl ⟨_, a5, rfl, _, rfl⟩)
          ⟨hk _ _ D.TIz D.TITO D.TIi1 D.TIi2 hTI, a3, a4, tup_keep t1 fun o e => hk _ o D.l1z D.l1TO D.l1i1 D.l1i2 e, tup_keep t2 fun o e => hk _ o D.l2z D.l2TO D.l2i1 D.l2i2 e,
            .inr ⟨s.heap.objs.size, false, _, a1, a5, lt hz, n1, n2, Nat.ne_of_gt hds⟩⟩
          fun c o hc e => hk c o (fun x => hc (by simp [x])) (fun x => hc (by simp [x])) (fun x => hc (by simp [x])) (fun x => hc (by simp [x])) e
      · refine zt_next D hz hT hTI h1 h2 t1 t2 ex ey fun h' a1 a3 a4 a5 hk => ?_
        exact q s.heap.objs.size _ _ h' s.toks ⟨ex, ey⟩ (.inl ⟨_, a5, rfl, _, rfl⟩)
          ⟨hk _ _ D.TIz D.TIi1 D.TIi2 hTI, a3, a4, tup_keep t1 fun o e => hk _ o D.l1z D.l1i1 D.l1i2 e, tup_keep t2 fun o e => hk _ o D.l2z D.l2i1 D.l2i2 e,
            .inr ⟨T, true, oT, a1, hk _ _ r1 r2 r3 hT, r1, r2, r3, r4⟩⟩
          fun c o hc e => hk c o (fun x => hc (by simp [x])) (fun x => hc (by simp [x])) (fun x => hc (by simp [x])) e
    · obtain ⟨hTI, h1, h2, t1, t2, hz⟩ := st
      have hend : xs[min xs.size ys.size]? = none ∨ ys[min xs.size ys.size]? = none := by
        rcases Nat.le_total xs.size ys.size with h | h
        · exact .inl (Array.getElem?_eq_none (by rw [Nat.min_eq_left h]; exact Nat.le_refl _))
        · exact .inr (Array.getElem?_eq_none (by rw [Nat.min_eq_right h]; exact Nat.le_refl _))
      rcases hz with ⟨hz, a, b, hTO⟩ | ⟨T, f, oT, hz, hT, r1, r2, r3, r4⟩
      · exact RZ.pyNext_zipT_end hA D hz hTI hTO h1 h2 t1 t2 hend fun h' hk => q h' s.toks fun c o hc e => hk c o (fun x => hc (by simp [x])) (fun x => hc (by simp [x])) (fun x => hc (by simp [x])) (fun x => hc (by simp [x])) e
      · exact zt_stop hA D hz hT hTI h1 h2 t1 t2 hend fun h' hk => q h' s.toks fun c o hc e => hk c o (fun x => hc (by simp [x])) (fun x => hc (by simp [x])) (fun x => hc (by simp [x])) e
end
/-! the rule -/
section
variable {X : Cx}
open PySem PySem.Spec PyProof.Rows L2
/-- dict(zip(x, y)), two tuples of one length, the first one of keys -/
def tDictZip (K : PySem.W.Frag) (ta : TA) : TE := fun σ H Q => ta σ H fun vs H1 => ∃ (a b : Addr) (ks : List Key) (ys : List V), vs = [.ref a, .ref b] ∧ SqT K H1 a (ks.map kV) ∧ SqT K H1 b ys ∧ ks.length = ys.length ∧ ys.length ≤ 1000 ∧ ∀ p, H1 p = none → Q (.ref p) (upd H1 p (.dK (mergeK [] (ks.zip ys))))
theorem keys_at : ∀ {ks : List Key} {us : List Value}, Vals (ks.map kV) us → ∀ (i : Nat) u, us[i]? = some u → ∃ k, ks[i]? = some k ∧ RelV (kV k) u
  | [], us, r, i, u, hu => by
    rw [List.map_nil] at r
    cases r
    simp at hu
  | k :: ks, us, r, i, u, hu => by
    rw [List.map_cons] at r
    cases r with
    | cons h t =>
      cases i with
      | zero =>
        obtain rfl := Option.some.inj hu
        exact ⟨k, rfl, h⟩
      | succ i =>
        obtain ⟨k2, h1, h2⟩ := keys_at t i u (by simpa using hu)
        exact ⟨k2, by simpa using h1, h2⟩
theorem kv_zip : ∀ {ks : List Key} {ys : List V} {vs : List Value}, Vals ys vs → KV (ks.zip ys) (ks.zip vs)
  | [], _, _, _ => .nil
  | k :: ks, _, _, .nil => .nil
  | k :: ks, _, _, .cons r t => .cons ⟨rfl, r⟩ (kv_zip t)
theorem pe_dictZip {e e2 : Expr} {ta : TA} {p p2 q pos : Pos} (hc : X.calm = true) (hg : Gl X "zip") (hm : X.mg "zip" = none) (hg2 : Gl X "dict") (hm2 : X.mg "dict" = none) (ha : PA X [e, e2] ta)
    (hs : starEach [e, e2] X.env = (false, eval e X.env) :: starEach [e2] X.env := by rfl) (hpl : (backTo q (starEach [e2] X.env)).any (·.1) = false := by rfl) : PE X (.Call (.Name "dict" p) [.Call (.Name "zip" p2) [e, e2] [] q] [] pos) (tDictZip X.K ta) := by
  refine ⟨fun pins s σ H Q I h => ?_⟩
  refine Call_ (ld_blt I hg2 hm2 (by decide +kernel : bootBuiltins "dict" = some (.type "dict")) ?_)
  refine PyProof.Rows.callWith_type1 (PyProof.Rows.args_cons ?_ rfl) rfl rfl
  refine Call_ (ld_blt I hg hm PyProof.Rows.boot_zip (PyProof.Rows.callWith_type1 (thn (ha.run q pins s σ H _ I h) fun us s1 ⟨vs, H1, I1, r1, q1⟩ => ?_) hs hpl))
  obtain ⟨a, b, ks, ys, rfl, hx, hy, hl, hz, q1⟩ := q1
  cases r1 with
  | cons r rr =>
    cases rr with
    | cons r' rr =>
      cases rr
      cases r
      cases r'
      obtain ⟨its, rv, p1, _⟩ := I1.tuple hx
      obtain ⟨its2, rv2, p2, _⟩ := I1.tuple hy
      obtain ⟨o1, ho1, _⟩ := id p1
      obtain ⟨o2, ho2, _⟩ := id p2
      have l1 := rv.length
      have l2 := rv2.length
      rw [List.length_map] at l1
      refine RZ.call_zipT (show s1.heap.IsTuple a its.toArray from p1) (show s1.heap.IsTuple b its2.toArray from p2) fun h' hz' hTI hTO h1 h2 hsz hk => ?_
      refine PyProof.Rows.args_nil ?_
      have I2 : Inv X pins σ H1 { s1 with heap := h' } := I1.kept (t' := s1.toks) hk
      refine PySem.call_dict_pairs (knd := mixKind X.prog X.w) (kvs := ks.zip its2) (arg_zt _ _ _ _ _ a b (PySem.W.ktu_apart s1.heap.objs.size a b (Heap.lt_size ho1) (Heap.lt_size ho2)) its.toArray its2.toArray) (I1.ok.hd hc) ⟨hz', hTI, ⟨_, _, hTO⟩, h1, h2, tup_keep p1 fun o e => hk _ o e, tup_keep p2 fun o e => hk _ o e⟩ ⟨?_, fun i key v ⟨e1, e2⟩ => ?_⟩ ?_ fun h2' tk hd' k => ?_
      · rw [List.length_zip, List.size_toArray, List.size_toArray]
        omega
      · rw [List.getElem?_toArray] at e1 e2
        obtain ⟨k, hk1, hk2⟩ := keys_at rv i key e1
        exact ⟨k, by rw [List.getElem?_zip_eq_some]; exact ⟨hk1, e2⟩, kV_is hk2⟩
      · rw [List.size_toArray, List.size_toArray, sizeLine_eq]
        omega
      · have hsz2 : s1.heap.objs.size ≤ h'.objs.size := by rw [hsz]; exact Nat.le_add_right _ _
        have keep : ∀ b u, s1.heap.get? b = some u → h2'.get? b = some u := fun b u e => k b u (fun hm => by
          have hlt := Heap.lt_size e
          simp only [List.mem_cons, List.not_mem_nil, or_false] at hm
          rcases hm with z | z | z | z <;> rw [z] at hlt
          · exact absurd hlt (Nat.not_lt_of_le (Nat.le_add_right _ _))
          · exact absurd hlt (Nat.not_lt_of_le (Nat.le_add_right _ _))
          · exact absurd hlt (Nat.lt_irrefl _)
          · exact absurd hlt (Nat.not_lt_of_le (Nat.le_add_right _ _))) (hk b u e)
        have hm0 : (h'.objs.size == sysModules) = false := beq_eq_false_iff_ne.mpr (Nat.ne_of_gt I2.big)
        have hlen : (mergeK [] (ks.zip ys)).length ≤ sizeLine := by
          refine Nat.le_trans (length_mergeK (ks.zip ys) []) ?_
          rw [List.length_nil, Nat.zero_add, List.length_zip, sizeLine_eq]
          omega
        exact ⟨.ref h'.objs.size, upd H1 h'.objs.size (.dK (mergeK [] (ks.zip ys))), I1.laid (t' := tk) keep hsz2 (show ObjOk X.prog X.w _ _ _ (.dK (mergeK [] (ks.zip ys))) from ⟨hlen, hm0, merged [] (ks.zip its2), KV.merge (kv_zip rv2) .nil, hd'⟩), rfl, q1 _ (I1.hok.fresh hsz2)⟩
end
/-! comprehensions over zip of two tuples -/
section
open PySem PySem.Spec PyProof.Rows L2
/-- [f(p) for p in zip(x, y)], two tuples of one length -/
theorem lc_zipT {K : PySem.W.Frag} {a b : Addr} {xs ys : List V} {g : TG} {tt : TT} {te : TE} {vs : List Nat} {σ : L2.St} {H1 : Hp} {D : Addr} {Qd : Hp → Prop} (hl : xs.length = ys.length) (Pv : Nat → Hp → Prop) (h0 : Pv 0 (upd H1 D (.lst []))) (hq : ∀ i H, i ≤ xs.length → Pv i H → SqT K H a xs ∧ SqT K H b ys)
    (hs : ∀ (i : Nat) x y T H, xs[i]? = some x → ys[i]? = some y → Pv i H → H T = none → g (.ref T) (wipe σ vs) (upd H T (.tup [x, y])) fun σ2 H2 => wipe σ2 vs = wipe σ vs ∧ tt σ2 H2 fun b H3 =>
      if b = true then te σ2 H3 fun y H4 => ∃ acc, H4 D = some (.lst acc) ∧ acc.length < sizeLine ∧ Pv (i + 1) (upd H4 D (.lst (acc ++ [y]))) else Pv (i + 1) H3) (hd : ∀ H, Pv xs.length H → Qd H) :
    ∃ W : Nat → Nat → Hp → Prop, (∃ m, W 0 m (upd H1 D (.lst []))) ∧ ∀ i m H, W i m H →
      ((RZ.ItzT K a b).stop i H ∧ Qd H) ∨ ((RZ.ItzT K a b).go i H ∧ ∃ Nx : Hp → Prop, (∀ H', Nx H' → ∃ m', m' < m ∧ W (i + 1) m' H') ∧ ∀ x H', (RZ.ItzT K a b).yld i H x H' → g x (wipe σ vs) H' fun σ2 H2 => wipe σ2 vs = wipe σ vs ∧ tt σ2 H2 fun b H3 =>
        if b = true then te σ2 H3 fun y H4 => ∃ acc, H4 D = some (.lst acc) ∧ acc.length < sizeLine ∧ Nx (upd H4 D (.lst (acc ++ [y]))) else Nx H3) := by
  refine ⟨fun i m H => m = xs.length - i ∧ i ≤ xs.length ∧ Pv i H, ⟨xs.length, rfl, Nat.zero_le _, h0⟩, ?_⟩
  rintro i m H ⟨rfl, hi, p⟩
  obtain ⟨q1, q2⟩ := hq i H hi p
  by_cases hlt : i < xs.length
  · have hx : xs[i]? = some xs[i] := List.getElem?_eq_getElem hlt
    have hy : ys[i]? = some (ys[i]'(by omega)) := List.getElem?_eq_getElem (by omega)
    refine .inr ⟨⟨xs, ys, _, _, q1, q2, hx, hy⟩, Pv (i + 1), fun H' p' => ⟨xs.length - (i + 1), by omega, rfl, hlt, p'⟩, fun v H' z => ?_⟩
    obtain ⟨T, x, y, rfl, hT, rfl, f1, f2⟩ := z
    exact hs i x y T H (f1 xs q1) (f2 ys q2) p hT
  · have e : i = xs.length := by omega
    subst e
    exact .inl ⟨⟨xs, ys, q1, q2, .inl (Nat.le_refl _)⟩, hd H p⟩
end
section
open PySem PySem.Spec PyProof.Rows L2 Evl
/-- [f(x, y) for x, y in zip(a, b)], two tuples of one length -/
theorem el_lcZ {K : PySem.W.Frag} {σ : L2.St} {H : Hp} {ta : TA} {te : TE} {a b : Addr} {xs ys us : List V} {i j : Nat} {vs : List Nat} (h : EvA ta σ H [.ref a, .ref b]) (hx : SqT K H a xs) (hy : SqT K H b ys) (hl : xs.length = ys.length) (hu : us.length = xs.length) (hz : xs.length ≤ 40000)
    (hw : ∀ x y, wipe (((wipe σ vs).set i (some x)).set j (some y)) vs = wipe σ vs) (he : ∀ (k : Nat) x y u H1, xs[k]? = some x → ys[k]? = some y → us[k]? = some u → Ex H H1 → Ev te (((wipe σ vs).set i (some x)).set j (some y)) H1 u) :
    EvL (tLc (RZ.iZipA K ta) (gTup K 2 (gCons (gName i) (gCons (gName j) gNil))) tYes te vs) σ H us := by
  intro H0 e Q q
  refine h H0 e _ fun H1 e1 => ⟨a, b, xs, ys, rfl, .inr ⟨ex_t (e.trans e1) hx, ex_t (e.trans e1) hy, fun D hD => ?_⟩⟩
  refine lc_zipT hl (fun k H' => H1 D = none ∧ Ex H1 H' ∧ H' D = some (.lst (us.take k))) ⟨hD, Ex.new hD, upd_same⟩ (fun k H' _ z => ⟨ex_t ((e.trans e1).trans z.2.1) hx, ex_t ((e.trans e1).trans z.2.1) hy⟩) (fun k x y T H' h1 h2 z hT => ?_) fun H' z => ?_
  · obtain ⟨p1, p2, p3⟩ := z
    have hk := (List.getElem?_eq_some_iff.mp h1).1
    have h3 : us[k]? = some (us[k]'(by omega)) := List.getElem?_eq_getElem (by omega)
    have eT := Ex.new (o := .tup [x, y]) hT
    refine ⟨T, _, rfl, st_of upd_same, rfl, x, _, rfl, y, _, rfl, rfl, hw x y, ?_⟩
    refine he k x y _ _ h1 h2 h3 (((e.trans e1).trans p2).trans eT) _ (Ex.refl _) _ fun H4 e4 => ⟨us.take k, e4 _ _ (eT _ _ p3), sz_lt ?_, p1, ((p2.trans eT).trans e4).mut p1, ?_⟩
    · rw [List.length_take]
      omega
    · rw [upd_same, List.take_add_one, h3] <;> rfl
  · obtain ⟨p1, p2, p3⟩ := z
    rw [List.take_of_length_le (by omega)] at p3
    exact q D H' (fresh_back e1 p1) (e1.trans p2) p3
end


/-! ### dict(zip(x, y)): x a list, y a tuple -/
section
open PySem
variable {P : Program} {w : World} {A : Around} {E : Value → Shared → Prop} {s : Shared} {z TI TO T i1 i2 : Addr} {fp1 fp2 : List Addr} {n1 n2 i : Nat} {P1 P2 : Nat → Value → Prop} {St1 St2 : Nat → Heap → Prop} {f : Bool} {oT : Obj}
/-- the next pair, while the one before is still held by somebody; sources of any kind -/
theorem zx_item {Q : Value → Shared → Prop} (S : ZipSep2 z TI TO i1 i2 fp1 fp2) (D1 : Draws P w A i1 fp1 n1 P1 St1) (D2 : Draws P w A i2 fp2 n2 P2 St2)
    (hz : IsZipHeld s.heap z TI TO T f) (hT : s.heap.get? T = some oT) (hTI : IsPair s.heap TI (.ref i1) (.ref i2)) (st1 : St1 i s.heap) (st2 : St2 i s.heap) (l1 : i < n1) (l2 : i < n2)
    (q : ∀ x y h' tk, P1 i x → P2 i y → IsZipHeld h' z TI TO T true → St1 (i + 1) h' → St2 (i + 1) h' → IsPair h' s.heap.objs.size x y →
      (∀ c o, c ≠ z → c ≠ i1 → c ≠ i2 → s.heap.get? c = some o → h'.get? c = some o) → Q (.ref s.heap.objs.size) { s with heap := h', toks := tk }) :
    wpAny (model P w) A (Builtin.«zip.__next__» ⟨[.ref z], []⟩) (fun fin s' => ∃ v, fin = .done (.ret v) ∧ Q v s') E s := by
  refine wpAny_bind (m := field (.ref z) 2) (wpAny_field hz rfl (x := .bool false) rfl ?_)
  refine wpAny_bind (m := field (.ref z) 3) (wpAny_field hz rfl (x := .ref TI) rfl (wpAny_bind (wpAny_seqItems hTI rfl ?_)))
  refine wpAny_bind (m := Builtin.SmallTypes.ownedTupleIsFree (.ref z)) (wpAny_tupleHeld_zip hz hT fun ha za sa => ?_)
  simp only [Bool.false_eq_true, if_false]
  refine wpAny_bind ?_
  rw [← Array.forIn_toList]
  simp only [List.forIn_cons, List.forIn_nil]
  refine wpAny_bind (wpAny_bind (wpAny_holding ?_))
  refine wpAny_bind (m := Builtin.SmallTypes.nextOf (.ref i1)) (D1.item i { s with heap := ha } _ _ l1 (D1.over st1 sa S.zf1) fun x hb tb p1 b1 sb => wpAny_pure (wpAny_pure ?_))
  refine wpAny_bind (wpAny_bind (wpAny_holding ?_))
  refine wpAny_bind (m := Builtin.SmallTypes.nextOf (.ref i2)) (D2.item i { s with heap := hb, toks := tb } _ _ l2 (D2.over (D2.over st2 sa S.zf2) sb S.sep1_2) fun y hc tc p2 c2 sc => wpAny_pure (wpAny_pure (wpAny_pure ?_)))
  refine wpAny_bind (m := newTuple [x, y]) (wpAny_newTuple ?_)
  have hsz : hc.objs.size = s.heap.objs.size := by rw [sc.1, sb.1, sa.1]
  have hk : ∀ c o, c ≠ z → c ≠ i1 → c ≠ i2 → s.heap.get? c = some o → hc.get? c = some o := fun c o a1 a2 a3 e => sc.extBut _ _ a3 (sb.extBut _ _ a2 (sa.extBut _ _ a1 e))
  have up : ∀ c o, hc.get? c = some o → (hc.push { cls := .type "tuple", data := .seq #[x, y] }).get? c = some o := fun c o e => Heap.get?_push_of_some _ e
  have hp : IsPair (hc.push { cls := .type "tuple", data := .seq #[x, y] }) hc.objs.size x y := Heap.get?_push_size _ rfl
  rw [hsz] at hp
  refine wpAny_pure ⟨_, rfl, ?_⟩
  show Q (.ref hc.objs.size) _
  rw [hsz]
  exact q x y _ tc p1 p2 (up _ _ (sc.extBut _ _ S.zi2 (sb.extBut _ _ S.zi1 za))) (D1.frame _ _ _ (D1.over b1 sc S.sep2_1) fun b _ o e => up b o e) (D2.frame _ _ _ c2 fun b _ o e => up b o e) hp fun c o a1 a2 a3 e => up _ _ (hk c o a1 a2 a3 e)
/-- no further pair -/
theorem zx_end {Q : Fin → Shared → Prop} (S : ZipSep2 z TI TO i1 i2 fp1 fp2) (D1 : Draws P w A i1 fp1 n1 P1 St1)
    (hz : IsZipHeld s.heap z TI TO T f) (hT : s.heap.get? T = some oT) (hTI : IsPair s.heap TI (.ref i1) (.ref i2)) (st1 : St1 n1 s.heap)
    (q : ∀ h' e, (∀ c o, c ≠ z → c ≠ i1 → c ≠ i2 → s.heap.get? c = some o → h'.get? c = some o) → (∃ o, h'.get? e = some o ∧ o.cls = .type "StopIteration") → E (.ref e) { s with heap := h' }) :
    wpAny (model P w) A (Builtin.«zip.__next__» ⟨[.ref z], []⟩) Q E s := by
  refine wpAny_bind (m := field (.ref z) 2) (wpAny_field hz rfl (x := .bool false) rfl ?_)
  refine wpAny_bind (m := field (.ref z) 3) (wpAny_field hz rfl (x := .ref TI) rfl (wpAny_bind (wpAny_seqItems hTI rfl ?_)))
  refine wpAny_bind (m := Builtin.SmallTypes.ownedTupleIsFree (.ref z)) (wpAny_tupleHeld_zip hz hT fun ha za sa => ?_)
  simp only [Bool.false_eq_true, if_false]
  refine wpAny_bind ?_
  rw [← Array.forIn_toList]
  simp only [List.forIn_cons, List.forIn_nil]
  refine wpAny_bind (wpAny_bind (wpAny_holding ?_))
  exact wpAny_bind (m := Builtin.SmallTypes.nextOf (.ref i1)) (D1.done { s with heap := ha } _ _ (D1.over st1 sa S.zf1) fun hb e sb he => q hb e (fun c o a1 a2 _ x => sb _ _ a2 (sa.extBut _ _ a1 x)) he)
theorem zx_next {Q : Option Value → Shared → Prop} (S : ZipSep2 z TI TO i1 i2 fp1 fp2) (D1 : Draws P w A.in1 i1 fp1 n1 P1 St1) (D2 : Draws P w A.in1 i2 fp2 n2 P2 St2)
    (hz : IsZipHeld s.heap z TI TO T f) (hT : s.heap.get? T = some oT) (hTI : IsPair s.heap TI (.ref i1) (.ref i2)) (st1 : St1 i s.heap) (st2 : St2 i s.heap) (l1 : i < n1) (l2 : i < n2)
    (q : ∀ x y h' tk, P1 i x → P2 i y → IsZipHeld h' z TI TO T true → St1 (i + 1) h' → St2 (i + 1) h' → IsPair h' s.heap.objs.size x y →
      (∀ c o, c ≠ z → c ≠ i1 → c ≠ i2 → s.heap.get? c = some o → h'.get? c = some o) → Q (some (.ref s.heap.objs.size)) { s with heap := h', toks := tk }) : wpAny (model P w) A (pyNext (.ref z)) Q E s := by
  have ty : s.TypeIs (.ref z) "zip" := ⟨_, hz, rfl⟩
  unfold pyNext
  exact wpAny_bind (wpAny_attempt (wpAny_callSpecial?_slot (name := Str.ofString "__next__") ty F.slot_zip_next
    (wpAny_call_entry F.slot_zip_next ty F.entry_zip_next (zx_item S D1 D2 hz hT hTI st1 st2 l1 l2 fun x y h' tk p1 p2 a1 a2 a3 a4 a5 => wpAny_pure (q x y h' tk p1 p2 a1 a2 a3 a4 a5)) (F.args_zip_next_1 _))))
theorem zx_stop {Q : Option Value → Shared → Prop} (S : ZipSep2 z TI TO i1 i2 fp1 fp2) (D1 : Draws P w A.in1 i1 fp1 n1 P1 St1)
    (hz : IsZipHeld s.heap z TI TO T f) (hT : s.heap.get? T = some oT) (hTI : IsPair s.heap TI (.ref i1) (.ref i2)) (st1 : St1 n1 s.heap)
    (q : ∀ h', (∀ c o, c ≠ z → c ≠ i1 → c ≠ i2 → s.heap.get? c = some o → h'.get? c = some o) → Q none { s with heap := h' }) : wpAny (model P w) A (pyNext (.ref z)) Q E s := by
  have ty : s.TypeIs (.ref z) "zip" := ⟨_, hz, rfl⟩
  unfold pyNext
  refine wpAny_bind (wpAny_attempt (wpAny_callSpecial?_slot (name := Str.ofString "__next__") ty F.slot_zip_next
    (wpAny_call_entry F.slot_zip_next ty F.entry_zip_next (zx_end S D1 hz hT hTI st1 fun h' e hk he => ?_) (F.args_zip_next_1 _))))
  obtain ⟨o, ho, hc⟩ := he
  exact wpAny_bind (wpAny_isInstance (T := "StopIteration") (b := true) ⟨o, ho, hc⟩ isSubtype_stop (wpAny_pure (q _ hk)))
end
section
open PySem
variable {P : Program} {w : World}
theorem lst_keep {h h' : Heap} {l : Addr} {xs : Array Value} (x : h.IsList l xs) (k : ∀ o, h.get? l = some o → h'.get? l = some o) : h'.IsList l xs := by
  obtain ⟨o, ho, r⟩ := x
  exact ⟨o, k o ho, r⟩
/-- a zip of a list and a tuple of one length as the argument of dict -/
theorem arg_zx (z TI TO i1 i2 l1 l2 : Addr) (S : ZipSep2 z TI TO i1 i2 [i1, l1] [i2, l2]) (n1 : l1 ≠ i1) (n2 : l2 ≠ i2) (xs ys : Array Value) (hl : xs.size = ys.size) :
    PairArg P w "zip" z [z, TI, TO, i1, i2, l1, l2] [z, TO, i1, i2] xs.size (fun i k v => xs[i]? = some k ∧ ys[i]? = some v)
      (fun h => IsZip h z TI TO .none ∧ IsPair h TI (.ref i1) (.ref i2) ∧ (∃ a b, IsPair h TO a b) ∧ h.IsListIter i1 l1 0 ∧ h.IsTupleIter i2 l2 0 ∧ h.IsList l1 xs ∧ h.IsTuple l2 ys) where
  type := fun s ok => ⟨_, ok.1, rfl⟩
  notDict := by decide
  keep := fun h h' ok hk => by
    obtain ⟨hz, hTI, ⟨a, b, hTO⟩, h1, h2, t1, t2⟩ := ok
    exact ⟨hk _ _ hz, hk _ _ hTI, ⟨a, b, hk _ _ hTO⟩, h1.at fun o e => hk _ o e, h2.at fun o e => hk _ o e, lst_keep t1 fun o e => hk _ o e, tup_keep t2 fun o e => hk _ o e⟩
  there := fun h ok b hb => by
    obtain ⟨hz, hTI, ⟨a, c, hTO⟩, ⟨o1, h1, _⟩, ⟨o2, h2, _⟩, ⟨o3, t1, _⟩, ⟨o4, t2, _⟩⟩ := ok
    simp only [List.mem_cons, List.not_mem_nil, or_false] at hb
    rcases hb with rfl | rfl | rfl | rfl | rfl | rfl | rfl
    · exact ⟨_, hz⟩
    · exact ⟨_, hTI⟩
    · exact ⟨_, hTO⟩
    · exact ⟨_, h1⟩
    · exact ⟨_, h2⟩
    · exact ⟨_, t1⟩
    · exact ⟨_, t2⟩
  sub := fun b hb => by
    simp only [List.mem_cons, List.not_mem_nil, or_false] at hb ⊢
    rcases hb with rfl | rfl | rfl | rfl <;> simp
  noKeys := fun A s Q E hA ok h => getAttrOr_miss_zip ok.1 rfl rfl rfl zip_no_keys (by decide +kernel) hA h
  iter := fun A s d Q E hA ok hd hdf h => by
    obtain ⟨hz, hTI, ⟨a, b, hTO⟩, h1, h2, t1, t2⟩ := ok
    simp only [List.mem_cons, List.not_mem_nil, or_false, not_or] at hdf
    obtain ⟨dz, dTI, dTO, d1, d2, e1, e2⟩ := hdf
    have D1 := Draws.list (prog := P) (w := w) (A := A.in1) hA i1 l1 n1 xs
    have D2 := Draws.tuple (prog := P) (w := w) (A := A.in1) hA i2 l2 n2 ys
    refine wpAny_pyIter_zip hz (h z [z, TO, i1, i2] (fun i h => IsPair h TI (.ref i1) (.ref i2) ∧ (h.IsListIter i1 l1 i ∧ h.IsList l1 xs) ∧ (h.IsTupleIter i2 l2 i ∧ h.IsTuple l2 ys) ∧
      ((IsZip h z TI TO .none ∧ ∃ a b, IsPair h TO a b) ∨ ∃ T f oT, IsZipHeld h z TI TO T f ∧ h.get? T = some oT ∧ T ≠ z ∧ T ≠ i1 ∧ T ≠ i2 ∧ T ≠ d)) s.heap s.toks ?_
      ⟨hTI, ⟨h1, t1⟩, ⟨h2, t2⟩, .inl ⟨hz, a, b, hTO⟩⟩ (fun _ _ e => e) fun b hb => .inl hb)
    refine { off := fun hm => ?_, frame := fun i ha hb st hk => ?_, item := fun i s Q E hi st hds q => ?_, done := fun s Q E st q => ?_ }
    · simp only [List.mem_cons, List.not_mem_nil, or_false] at hm
      rcases hm with e | e | e | e
      · exact dz e
      · exact dTO e
      · exact d1 e
      · exact d2 e
    · obtain ⟨hTI, s1, s2, hz⟩ := st
      refine ⟨hk _ _ (Ne.symm dTI) hTI, D1.frame i _ _ s1 fun b hb o e => hk b o (fun zz => by
        simp only [List.mem_cons, List.not_mem_nil, or_false] at hb
        rcases hb with r | r
        · exact d1 (zz.symm.trans r)
        · exact e1 (zz.symm.trans r)) e, D2.frame i _ _ s2 fun b hb o e => hk b o (fun zz => by
        simp only [List.mem_cons, List.not_mem_nil, or_false] at hb
        rcases hb with r | r
        · exact d2 (zz.symm.trans r)
        · exact e2 (zz.symm.trans r)) e, ?_⟩
      rcases hz with ⟨hz, a, b, hTO⟩ | ⟨T, f, oT, hz, hT, r1, r2, r3, r4⟩
      · exact .inl ⟨hk _ _ (Ne.symm dz) hz, a, b, hk _ _ (Ne.symm dTO) hTO⟩
      · exact .inr ⟨T, f, oT, hk _ _ (Ne.symm dz) hz, hk _ _ r4 hT, r1, r2, r3, r4⟩
    · obtain ⟨hTI, s1, s2, hz⟩ := st
      have lt : ∀ {c o}, s.heap.get? c = some o → s.heap.objs.size ≠ c := fun e => Nat.ne_of_gt (Heap.lt_size e)
      have m1 : s.heap.objs.size ≠ i1 := let ⟨_, e, _⟩ := s1.1; lt e
      have m2 : s.heap.objs.size ≠ i2 := let ⟨_, e, _⟩ := s2.1; lt e
      have hi2 : i < ys.size := by omega
      rcases hz with ⟨hz, a, b, hTO⟩ | ⟨T, f, oT, hz, hT, r1, r2, r3, r4⟩
      · refine wpAny_pyNext_zipD2_item S D1 D2 hz hTI hTO s1 s2 hi hi2 fun x y h' tk p1 p2 a1 a2 a3 a4 a5 a6 hk => ?_
        exact q s.heap.objs.size x y h' tk ⟨p1, p2⟩ (.inl ⟨_, a5, rfl, _, rfl⟩)
          ⟨hk _ _ S.TIz S.TITO S.TIi1 S.TIi2 hTI, a3, a4, .inr ⟨s.heap.objs.size, false, _, a1, a5, lt hz, m1, m2, Nat.ne_of_gt hds⟩⟩
          fun c o hc e => hk c o (fun x => hc (by simp [x])) (fun x => hc (by simp [x])) (fun x => hc (by simp [x])) (fun x => hc (by simp [x])) e
      · refine zx_next S D1 D2 hz hT hTI s1 s2 hi hi2 fun x y h' tk p1 p2 a1 a3 a4 a5 hk => ?_
        exact q s.heap.objs.size x y h' tk ⟨p1, p2⟩ (.inl ⟨_, a5, rfl, _, rfl⟩)
          ⟨hk _ _ S.TIz S.TIi1 S.TIi2 hTI, a3, a4, .inr ⟨T, true, oT, a1, hk _ _ r1 r2 r3 hT, r1, r2, r3, r4⟩⟩
          fun c o hc e => hk c o (fun x => hc (by simp [x])) (fun x => hc (by simp [x])) (fun x => hc (by simp [x])) e
    · obtain ⟨hTI, s1, s2, hz⟩ := st
      rcases hz with ⟨hz, a, b, hTO⟩ | ⟨T, f, oT, hz, hT, r1, r2, r3, r4⟩
      · exact wpAny_pyNext_zipD2_end S D1 D2 hz hTI hTO s1 s2 (Nat.le_refl _) (by omega) (.inl rfl) fun h' tk hk => q h' tk fun c o hc e => hk c o (fun x => hc (by simp [x])) (fun x => hc (by simp [x])) (fun x => hc (by simp [x])) (fun x => hc (by simp [x])) e
      · exact zx_stop S D1 hz hT hTI s1 fun h' hk => q h' s.toks fun c o hc e => hk c o (fun x => hc (by simp [x])) (fun x => hc (by simp [x])) (fun x => hc (by simp [x])) e
end
/-! the rule -/
section
variable {X : Cx}
open PySem PySem.Spec PyProof.Rows L2
/-- dict(zip(x, y)), a list of keys and a tuple of one length -/
def tDictZipL (K : PySem.W.Frag) (ta : TA) : TE := fun σ H Q => ta σ H fun vs H1 => ∃ (a b : Addr) (ks : List Key) (ys : List V), vs = [.ref a, .ref b] ∧ SqL K H1 a (ks.map kV) ∧ SqT K H1 b ys ∧ ks.length = ys.length ∧ ys.length ≤ 1000 ∧ ∀ p, H1 p = none → Q (.ref p) (upd H1 p (.dK (mergeK [] (ks.zip ys))))
theorem pe_dictZipL {e e2 : Expr} {ta : TA} {p p2 q pos : Pos} (hc : X.calm = true) (hg : Gl X "zip") (hm : X.mg "zip" = none) (hg2 : Gl X "dict") (hm2 : X.mg "dict" = none) (ha : PA X [e, e2] ta)
    (hs : starEach [e, e2] X.env = (false, eval e X.env) :: starEach [e2] X.env := by rfl) (hpl : (backTo q (starEach [e2] X.env)).any (·.1) = false := by rfl) : PE X (.Call (.Name "dict" p) [.Call (.Name "zip" p2) [e, e2] [] q] [] pos) (tDictZipL X.K ta) := by
  refine ⟨fun pins s σ H Q I h => ?_⟩
  refine Call_ (ld_blt I hg2 hm2 (by decide +kernel : bootBuiltins "dict" = some (.type "dict")) ?_)
  refine PyProof.Rows.callWith_type1 (PyProof.Rows.args_cons ?_ rfl) rfl rfl
  refine Call_ (ld_blt I hg hm PyProof.Rows.boot_zip (PyProof.Rows.callWith_type1 (thn (ha.run q pins s σ H _ I h) fun us s1 ⟨vs, H1, I1, r1, q1⟩ => ?_) hs hpl))
  obtain ⟨a, b, ks, ys, rfl, hx, hy, hl, hz, q1⟩ := q1
  cases r1 with
  | cons r rr =>
    cases rr with
    | cons r' rr =>
      cases rr
      cases r
      cases r'
      obtain ⟨its, rv, p1, _⟩ := I1.list hx
      obtain ⟨its2, rv2, p2, _⟩ := I1.tuple hy
      have p1l : s1.heap.IsList a its.toArray := p1.isList
      obtain ⟨o1, ho1, _⟩ := id p1l
      obtain ⟨o2, ho2, _⟩ := id p2
      have l1 := rv.length
      have l2 := rv2.length
      rw [List.length_map] at l1
      refine zip_begins2 (begins_list a its.toArray) (begins_tuple b its2.toArray) p1l (show s1.heap.IsTuple b its2.toArray from p2) fun h' hz' hTI hTO h1 h2 hsz hk => ?_
      refine PyProof.Rows.args_nil ?_
      have I2 : Inv X pins σ H1 { s1 with heap := h' } := I1.kept (t' := s1.toks) hk
      have na : a < s1.heap.objs.size := Heap.lt_size ho1
      have nb : b < s1.heap.objs.size := Heap.lt_size ho2
      refine PySem.call_dict_pairs (knd := mixKind X.prog X.w) (kvs := ks.zip its2) (arg_zx _ _ _ _ _ a b (zip_sep2 (N := s1.heap.objs.size) (fp1 := [a]) (fp2 := [b]) (fun c hc => by rw [List.mem_singleton.mp hc]; exact na) (fun c hc => by rw [List.mem_singleton.mp hc]; exact nb)) (Nat.ne_of_lt na) (Nat.ne_of_lt (Nat.lt_succ_of_lt nb)) its.toArray its2.toArray (by rw [List.size_toArray, List.size_toArray]; omega)) (I1.ok.hd hc) ⟨hz', hTI, ⟨_, _, hTO⟩, ⟨_, h1, rfl, rfl⟩, ⟨_, h2, rfl, rfl⟩, lst_keep p1l fun o e => hk _ o e, tup_keep p2 fun o e => hk _ o e⟩ ⟨?_, fun i key v ⟨e1, e2⟩ => ?_⟩ ?_ fun h2' tk hd' k => ?_
      · rw [List.length_zip, List.size_toArray]
        omega
      · rw [List.getElem?_toArray] at e1 e2
        obtain ⟨k, hk1, hk2⟩ := keys_at rv i key e1
        exact ⟨k, by rw [List.getElem?_zip_eq_some]; exact ⟨hk1, e2⟩, kV_is hk2⟩
      · rw [List.size_toArray, sizeLine_eq]
        omega
      · have hsz2 : s1.heap.objs.size ≤ h'.objs.size := by rw [hsz]; exact Nat.le_add_right _ _
        have keep : ∀ b u, s1.heap.get? b = some u → h2'.get? b = some u := fun b u e => k b u (fun hm => by
          have hlt := Heap.lt_size e
          simp only [List.mem_cons, List.not_mem_nil, or_false] at hm
          rcases hm with z | z | z | z <;> rw [z] at hlt
          · exact absurd hlt (Nat.not_lt_of_le (Nat.le_add_right _ _))
          · exact absurd hlt (Nat.not_lt_of_le (Nat.le_add_right _ _))
          · exact absurd hlt (Nat.lt_irrefl _)
          · exact absurd hlt (Nat.not_lt_of_le (Nat.le_add_right _ _))) (hk b u e)
        have hm0 : (h'.objs.size == sysModules) = false := beq_eq_false_iff_ne.mpr (Nat.ne_of_gt I2.big)
        have hlen : (mergeK [] (ks.zip ys)).length ≤ sizeLine := by
          refine Nat.le_trans (length_mergeK (ks.zip ys) []) ?_
          rw [List.length_nil, Nat.zero_add, List.length_zip, sizeLine_eq]
          omega
        exact ⟨.ref h'.objs.size, upd H1 h'.objs.size (.dK (mergeK [] (ks.zip ys))), I1.laid (t' := tk) keep hsz2 (show ObjOk X.prog X.w _ _ _ (.dK (mergeK [] (ks.zip ys))) from ⟨hlen, hm0, merged [] (ks.zip its2), KV.merge (kv_zip rv2) .nil, hd'⟩), rfl, q1 _ (I1.hok.fresh hsz2)⟩
end


/-! ### rows reshaped -/
/-- the value of the row in the column of that name -/
def valAt (f : Fm) (us : List V) (z : Str) : Option V := ((f.cs.zip us).find? fun p => decide (p.1.nm = z)).map (·.2)
def dvV : PyData → V
  | .int i => .int i
  | .str z => .str z
  | _ => .non
theorem dv_eq {K : PySem.W.Frag} {H : Hp} {v : V} {d : PyData} (h : Dp K H v d) (hf : Fl 0 d) : v = dvV d := by
  cases hf <;> cases h <;> rfl
def rsV (old : Fm) (us : List V) (c : Co) : V := match findC old.cs c.nm with
  | none => dvV c.df
  | some d => if d.kd.tx = c.kd.tx then (match valAt old us c.nm with
    | some x => if accB c.kd.s x = true then x else dvV c.df
    | none => dvV c.df) else dvV c.df
theorem rsV_none {old : Fm} {us : List V} {c : Co} (hf : findC old.cs c.nm = none) : rsV old us c = dvV c.df := by
  unfold rsV
  rw [hf]
theorem rsV_some {old : Fm} {us : List V} {c o : Co} {x : V} (hf : findC old.cs c.nm = some o) (hx : valAt old us c.nm = some x) : rsV old us c = if o.kd.tx = c.kd.tx then (if accB c.kd.s x = true then x else dvV c.df) else dvV c.df := by
  unfold rsV
  rw [hf, hx]
/-- the dict of the values by their columns' names -/
def ValsD (H : Hp) (d : Addr) (old : Fm) (us : List V) : Prop := ∃ kvs, H d = some (.dK kvs) ∧ ∀ z co, findC old.cs z = some co → ∃ x, valAt old us z = some x ∧ valV kvs (Sum.inr z : Key) = some x ∧ Sc x
/-- the row reshaped -/
def spRes (K : PySem.W.Frag) : Sp := fun vs H Q _ => ∃ (old new : Fm) (vold vnew : V) (pr : Addr) (us : List V), vs = [vold, vnew, .ref pr] ∧ Dp K H vold old.d ∧ Dp K H vnew new.d ∧ SqT K H pr us ∧ us.length = old.cs.length ∧ (∀ u ∈ us, Sc u) ∧ (old.cs.map Co.nm).Nodup ∧ (∀ c ∈ new.cs, c.ok) ∧ old.cs.length ≤ 1000 ∧ new.cs.length ≤ 1000 ∧
  ∀ p H', Ex H H' → SqT K H' p (new.cs.map (rsV old us)) → Q (.ref p) H'
theorem nd_idx {α : Type} {l : List α} {i j : Nat} (h0 : i < l.length) (hn : l.Nodup) (h : l[i]? = l[j]?) : i = j := by
  rw [List.getElem?_eq_getElem h0] at h
  obtain ⟨hj, h2⟩ := List.getElem?_eq_some_iff.mp h.symm
  have hp := List.pairwise_iff_getElem.mp hn
  rcases Nat.lt_trichotomy i j with z | z | z
  · exact absurd h2.symm (hp i j h0 hj z)
  · exact z
  · exact absurd h2 (hp j i hj h0 z)
theorem valAt_at {old : Fm} {us : List V} (hn : (old.cs.map Co.nm).Nodup) (hl : us.length = old.cs.length) {k : Nat} {o : Co} {x : V} (ho : old.cs[k]? = some o) (hx : us[k]? = some x) : findC old.cs o.nm = some o ∧ valAt old us o.nm = some x := by
  refine ⟨find_nd2 hn (List.mem_of_getElem? ho), ?_⟩
  unfold valAt
  cases e : (old.cs.zip us).find? (fun p => decide (p.1.nm = o.nm)) with
  | none =>
    have := List.find?_eq_none.mp e (o, x) (List.mem_of_getElem? (i := k) (List.getElem?_zip_eq_some.mpr ⟨ho, hx⟩))
    simp at this
  | some p =>
    have hp : p.1.nm = o.nm := by
      have := List.find?_some e
      simpa using this
    obtain ⟨j, hj⟩ := List.getElem?_of_mem (List.mem_of_find?_eq_some e)
    obtain ⟨h1, h2⟩ := List.getElem?_zip_eq_some.mp hj
    have hk := (List.getElem?_eq_some_iff.mp ho).1
    have : k = j := nd_idx (l := old.cs.map Co.nm) (by rw [List.length_map]; exact hk) hn (by rw [List.getElem?_map, List.getElem?_map, ho, h1]; show some o.nm = some p.1.nm; rw [hp])
    subst this
    rw [hx] at h2
    rw [Option.some.inj h2] <;> rfl


/-! ### lists of lists, lists that change -/
theorem ea_l1' {te : TE} {σ : L2.St} {H : Hp} {xs : List V} {Q : List V → Hp → Prop} (h : EvL te σ H xs) (k : ∀ p H1, H p = none → Ex H H1 → H1 p = some (.lst xs) → Q [.ref p] H1) : tCons te tNil σ H Q := h H (Ex.refl H) _ fun p H1 hp e1 h1 => k p H1 hp e1 h1
/-- [f(x) for x in xs], each a new list -/
theorem ell_V {K : PySem.W.Frag} {σ : L2.St} {H : Hp} {te tl : TE} {j : Nat} {vs : List Nat} {a : Addr} {xs : List V} {yss : List (List V)} (h : Ev te σ H (.ref a)) (hx : SqL K H a xs) (hn : xs.length = yss.length) (hz : yss.length ≤ 40000) (hw : ∀ x, wipe ((wipe σ vs).set j (some x)) vs = wipe σ vs)
    (he : ∀ (i : Nat) x ys H1, xs[i]? = some x → yss[i]? = some ys → Ex H H1 → EvL tl ((wipe σ vs).set j (some x)) H1 ys) {Q : VK} (q : ∀ p us H2, H p = none → Ex H H2 → H2 p = some (.lst us) → us.length = yss.length → (∀ (i : Nat) ys, yss[i]? = some ys → ∃ r, us[i]? = some (.ref r) ∧ H2 r = some (.lst ys)) → Q (.ref p) H2) :
    tLc (iList K te) (gName j) tYes tl vs σ H Q := by
  refine h H (Ex.refl H) _ fun H1 e1 => ⟨a, rfl, ⟨xs, ex_l e1 hx⟩, fun Dl hD => ?_⟩
  refine lc_list (xs := xs) (fun i H' => H1 Dl = none ∧ Ex H1 H' ∧ ∃ us, H' Dl = some (.lst us) ∧ us.length = i ∧ ∀ (k : Nat) ys, k < i → yss[k]? = some ys → ∃ r, us[k]? = some (.ref r) ∧ H' r = some (.lst ys) ∧ r ≠ Dl) ⟨hD, Ex.new hD, [], upd_same, rfl, fun k ys z => absurd z (Nat.not_lt_zero _)⟩ (fun i H' _ z => ex_l (e1.trans z.2.1) hx) (fun i x H' hi z => ⟨hw x, ?_⟩) (fun H' z => ?_)
  · obtain ⟨p1, p2, us, p3, p4, p5⟩ := z
    have hi2 := (List.getElem?_eq_some_iff.mp hi).1
    have hd : yss[i]? = some (yss[i]'(by omega)) := List.getElem?_eq_getElem (by omega)
    refine he i x _ H' hi hd (e1.trans p2) H' (Ex.refl H') _ fun p H4 hp e4 h4 => ⟨us, e4 Dl _ p3, sz_lt (by omega), p1, (p2.trans e4).mut p1, us ++ [.ref p], upd_same, by rw [List.length_append, p4] <;> rfl, fun k ys hk hy => ?_⟩
    by_cases hki : k < i
    · obtain ⟨r, r1, r2, r3⟩ := p5 k ys hki hy
      exact ⟨r, by rw [List.getElem?_append_left (by omega)]; exact r1, by rw [upd_ne r3]; exact e4 _ _ r2, r3⟩
    · obtain rfl : k = i := by omega
      rw [hd] at hy
      obtain rfl := Option.some.inj hy
      have hne : p ≠ Dl := fun z => by
        rw [z, p3] at hp
        cases hp
      exact ⟨p, by rw [List.getElem?_append_right (by omega), p4, Nat.sub_self] <;> rfl, by rw [upd_ne hne]; exact h4, hne⟩
  · obtain ⟨p1, p2, us, p3, p4, p5⟩ := z
    exact q Dl us H' (fresh_back e1 p1) (e1.trans p2) p3 (by omega) fun i ys hy => by
      obtain ⟨r, r1, r2, _⟩ := p5 i ys (by have := (List.getElem?_eq_some_iff.mp hy).1; omega) hy
      exact ⟨r, r1, r2⟩
/-- all but the object at a stays -/
def ExB (a : Addr) (H H' : Hp) : Prop := ∀ b o, b ≠ a → H b = some o → H' b = some o
theorem ExB.of {a : Addr} {H H' : Hp} (e : Ex H H') : ExB a H H' := fun b o _ h => e b o h
theorem ExB.trans {a : Addr} {H H1 H2 : Hp} (e : ExB a H H1) (f : ExB a H1 H2) : ExB a H H2 := fun b o n h => f b o n (e b o n h)
theorem ExB.put {a : Addr} {H : Hp} {o : HO} : ExB a H (upd H a o) := fun b u n h => by rw [upd_ne n]; exact h
theorem ExB.n {a : Addr} {H H' : Hp} {xs : List V} (h : H a = some (.lst xs)) (e : ExB a H H') : ExN H H' := fun b o hb n => by
  by_cases hba : b = a
  · subst hba
    rw [h] at hb
    exact absurd (Option.some.inj hb).symm (n xs)
  · exact e b o hba hb
/-- l[j] = (..) -/
theorem q_setU {σ : L2.St} {H : Hp} {te ta tb : TE} {xs ys : List V} {l : Addr} {j : Nat} {tz : TS} {D : Ends} (hl : H l = some (.lst xs)) (h : EvU te σ H ys) (ha : ∀ H1, Ex H H1 → Ev ta σ H1 (.ref l)) (hb : ∀ H1, Ex H H1 → Ev tb σ H1 (.int (j : Int))) (hj : j < xs.length)
    (k : ∀ t H1, H t = none → Ex H H1 → H1 t = some (.tup ys) → tz D σ (upd H1 l (.lst (xs.set j (.ref t))))) : tSeq (tAsg te (gSub ta tb rSetL)) tz D σ H := h H (Ex.refl H) _ fun t H1 ht e1 h1 => ha H1 e1 H1 (Ex.refl H1) _ fun H2 e2 => hb H2 (e1.trans e2) H2 (Ex.refl H2) _ fun H3 e3 => by
  refine ⟨l, xs, j, j, rfl, rfl, ((e1.trans e2).trans e3) l _ hl, ixN_nat hj, ?_⟩
  exact k t H3 ht ((e1.trans e2).trans e3) ((e2.trans e3) _ _ h1)
theorem getD_at0 {l : List Int} {j : Nat} (h : j < l.length) : l[j]? = some (l.getD j 0) := by
  rw [List.getD_eq_getElem?_getD, List.getElem?_eq_getElem h] <;> rfl
theorem getD_int {l : List Int} {j : Nat} (h : j < l.length) : (l.map V.int)[j]? = some (.int (l.getD j 0)) := by
  rw [List.getElem?_map, getD_at0 h] <;> rfl
theorem getD_mem0 {l : List Int} {j : Nat} (h : j < l.length) : l.getD j 0 ∈ l := List.mem_of_getElem? (getD_at0 h)
theorem dp_scv {K : PySem.W.Frag} {H : Hp} {v : V} (h : Sc v) : Dp K H v (pd v) := by
  cases h with
  | non => exact .non
  | int i => exact .int i
  | str z => exact .str z
theorem ExB.mut {a p : Addr} {H H' : Hp} {o : HO} (e : ExB a H H') (h : H p = none) : ExB a H (upd H' p o) := fun b u n hb => by
  rw [upd_ne (ne_of_none hb h)]
  exact e b u n hb
/-- x is not True, x a bool -/
def rIsntB : R2 := fun x y H Q => ∃ a b, x = .bl a ∧ y = .bl b ∧ Q (.bl (!decide (a = b))) H
theorem op_isntB {X : Cx} : OpR X (compareOp .IsNot) rIsntB := by
  intro pins s σ H x y v u Q I rx ry h
  obtain ⟨a, b, rfl, rfl, q⟩ := h
  cases (show v = Value.bool a from rx)
  cases (show u = Value.bool b from ry)
  by_cases e : a = b
  · subst e
    exact wpAny_isNot_self rfl ⟨.bl false, H, I, rfl, by simpa using q⟩
  · exact wpAny_isNot_other rfl (fun z => e (Value.bool.inj z)) ⟨.bl true, H, I, rfl, by simpa [e] using q⟩
theorem ev_isntB {σ : L2.St} {H : Hp} {te : TE} {a b : Bool} (h : Ev te σ H (.bl a)) : Ev (tOp rIsntB te (tC (.bl b))) σ H (.bl (!decide (a = b))) := fun H1 e Q q => h H1 e _ fun H2 e2 => ⟨a, b, rfl, rfl, q H2 e2⟩
theorem dpa_scs {K : PySem.W.Frag} {H : Hp} : ∀ {vs : List V}, (∀ x ∈ vs, Sc x) → DpAll K H vs (vs.map pd)
  | [], _ => .nil
  | x :: r, h => .cons (dp_scv (h x (List.mem_cons_self ..))) (dpa_scs fun y hy => h y (List.mem_cons_of_mem _ hy))
theorem LamTab.monoB {H H' : Hp} {P a : Addr} {pos : Pos} {q : Str} {xs : List V} (h : H a = some (.lst xs)) (e : ExB a H H') (t : LamTab H P pos q) : LamTab H' P pos q := by
  obtain ⟨c, h1, h2⟩ := t
  refine ⟨c, e _ _ (fun z => ?_) h1, e _ _ (fun z => ?_) h2⟩
  · rw [z, h] at h1
    cases h1
  · rw [z, h] at h2
    have h3 := Option.some.inj h2
    unfold LamX.CodeO at h3
    cases h3
/-- n of range three -/
theorem three_at (a b : Int) (k : Int) : ∃ n : Nat, ([.int (1 + a % 4), .int (1 + b % 12), .int 12] : List V)[(k % 3).toNat]? = some (.int (n : Int)) ∧ 1 ≤ n ∧ n ≤ 12 := by
  have h1 := Int.emod_nonneg k (by decide : (3 : Int) ≠ 0)
  have h2 := Int.emod_lt_of_pos k (by decide : (0 : Int) < 3)
  have hh : k % 3 = 0 ∨ k % 3 = 1 ∨ k % 3 = 2 := by omega
  rcases hh with e | e | e <;> rw [e]
  · exact ⟨(1 + a % 4).toNat, by rw [Int.toNat_of_nonneg (by omega)] <;> rfl, by omega, by omega⟩
  · exact ⟨(1 + b % 12).toNat, by rw [Int.toNat_of_nonneg (by omega)] <;> rfl, by omega, by omega⟩
  · exact ⟨12, rfl, by decide, by decide⟩
theorem ExB.ex {a : Addr} {H0 H H' : Hp} (n : H0 a = none) (e : Ex H0 H) (b : ExB a H H') : Ex H0 H' := fun x o hx => b x o (ne_of_none hx n) (e x o hx)
theorem ExB.xn {a : Addr} {H0 H H' : Hp} (n : H0 a = none) (e : LamX.ExtN H0 H) (b : ExB a H H') : LamX.ExtN H0 H' := fun x o hx ht => b x o (ne_of_none hx n) (e x o hx ht)


/-! ### behind x = a % b a token is out -/
theorem pss_modT {X : Cx} {i : Nat} {x : Str} {a b : Expr} {ta tb : TE} {rest : List Stmt} {u : TS} {pos pos' p2 : Pos} (hN : X.N.Nodup) (hi : X.N[i]? = some x) (hx : Loc X.env.scope x) (ha : PE X a ta) (hb : PE X b tb) (h2 : PSsT X rest u)
    (hs : swapsWith (.BinOp a .Mod b p2) (some (.Name x pos')) pos.line X.env = pure false := by rfl) (hf : X.fn x = true ∨ X.env.scope.names.lookup x = some .local := by first | exact .inl rfl | exact .inr rfl | assumption) :
    PSs X (.Assign [.Name x pos'] (.BinOp a .Mod b p2) pos :: rest) (tSeq (tAsg (tOp (rI (fun _ j => 0 < j) fun i j => .int (i % j)) ta tb) (gName i)) u) := by
  refine ⟨fun pins s σ H D I h => ?_⟩
  refine wpAny_execs_cons (wpAny_Assign_Name (wpAny_BinOp (binT ha hb I h fun v w s2 y z H2 I2 rx ry q => ?_)) hs)
  obtain ⟨n, m, rfl, rfl, hc, q⟩ := q
  obtain ⟨t1, rfl⟩ := rx
  obtain ⟨t2, rfl⟩ := ry
  have hc1 : (0 : Int) < m := hc
  refine mod_int' (by omega) ?_
  rw [Int.fmod_eq_emod_of_nonneg n (by omega)]
  refine wpAny_mono (PySem.wpAny_toks (store_ok (v := V.int (n % m)) (u := Value.int (n % m) s2.toks) (Q := fun _ s3 => Inv X pins (σ.set i (some (V.int (n % m)))) H2 s3) (I2.tok (s2.toks + 1)) hN hi hx ⟨s2.toks, rfl⟩ (fun _ I3 => I3) hf)) (fun _ s3 q3 => ?_) fun _ _ z => z.2
  have hk : s2.toks + 1 ≤ s3.toks := q3.1
  exact h2 pins s3 _ H2 D (by omega) q3.2 q
theorem pet_tup {X : Cx} {es : List Expr} {t : TA} {pos : Pos} {x1} (h : L2.PAT X es t) : L2.PET X (.Tuple es x1 pos) (tTup t) := by
  intro pins s σ H Q h0 I hq
  refine wpAny_Tuple_spliced (thn (h pos pins s σ H _ h0 I hq) fun us s1 ⟨xs, H1, I1, r, z, q⟩ => ⟨by rw [← r.length]; exact z, ?_⟩)
  have hf : H1 s1.heap.objs.size = none := I1.hok.fresh (Nat.le_refl _)
  refine ⟨.ref s1.heap.objs.size, upd H1 s1.heap.objs.size (.tup xs), I1.laid (t' := s1.toks) (fun b u e => Heap.get?_push_of_some _ e) (Nat.le_refl _) ?_, rfl, q _ hf⟩
  exact ⟨z, us, r, ⟨_, Heap.get?_push_size _ rfl, rfl, _, rfl⟩⟩
theorem pst_asg {X : Cx} {tg e : Expr} {te : TE} {g : TG} {pos : Pos} (he : L2.PET X e te) (hg : PG X tg g) (hs : swapsWithSole [tg] e pos.line X.env = pure false := by rfl) (hw : swappedStores [tg] e X.env = pure none := by rfl)
    (h1 : (assignEach [tg] X.env).map (·.2) = [assign tg X.env] := by rfl) : L2.PST X (.Assign [tg] e pos) (tAsg te g) := by
  intro pins s σ H D h0 I h
  refine wpAny_Assign_stores (thn (he pins s σ H _ h0 I h) fun v s1 ⟨x, H1, I1, r1, q1⟩ => ?_) hs hw
  rw [h1]
  exact thn (hg.run pins s1 σ H1 x v _ I1 r1 q1) fun _ s2 q => q
theorem ev_replM {σ : L2.St} {H : Hp} {to : TE} {x y z : Str} (h : Ev to σ H (.str x)) (hb : x.length + (x.length + 1) * z.length ≤ 16777216) : Ev (CwR.tReplC to y z) σ H (.str (Txt.replace x y z)) := fun H1 e Q q => h H1 e _ fun H2 e2 => ⟨x, rfl, hb, q H2 e2⟩
theorem psst_cut {X : Cx} {st : Stmt} {rest : List Stmt} {t u : TS} (h1 : L2.PST X st t) (h2 : L2.PSsT X rest u) : L2.PSsT X (st :: rest) (tCut t u) := by
  intro pins s σ H D h0 I h
  obtain ⟨Mid, hm, hu⟩ := h
  refine wpAny_execs_cons (wpAny_mono (PySem.wpAny_toks (h1 pins s σ H { D with nx := Mid } h0 I hm)) (fun f s1 q => ?_) fun _ _ x => x.2)
  obtain ⟨hk, q⟩ := q
  cases f with
  | next =>
    obtain ⟨σ', H', I', q⟩ := q
    exact h2 pins s1 σ' H' D (Nat.le_trans h0 hk) I' (hu σ' H' q)
  | ret v => exact q
  | brk => exact q
  | cont => exact q


/-! ### key and rest of a row -/
def valN (f : Fm) (us : List V) (z : Str) : V := (valAt f us z).getD .non
def restN (f : Fm) : List Str := (nmsF f).filter fun z => !decide (z ∈ f.ks)
def mixV (f : Fm) (g1 g2 : Str → V) (z : Str) : V := if z ∈ f.ks then g1 z else g2 z
def splitD (f : Fm) (us : List V) : PyData := .tuple [.tuple ((f.ks.map (valN f us)).map pd), .tuple (((restN f).map (valN f us)).map pd)]
theorem pd_dvV (v : V) (h : Sc v) : dvV (pd v) = v := by cases h <;> rfl
theorem valN_sc {f : Fm} {us : List V} {z : Str} (h : ∀ u ∈ us, Sc u) : Sc (valN f us z) := by
  unfold valN
  cases e : valAt f us z with
  | none => exact .non
  | some x =>
    unfold valAt at e
    obtain ⟨p, h1, rfl⟩ := Option.map_eq_some_iff.mp e
    exact h _ (List.of_mem_zip (List.mem_of_find?_eq_some h1)).2
theorem valN_at {f : Fm} {us : List V} (hn : (nmsF f).Nodup) (hl : us.length = f.cs.length) {k : Nat} {o : Co} {x : V} (ho : f.cs[k]? = some o) (hx : us[k]? = some x) : valN f us o.nm = x := by
  unfold valN
  rw [(valAt_at hn hl ho hx).2] <;> rfl
theorem us_map {f : Fm} {us : List V} (hn : (nmsF f).Nodup) (hl : us.length = f.cs.length) : (nmsF f).map (valN f us) = us := by
  refine List.ext_getElem? fun i => ?_
  unfold nmsF
  rw [List.getElem?_map, List.getElem?_map]
  by_cases hi : i < f.cs.length
  · obtain ⟨c, hc⟩ : ∃ c, f.cs[i]? = some c := ⟨_, List.getElem?_eq_getElem hi⟩
    obtain ⟨u, hu⟩ : ∃ u, us[i]? = some u := ⟨_, List.getElem?_eq_getElem (by omega)⟩
    rw [hc, hu]
    show some (valN f us c.nm) = some u
    rw [valN_at hn hl hc hu]
  · rw [List.getElem?_eq_none (by omega), List.getElem?_eq_none (by omega)] <;> rfl
theorem given_filterS {l : List Str} (p : Str → Bool) (g : Str → V) : given l.length (fun i => p (l.getD i "")) (fun i => g (l.getD i "")) = (l.filter p).map g := by
  unfold given
  have e : l = (List.range l.length).map fun i => l.getD i "" := by
    refine List.ext_getElem? fun i => ?_
    rw [List.getElem?_map]
    by_cases hi : i < l.length
    · rw [List.getElem?_range hi, List.getElem?_eq_getElem hi, Option.map_some, List.getD_eq_getElem?_getD, List.getElem?_eq_getElem hi] <;> rfl
    · rw [List.getElem?_eq_none (by omega), List.getElem?_eq_none (by rw [List.length_range]; omega)] <;> rfl
  conv => rhs; rw [e]
  rw [List.filter_map, List.map_map] <;> rfl
theorem merge_nd : ∀ (l acc : List (Key × V)), ((acc ++ l).map (·.1)).Nodup → mergeK acc l = acc ++ l
  | [], acc, _ => (List.append_nil acc).symm
  | p :: l, acc, h => by
    have hp : acc.any (fun kv => decide (kv.1 = p.1)) = false := by
      cases e : acc.any (fun kv => decide (kv.1 = p.1)) with
      | false => rfl
      | true =>
        obtain ⟨kv, h1, h2⟩ := List.any_eq_true.mp e
        rw [List.map_append, List.nodup_append] at h
        exact absurd (of_decide_eq_true h2) (h.2.2 kv.1 (List.mem_map.mpr ⟨kv, h1, rfl⟩) p.1 (List.mem_map.mpr ⟨p, List.mem_cons_self, rfl⟩))
    have hput : putK acc p.1 p.2 = acc ++ [p] := by
      unfold putK
      rw [if_neg (by rw [hp]; exact Bool.false_ne_true)]
    show mergeK (putK acc p.1 p.2) l = acc ++ (p :: l)
    rw [hput, merge_nd l (acc ++ [p]) (by rw [List.append_assoc]; exact h), List.append_assoc] <;> rfl
/-- a dict of values by names -/
def DN (H : Hp) (d : Addr) (ns : List Str) (g : Str → V) : Prop := ∃ kvs, H d = some (.dK kvs) ∧ ∀ z ∈ ns, valV kvs (Sum.inr z : Key) = some (g z)
theorem DN.mono {H H' : Hp} {d : Addr} {ns : List Str} {g : Str → V} (e : Ex H H') (h : DN H d ns g) : DN H' d ns g := by
  obtain ⟨kvs, h1, h2⟩ := h
  exact ⟨kvs, e _ _ h1, h2⟩
theorem dn_find {g : Str → V} {z : Str} : ∀ {ns : List Str}, z ∈ ns → valV (ns.map fun y => ((Sum.inr y : Key), g y)) (Sum.inr z : Key) = some (g z)
  | [], h => by cases h
  | y :: ns, h => by
    unfold valV
    rw [List.map_cons, List.find?_cons]
    by_cases e : y = z
    · subst e
      rw [decide_eq_true rfl] <;> rfl
    · rw [decide_eq_false fun h => e (Sum.inr.inj h)]
      exact dn_find ((List.mem_cons.mp h).resolve_left fun x => e x.symm)
theorem dn_zip {ns : List Str} {vs : List V} {g : Str → V} (hn : ns.Nodup) (hv : vs = ns.map g) {H : Hp} {d : Addr} (hd : H d = some (.dK (mergeK [] ((ns.map fun z => (Sum.inr z : Key)).zip vs)))) : DN H d ns g := by
  have ez : ((ns.map fun z => (Sum.inr z : Key)).zip vs) = ns.map fun y => ((Sum.inr y : Key), g y) := by
    rw [hv]
    exact List.zip_map' ..
  rw [ez, merge_nd _ [] ?_, List.nil_append] at hd
  · exact ⟨_, hd, fun z hz => dn_find hz⟩
  · rw [List.nil_append, List.map_map]
    exact List.pairwise_map.mpr (hn.imp fun h z => h (Sum.inr.inj z))
theorem ev_dn {σ : L2.St} {H : Hp} {d : Addr} {ns : List Str} {g : Str → V} {i j : Nat} {z : Str} (h : DN H d ns g) (hz : z ∈ ns) (s1 : σ[i]? = some (some (V.ref d))) (s3 : σ[j]? = some (some (V.str z))) : Ev (tDGet (tVar i) (tVar j)) σ H (g z) := fun H4 e4 Q4 q4 => by
  obtain ⟨kvs, h1, h2⟩ := h
  have gt := DGet.k (k := (Sum.inr z : Key)) (e4 _ _ h1)
  rw [h2 z hz] at gt
  exact ⟨_, s1, _, s3, d, _, rfl, gt, q4 H4 (Ex.refl H4)⟩
theorem dz_run2 {K : PySem.W.Frag} {ta : TA} {σ : L2.St} {H : Hp} {Q : VK} (k : ta σ H fun vs H1 => ∃ (a b : Addr) (ks : List Key) (ys : List V), vs = [.ref a, .ref b] ∧ SqT K H1 a (ks.map kV) ∧ SqT K H1 b ys ∧ ks.length = ys.length ∧ ys.length ≤ 1000 ∧ ∀ p, H1 p = none → Q (.ref p) (upd H1 p (.dK (mergeK [] (ks.zip ys))))) : tDictZip K ta σ H Q := k
theorem dzl_run {K : PySem.W.Frag} {ta : TA} {σ : L2.St} {H : Hp} {Q : VK} (k : ta σ H fun vs H1 => ∃ (a b : Addr) (ks : List Key) (ys : List V), vs = [.ref a, .ref b] ∧ SqL K H1 a (ks.map kV) ∧ SqT K H1 b ys ∧ ks.length = ys.length ∧ ys.length ≤ 1000 ∧ ∀ p, H1 p = none → Q (.ref p) (upd H1 p (.dK (mergeK [] (ks.zip ys))))) : tDictZipL K ta σ H Q := k
/-- a tuple of these values -/
def ETv (K : PySem.W.Frag) (te : TE) (σ : L2.St) (H : Hp) (xs : List V) : Prop := ∀ H1, Ex H H1 → ∀ Q : VK, (∀ a H2, Ex H1 H2 → SqT K H2 a xs → Q (.ref a) H2) → te σ H1 Q
theorem etv_ev {K : PySem.W.Frag} {te : TE} {σ : L2.St} {H : Hp} {a : Addr} {xs : List V} (h : Ev te σ H (.ref a)) (hx : SqT K H a xs) : ETv K te σ H xs := fun H1 e Q q => h H1 e _ fun H2 e2 => q a H2 e2 (ex_t (e.trans e2) hx)
theorem etv_u {K : PySem.W.Frag} {te : TE} {σ : L2.St} {H : Hp} {xs : List V} (h : EvU te σ H xs) : ETv K te σ H xs := fun H1 e Q q => h H1 e _ fun p H2 _ e2 hp => q p H2 e2 (st_of hp)
theorem etv_cat {K : PySem.W.Frag} {ta tb : TE} {σ : L2.St} {H : Hp} {xs ys : List V} (ha : ETv K ta σ H xs) (hb : ETv K tb σ H ys) (hz : xs.length + ys.length ≤ 100000) : ETv K (tOp (rCatA K) ta tb) σ H (xs ++ ys) := fun H1 e1 Q q =>
  ha H1 e1 _ fun a H2 e2 h2 => hb H2 (e1.trans e2) _ fun b H3 e3 h3 => ⟨a, b, xs, ys, rfl, rfl, ex_t e3 h2, h3, sz_of hz, fun hx => q b H3 (e2.trans e3) (by rw [hx]; exact h3), fun _ hy => q a H3 (e2.trans e3) (by rw [hy, List.append_nil]; exact ex_t e3 h2), fun _ _ r hr => q r _ ((e2.trans e3).trans (Ex.new hr)) (st_of upd_same)⟩
theorem etv_sl {K : PySem.W.Frag} {te : TE} {tl th : TO} {σ : L2.St} {H : Hp} {xs : List V} {lo hi : Option Int} (h : ETv K te σ H xs) (h1 : ∀ H1, Ex H H1 → EvO tl σ H1 lo) (h2 : ∀ H1, Ex H H1 → EvO th σ H1 hi) : ETv K (tSl (rSlA K) te tl th) σ H (cutV xs lo hi) := fun H1 e Q q =>
  h H1 e _ fun a H2 e2 ha => h1 H2 (e.trans e2) H2 (Ex.refl _) _ fun H3 e3 => h2 H3 ((e.trans e2).trans e3) H3 (Ex.refl _) _ fun H4 e4 => ⟨a, xs, rfl, ex_t (e3.trans e4) ha, fun z => q a H4 ((e2.trans e3).trans e4) (by
    have ew : cutV xs lo hi = xs := by
      unfold cutV
      rw [z.1, z.2, List.drop_zero, Nat.sub_zero, List.take_length]
    rw [ew]
    exact ex_t (e3.trans e4) ha), fun _ r hr => q r _ (((e2.trans e3).trans e4).trans (Ex.new hr)) (st_of upd_same)⟩
theorem s_retTv {K : PySem.W.Frag} {te : TE} {σ : L2.St} {H : Hp} {xs : List V} {D : Ends} (h : ETv K te σ H xs) (k : ∀ a H2, Ex H H2 → SqT K H2 a xs → D.rt (.ref a) H2) : tRet te D σ H := h H (Ex.refl H) _ k
theorem etv_run {K : PySem.W.Frag} {te : TE} {σ : L2.St} {H : Hp} {xs : List V} {Q : VK} (h : ETv K te σ H xs) (k : ∀ a H2, Ex H H2 → SqT K H2 a xs → Q (.ref a) H2) : te σ H Q := h H (Ex.refl H) _ k
theorem cutV_mem {xs : List V} {lo hi : Option Int} {x : V} (h : x ∈ cutV xs lo hi) : x ∈ xs := by
  unfold cutV at h
  exact List.mem_of_mem_drop (List.mem_of_mem_take h)
/-- what is known of a form -/
structure Fm.kn (f : Fm) : Prop where
  nd : (nmsF f).Nodup
  kd : f.ks.Nodup
  ki : ∀ z ∈ f.ks, z ∈ nmsF f
  l1 : f.cs.length ≤ 500
  l2 : f.ks.length ≤ 2
theorem restN_len (f : Fm) : (restN f).length ≤ f.cs.length := by
  unfold restN
  refine Nat.le_trans (List.length_filter_le _ _) ?_
  unfold nmsF
  rw [List.length_map]
  exact Nat.le_refl _
theorem restN_in {f : Fm} {z : Str} (h : z ∈ restN f) : z ∈ nmsF f ∧ z ∉ f.ks := by
  obtain ⟨h1, h2⟩ := List.mem_filter.mp h
  exact ⟨h1, by simpa using h2⟩
theorem nms_get {f : Fm} {k : Nat} {o : Co} (h : f.cs[k]? = some o) : (nmsF f).getD k "" = o.nm := by
  unfold nmsF
  rw [List.getD_eq_getElem?_getD, List.getElem?_map, h] <;> rfl
theorem nms_len (f : Fm) : (nmsF f).length = f.cs.length := by
  unfold nmsF
  rw [List.length_map]


section
variable {P : Program} {w : World} {K : PySem.W.Frag} {mg : Str → Option Value} {base : Heap}

/-! ### _law_cell -/
def cellZ (ns : List Int) (k : Nat) : Int := ns.getD k 0
def sp_cell (K : PySem.W.Frag) : Sp := fun vs H Q _ => ∃ (a : Addr) (ns : List Int) (k : Nat), vs = [.ref a, .int (k : Int)] ∧ SqL K H a (ns.map V.int) ∧ ∀ H', Ex H H' → Q (.int (cellZ ns k)) H'
theorem ok_law_cell (T : Txt K mg base) : FnOk P w K mg base CX0 1 T.f_law_cell T.d_law_cell ["script", "k"] (sp_cell K) := by
  refine T.F_law_cell.ok sc_law_cell (fun vs H Q E h => ?_) (fun cdv A outer s H vs Q E hr h => ?_)
  · obtain ⟨a, ns, k, rfl, _⟩ := h
    rfl
  · obtain ⟨a, ns, k, rfl, hS, q⟩ := h
    refine ⟨_, pss_cons (ps_if (pt_cmpR op_lt (pv 1) (pe_callB (r := rLenQ K) call_len_seq (by rfl) T.m_len (by decide +kernel) (pa_cons (pv 0) (pa_nil))) (nomark _))
      (pss_one (ps_ret (pe_ix (r := rIxL K) ix_list (pv 0) (pv 1) (fun _ _ => rfl))))
      (pss_nil))
      (pss_one (ps_ret (pe_int))), ?_⟩
    refine q_when (b := decide ((k : Int) < ((ns.map V.int).length : Int))) (et_test (ev_bin0 (ev_var rfl) (ev_lenQ (K := K) (ev_var rfl) hS))) (fun hb H1 e1 => ?_) (fun hb H1 e1 => ?_)
    · have hk : k < ns.length := by
        have := of_decide_eq_true hb
        rw [List.length_map] at this
        omega
      refine s_ret (ev_ixL (K := K) (ev_var rfl) (ev_var rfl) (ex_l e1 hS) (at_nat (v := .int (cellZ ns k)) ?_)) fun H2 e2 => q H2 (e1.trans e2)
      rw [List.getElem?_map, List.getElem?_eq_getElem hk]
      unfold cellZ
      rw [List.getD_eq_getElem?_getD, List.getElem?_eq_getElem hk] <;> rfl
    · have hk : ¬ k < ns.length := by
        have := of_decide_eq_false hb
        rw [List.length_map] at this
        omega
      have e0 : cellZ ns k = 0 := by
        unfold cellZ
        rw [List.getD_eq_getElem?_getD, List.getElem?_eq_none (by omega)] <;> rfl
      refine s_ret ev_c fun H2 e2 => ?_
      rw [e0] at q
      exact q H2 (e1.trans e2)
theorem cv_cell {a : Addr} {ns : List Int} {k : Nat} {H : Hp} (h : SqL K H a (ns.map V.int)) : SpV (sp_cell K) [.ref a, .int (k : Int)] H (.int (cellZ ns k)) := fun H1 e Q q E => ⟨a, ns, k, rfl, ex_l e h, fun H2 e2 => q H2 e2⟩
theorem Wd.cell {ns : List Int} (h : ∀ n ∈ ns, Wd n) (k : Nat) : Wd (cellZ ns k) := by
  unfold cellZ
  rw [List.getD_eq_getElem?_getD]
  cases e : ns[k]? with
  | none => exact Wd.lit (by decide)
  | some x => exact h x (List.mem_of_getElem? e)


/-! ### _law_draws -/
def drawMix (cell salt : Int) (k : Nat) : Int :=
  ((cell * 48271 + (salt * 97 + (k : Int)) * 69621) % 2147483647 / 8 * ((cell * 48271 + (salt * 97 + (k : Int)) * 69621) % 2147483647 % 50021 + 16807) + (k : Int)) % 998244353 / 11
def drawSt (cell salt base : Int) : Nat → Int × List Int
  | 0 => (if 10 ^ 18 ≤ cell then cell else 0, [])
  | k + 1 => if 0 < (drawSt cell salt base k).1 then ((drawSt cell salt base k).1 / base, (drawSt cell salt base k).2 ++ [(drawSt cell salt base k).1 % base]) else ((drawSt cell salt base k).1, (drawSt cell salt base k).2 ++ [drawMix cell salt k])
theorem drawSt_succ (cell salt base : Int) (k : Nat) : drawSt cell salt base (k + 1) = if 0 < (drawSt cell salt base k).1 then ((drawSt cell salt base k).1 / base, (drawSt cell salt base k).2 ++ [(drawSt cell salt base k).1 % base]) else ((drawSt cell salt base k).1, (drawSt cell salt base k).2 ++ [drawMix cell salt k]) := rfl
def draws (cell salt : Int) (count : Nat) (base : Int) : List Int := (drawSt cell salt base count).2
theorem drawSt_len (cell salt base : Int) : ∀ k, (drawSt cell salt base k).2.length = k
  | 0 => rfl
  | k + 1 => by
    have ih := drawSt_len cell salt base k
    rw [drawSt_succ]
    split <;> simp [ih]
theorem draws_len (cell salt : Int) (n : Nat) (base : Int) : (draws cell salt n base).length = n := drawSt_len cell salt base n
theorem drawMix_ge (cell salt : Int) (k : Nat) : 0 ≤ drawMix cell salt k ∧ drawMix cell salt k < 998244353 := by
  unfold drawMix
  generalize (((cell * 48271 + (salt * 97 + (k : Int)) * 69621) % 2147483647 / 8 * ((cell * 48271 + (salt * 97 + (k : Int)) * 69621) % 2147483647 % 50021 + 16807) + (k : Int))) = m
  omega
theorem drawSt_ok {cell salt base : Int} (hc : Wd cell) (hb : 0 < base) (hbw : Wd base) : ∀ k, Wd (drawSt cell salt base k).1 ∧ ∀ n ∈ (drawSt cell salt base k).2, 0 ≤ n ∧ Wd n
  | 0 => by
    refine ⟨?_, fun n hn => by cases hn⟩
    show Wd (if _ then _ else _)
    split
    · exact hc
    · exact Wd.lit (by decide)
  | k + 1 => by
    obtain ⟨h1, h2⟩ := drawSt_ok (salt := salt) hc hb hbw k
    rw [drawSt_succ]
    split
    · refine ⟨Wd.div h1, fun n hn => ?_⟩
      rcases List.mem_append.mp hn with e | e
      · exact h2 n e
      · rw [List.mem_singleton.mp e]
        exact ⟨Int.emod_nonneg _ (by omega), Wd.mod hb hbw⟩
    · refine ⟨h1, fun n hn => ?_⟩
      rcases List.mem_append.mp hn with e | e
      · exact h2 n e
      · rw [List.mem_singleton.mp e]
        have := drawMix_ge cell salt k
        exact ⟨this.1, Wd.small (by omega) (by omega)⟩
theorem draws_ok {cell salt base : Int} (hc : Wd cell) (hb : 0 < base) (hbw : Wd base) (n : Nat) : ∀ x ∈ draws cell salt n base, 0 ≤ x ∧ Wd x := (drawSt_ok hc hb hbw n).2
theorem drawSt_lt {cell salt base : Int} (hb : 0 < base) (hB : base ≤ 1000000000) : ∀ k, ∀ n ∈ (drawSt cell salt base k).2, 0 ≤ n ∧ n < 1000000000
  | 0 => fun n hn => by cases hn
  | k + 1 => by
    have h2 := drawSt_lt (cell := cell) (salt := salt) hb hB k
    rw [drawSt_succ]
    split
    · intro n hn
      rcases List.mem_append.mp hn with e | e
      · exact h2 n e
      · rw [List.mem_singleton.mp e]
        have a1 := Int.emod_nonneg (drawSt cell salt base k).1 (by omega : base ≠ 0)
        have a2 := Int.emod_lt_of_pos (drawSt cell salt base k).1 hb
        omega
    · intro n hn
      rcases List.mem_append.mp hn with e | e
      · exact h2 n e
      · rw [List.mem_singleton.mp e]
        have := drawMix_ge cell salt k
        omega
theorem draws_lt {cell salt base : Int} (hb : 0 < base) (hB : base ≤ 1000000000) (n : Nat) : ∀ x ∈ draws cell salt n base, 0 ≤ x ∧ x < 1000000000 := drawSt_lt hb hB n
def sp_draws (K : PySem.W.Frag) : Sp := fun vs H Q _ => ∃ (cell salt : Int) (count : Nat) (base : Int), vs = [.int cell, .int salt, .int (count : Int), .int base] ∧ Wd cell ∧ (-100000 ≤ salt ∧ salt ≤ 100000) ∧ count ≤ 90000 ∧ 0 < base ∧ base.natAbs.log2 < 9000 ∧
  ∀ p H', H p = none → Ex H H' → H' p = some (.lst ((draws cell salt count base).map V.int)) → Q (.ref p) H'
theorem cl_draws {cell salt base : Int} {count : Nat} {H : Hp} (h1 : Wd cell) (h2 : -100000 ≤ salt ∧ salt ≤ 100000) (h3 : count ≤ 90000) (h4 : 0 < base) (h5 : base.natAbs.log2 < 9000) :
    SpL (sp_draws K) [.int cell, .int salt, .int (count : Int), .int base] H ((draws cell salt count base).map V.int) := fun H1 e Q q E => ⟨cell, salt, count, base, rfl, h1, h2, h3, h4, h5, fun p H2 hp e2 hl => q p H2 hp e2 hl⟩
theorem ok_law_draws (T : Txt K mg base) : FnOk P w K mg base CX0 1 T.f_law_draws T.d_law_draws ["cell", "salt", "count", "base"] (sp_draws K) := by
  refine T.F_law_draws.ok sc_law_draws (fun vs H Q E h => ?_) (fun cdv A outer s H vs Q E hr h => ?_)
  · obtain ⟨cell, salt, count, base, rfl, _⟩ := h
    rfl
  · obtain ⟨cell, salt, count, b, rfl, hc, hs, hn, hb, hbl, q⟩ := h
    have hbw : Wd b := ⟨by omega⟩
    refine ⟨_, pss_cons (ps_set (i := 4) sc_law_draws.nd rfl (by first | exact Or.inl rfl | exact Or.inr rfl) (pe_int))
      (pss_cons (ps_if (pt_cmpR op_ge (pv 0) (pe_op op_pow (pe_int) (pe_int)) (nomark _))
      (pss_one (ps_set (i := 4) sc_law_draws.nd rfl (by first | exact Or.inl rfl | exact Or.inr rfl) (pv 0)))
      (pss_nil))
      (pss_cons (ps_set (i := 5) sc_law_draws.nd rfl (by first | exact Or.inl rfl | exact Or.inr rfl) (pe_lst (pa_nil)))
      (pss_cons (ps_for PassesOwn.never rfl (pi_range1 (by rfl) T.m_range (pa_cons (pv 2) (pa_nil))) (pg_name (i := 6) sc_law_draws.nd rfl (by first | exact Or.inl rfl | exact Or.inr rfl))
      (pss_one (ps_if (pt_cmpR op_gt (pv 4) (pe_int) (nomark _))
      (pss_cons (ps_expr (pe_bm PySem.F.plainAttrs_list PySem.F.slot_list_append PySem.F.type_list_append mt_append (pv 5) (pa_cons (pe_op op_mod (pe_callTy call_int1 (by rfl) T.m_int (by decide +kernel) (pa_cons (pv 4) (pa_nil))) (pv 3)) (pa_nil))))
      (pss_one (ps_set (i := 4) sc_law_draws.nd rfl (by first | exact Or.inl rfl | exact Or.inr rfl) (pe_op op_fdivW (pv 4) (pv 3)))))
      (pss_cons (ps_set (i := 7) sc_law_draws.nd rfl (by first | exact Or.inl rfl | exact Or.inr rfl) (pe_op op_mod (pe_callTy call_int1 (by rfl) T.m_int (by decide +kernel) (pa_cons (pe_op op_add (pe_op op_mulX (pv 0) (pe_int)) (pe_op op_mulX (pe_op op_add (pe_op op_mulX (pv 1) (pe_int)) (pv 6)) (pe_int))) (pa_nil))) (pe_int)))
      (pss_cons (ps_set (i := 7) sc_law_draws.nd rfl (by first | exact Or.inl rfl | exact Or.inr rfl) (pe_op op_mod (pe_callTy call_int1 (by rfl) T.m_int (by decide +kernel) (pa_cons (pe_op op_add (pe_op op_mulX (pe_op op_fdivW (pv 7) (pe_int)) (pe_op op_add (pe_op op_mod (pe_callTy call_int1 (by rfl) T.m_int (by decide +kernel) (pa_cons (pv 7) (pa_nil))) (pe_int)) (pe_int))) (pv 6)) (pa_nil))) (pe_int)))
      (pss_one (ps_expr (pe_bm PySem.F.plainAttrs_list PySem.F.slot_list_append PySem.F.type_list_append mt_append (pv 5) (pa_cons (pe_op op_fdivW (pv 7) (pe_int)) (pa_nil))))))))))
      (pss_one (ps_ret (pv 5)))))), ?_⟩
    refine q_asg ev_c fun H1 e1 => ?_
    refine q_ifAsg (v := .int (drawSt cell salt b 0).1) (b := decide (10 ^ 18 ≤ cell)) (et_test (ev_bin0 (j := 10 ^ 18) (ev_var rfl) (ev_is (ev_bin ev_c ev_c ⟨by decide, by decide, by decide⟩) (by decide)))) (fun h => ?_) (fun h => ?_) fun H2 e2 => ?_
    · have e0 : (drawSt cell salt b 0).1 = cell := if_pos (of_decide_eq_true h)
      rw [e0]
      exact ev_var rfl
    · have e0 : (drawSt cell salt b 0).1 = 0 := if_neg (of_decide_eq_false h)
      rw [e0]
      rfl
    refine q_asgL (el_lst ea_nil (by decide)) fun p H3 hp e3 h3 => ?_
    have hp0 : H p = none := fresh_back (e1.trans e2) hp
    refine q_forR1 (n := (count : Int)) (ea_cons (ev_var rfl) ea_nil) (by omega) (fun i σ' H' => ∃ kv mv : Option V, σ' = [some (.int cell), some (.int salt), some (.int (count : Int)), some (.int b), some (.int (drawSt cell salt b i).1), some (.ref p), kv, mv] ∧ Ex H H' ∧ H' p = some (.lst ((drawSt cell salt b i).2.map V.int)))
      (fun H4 e4 => ⟨none, none, rfl, ((e1.trans e2).trans e3).trans e4, e4 p _ h3⟩) (fun i σ' H' hi hP => ?_) (fun σ' H' hP => ?_)
    · obtain ⟨kv, mv, rfl, eH, hl⟩ := hP
      have hW := (drawSt_ok (salt := salt) hc hb hbw i).1
      have hz : ((drawSt cell salt b i).2.map V.int).length < 100000 := by
        rw [List.length_map, drawSt_len]
        omega
      refine s_if (b := decide (0 < (drawSt cell salt b i).1)) (et_test (ev_bin0 (ev_var rfl) ev_c)) (fun h H1 e1 => ?_) (fun h H1 e1 => ?_)
      · have e0 : drawSt cell salt b (i + 1) = ((drawSt cell salt b i).1 / b, (drawSt cell salt b i).2 ++ [(drawSt cell salt b i).1 % b]) := if_pos (of_decide_eq_true h)
        refine q_app (K := K) (e1 p _ hl) (ev_var rfl) (ev_bin (ev_intI (ev_var rfl)) (ev_var rfl) hb) hz fun H2 e2 => ?_
        refine s_asg (ev_bin (ev_var rfl) (ev_var rfl) ⟨hb, hbl⟩) fun H3 e3 => ⟨some (.int (i : Int)), mv, ?_, (((eH.trans e1).trans e2).mut hp0).trans e3, ?_⟩
        · rw [e0]; rfl
        · rw [e3 p _ upd_same, e0, List.map_append] <;> rfl
      · have e0 : drawSt cell salt b (i + 1) = ((drawSt cell salt b i).1, (drawSt cell salt b i).2 ++ [drawMix cell salt i]) := if_neg (of_decide_eq_false h)
        have hm := Int.emod_nonneg (cell * 48271 + (salt * 97 + (i : Int)) * 69621) (by decide : (2147483647 : Int) ≠ 0)
        have hm2 := Int.emod_lt_of_pos (cell * 48271 + (salt * 97 + (i : Int)) * 69621) (by decide : (0 : Int) < 2147483647)
        refine q_asg (v := .int ((cell * 48271 + (salt * 97 + (i : Int)) * 69621) % 2147483647)) (ev_bin (ev_intI (ev_bin0 (ev_bin (ev_var rfl) ev_c (Wd.mul hc (Wd.lit (by decide)))) (ev_bin (ev_bin0 (ev_bin (ev_var rfl) ev_c (Wd.mul (Wd.small (by omega) (by omega)) (Wd.lit (by decide)))) (ev_var rfl)) ev_c (Wd.mul (Wd.small (by omega) (by omega)) (Wd.lit (by decide)))))) ev_c (by decide)) fun H2 e2 => ?_
        refine q_asg (v := .int (((cell * 48271 + (salt * 97 + (i : Int)) * 69621) % 2147483647 / 8 * ((cell * 48271 + (salt * 97 + (i : Int)) * 69621) % 2147483647 % 50021 + 16807) + (i : Int)) % 998244353)) (ev_bin (ev_intI (ev_bin0 (ev_bin (ev_bin (ev_var rfl) ev_c ⟨by decide, by decide⟩) (ev_bin0 (ev_bin (ev_intI (ev_var rfl)) ev_c (by decide)) ev_c) (Wd.mul (Wd.div (Wd.small (by omega) (by omega))) (Wd.small (by omega) (by omega)))) (ev_var rfl))) ev_c (by decide)) fun H3 e3 => ?_
        refine s_app (K := K) (((e1.trans e2).trans e3) p _ hl) (ev_var rfl) (v := .int (drawMix cell salt i)) (ev_bin (ev_var rfl) ev_c ⟨by decide, by decide⟩) hz fun H4 e4 => ⟨some (.int (i : Int)), some (.int (((cell * 48271 + (salt * 97 + (i : Int)) * 69621) % 2147483647 / 8 * ((cell * 48271 + (salt * 97 + (i : Int)) * 69621) % 2147483647 % 50021 + 16807) + (i : Int)) % 998244353)), ?_, ((((eH.trans e1).trans e2).trans e3).trans e4).mut hp0, ?_⟩
        · rw [e0]; rfl
        · rw [upd_same, e0, List.map_append] <;> rfl
    · obtain ⟨kv, mv, rfl, eH, hl⟩ := hP
      have ec : (count : Int).toNat = count := by omega
      rw [ec] at hl
      exact s_ret (ev_var rfl) fun H1 e1 => q p H1 hp0 (eH.trans e1) (e1 p _ hl)


/-! ### _law_name -/
def spNameS : Sp := fun vs H Q _ => ∃ c : Int, vs = [.int c] ∧ Wd c ∧ ∀ (z : Str) H', Ex H H' → Nm 12 z → Q (.str z) H'
theorem ok_law_name (T : Txt K mg base) : FnOk P w K mg base CX0 2 T.f_law_name T.d_law_name ["cell"] spNameS := by
  refine T.F_law_name.ok sc_law_name (fun vs H Q E h => ?_) (fun cdv A outer s H vs Q E hr h => ?_)
  · obtain ⟨c, rfl, _⟩ := h
    rfl
  · obtain ⟨c, rfl, hW, q⟩ := h
    refine ⟨_, pss_cons (ps_set (i := 1) sc_law_name.nd rfl (by first | exact Or.inl rfl | exact Or.inr rfl) (pe_str))
      (pss_cons (ps_set (i := 2) sc_law_name.nd rfl (by first | exact Or.inl rfl | exact Or.inr rfl) (pe_ix (r := rIxL K) ix_list (pe_lst (pa_cons (pe_int) (pa_cons (pe_int) (pa_cons (pe_int) (pa_cons (pe_int) (pa_cons (pe_int) (pa_cons (pe_int) (pa_cons (pe_int) (pa_cons (pe_op op_add (pe_int) (pe_op op_mod (pe_callTy call_int1 (by rfl) T.m_int (by decide +kernel) (pa_cons (pe_op op_fdivW (pv 0) (pe_int)) (pa_nil))) (pe_int))) (pa_nil)))))))))) (pe_op op_mod (pe_callTy call_int1 (by rfl) T.m_int (by decide +kernel) (pa_cons (pv 0) (pa_nil))) (pe_int)) (fun _ _ => rfl)))
      (pss_one (ps_ret (pe_join (pe_str) (pe_lc (own := [("number", 3)]) (g := gName 3) (tt := tYes) rfl sc_law_name.nd (pi_list (pe_call (ok_law_draws T) (hr.mono (by first | decide | omega)) (by rfl) T.g_law_draws T.F_law_draws.kp T.b_law_draws .nil pass0 (pa_cons (pe_op op_fdivW (pv 0) (pe_int)) (pa_cons (pe_int) (pa_cons (pv 2) (pa_cons (pe_int) (pa_nil))))))) (blkOk_by (N := ["cell", "letters", "length", "number"]) (sc := defScope s_law_name) (by decide +kernel)) (fun _ _ _ _ _ => pg_name (i := 3) sc_law_name.nd rfl (Or.inl rfl)) (fun _ _ _ _ _ => pts_nil) (fun _ _ _ _ _ => pe_ix ix_str (pv 1) (pe_op op_mod (pe_callTy call_int1 (by rfl) T.m_int (by decide +kernel) (pa_cons (pv 3) (pa_nil))) (pe_int)) (fun _ _ => rfl))))))), ?_⟩
    refine q_asg ev_c fun H1 e1 => ?_
    have h1 := Int.emod_nonneg c (by decide : (8 : Int) ≠ 0)
    have h2 := Int.emod_lt_of_pos c (by decide : (0 : Int) < 8)
    obtain ⟨n, hn, hn1, hn2⟩ : ∃ n : Nat, ([.int 1, .int 1, .int 2, .int 2, .int 3, .int 5, .int 12, .int (1 + c / 8 % 12)] : List V)[(c % 8).toNat]? = some (.int (n : Int)) ∧ 1 ≤ n ∧ n ≤ 12 := by
      have hh : c % 8 = 0 ∨ c % 8 = 1 ∨ c % 8 = 2 ∨ c % 8 = 3 ∨ c % 8 = 4 ∨ c % 8 = 5 ∨ c % 8 = 6 ∨ c % 8 = 7 := by omega
      rcases hh with e | e | e | e | e | e | e | e <;> rw [e]
      · exact ⟨1, rfl, by decide, by decide⟩
      · exact ⟨1, rfl, by decide, by decide⟩
      · exact ⟨2, rfl, by decide, by decide⟩
      · exact ⟨2, rfl, by decide, by decide⟩
      · exact ⟨3, rfl, by decide, by decide⟩
      · exact ⟨5, rfl, by decide, by decide⟩
      · exact ⟨12, rfl, by decide, by decide⟩
      · refine ⟨(1 + c / 8 % 12).toNat, ?_, by omega, by omega⟩
        rw [Int.toNat_of_nonneg (by omega)] <;> rfl
    refine q_asg (v := .int (n : Int)) (ev_ixN (el_lst (ea_cons ev_c (ea_cons ev_c (ea_cons ev_c (ea_cons ev_c (ea_cons ev_c (ea_cons ev_c (ea_cons ev_c (ea_cons (ev_bin0 ev_c (ev_bin (ev_intI (ev_bin (ev_var rfl) ev_c ⟨by decide, by decide⟩)) ev_c (by decide))) ea_nil)))))))) (by show 8 ≤ 100000; decide)) (fun H2 e2 => ev_bin (ev_intI (ev_var rfl)) ev_c (by decide)) (atI_of h1 hn)) fun H2 e2 => ?_
    refine s_ret (v := .str (mkS ((draws (c / 8) 3 n 26).map fun m => alphaZ.getD (m % 26).toNat 0))) (ev_joinS (K := K) ?_ (by rw [List.length_map, draws_len]; omega)) fun H3 e3 => q _ _ ((e1.trans e2).trans e3) ⟨?_, ?_, fun x hx => ?_⟩
    · rw [List.map_map]
      refine el_mapN (K := K) (el_call (ea_cons (ev_bin (ev_var rfl) ev_c ⟨by decide, by decide⟩) (ea_cons ev_c (ea_cons (ev_var rfl) (ea_cons ev_c ea_nil)))) (cl_draws (Wd.div hW) (by decide) (by omega) (by decide) (by decide))) (by rw [draws_len]; omega) (fun x => rfl) fun m _ H5 e5 => ev_letter (ev_var rfl) (ev_bin (ev_intI (ev_var rfl)) ev_c (by decide)) (by omega)
    · rw [mkS_len, List.length_map, draws_len]; omega
    · rw [mkS_len, List.length_map, draws_len]; omega
    · obtain ⟨m, _, rfl⟩ := List.mem_map.mp hx
      exact alpha_at _ (by omega)


/-! ### _law_names -/
/-- a candidate -/
def cand (i : Nat) : Str := (⟨#[alphaZ.getD ((i : Int) / 26).toNat 0]⟩ : Str) ++ (⟨#[alphaZ.getD ((i : Int) % 26).toNat 0]⟩ : Str)
theorem cand_nd : ((List.range 99).map cand).Nodup := by decide +kernel
theorem pigeonS : ∀ (l K : List Str), l.Nodup → (∀ z ∈ l, z ∈ K) → l.length ≤ K.length
  | [], K, _, _ => Nat.zero_le _
  | x :: r, K, hn, hs => by
    obtain ⟨hx, hr⟩ := List.nodup_cons.mp hn
    have hk := hs x List.mem_cons_self
    have ih := pigeonS r (K.erase x) hr fun z hz => (List.mem_erase_of_ne fun (e : z = x) => hx (e ▸ hz)).mpr (hs z (List.mem_cons_of_mem _ hz))
    rw [List.length_erase_of_mem hk] at ih
    have := List.length_pos_of_mem hk
    show r.length + 1 ≤ K.length
    omega
def spNamesD (K : PySem.W.Frag) : Sp := fun vs H Q _ => ∃ (p : Addr) (cs : List Int), vs = [.ref p] ∧ SqL K H p (cs.map V.int) ∧ cs.length ≤ 12 ∧ (∀ c ∈ cs, Wd c) ∧ ∀ q' (zs : List Str) H', H q' = none → Ex H H' → H' q' = some (.lst (zs.map V.str)) → zs.length = cs.length → (∀ z ∈ zs, Nm 12 z) → zs.Nodup → Q (.ref q') H'
theorem ok_law_names (T : Txt K mg base) : FnOk P w K mg base CX0 3 T.f_law_names T.d_law_names ["cells"] (spNamesD K) := by
  refine T.F_law_names.ok sc_law_names (fun vs H Q E h => ?_) (fun cdv A outer s H vs Q E hr h => ?_)
  · obtain ⟨p, cs, rfl, _⟩ := h
    rfl
  · obtain ⟨p, cs, rfl, hS, hl, hW, q⟩ := h
    refine ⟨_, pss_cons (ps_set (i := 1) sc_law_names.nd rfl (by first | exact Or.inl rfl | exact Or.inr rfl) (pe_str))
      (pss_cons (ps_set (i := 2) sc_law_names.nd rfl (by first | exact Or.inl rfl | exact Or.inr rfl) (pe_lst (pa_nil)))
      (pss_cons (ps_for PassesOwn.never rfl (pi_list (pv 0)) (pg_name (i := 3) sc_law_names.nd rfl (by first | exact Or.inl rfl | exact Or.inr rfl))
      (pss_cons (ps_set (i := 4) sc_law_names.nd rfl (by first | exact Or.inl rfl | exact Or.inr rfl) (pe_op op_mod (pe_callTy call_int1 (by rfl) T.m_int (by decide +kernel) (pa_cons (pv 3) (pa_nil))) (pe_int)))
      (pss_cons (ps_set (i := 5) sc_law_names.nd rfl (by first | exact Or.inl rfl | exact Or.inr rfl) (pe_op op_fdivW (pv 3) (pe_int)))
      (pss_cons (ps_set (i := 6) sc_law_names.nd rfl (by first | exact Or.inl rfl | exact Or.inr rfl) (pe_call (ok_law_name T) (hr.mono (by first | decide | omega)) (by rfl) T.g_law_name T.F_law_name.kp T.b_law_name .nil pass0 (pa_cons (pv 5) (pa_nil))))
      (pss_cut (ps_if (PW.pt (pw_and (pt_truth (pv 2) (by intro _; rfl)) (pw_and (pt_cmpR op_eq (pv 4) (pe_int) (nomark _)) (pw_and1 (pt_cmpR op_lt (pe_callB call_len_str (by rfl) T.m_len (by decide +kernel) (pa_cons (pe_ix (r := rIxL K) ix_list (pv 2) (pe_un un_neg (pe_int)) (fun _ _ => rfl)) (pa_nil))) (pe_int) (nomark _))))))
      (pss_one (ps_set (i := 6) sc_law_names.nd rfl (by first | exact Or.inl rfl | exact Or.inr rfl) (pe_op op_add_str (pe_ix (r := rIxL K) ix_list (pv 2) (pe_un un_neg (pe_int)) (fun _ _ => rfl)) (pe_ix ix_str (pv 1) (pe_op op_mod (pe_callTy call_int1 (by rfl) T.m_int (by decide +kernel) (pa_cons (pv 5) (pa_nil))) (pe_int)) (fun _ _ => rfl)))))
      (pss_nil))
      (pss_cut (ps_if (PW.pt (pw_and (pt_truth (pv 2) (by intro _; rfl)) (pw_and1 (pt_cmpR op_eq (pv 4) (pe_int) (nomark _)))))
      (pss_cons (ps_set (i := 7) sc_law_names.nd rfl (by first | exact Or.inl rfl | exact Or.inr rfl) (pe_op op_mod (pe_callTy call_int1 (by rfl) T.m_int (by decide +kernel) (pa_cons (pv 5) (pa_nil))) (pe_callB call_len_str (by rfl) T.m_len (by decide +kernel) (pa_cons (pe_ix (r := rIxL K) ix_list (pv 2) (pe_un un_neg (pe_int)) (fun _ _ => rfl)) (pa_nil)))))
      (pss_one (ps_set (i := 6) sc_law_names.nd rfl (by first | exact Or.inl rfl | exact Or.inr rfl) (pe_op op_add_str (pe_op op_add_str (pe_slice sl_str (pe_ix (r := rIxL K) ix_list (pv 2) (pe_un un_neg (pe_int)) (fun _ _ => rfl)) (po_none) (po_some (pv 7))) (pe_ix ix_str (pv 1) (pe_op op_mod (pe_callTy call_int1 (by rfl) T.m_int (by decide +kernel) (pa_cons (pe_op op_fdivW (pv 5) (pe_int)) (pa_nil))) (pe_int)) (fun _ _ => rfl))) (pe_slice sl_str (pe_ix (r := rIxL K) ix_list (pv 2) (pe_un un_neg (pe_int)) (fun _ _ => rfl)) (po_some (pe_op op_add (pv 7) (pe_int))) (po_none))))))
      (pss_nil))
      (pss_cons (ps_for PassesOwn.never rfl (pi_range1 (by rfl) T.m_range (pa_cons (pe_int) (pa_nil))) (pg_name (i := 8) sc_law_names.nd rfl (by first | exact Or.inl rfl | exact Or.inr rfl))
      (pss_one (ps_if (pt_cmpR (r := rIn K false) op_in_seq (pv 6) (pv 2) (by rfl))
      (pss_one (ps_set (i := 6) sc_law_names.nd rfl (by first | exact Or.inl rfl | exact Or.inr rfl) (pe_op op_add_str (pe_ix ix_str (pv 1) (pe_op op_fdivW (pv 8) (pe_int)) (fun _ _ => rfl)) (pe_ix ix_str (pv 1) (pe_op op_mod (pe_callTy call_int1 (by rfl) T.m_int (by decide +kernel) (pa_cons (pv 8) (pa_nil))) (pe_int)) (fun _ _ => rfl)))))
      (pss_nil))))
      (pss_one (ps_expr (pe_bm PySem.F.plainAttrs_list PySem.F.slot_list_append PySem.F.type_list_append mt_append (pv 2) (pa_cons (pv 6) (pa_nil))))))))))))
      (pss_one (ps_ret (pv 2))))), ?_⟩
    refine q_asg ev_c fun H1 e1 => ?_
    refine q_asgL (xs := []) (el_lst ea_nil (by decide)) fun nl H2 n2 e2 h2 => ?_
    have E2 := e1.trans e2
    refine q_forLn (K := K) (xs := cs.map V.int) (ev_var rfl) (ex_l E2 hS) (fun i σ' H' => ∃ (zs : List Str) (x3 x4 x5 x6 x7 x8 : Option V), σ' = [some (.ref p), some (.str (Str.ofString "abcdefghijklmnopqrstuvwxyz")), some (.ref nl), x3, x4, x5, x6, x7, x8] ∧ H' nl = some (.lst (zs.map V.str)) ∧ zs.length = i ∧ (∀ z ∈ zs, Nm 12 z) ∧ zs.Nodup ∧ Ex H1 H') (fun H3 e3 => ⟨[], _, _, _, _, _, _, rfl, e3 _ _ h2, rfl, (fun z hz => nomatch hz), List.nodup_nil, e2.trans e3⟩) (fun i σ' H' _ hP => ?_) (fun i x σ' H' hi hP => ?_) (fun σ' H' hP => ?_)
    · obtain ⟨zs, x3, x4, x5, x6, x7, x8, rfl, _, _, _, _, eH⟩ := hP
      exact ex_l (e1.trans eH) hS
    · obtain ⟨zs, x3, x4, x5, x6, x7, x8, rfl, hn, hzl, hz, hnd, eH⟩ := hP
      obtain ⟨c, hc, rfl⟩ := List.mem_map.mp (List.mem_of_getElem? hi)
      have hWc := hW c hc
      have m0 := Int.emod_nonneg (c / 4) (by decide : (26 : Int) ≠ 0)
      have m1 := Int.emod_lt_of_pos (c / 4) (by decide : (0 : Int) < 26)
      have m2 := Int.emod_nonneg (c / 4 / 12) (by decide : (26 : Int) ≠ 0)
      have m3 := Int.emod_lt_of_pos (c / 4 / 12) (by decide : (0 : Int) < 26)
      refine q_asg (ev_bin (ev_intI (ev_var rfl)) ev_c (by decide)) fun H3 e3 => ?_
      refine q_asg (ev_bin (ev_var rfl) ev_c ⟨by decide, by decide⟩) fun H4 e4 => ?_
      refine q_asgS (R := Nm 12) (fun H5 e5 Q q => ⟨_, rfl, c / 4, rfl, Wd.div hWc, fun z H6 e6 hz => q z H6 e6 hz⟩) fun z5 H5 e5 hz5 => ?_
      have E5 := (e3.trans e4).trans e5
      have nn : ∀ {H6}, Ex H5 H6 → SqL K H6 nl (zs.map V.str) := fun e6 => sq_of ((E5.trans e6) _ _ hn)
      refine q_cut (M := fun σ' H' => ∃ z : Str, σ' = [some (.ref p), some (.str (Str.ofString "abcdefghijklmnopqrstuvwxyz")), some (.ref nl), some (.int c), some (.int (c % 4)), some (.int (c / 4)), some (.str z), x7, x8] ∧ Nm 12 z ∧ Ex H5 H') ?_ fun σ' H' hM => ?_
      · rcases List.eq_nil_or_concat zs with rfl | ⟨zi, zl, ez⟩
        · exact s_when (b := false) (et_andF (et_is (et_lst (K := K) (ev_var rfl) fun H6 e6 => nn e6) rfl)) (fun z => nomatch z) fun _ H6 e6 => ⟨z5, rfl, hz5, e6⟩
        · rw [List.concat_eq_append] at ez
          subst ez
          have last : ∀ {H6 : Hp} {σ : L2.St}, Ex H5 H6 → σ[2]? = some (some (V.ref nl)) → Ev (tOp (rIxL K) (tVar 2) (tUn (rU fun i => V.int (-i)) (tC (V.int 1)))) σ H6 (.str zl) := fun {H6 σ} e6 hσ => ev_ixL (K := K) (ev_var hσ) (ev_neg ev_c) (nn e6) (by rw [List.map_append]; exact atI_last _ _)
          have hzl2 : Nm 12 zl := hz zl (List.mem_append.mpr (.inr (List.mem_singleton.mpr rfl)))
          have hzl3 := hzl2.2.1
          refine s_when (et_and (et_is (et_lst (K := K) (ev_var rfl) fun H6 e6 => nn e6) rfl) fun _ => et_and (et_test (ev_eqI (ev_var rfl) ev_c)) fun _ => et_test (ev_bin0 (ev_lenB (last (Ex.refl H5) rfl) (by omega)) ev_c)) (fun hb H6 e6 => ?_) (fun hb H6 e6 => ⟨z5, rfl, hz5, e6⟩)
          simp only [Bool.and_eq_true, decide_eq_true_eq] at hb
          have hlt : (zl.length : Int) < 12 := hb.2.2
          have o1 := Nm.one ⟨m0, m1⟩
          have o2 := o1.2.1
          refine s_asg (ev_addS (last e6 rfl) (ev_letter (ev_var rfl) (ev_bin (ev_intI (ev_var rfl)) ev_c (by decide)) ⟨m0, m1⟩) (by omega)) fun H7 e7 => ⟨_, rfl, ?_, e6.trans e7⟩
          have hzl4 : Nm 11 zl := ⟨hzl2.1, by omega, hzl2.2.2⟩
          exact hzl4.app ⟨o1.tx, o1.2.2⟩
      · obtain ⟨z6, rfl, hz6, eM⟩ := hM
        refine q_cut (M := fun σ' H' => ∃ (z : Str) (x7 : Option V), σ' = [some (.ref p), some (.str (Str.ofString "abcdefghijklmnopqrstuvwxyz")), some (.ref nl), some (.int c), some (.int (c % 4)), some (.int (c / 4)), some (.str z), x7, x8] ∧ Nm 12 z ∧ Ex H5 H') ?_ fun σ' H' hM => ?_
        · rcases List.eq_nil_or_concat zs with rfl | ⟨zi, zl, ez⟩
          · exact s_when (b := false) (et_andF (et_is (et_lst (K := K) (ev_var rfl) fun H6 e6 => nn (eM.trans e6)) rfl)) (fun z => nomatch z) fun _ H6 e6 => ⟨z6, _, rfl, hz6, eM.trans e6⟩
          · rw [List.concat_eq_append] at ez
            subst ez
            have last : ∀ {H6 : Hp} {σ : L2.St}, Ex H5 H6 → σ[2]? = some (some (V.ref nl)) → Ev (tOp (rIxL K) (tVar 2) (tUn (rU fun i => V.int (-i)) (tC (V.int 1)))) σ H6 (.str zl) := fun {H6 σ} e6 hσ => ev_ixL (K := K) (ev_var hσ) (ev_neg ev_c) (nn e6) (by rw [List.map_append]; exact atI_last _ _)
            have hzl2 : Nm 12 zl := hz zl (List.mem_append.mpr (.inr (List.mem_singleton.mpr rfl)))
            have hzl3 := hzl2.2.1
            refine s_when (et_and (et_is (et_lst (K := K) (ev_var rfl) fun H6 e6 => nn (eM.trans e6)) rfl) fun _ => et_test (ev_eqI (ev_var rfl) ev_c)) (fun hb H6 e6 => ?_) (fun hb H6 e6 => ⟨z6, _, rfl, hz6, eM.trans e6⟩)
            have E6 := eM.trans e6
            have hpos : (0 : Int) < (zl.length : Int) := by have := hzl2.1; omega
            have p0 := Int.emod_nonneg (c / 4) (by omega : (zl.length : Int) ≠ 0)
            have p1 := Int.emod_lt_of_pos (c / 4) hpos
            refine q_asg (ev_bin (ev_intI (ev_var rfl)) (ev_lenB (last E6 rfl) (by omega)) hpos) fun H7 e7 => ?_
            obtain ⟨m, hm⟩ : ∃ m : Nat, c / 4 % (zl.length : Int) = (m : Int) := ⟨_, (Int.toNat_of_nonneg p0).symm⟩
            rw [hm] at p1 ⊢
            have o1 := Nm.one ⟨m2, m3⟩
            have o2 := o1.2.1
            have hsp := hzl2.spoil (p := m) (by omega) o1
            have l1 := cutS_length zl none (some (m : Int))
            have l2 := cutS_length zl (some ((m + 1 : Nat) : Int)) none
            have l4 : (cutS zl none (some (m : Int)) ++ (⟨#[alphaZ.getD (c / 4 / 12 % 26).toNat 0]⟩ : Str)).length ≤ 100 := by
              rw [str_len, codes_app rfl rfl, List.length_append, ← str_len, ← str_len]
              omega
            exact s_asg (ev_addS (ev_addS (ev_slS (last (E6.trans e7) rfl) eo_none (eo_some (ev_var rfl)) (by omega)) (ev_letter (ev_var rfl) (ev_bin (ev_intI (ev_bin (ev_var rfl) ev_c ⟨by decide, by decide⟩)) ev_c (by decide)) ⟨m2, m3⟩) (by omega)) (ev_slS (last (E6.trans e7) rfl) (eo_some (ev_is (ev_bin0 (ev_var rfl) ev_c) (congrArg V.int (show (m : Int) + 1 = ((m + 1 : Nat) : Int) by omega)))) eo_none (by omega)) (by omega)) fun H8 e8 => ⟨_, _, rfl, hsp, (E6.trans e7).trans e8⟩
        · obtain ⟨z7, y7, rfl, hz7, eN⟩ := hM
          refine q_forR1 (n := 100) (ea_cons ev_c ea_nil) (by decide) (fun i σ' H' => ∃ (z : Str) (x8 : Option V), σ' = [some (.ref p), some (.str (Str.ofString "abcdefghijklmnopqrstuvwxyz")), some (.ref nl), some (.int c), some (.int (c % 4)), some (.int (c / 4)), some (.str z), y7, x8] ∧ Nm 12 z ∧ (z ∉ zs ∨ ((∀ j : Nat, j + 1 < i → cand j ∈ zs) ∧ (0 < i → z = cand (i - 1)))) ∧ Ex H5 H') (fun H6 e6 => ⟨z7, _, rfl, hz7, .inr ⟨fun j hj => by omega, fun h => by omega⟩, eN.trans e6⟩) (fun i σ' H' hi hP => ?_) (fun σ' H' hP => ?_)
          · obtain ⟨z8, y8, rfl, hz8, hc8, eP⟩ := hP
            refine s_when (b := decide (z8 ∈ zs)) (et_is (et_test (ev_inStrs (K := K) (ev_var rfl) (ev_var rfl) (nn eP))) (by rw [inS_mem])) (fun hb H6 e6 => ?_) (fun hb H6 e6 => ⟨_, _, rfl, hz8, .inl (of_decide_eq_false hb), eP.trans e6⟩)
            have hmem := of_decide_eq_true hb
            have all : ∀ j : Nat, j < i → cand j ∈ zs := fun j hj => by
              rcases hc8 with h | ⟨h1, h2⟩
              · exact absurd hmem h
              · by_cases hji : j + 1 < i
                · exact h1 j hji
                · have : j = i - 1 := by omega
                  rw [this, ← h2 (by omega)]
                  exact hmem
            have l1 := Nm.one (i := (i : Int) / 26) (by omega)
            have l2 := Nm.one (i := (i : Int) % 26) (by omega)
            have l3 := l1.2.1
            have l4 := l2.2.1
            exact s_asg (ev_addS (ev_letter (ev_var rfl) (ev_bin (ev_var rfl) ev_c ⟨by decide, by decide⟩) (by omega)) (ev_letter (ev_var rfl) (ev_bin (ev_intI (ev_var rfl)) ev_c (by decide)) (by omega)) (by omega)) fun H7 e7 => ⟨_, _, rfl, (l1.app ⟨l2.tx, l2.2.2⟩).mono (by decide), .inr ⟨fun j hj => all j (by omega), fun _ => rfl⟩, (eP.trans e6).trans e7⟩
          · obtain ⟨z8, y8, rfl, hz8, hc8, eP⟩ := hP
            have hz12 : zs.length < cs.length := by
              have := (List.getElem?_eq_some_iff.mp hi).1
              rw [List.length_map] at this
              omega
            have hnew : z8 ∉ zs := by
              rcases hc8 with h | ⟨h, _⟩
              · exact h
              · exfalso
                have := pigeonS ((List.range 99).map cand) zs cand_nd fun z hz => by
                  obtain ⟨j, hj, rfl⟩ := List.mem_map.mp hz
                  have := List.mem_range.mp hj
                  exact h j (by show j + 1 < 100; omega)
                rw [List.length_map, List.length_range] at this
                omega
            have E8 := E5.trans eP
            refine s_app (E8 _ _ hn) (ev_var rfl) (ev_var rfl) (by rw [List.length_map]; have := (List.getElem?_eq_some_iff.mp hi).1; rw [List.length_map] at this; omega) fun H9 e9 => ⟨zs ++ [z8], _, _, _, _, _, _, rfl, ?_, ?_, ?_, ?_, ?_⟩
            · rw [upd_same, List.map_append] <;> rfl
            · rw [List.length_append, hzl] <;> rfl
            · intro z hzz
              rcases List.mem_append.mp hzz with k | k
              · exact hz z k
              · rw [List.mem_singleton.mp k]
                exact hz8
            · rw [List.nodup_append]
              exact ⟨hnd, by simp, fun x hx y hy z => hnew (by rw [List.mem_singleton.mp hy] at z; rw [← z]; exact hx)⟩
            · exact ((eH.trans E8).trans e9).mut n2
    · obtain ⟨zs, x3, x4, x5, x6, x7, x8, rfl, hn, hzl, hz, hnd, eH⟩ := hP
      exact s_ret (ev_var rfl) fun H3 e3 => q nl zs _ (fresh_back e1 n2) ((e1.trans eH).trans e3) (e3 _ _ hn) (by rw [hzl, List.length_map]) hz hnd


/-! ### _law_integer -/
def integerZ (cell : Int) : Int :=
  if cell % 8 = 0 then 0 else if cell % 8 = 1 then 1 + cell / 8 % 12 else if cell % 8 = 2 then -1 - cell / 8 % 12 else if cell % 8 = 3 then 10 ^ 60 - 1 - cell / 8 % 3 else
  if cell % 8 = 4 then 1 - 10 ^ 60 + cell / 8 % 3 else if cell % 8 = 5 then (cell / 8 * 10 ^ 52 + cell / 8) % 10 ^ 60 else if cell % 8 = 6 then -(cell / 8 % 10 ^ 60) else cell / 8 % 2001 - 1000
theorem integerZ_lt (cell : Int) : -(10 ^ 60) < integerZ cell ∧ integerZ cell < 10 ^ 60 := by
  unfold integerZ
  have h1 := Int.emod_nonneg (cell / 8) (by decide : (12 : Int) ≠ 0)
  have h2 := Int.emod_lt_of_pos (cell / 8) (by decide : (0 : Int) < 12)
  have h3 := Int.emod_nonneg (cell / 8) (by decide : (3 : Int) ≠ 0)
  have h4 := Int.emod_lt_of_pos (cell / 8) (by decide : (0 : Int) < 3)
  have h5 := Int.emod_nonneg (cell / 8 * 10 ^ 52 + cell / 8) (by decide : (10 ^ 60 : Int) ≠ 0)
  have h6 := Int.emod_lt_of_pos (cell / 8 * 10 ^ 52 + cell / 8) (by decide : (0 : Int) < 10 ^ 60)
  have h7 := Int.emod_nonneg (cell / 8) (by decide : (10 ^ 60 : Int) ≠ 0)
  have h8 := Int.emod_lt_of_pos (cell / 8) (by decide : (0 : Int) < 10 ^ 60)
  have h9 := Int.emod_nonneg (cell / 8) (by decide : (2001 : Int) ≠ 0)
  have h10 := Int.emod_lt_of_pos (cell / 8) (by decide : (0 : Int) < 2001)
  generalize (cell / 8 * 10 ^ 52 + cell / 8) % 10 ^ 60 = a at *
  generalize cell / 8 % 10 ^ 60 = b at *
  generalize cell / 8 % 2001 = c at *
  generalize cell / 8 % 12 = d at *
  generalize cell / 8 % 3 = e at *
  have e60 : (10 : Int) ^ 60 = 1000000000000000000000000000000000000000000000000000000000000 := by decide
  rw [e60] at *
  repeat' split
  all_goals omega
theorem integerZ_log (cell : Int) : (integerZ cell).natAbs.log2 < 1920 := by
  have h := integerZ_lt cell
  have e60 : (10 : Int) ^ 60 = 1000000000000000000000000000000000000000000000000000000000000 := by decide
  rw [e60] at h
  refine Nat.lt_of_lt_of_le (PySem.Flt.log2_lt_of (k := 256) (by decide) ?_) (by decide)
  omega
def sp_integer : Sp := fun vs H Q _ => ∃ cell : Int, vs = [.int cell] ∧ Wd cell ∧ ∀ H', Ex H H' → Q (.int (integerZ cell)) H'
theorem cv_integer {cell : Int} {H : Hp} (hc : Wd cell) : SpV sp_integer [.int cell] H (.int (integerZ cell)) := fun H1 e Q q E => ⟨cell, rfl, hc, fun H2 e2 => q H2 e2⟩
theorem ok_law_integer (T : Txt K mg base) : FnOk P w K mg base CX0 1 T.f_law_integer T.d_law_integer ["cell"] sp_integer := by
  refine T.F_law_integer.ok sc_law_integer (fun vs H Q E h => ?_) (fun cdv A outer s H vs Q E hr h => ?_)
  · obtain ⟨n, rfl, _⟩ := h
    rfl
  · obtain ⟨n, rfl, hW, q⟩ := h
    unfold integerZ at q
    refine ⟨_, pss_cons (ps_set (i := 1) sc_law_integer.nd rfl (by first | exact Or.inl rfl | exact Or.inr rfl) (pe_op op_mod (pe_callTy call_int1 (by rfl) T.m_int (by decide +kernel) (pa_cons (pv 0) (pa_nil))) (pe_int)))
      (pss_cons (ps_set (i := 2) sc_law_integer.nd rfl (by first | exact Or.inl rfl | exact Or.inr rfl) (pe_op op_fdivW (pv 0) (pe_int)))
      (pss_cons (ps_if (pt_cmpR op_eq (pv 1) (pe_int) (nomark _))
      (pss_one (ps_ret (pe_int)))
      (pss_nil))
      (pss_cons (ps_if (pt_cmpR op_eq (pv 1) (pe_int) (nomark _))
      (pss_one (ps_ret (pe_op op_add (pe_int) (pe_op op_mod (pe_callTy call_int1 (by rfl) T.m_int (by decide +kernel) (pa_cons (pv 2) (pa_nil))) (pe_int)))))
      (pss_nil))
      (pss_cons (ps_if (pt_cmpR op_eq (pv 1) (pe_int) (nomark _))
      (pss_one (ps_ret (pe_op op_sub (pe_un un_neg (pe_int)) (pe_op op_mod (pe_callTy call_int1 (by rfl) T.m_int (by decide +kernel) (pa_cons (pv 2) (pa_nil))) (pe_int)))))
      (pss_nil))
      (pss_cons (ps_if (pt_cmpR op_eq (pv 1) (pe_int) (nomark _))
      (pss_one (ps_ret (pe_op op_sub (pe_op op_sub (pe_op op_pow (pe_int) (pe_int)) (pe_int)) (pe_op op_mod (pe_callTy call_int1 (by rfl) T.m_int (by decide +kernel) (pa_cons (pv 2) (pa_nil))) (pe_int)))))
      (pss_nil))
      (pss_cons (ps_if (pt_cmpR op_eq (pv 1) (pe_int) (nomark _))
      (pss_one (ps_ret (pe_op op_add (pe_op op_sub (pe_int) (pe_op op_pow (pe_int) (pe_int))) (pe_op op_mod (pe_callTy call_int1 (by rfl) T.m_int (by decide +kernel) (pa_cons (pv 2) (pa_nil))) (pe_int)))))
      (pss_nil))
      (pss_cons (ps_if (pt_cmpR op_eq (pv 1) (pe_int) (nomark _))
      (pss_one (ps_ret (pe_op op_mod (pe_callTy call_int1 (by rfl) T.m_int (by decide +kernel) (pa_cons (pe_op op_add (pe_op op_mulX (pv 2) (pe_op op_pow (pe_int) (pe_int))) (pv 2)) (pa_nil))) (pe_op op_pow (pe_int) (pe_int)))))
      (pss_nil))
      (pss_cons (ps_if (pt_cmpR op_eq (pv 1) (pe_int) (nomark _))
      (pss_one (ps_ret (pe_un un_neg (pe_op op_mod (pe_callTy call_int1 (by rfl) T.m_int (by decide +kernel) (pa_cons (pv 2) (pa_nil))) (pe_op op_pow (pe_int) (pe_int))))))
      (pss_nil))
      (pss_one (ps_ret (pe_op op_sub (pe_op op_mod (pe_callTy call_int1 (by rfl) T.m_int (by decide +kernel) (pa_cons (pv 2) (pa_nil))) (pe_int)) (pe_int)))))))))))), ?_⟩
    have p60 : ∀ {σ : L2.St} {H : Hp}, Ev (tOp (rI CPow fun i j => V.int (i ^ j.toNat)) (tC (.int 10)) (tC (.int 60))) σ H (.int (10 ^ 60)) := ev_bin ev_c ev_c ⟨by decide, by decide, by decide⟩
    have p52 : ∀ {σ : L2.St} {H : Hp}, Ev (tOp (rI CPow fun i j => V.int (i ^ j.toNat)) (tC (.int 10)) (tC (.int 52))) σ H (.int (10 ^ 52)) := ev_bin ev_c ev_c ⟨by decide, by decide, by decide⟩
    refine q_asg (ev_bin (ev_intI (ev_var rfl)) ev_c (by decide)) fun H1 e1 => ?_
    refine q_asg (ev_bin (ev_var rfl) ev_c ⟨by decide, by decide⟩) fun H2 e2 => ?_
    have e := e1.trans e2
    refine q_when (et_test (ev_eqI (ev_var rfl) ev_c)) (fun hb H3 e3 => ?_) (fun hb H3 e3 => ?_)
    · rw [if_pos (of_decide_eq_true hb)] at q
      exact s_ret ev_c fun H4 e4 => q H4 ((e.trans e3).trans e4)
    rw [if_neg (of_decide_eq_false hb)] at q
    have e := e.trans e3
    refine q_when (et_test (ev_eqI (ev_var rfl) ev_c)) (fun hb H3 e3 => ?_) (fun hb H3 e3 => ?_)
    · rw [if_pos (of_decide_eq_true hb)] at q
      exact s_ret (ev_bin0 ev_c (ev_bin (ev_intI (ev_var rfl)) ev_c (by decide))) fun H4 e4 => q H4 ((e.trans e3).trans e4)
    rw [if_neg (of_decide_eq_false hb)] at q
    have e := e.trans e3
    refine q_when (et_test (ev_eqI (ev_var rfl) ev_c)) (fun hb H3 e3 => ?_) (fun hb H3 e3 => ?_)
    · rw [if_pos (of_decide_eq_true hb)] at q
      exact s_ret (ev_bin0 (ev_neg ev_c) (ev_bin (ev_intI (ev_var rfl)) ev_c (by decide))) fun H4 e4 => q H4 ((e.trans e3).trans e4)
    rw [if_neg (of_decide_eq_false hb)] at q
    have e := e.trans e3
    refine q_when (et_test (ev_eqI (ev_var rfl) ev_c)) (fun hb H3 e3 => ?_) (fun hb H3 e3 => ?_)
    · rw [if_pos (of_decide_eq_true hb)] at q
      exact s_ret (ev_bin0 (ev_bin0 p60 ev_c) (ev_bin (ev_intI (ev_var rfl)) ev_c (by decide))) fun H4 e4 => q H4 ((e.trans e3).trans e4)
    rw [if_neg (of_decide_eq_false hb)] at q
    have e := e.trans e3
    refine q_when (et_test (ev_eqI (ev_var rfl) ev_c)) (fun hb H3 e3 => ?_) (fun hb H3 e3 => ?_)
    · rw [if_pos (of_decide_eq_true hb)] at q
      exact s_ret (ev_bin0 (ev_bin0 ev_c p60) (ev_bin (ev_intI (ev_var rfl)) ev_c (by decide))) fun H4 e4 => q H4 ((e.trans e3).trans e4)
    rw [if_neg (of_decide_eq_false hb)] at q
    have e := e.trans e3
    refine q_when (et_test (ev_eqI (ev_var rfl) ev_c)) (fun hb H3 e3 => ?_) (fun hb H3 e3 => ?_)
    · rw [if_pos (of_decide_eq_true hb)] at q
      exact s_ret (ev_bin (ev_intI (ev_bin0 (ev_bin (ev_var rfl) p52 (Wd.mul (Wd.div hW) (Wd.lit (by decide)))) (ev_var rfl))) p60 (by decide)) fun H4 e4 => q H4 ((e.trans e3).trans e4)
    rw [if_neg (of_decide_eq_false hb)] at q
    have e := e.trans e3
    refine q_when (et_test (ev_eqI (ev_var rfl) ev_c)) (fun hb H3 e3 => ?_) (fun hb H3 e3 => ?_)
    · rw [if_pos (of_decide_eq_true hb)] at q
      exact s_ret (ev_neg (ev_bin (ev_intI (ev_var rfl)) p60 (by decide))) fun H4 e4 => q H4 ((e.trans e3).trans e4)
    rw [if_neg (of_decide_eq_false hb)] at q
    have e := e.trans e3
    exact s_ret (ev_bin0 (ev_bin (ev_intI (ev_var rfl)) ev_c (by decide)) ev_c) fun H4 e4 => q H4 (e.trans e4)


/-! ### _law_char -/
/-- the law's signs -/
def signsZ : List Nat := [32, 33, 34, 35, 36] ++ (List.range 89).map (· + 38)
theorem signs_len : signsZ.length = 94 := by decide +kernel
theorem signs_ok : ∀ c ∈ signsZ, 32 ≤ c ∧ c ≤ 126 ∧ c ≠ 37 := by decide +kernel
theorem signs_eq : (Str.ofString " !\"#$&'()*+,-./0123456789:;<=>?@ABCDEFGHIJKLMNOPQRSTUVWXYZ[\\]^_`" ++ Str.ofString "abcdefghijklmnopqrstuvwxyz{|}~" : Str) = ⟨signsZ.toArray⟩ := by decide +kernel
def charC (n : Int) : Nat := signsZ.getD (n % 94).toNat 0
def charZ (n : Int) : Str := ⟨#[charC n]⟩
theorem charC_mem (n : Int) : charC n ∈ signsZ := by
  have h1 := Int.emod_nonneg n (by decide : (94 : Int) ≠ 0)
  have h2 := Int.emod_lt_of_pos n (by decide : (0 : Int) < 94)
  have h3 : (n % 94).toNat < signsZ.length := by rw [signs_len]; omega
  unfold charC
  rw [List.getD_eq_getElem?_getD, List.getElem?_eq_getElem h3]
  exact List.getElem_mem h3
def sp_char : Sp := fun vs H Q _ => ∃ n : Int, vs = [.int n] ∧ ∀ H', Ex H H' → Q (.str (charZ n)) H'
theorem cv_char {n : Int} {H : Hp} : SpV sp_char [.int n] H (.str (charZ n)) := fun H1 e Q q E => ⟨n, rfl, fun H2 e2 => q H2 e2⟩
theorem ok_law_char (T : Txt K mg base) : FnOk P w K mg base CX0 1 T.f_law_char T.d_law_char ["number"] sp_char := by
  refine T.F_law_char.ok sc_law_char (fun vs H Q E h => ?_) (fun cdv A outer s H vs Q E hr h => ?_)
  · obtain ⟨n, rfl, _⟩ := h
    rfl
  · obtain ⟨n, rfl, q⟩ := h
    have h1 := Int.emod_nonneg n (by decide : (94 : Int) ≠ 0)
    have h2 := Int.emod_lt_of_pos n (by decide : (0 : Int) < 94)
    refine ⟨_, pss_cons (ps_set (i := 1) sc_law_char.nd rfl (by first | exact Or.inl rfl | exact Or.inr rfl) (pe_str))
      (pss_cons (ps_set (i := 1) sc_law_char.nd rfl (by first | exact Or.inl rfl | exact Or.inr rfl) (pe_op op_add_str (pv 1) (pe_str)))
      (pss_one (ps_ret (pe_ix ix_str (pv 1) (pe_op op_mod (pe_callTy call_int1 (by rfl) T.m_int (by decide +kernel) (pa_cons (pv 0) (pa_nil))) (pe_int)) (fun _ _ => rfl))))), ?_⟩
    refine q_asg ev_c fun H1 e1 => ?_
    refine q_asg (ev_addS (ev_var rfl) ev_c (by decide +kernel)) fun H2 e2 => ?_
    refine s_ret (ev_ixS (z := ⟨signsZ.toArray⟩) (c := charC n) (ev_is (ev_var rfl) (congrArg V.str signs_eq)) (ev_bin (ev_intI (ev_var rfl)) ev_c (by decide)) (by decide +kernel) (at_cps rfl h1 (by rw [signs_len]; exact h2))) fun H3 e3 => q H3 ((e1.trans e2).trans e3)


/-! ### _law_text -/
def textLen (cell : Int) : Nat := ([0, 1, 2, 3, 4, 6, (cell / 8 % 61).toNat, 60] : List Nat).getD (cell % 8).toNat 0
theorem textLen_le (cell : Int) : textLen cell ≤ 60 := by
  have h1 := Int.emod_nonneg (cell / 8) (by decide : (61 : Int) ≠ 0)
  have h2 := Int.emod_lt_of_pos (cell / 8) (by decide : (0 : Int) < 61)
  have h3 : ∀ x ∈ ([0, 1, 2, 3, 4, 6, (cell / 8 % 61).toNat, 60] : List Nat), x ≤ 60 := by
    intro x hx
    simp only [List.mem_cons, List.not_mem_nil, or_false] at hx
    omega
  unfold textLen
  rw [List.getD_eq_getElem?_getD]
  cases e : ([0, 1, 2, 3, 4, 6, (cell / 8 % 61).toNat, 60] : List Nat)[(cell % 8).toNat]? with
  | none => exact Nat.zero_le _
  | some x => exact h3 x (List.mem_of_getElem? e)
def textC (cell : Int) : List Nat := (draws (cell / 8) (cell % 8) (textLen cell) 94).map charC
def textZ (cell : Int) : Str := ⟨(textC cell).toArray⟩
theorem textC_len (cell : Int) : (textC cell).length ≤ 60 := by
  unfold textC
  rw [List.length_map, draws_len]
  exact textLen_le cell
theorem textZ_len (cell : Int) : (textZ cell).length ≤ 60 := textC_len cell
theorem textC_ok (cell : Int) : ∀ c ∈ textC cell, c ∈ signsZ := fun c hc => by
  obtain ⟨n, _, e⟩ := List.mem_map.mp hc
  rw [← e]
  exact charC_mem n
def sp_text : Sp := fun vs H Q _ => ∃ cell : Int, vs = [.int cell] ∧ Wd cell ∧ ∀ H', Ex H H' → Q (.str (textZ cell)) H'
theorem cv_text {cell : Int} {H : Hp} (hc : Wd cell) : SpV sp_text [.int cell] H (.str (textZ cell)) := fun H1 e Q q E => ⟨cell, rfl, hc, fun H2 e2 => q H2 e2⟩
theorem ok_law_text (T : Txt K mg base) : FnOk P w K mg base CX0 2 T.f_law_text T.d_law_text ["cell"] sp_text := by
  refine T.F_law_text.ok sc_law_text (fun vs H Q E h => ?_) (fun cdv A outer s H vs Q E hr h => ?_)
  · obtain ⟨n, rfl, _⟩ := h
    rfl
  · obtain ⟨n, rfl, hW, q⟩ := h
    have h1 := Int.emod_nonneg n (by decide : (8 : Int) ≠ 0)
    have h2 := Int.emod_lt_of_pos n (by decide : (0 : Int) < 8)
    have h3 := Int.emod_nonneg (n / 8) (by decide : (61 : Int) ≠ 0)
    have hL := textLen_le n
    refine ⟨_, pss_cons (ps_set (i := 1) sc_law_text.nd rfl (by first | exact Or.inl rfl | exact Or.inr rfl) (pe_op op_mod (pe_callTy call_int1 (by rfl) T.m_int (by decide +kernel) (pa_cons (pv 0) (pa_nil))) (pe_int)))
      (pss_cons (ps_set (i := 2) sc_law_text.nd rfl (by first | exact Or.inl rfl | exact Or.inr rfl) (pe_op op_fdivW (pv 0) (pe_int)))
      (pss_cons (ps_set (i := 3) sc_law_text.nd rfl (by first | exact Or.inl rfl | exact Or.inr rfl) (pe_ix (r := rIxL K) ix_list (pe_lst (pa_cons (pe_int) (pa_cons (pe_int) (pa_cons (pe_int) (pa_cons (pe_int) (pa_cons (pe_int) (pa_cons (pe_int) (pa_cons (pe_op op_mod (pe_callTy call_int1 (by rfl) T.m_int (by decide +kernel) (pa_cons (pv 2) (pa_nil))) (pe_int)) (pa_cons (pe_int) (pa_nil)))))))))) (pv 1) (fun _ _ => rfl)))
      (pss_one (ps_ret (pe_join (pe_str) (pe_lc (own := [("number", 4)]) (g := gName 4) (tt := tYes) rfl sc_law_text.nd (pi_list (pe_call (ok_law_draws T) (hr.mono (by first | decide | omega)) (by rfl) T.g_law_draws T.F_law_draws.kp T.b_law_draws .nil pass0 (pa_cons (pv 2) (pa_cons (pv 1) (pa_cons (pv 3) (pa_cons (pe_int) (pa_nil))))))) (blkOk_by (N := ["cell", "choice", "rest", "length", "number"]) (sc := defScope s_law_text) (by decide +kernel)) (fun _ _ _ _ _ => pg_name (i := 4) sc_law_text.nd rfl (Or.inl rfl)) (fun _ _ _ _ _ => pts_nil) (fun _ _ _ _ _ => pe_call (ok_law_char T) (hr.mono (by first | decide | omega)) (by rfl) T.g_law_char T.F_law_char.kp T.b_law_char .nil pass0 (pa_cons (pv 4) (pa_nil))))))))), ?_⟩
    refine q_asg (ev_bin (ev_intI (ev_var rfl)) ev_c (by decide)) fun H1 e1 => ?_
    refine q_asg (ev_bin (ev_var rfl) ev_c ⟨by decide, by decide⟩) fun H2 e2 => ?_
    refine q_asg (v := .int (textLen n : Int)) (ev_ixN (el_lst (ea_cons ev_c (ea_cons ev_c (ea_cons ev_c (ea_cons ev_c (ea_cons ev_c (ea_cons ev_c (ea_cons (ev_bin (ev_intI (ev_var rfl)) ev_c (by decide)) (ea_cons ev_c ea_nil)))))))) (by show 8 ≤ 100000; decide)) (fun _ _ => ev_var rfl) (atI_of h1 ?_)) fun H3 e3 => ?_
    · unfold textLen
      have hh : n % 8 = 0 ∨ n % 8 = 1 ∨ n % 8 = 2 ∨ n % 8 = 3 ∨ n % 8 = 4 ∨ n % 8 = 5 ∨ n % 8 = 6 ∨ n % 8 = 7 := by omega
      rcases hh with e | e | e | e | e | e | e | e <;> rw [e]
      all_goals first | rfl | skip
      show some (V.int (n / 8 % 61)) = some (V.int (((n / 8 % 61).toNat : Nat) : Int))
      rw [Int.toNat_of_nonneg h3]
    · have et : textZ n = Txt.join (Str.ofString "") ((textC n).map fun c => (⟨#[c]⟩ : Str)) := (join_signs (textC n)).symm
      refine s_ret (v := .str (textZ n)) ?_ fun H4 e4 => q H4 (((e1.trans e2).trans e3).trans e4)
      rw [et]
      refine ev_joinN (K := K) ev_c ?_ ?_
      · have em : ((textC n).map fun c => (⟨#[c]⟩ : Str)).map V.str = (draws (n / 8) (n % 8) (textLen n) 94).map fun m => V.str (charZ m) := by
          unfold textC
          rw [List.map_map, List.map_map] <;> rfl
        rw [em]
        refine el_mapN (K := K) (el_call (ea_cons (ev_var rfl) (ea_cons (ev_var rfl) (ea_cons (ev_var rfl) (ea_cons ev_c ea_nil)))) (cl_draws (Wd.div hW) (by omega) (by omega) (by decide) (by decide))) (by rw [draws_len]; omega) (fun x => rfl) fun m _ H5 e5 => ev_call (ea_cons (ev_var rfl) ea_nil) cv_char
      · rw [sum_ones, List.length_map]
        have := textC_len n
        show (textC n).length + (textC n).length * 0 ≤ 16777216
        omega


/-! ### _law_value -/
def valZ (kind : Str) (cell : Int) : It := if (Txt.endswith kind (Str.ofString "?") && decide (cell % 4 = 3)) = true then .non else if cutS kind none (some 3) = Str.ofString "int" then .int (integerZ (cell / 4)) else .str (textZ (cell / 4))
theorem valZ_sc (kind : Str) (cell : Int) : (valZ kind cell).sc := by
  unfold valZ
  split
  · trivial
  · split
    · exact integerZ_lt _
    · have := textZ_len (cell / 4)
      show (textZ (cell / 4)).length ≤ 200
      omega
def sp_value : Sp := fun vs H Q _ => ∃ (kind : Str) (cell : Int), vs = [.str kind, .int cell] ∧ Wd cell ∧ kind.length ≤ 100000 ∧ ∀ H', Ex H H' → Q (vz (valZ kind cell)) H'
theorem cv_value {kind : Str} {cell : Int} {H : Hp} (hc : Wd cell) (hk : kind.length ≤ 100000) : SpV sp_value [.str kind, .int cell] H (vz (valZ kind cell)) := fun H1 e Q q E => ⟨kind, cell, rfl, hc, hk, fun H2 e2 => q H2 e2⟩
theorem ok_law_value (T : Txt K mg base) : FnOk P w K mg base CX0 3 T.f_law_value T.d_law_value ["kind", "cell"] sp_value := by
  refine T.F_law_value.ok sc_law_value (fun vs H Q E h => ?_) (fun cdv A outer s H vs Q E hr h => ?_)
  · obtain ⟨kind, n, rfl, _⟩ := h
    rfl
  · obtain ⟨kind, n, rfl, hW, hk, q⟩ := h
    unfold valZ at q
    refine ⟨_, pss_cons (ps_if (PW.pt (pw_and (pt_val (pe_m1 PySem.F.slot_str_endswith PySem.F.type_str_endswith mt_endswith (pv 0) (pe_str))) (pw_and1 (pt_cmpR op_eq (pe_op op_mod (pe_callTy call_int1 (by rfl) T.m_int (by decide +kernel) (pa_cons (pv 1) (pa_nil))) (pe_int)) (pe_int) (nomark _)))))
      (pss_one (ps_ret (pe_non)))
      (pss_nil))
      (pss_cons (ps_if (pt_cmpR op_eq (pe_slice sl_str (pv 0) (po_none) (po_some (pe_int))) (pe_str) (nomark _))
      (pss_one (ps_ret (pe_call (ok_law_integer T) (hr.mono (by first | decide | omega)) (by rfl) T.g_law_integer T.F_law_integer.kp T.b_law_integer .nil pass0 (pa_cons (pe_op op_fdivW (pv 1) (pe_int)) (pa_nil)))))
      (pss_nil))
      (pss_one (ps_ret (pe_call (ok_law_text T) (hr.mono (by first | decide | omega)) (by rfl) T.g_law_text T.F_law_text.kp T.b_law_text .nil pass0 (pa_cons (pe_op op_fdivW (pv 1) (pe_int)) (pa_nil)))))), ?_⟩
    refine q_when (et_and (et_B (ev_ends (ev_var rfl) ev_c)) fun _ => et_test (ev_eqI (ev_bin (ev_intI (ev_var rfl)) ev_c (by decide)) ev_c)) (fun hb H1 e1 => ?_) (fun hb H1 e1 => ?_)
    · rw [if_pos hb] at q
      exact s_ret ev_c fun H2 e2 => q H2 (e1.trans e2)
    rw [if_neg (by rw [hb]; exact Bool.false_ne_true)] at q
    refine q_when (et_test (ev_eqS (ev_slS (ev_var rfl) eo_none (eo_some ev_c) hk) ev_c)) (fun hb H2 e2 => ?_) (fun hb H2 e2 => ?_)
    · rw [if_pos (of_decide_eq_true hb)] at q
      exact s_ret (ev_call (ea_cons (ev_bin (ev_var rfl) ev_c ⟨by decide, by decide⟩) ea_nil) (cv_integer (Wd.div hW))) fun H3 e3 => q H3 ((e1.trans e2).trans e3)
    · rw [if_neg (of_decide_eq_false hb)] at q
      exact s_ret (ev_call (ea_cons (ev_bin (ev_var rfl) ev_c ⟨by decide, by decide⟩) ea_nil) (cv_text (Wd.div hW))) fun H3 e3 => q H3 ((e1.trans e2).trans e3)


theorem acc_val (kd : Kn) (cell : Int) : accB kd.s (vz (valZ kd.s cell)) = true ∧ Sc (vz (valZ kd.s cell)) := by
  unfold valZ
  cases kd with
  | int =>
    rw [if_neg (by rw [show Txt.endswith Kn.int.s (Str.ofString "?") = false by decide +kernel]; simp), if_pos (by decide +kernel)]
    exact ⟨show decide (baseT Kn.int.s = Str.ofString "int") = true by decide +kernel, .int _⟩
  | intq =>
    split
    · exact ⟨show kIn Kn.intq.s ["int?", "text?"] = true by decide +kernel, .non⟩
    · rw [if_pos (by decide +kernel)]
      exact ⟨show decide (baseT Kn.intq.s = Str.ofString "int") = true by decide +kernel, .int _⟩
  | text =>
    rw [if_neg (by rw [show Txt.endswith Kn.text.s (Str.ofString "?") = false by decide +kernel]; simp), if_neg (by decide +kernel)]
    exact ⟨show (!decide (baseT Kn.text.s = Str.ofString "int")) = true by decide +kernel, .str _⟩
  | textq =>
    split
    · exact ⟨show kIn Kn.textq.s ["int?", "text?"] = true by decide +kernel, .non⟩
    · rw [if_neg (by decide +kernel)]
      exact ⟨show (!decide (baseT Kn.textq.s = Str.ofString "int")) = true by decide +kernel, .str _⟩


/-! ### _law_columns -/
/-! ### drawn columns -/
theorem dz_of {k : Kn} {d : PyData} (h : ValOf k d) : d = pd (dvV d) := by cases h <;> rfl
theorem sgn_le : ∀ c ∈ signsZ, c ≤ 1000 := by decide +kernel
theorem text_sh (cell : Int) : SeqAt.shaped (.str (textZ cell)) = true := TxOk.sh (n := 60) ⟨textZ_len cell, fun c hc => sgn_le c (textC_ok cell c hc)⟩
theorem val_of (kd : Kn) (cell : Int) : ValOf kd (pd (vz (valZ kd.s cell))) := by
  unfold valZ
  cases kd with
  | int =>
    rw [if_neg (by rw [show Txt.endswith Kn.int.s (Str.ofString "?") = false by decide +kernel]; simp), if_pos (by decide +kernel)]
    exact .int _ rfl
  | intq =>
    split
    · exact .non rfl
    · rw [if_pos (by decide +kernel)]
      exact .int _ rfl
  | text =>
    rw [if_neg (by rw [show Txt.endswith Kn.text.s (Str.ofString "?") = false by decide +kernel]; simp), if_neg (by decide +kernel)]
    exact .str rfl (text_sh _)
  | textq =>
    split
    · exact .non rfl
    · rw [if_neg (by decide +kernel)]
      exact .str rfl (text_sh _)
theorem dpv_of {K : PySem.W.Frag} {H : Hp} {k : Kn} {d : PyData} (h : ValOf k d) : Dp K H (dvV d) d := by
  cases h with
  | non _ => exact .non
  | int i _ => exact .int i
  | str _ _ => exact .str _
structure Co.okV (c : Co) : Prop where
  nm : Nm 12 c.nm
  vl : ValOf c.kd c.df
  lk : SeqAt.shaped (.str c.lk) = true
theorem Co.okV.ok {c : Co} (h : c.okV) : c.ok := ⟨h.nm.tx.sh, h.vl.fl, h.lk⟩
theorem kinds_at (n : Int) : ∃ kd : Kn, ([.str (Str.ofString "int"), .str (Str.ofString "int?"), .str (Str.ofString "text"), .str (Str.ofString "text?")] : List V)[(n % 4).toNat]? = some (.str kd.s) := by
  have h1 := Int.emod_nonneg n (by decide : (4 : Int) ≠ 0)
  have h2 := Int.emod_lt_of_pos n (by decide : (0 : Int) < 4)
  have hh : n % 4 = 0 ∨ n % 4 = 1 ∨ n % 4 = 2 ∨ n % 4 = 3 := by omega
  rcases hh with e | e | e | e <;> rw [e]
  · exact ⟨.int, rfl⟩
  · exact ⟨.intq, rfl⟩
  · exact ⟨.text, rfl⟩
  · exact ⟨.textq, rfl⟩
/-- the kind without its mark -/
def nb : Kn → Kn
  | .int => .int
  | .intq => .int
  | .text => .text
  | .textq => .text
theorem nb_repl (k : Kn) : Txt.replace k.s (Str.ofString "?") (Str.ofString "") = (nb k).s := by cases k <;> decide +kernel
theorem nb_cut {k : Kn} (h : k.q = true) : cutS k.s none (some (-1)) = (nb k).s := by cases k <;> first | decide +kernel | cases h
theorem nb_q (k : Kn) : (nb k).q = false := by cases k <;> rfl
theorem nb_tx (k : Kn) : (nb k).tx = k.tx := by cases k <;> rfl
theorem kn_ends (k : Kn) : Txt.endswith k.s (Str.ofString "?") = k.q := by cases k <;> decide +kernel
theorem kn_slen (k : Kn) : k.s.length ≤ 10 := by cases k <;> decide +kernel
theorem ValOf.nb {k : Kn} {d : PyData} (h : ValOf k d) (n : d ≠ .none) : ValOf (nb k) d := by
  cases h with
  | non _ => exact absurd rfl n
  | int i h => exact .int i (by rw [nb_tx]; exact h)
  | str h s => exact .str (by rw [nb_tx]; exact h) s
theorem val_base {k : Kn} (h : k.q = false) {cell : Int} : pd (vz (valZ k.s cell)) ≠ .none := by
  have := val_of k cell
  intro e
  rw [e] at this
  cases this with
  | non z => rw [h] at z; cases z
theorem dpa_set {K : PySem.W.Frag} {H : Hp} {v : V} {d : PyData} (hv : Dp K H v d) : ∀ {vs : List V} {ds : List PyData} (j : Nat), DpAll K H vs ds → DpAll K H (vs.set j v) (ds.set j d)
  | _, _, _, .nil => .nil
  | _, _, 0, .cons _ r => .cons hv r
  | _, _, j + 1, .cons h r => .cons h (dpa_set hv j r)

def spCols (K : PySem.W.Frag) : Sp := fun vs H Q _ => ∃ (p : Addr) (ns : List Int), vs = [.ref p] ∧ SqL K H p (ns.map V.int) ∧ ns.length ≤ 12 ∧ (∀ c ∈ ns, Wd c) ∧ ∀ r us (cs : List Co) H', H r = none → Ex H H' → H' r = some (.lst us) → DpAll K H' us (cs.map Co.d) → cs.length = ns.length → (∀ c ∈ cs, c.okV) → (cs.map Co.nm).Nodup → Q (.ref r) H'
set_option maxHeartbeats 4000000 in
theorem ok_law_columns (T : Txt K mg base) : FnOk P w K mg base CX0 4 T.f_law_columns T.d_law_columns ["cells"] (spCols K) := by
  refine T.F_law_columns.ok sc_law_columns (fun vs H Q E h => ?_) (fun cdv A outer s H vs Q E hr h => ?_)
  · obtain ⟨p, ns, rfl, _⟩ := h
    rfl
  · obtain ⟨p, ns, rfl, hS, hl, hW, q⟩ := h
    have w64 : Wd ((10 : Int) ^ 64) := Wd.lit (by decide +kernel)
    refine ⟨_, pss_cons (ps_setLc (i := 1) (own := [("cell", 2)]) (g := gName 2) (tt := tYes) (by rfl) sc_law_columns.nd rfl rfl (sw_true rfl rfl rfl (by decide +kernel)) (pi_list (pv 0)) (blkOk_by (N := ["cells", "parts", "cell", "names", "part", "columns", "k", "kind", "link"]) (sc := defScope s_law_columns) (by decide +kernel)) (fun _ _ _ _ _ => pg_name (i := 2) sc_law_columns.nd rfl (Or.inl rfl)) (fun _ _ _ _ _ => pts_nil) (fun _ _ _ _ _ => pe_call (ok_law_draws T) (hr.mono (by first | decide | omega)) (by rfl) T.g_law_draws T.F_law_draws.kp T.b_law_draws .nil pass0 (pa_cons (pv 2) (pa_cons (pe_int) (pa_cons (pe_int) (pa_cons (pe_op op_pow (pe_int) (pe_int)) (pa_nil)))))))
      (pss_cons (ps_set (i := 3) sc_law_columns.nd rfl (by first | exact Or.inl rfl | exact Or.inr rfl) (pe_call (ok_law_names T) (hr.mono (by first | decide | omega)) (by rfl) T.g_law_names T.F_law_names.kp T.b_law_names .nil pass0 (pa_cons (pe_lc (own := [("part", 4)]) (g := gName 4) (tt := tYes) rfl sc_law_columns.nd (pi_list (pv 1)) (blkOk_by (N := ["cells", "parts", "cell", "names", "part", "columns", "k", "kind", "link"]) (sc := defScope s_law_columns) (by decide +kernel)) (fun _ _ _ _ _ => pg_name (i := 4) sc_law_columns.nd rfl (Or.inl rfl)) (fun _ _ _ _ _ => pts_nil) (fun _ _ _ _ _ => pe_ix (r := rIxL K) ix_list (pv 4) (pe_int) (fun _ _ => rfl))) (pa_nil))))
      (pss_cons (ps_set (i := 5) sc_law_columns.nd rfl (by first | exact Or.inl rfl | exact Or.inr rfl) (pe_lst (pa_nil)))
      (pss_cons (ps_for PassesOwn.never rfl (pi_range1 (by rfl) T.m_range (pa_cons (pe_callB (r := rLenQ K) call_len_seq (by rfl) T.m_len (by decide +kernel) (pa_cons (pv 1) (pa_nil))) (pa_nil))) (pg_name (i := 6) sc_law_columns.nd rfl (by first | exact Or.inl rfl | exact Or.inr rfl))
      (pss_cons (ps_set (i := 7) sc_law_columns.nd rfl (by first | exact Or.inl rfl | exact Or.inr rfl) (pe_ix (r := rIxL K) ix_list (pe_lst (pa_cons (pe_str) (pa_cons (pe_str) (pa_cons (pe_str) (pa_cons (pe_str) (pa_nil)))))) (pe_op op_mod (pe_callTy call_int1 (by rfl) T.m_int (by decide +kernel) (pa_cons (pe_ix (r := rIxL K) ix_list (pe_ix (r := rIxL K) ix_list (pv 1) (pv 6) (fun _ _ => rfl)) (pe_int) (fun _ _ => rfl)) (pa_nil))) (pe_int)) (fun _ _ => rfl)))
      (pss_cons (ps_set (i := 8) sc_law_columns.nd rfl (by first | exact Or.inl rfl | exact Or.inr rfl) (pe_str))
      (pss_cut (ps_if (pt_cmpR op_eq (pe_op op_mod (pe_callTy call_int1 (by rfl) T.m_int (by decide +kernel) (pa_cons (pe_ix (r := rIxL K) ix_list (pe_ix (r := rIxL K) ix_list (pv 1) (pv 6) (fun _ _ => rfl)) (pe_int) (fun _ _ => rfl)) (pa_nil))) (pe_int)) (pe_int) (nomark _))
      (pss_one (ps_set (i := 8) sc_law_columns.nd rfl (by first | exact Or.inl rfl | exact Or.inr rfl) (pe_call (ok_law_name T) (hr.mono (by first | decide | omega)) (by rfl) T.g_law_name T.F_law_name.kp T.b_law_name .nil pass0 (pa_cons (pe_op op_fdivW (pe_ix (r := rIxL K) ix_list (pe_ix (r := rIxL K) ix_list (pv 1) (pv 6) (fun _ _ => rfl)) (pe_int) (fun _ _ => rfl)) (pe_int)) (pa_nil)))))
      (pss_nil))
      (pss_one (ps_expr (pe_bm PySem.F.plainAttrs_list PySem.F.slot_list_append PySem.F.type_list_append mt_append (pv 5) (pa_cons (pe_tup (pa_cons (pe_ix (r := rIxL K) ix_list (pv 3) (pv 6) (fun _ _ => rfl)) (pa_cons (pv 7) (pa_cons (pe_call (ok_law_value T) (hr.mono (by first | decide | omega)) (by rfl) T.g_law_value T.F_law_value.kp T.b_law_value .nil pass0 (pa_cons (pv 7) (pa_cons (pe_ix (r := rIxL K) ix_list (pe_ix (r := rIxL K) ix_list (pv 1) (pv 6) (fun _ _ => rfl)) (pe_int) (fun _ _ => rfl)) (pa_nil)))) (pa_cons (pe_op op_mod (pe_callTy call_int1 (by rfl) T.m_int (by decide +kernel) (pa_cons (pe_ix (r := rIxL K) ix_list (pe_ix (r := rIxL K) ix_list (pv 1) (pv 6) (fun _ _ => rfl)) (pe_int) (fun _ _ => rfl)) (pa_nil))) (pe_int)) (pa_cons (pv 8) (pa_nil))))))) (pa_nil)))))))))
      (pss_one (ps_ret (pv 5)))))), ?_⟩
    refine q_asgK (ell_V (K := K) (yss := ns.map fun c => (draws c 5 5 (10 ^ 64)).map V.int) (ev_var rfl) hS (by rw [List.length_map, List.length_map]) (by rw [List.length_map]; omega) (fun x => rfl) (fun i x ys H1 hx hy e1 => ?_) fun pp us H1 npp e1 hpp hul hat => ?_)
    · rw [List.getElem?_map] at hx hy
      cases hc : ns[i]? with
      | none => rw [hc] at hx; cases hx
      | some c =>
        rw [hc] at hx hy
        obtain rfl := (Option.some.inj hx).symm
        obtain rfl := (Option.some.inj hy).symm
        exact el_call (ea_cons (ev_var rfl) (ea_cons ev_c (ea_cons ev_c (ea_cons (ev_bin ev_c ev_c ⟨by decide, by decide, by decide⟩) ea_nil)))) (cl_draws (count := 5) (hW c (List.mem_of_getElem? hc)) (by decide) (by decide) (by decide) (by decide +kernel))
    rw [List.length_map] at hul
    have gw : ∀ c, ∀ x ∈ draws c 5 5 (10 ^ 64), Wd c → 0 ≤ x ∧ Wd x := fun c x hx hc => draws_ok (salt := 5) hc (by decide : (0 : Int) < 10 ^ 64) w64 5 x hx
    -- number j of part k
    have num : ∀ {H' : Hp} {σ : L2.St} {k j : Nat} {te : TE}, Ex H1 H' → σ[1]? = some (some (V.ref pp)) → Ev te σ H' (.int (k : Int)) → k < ns.length → j < 5 → Ev (tOp (rIxL K) (tOp (rIxL K) (tVar 1) te) (tC (.int (j : Int)))) σ H' (.int ((draws (ns.getD k 0) 5 5 (10 ^ 64)).getD j 0)) := fun {H' σ k j te} e h1 hk hlt hj => by
      have hc : ns[k]? = some (ns.getD k 0) := by rw [List.getD_eq_getElem?_getD, List.getElem?_eq_getElem hlt] <;> rfl
      obtain ⟨r, hr1, hr2⟩ := hat k ((draws (ns.getD k 0) 5 5 (10 ^ 64)).map V.int) (by rw [List.getElem?_map, hc] <;> rfl)
      have gl : (draws (ns.getD k 0) 5 5 (10 ^ 64)).length = 5 := draws_len ..
      exact ev_ixL (K := K) (ev_ixL (K := K) (ev_var h1) hk (sq_of (e _ _ hpp)) (at_nat hr1)) ev_c (sq_of (e _ _ hr2)) (at_nat (getD_int (by omega)))
    have numw : ∀ {k j : Nat}, k < ns.length → j < 5 → 0 ≤ (draws (ns.getD k 0) 5 5 (10 ^ 64)).getD j 0 ∧ Wd ((draws (ns.getD k 0) 5 5 (10 ^ 64)).getD j 0) := fun {k j} hk hj => by
      have gl : (draws (ns.getD k 0) 5 5 (10 ^ 64)).length = 5 := draws_len ..
      exact gw _ _ (getD_mem0 (by omega)) (hW _ (getD_mem0 hk))
    -- the names
    refine q_asgK ?_
    refine call_run ?_
    refine ea_l1' (xs := (ns.map fun c => (draws c 5 5 (10 ^ 64)).getD 0 0).map V.int) (el_mapL (K := K) (ev_var rfl) (sq_of hpp) (by omega) (fun x => rfl) (by rw [List.length_map, List.length_map, hul]) fun i x y hx hy H2 e2 => ?_) fun pn H2 _ e2 hpn => ?_
    · rw [List.getElem?_map, List.getElem?_map] at hy
      cases hc : ns[i]? with
      | none => rw [hc] at hy; cases hy
      | some c =>
        rw [hc] at hy
        obtain rfl := (Option.some.inj hy).symm
        obtain ⟨r, hr1, hr2⟩ := hat i ((draws c 5 5 (10 ^ 64)).map V.int) (by rw [List.getElem?_map, hc] <;> rfl)
        rw [hx] at hr1
        obtain rfl := Option.some.inj hr1
        have gl : (draws c 5 5 (10 ^ 64)).length = 5 := draws_len ..
        exact ev_ixL (K := K) (ev_var rfl) ev_c (sq_of (e2 _ _ hr2)) (at_nat (j := 0) (getD_int (by omega)))
    refine ⟨pn, _, rfl, sq_of hpn, by rw [List.length_map]; exact hl, fun c hc => ?_, fun nq zs H3 _ e3 hnq hzl hz hnd => ?_⟩
    · obtain ⟨d, hd, rfl⟩ := List.mem_map.mp hc
      have gl : (draws d 5 5 (10 ^ 64)).length = 5 := draws_len ..
      exact (gw d _ (getD_mem0 (by omega)) (hW d hd)).2
    rw [List.length_map] at hzl
    have E3 := e2.trans e3
    refine q_asgL (xs := []) (el_lst ea_nil (by decide)) fun pc H4 npc e4 hpc => ?_
    have E4 := E3.trans e4
    refine q_forR1 (n := (ns.length : Int)) (ea_cons (ev_is (ev_lenQ (K := K) (ev_var rfl) (sq_of (E4 _ _ hpp))) (by rw [hul])) ea_nil) (by omega) (fun i σ' H' => ∃ (us : List V) (cs : List Co) (x6 x7 x8 : Option V), σ' = [some (.ref p), some (.ref pp), none, some (.ref nq), none, some (.ref pc), x6, x7, x8] ∧ Ex H3 H' ∧ H' pc = some (.lst us) ∧ DpAll K H' us (cs.map Co.d) ∧ cs.map Co.nm = zs.take i ∧ (∀ c ∈ cs, c.okV))
      (fun H5 e5 => ⟨[], [], _, _, _, rfl, e4.trans e5, e5 _ _ hpc, .nil, rfl, fun c z => nomatch z⟩) (fun i σ' H' hi hP => ?_) fun σ' H' hP => ?_
    · obtain ⟨us2, cs, x6, x7, x8, rfl, eH, hus, hD, hnm, hok⟩ := hP
      have hi2 : i < ns.length := by omega
      have EH := E3.trans eH
      obtain ⟨kd, hkd⟩ := kinds_at ((draws (ns.getD i 0) 5 5 (10 ^ 64)).getD 1 0)
      refine q_asg (v := .str kd.s) (ev_ixN (K := K) (xs := [.str (Str.ofString "int"), .str (Str.ofString "int?"), .str (Str.ofString "text"), .str (Str.ofString "text?")]) (i := (draws (ns.getD i 0) 5 5 (10 ^ 64)).getD 1 0 % 4) (el_lst (ea_cons ev_c (ea_cons ev_c (ea_cons ev_c (ea_cons ev_c ea_nil)))) (by show 4 ≤ 100000; decide)) (fun H5 e5 => ev_bin (ev_intI (num (j := 1) (EH.trans e5) rfl (ev_var rfl) hi2 (by decide))) ev_c (by decide)) (atI_of (Int.emod_nonneg _ (by decide)) hkd)) fun H5 e5 => ?_
      refine q_asg ev_c fun H6 e6 => ?_
      have E6 := (EH.trans e5).trans e6
      refine q_cut (M := fun σ' H7 => ∃ lk : Str, σ' = [some (.ref p), some (.ref pp), none, some (.ref nq), none, some (.ref pc), some (.int (i : Int)), some (.str kd.s), some (.str lk)] ∧ SeqAt.shaped (.str lk) = true ∧ Ex H6 H7) ?_ fun σ' H7 hM => ?_
      · refine s_when (et_test (ev_eqI (ev_bin (ev_intI (num (j := 4) E6 rfl (ev_var rfl) hi2 (by decide))) ev_c (by decide)) ev_c)) (fun hb H7 e7 => ?_) fun hb H7 e7 => ⟨_, rfl, by decide +kernel, e7⟩
        refine asg_run (call_run (cons_run (ev_run (ev_bin (num (j := 4) (E6.trans e7) rfl (ev_var rfl) hi2 (by decide)) ev_c ⟨by decide, by decide⟩) fun H8 e8 => ?_)))
        exact ⟨_, rfl, Wd.div (numw hi2 (by decide)).2, fun z H9 e9 hz9 => ⟨z, rfl, hz9.tx.sh, (e7.trans e8).trans e9⟩⟩
      · obtain ⟨lk, rfl, hlk, e7⟩ := hM
        have E7 := E6.trans e7
        have hzi : i < zs.length := by omega
        have hz1 : zs[i]? = some zs[i] := List.getElem?_eq_getElem hzi
        have hcl : cs.length = i := by
          have := congrArg List.length hnm
          rw [List.length_map, List.length_take] at this
          omega
        have hul2 : us2.length = i := by rw [co_len hD, hcl]
        refine s_appU (l := pc) (xs := us2) (ys := [.str zs[i], .str kd.s, vz (valZ kd.s ((draws (ns.getD i 0) 5 5 (10 ^ 64)).getD 2 0)), .int ((draws (ns.getD i 0) 5 5 (10 ^ 64)).getD 3 0 % 2), .str lk]) (((e5.trans e6).trans e7) _ _ hus) (ev_var rfl) (eu_tup (ea_cons (ev_ixL (K := K) (ev_var rfl) (ev_var rfl) (sq_of ((((eH.trans e5).trans e6).trans e7) _ _ hnq)) (at_nat (by rw [List.getElem?_map, hz1] <;> rfl))) (ea_cons (ev_var rfl) (ea_cons (ev_call (ea_cons (ev_var rfl) (ea_cons (num (j := 2) E7 rfl (ev_var rfl) hi2 (by decide)) ea_nil)) (cv_value (numw hi2 (by decide)).2 (kn_len _))) (ea_cons (ev_bin (ev_intI (num (j := 3) E7 rfl (ev_var rfl) hi2 (by decide))) ev_c (by decide)) (ea_cons (ev_var rfl) ea_nil))))) (by show 5 ≤ 100000; decide)) (by omega) fun pt H8 npt e8 hpt => ?_
        have cok : Co.okV ⟨zs[i], kd, pd (vz (valZ kd.s ((draws (ns.getD i 0) 5 5 (10 ^ 64)).getD 2 0))), (draws (ns.getD i 0) 5 5 (10 ^ 64)).getD 3 0 % 2, lk⟩ := ⟨hz _ (List.mem_of_getElem? hz1), val_of kd _, hlk⟩
        have hv : Dp K H8 (vz (valZ kd.s ((draws (ns.getD i 0) 5 5 (10 ^ 64)).getD 2 0))) (pd (vz (valZ kd.s ((draws (ns.getD i 0) 5 5 (10 ^ 64)).getD 2 0)))) := dp_scv (acc_val kd _).2
        obtain ⟨a1, a2⟩ := col_app (v := .ref pt) ((((e5.trans e6).trans e7).trans e8) _ _ hus) (dpa_mono (((e5.trans e6).trans e7).trans e8) hD) (fun c hc => (hok c hc).ok) (.tup (st_of hpt) (.cons (.str _) (.cons (.str _) (.cons hv (.cons (.int _) (.cons (.str _) .nil)))))) cok.ok
        refine ⟨us2 ++ [.ref pt], cs ++ [_], _, _, _, rfl, ?_, upd_same, a1, ?_, fun c hc => ?_⟩
        · exact ((((eH.trans e5).trans e6).trans e7).trans e8).mut npc
        · rw [List.map_append, hnm, List.take_add_one, hz1] <;> rfl
        · rcases List.mem_append.mp hc with h | h
          · exact hok c h
          · rw [List.mem_singleton.mp h]
            exact cok
    · obtain ⟨us2, cs, x6, x7, x8, rfl, eH, hus, hD, hnm, hok⟩ := hP
      have hfull : zs.take ((ns.length : Int)).toNat = zs := List.take_of_length_le (by omega)
      rw [hfull] at hnm
      have hcl : cs.length = ns.length := by
        have := congrArg List.length hnm
        rw [List.length_map] at this
        omega
      exact s_ret (ev_var rfl) fun H5 e5 => q pc us2 cs H5 (fresh_back ((e1.trans e2).trans e3) npc) ((((e1.trans e2).trans e3).trans eH).trans e5) (e5 _ _ hus) (dpa_mono e5 hD) hcl hok (by rw [hnm]; exact hnd)


/-! ### _law_drawn_key -/
structure KeyOk (cs : List Co) (ks : List Str) : Prop where
  l1 : 1 ≤ ks.length
  l2 : ks.length ≤ 2
  nd : ks.Nodup
  mem : ∀ z ∈ ks, ∃ c ∈ cs, c.nm = z ∧ c.kd.q = false
def spKey (K : PySem.W.Frag) : Sp := fun vs H Q _ => ∃ (a : Addr) (us : List V) (cs : List Co) (cell : Int), vs = [.ref a, .int cell] ∧ H a = some (.lst us) ∧ DpAll K H us (cs.map Co.d) ∧ (∀ c ∈ cs, c.okV) ∧ (cs.map Co.nm).Nodup ∧ 1 ≤ cs.length ∧ cs.length ≤ 12 ∧ Wd cell ∧
  ∀ pk ks us' (cs' : List Co) H', H pk = none → ExB a H H' → H' a = some (.lst us') → DpAll K H' us' (cs'.map Co.d) → (∀ c ∈ cs', c.okV) → cs'.map Co.nm = cs.map Co.nm → H' pk = some (.lst (ks.map V.str)) → KeyOk cs' ks → Q (.ref pk) H'
set_option maxHeartbeats 4000000 in
theorem ok_law_drawn_key (T : Txt K mg base) : FnOk P w K mg base CX0 4 T.f_law_drawn_key T.d_law_drawn_key ["columns", "cell"] (spKey K) := by
  refine T.F_law_drawn_key.ok sc_law_drawn_key (fun vs H Q E h => ?_) (fun cdv A outer s H vs Q E hr h => ?_)
  · obtain ⟨a, us, cs, cell, rfl, _⟩ := h
    rfl
  · obtain ⟨a, us, cs, cell, rfl, hA, hD, hok, hnd, hl1, hl2, hW, q⟩ := h
    have hul := co_len hD
    refine ⟨_, pss_modT (i := 2) sc_law_drawn_key.nd rfl (by first | exact Or.inl rfl | exact Or.inr rfl) (pe_callTy call_int1 (by rfl) T.m_int (by decide +kernel) (pa_cons (pv 1) (pa_nil))) (pe_callB (r := rLenQ K) call_len_seq (by rfl) T.m_len (by decide +kernel) (pa_cons (pv 0) (pa_nil)))
      (psst_cons (PST.of (ps_asg (pe_ix (r := rIxL K) ix_list (pv 0) (pv 2) (fun _ _ => rfl)) (pg_tup rfl (pgs_cons (pg_name (i := 3) sc_law_drawn_key.nd rfl (by first | exact Or.inl rfl | exact Or.inr rfl)) (pgs_cons (pg_name (i := 4) sc_law_drawn_key.nd rfl (by first | exact Or.inl rfl | exact Or.inr rfl)) (pgs_cons (pg_name (i := 5) sc_law_drawn_key.nd rfl (by first | exact Or.inl rfl | exact Or.inr rfl)) (pgs_cons (pg_name (i := 6) sc_law_drawn_key.nd rfl (by first | exact Or.inl rfl | exact Or.inr rfl)) (pgs_cons (pg_name (i := 7) sc_law_drawn_key.nd rfl (by first | exact Or.inl rfl | exact Or.inr rfl)) (pgs_nil)))))))))
      (psst_cut (PST.of (ps_if (pt_cmpR op_isN (pv 5) (pe_non) (nomark _))
      (pss_one (ps_set (i := 5) sc_law_drawn_key.nd rfl (by first | exact Or.inl rfl | exact Or.inr rfl) (pe_call (ok_law_value T) (hr.mono (by first | decide | omega)) (by rfl) T.g_law_value T.F_law_value.kp T.b_law_value .nil pass0 (pa_cons (pe_slice sl_str (pv 4) (po_none) (po_some (pe_un un_neg (pe_int)))) (pa_cons (pe_op op_fdivW (pv 1) (pe_int)) (pa_nil))))))
      (pss_nil)))
      (psst_cons (pst_asg (pet_tup (pat_cons (CwR.PET.of (pv 3)) (pat_cons (CwR.pet_replC (pv 4)) (pat_cons (CwR.PET.of (pv 5)) (pat_cons (CwR.PET.of (pv 6)) (pat_cons (CwR.PET.of (pv 7)) (pat_nil))))))) (pg_sub (pv 0) (pv 2) set_list))
      (psst_cons (PST.of (ps_set (i := 8) sc_law_drawn_key.nd rfl (by first | exact Or.inl rfl | exact Or.inr rfl) (pe_lst (pa_cons (pv 3) (pa_nil)))))
      (psst_cons (PST.of (ps_setLc (i := 9) (own := [("column", 10)]) (g := gName 10) (by rfl) sc_law_drawn_key.nd rfl rfl (sw_true rfl rfl rfl (by decide +kernel)) (pi_list (pv 0)) (blkOk_by (N := ["columns", "cell", "place", "name", "kind", "default", "unique", "link", "key", "others", "column"]) (sc := defScope s_law_drawn_key) (by decide +kernel)) (fun _ _ _ _ _ => pg_name (i := 10) sc_law_drawn_key.nd rfl (Or.inl rfl)) (fun _ _ _ _ _ => pts_one (PW.pt (pw_and (pt_cmpR op_ne (pe_ix (r := rIxT K) ix_tup (pv 10) (pe_int) (fun _ _ => rfl)) (pv 3) (nomark _)) (pw_and1 (pt_not (pt_val (pe_m1 PySem.F.slot_str_endswith PySem.F.type_str_endswith mt_endswith (pe_ix (r := rIxT K) ix_tup (pv 10) (pe_int) (fun _ _ => rfl)) (pe_str)))))))) (fun _ _ _ _ _ => pe_ix (r := rIxT K) ix_tup (pv 10) (pe_int) (fun _ _ => rfl))))
      (psst_cons (PST.of (ps_if (PW.pt (pw_and (pt_truth (pv 9) (by intro _; rfl)) (pw_and1 (pt_cmpR op_eq (pe_op op_mod (pe_callTy call_int1 (by rfl) T.m_int (by decide +kernel) (pa_cons (pe_op op_fdivW (pv 1) (pe_int)) (pa_nil))) (pe_int)) (pe_int) (nomark _)))))
      (pss_one (ps_expr (pe_bm PySem.F.plainAttrs_list PySem.F.slot_list_append PySem.F.type_list_append mt_append (pv 8) (pa_cons (pe_ix (r := rIxL K) ix_list (pv 9) (pe_op op_mod (pe_callTy call_int1 (by rfl) T.m_int (by decide +kernel) (pa_cons (pe_op op_fdivW (pv 1) (pe_int)) (pa_nil))) (pe_callB (r := rLenQ K) call_len_seq (by rfl) T.m_len (by decide +kernel) (pa_cons (pv 9) (pa_nil)))) (fun _ _ => rfl)) (pa_nil)))))
      (pss_nil)))
      (CwR.psst_one (PST.of (ps_ret (pv 8)))))))))), ?_⟩
    have hpos : (0 : Int) < (us.length : Int) := by omega
    have m0 := Int.emod_nonneg cell (by omega : (us.length : Int) ≠ 0)
    have m1 := Int.emod_lt_of_pos cell hpos
    obtain ⟨m, hm⟩ : ∃ m : Nat, cell % (us.length : Int) = (m : Int) := ⟨_, (Int.toNat_of_nonneg m0).symm⟩
    rw [hm] at m1
    refine q_asg (v := .int (m : Int)) (ev_is (ev_bin (ev_intI (ev_var rfl)) (ev_lenQ (K := K) (ev_var rfl) (sq_of hA)) hpos) (congrArg V.int hm)) fun H1 e1 => ?_
    obtain ⟨x, hx⟩ : ∃ x, us[m]? = some x := ⟨_, List.getElem?_eq_getElem (by omega)⟩
    obtain ⟨c, hc, hDx⟩ := co_get hD hx
    have cok := hok c (List.mem_of_getElem? hc)
    obtain ⟨pc, y, rfl, hs, hy⟩ := co_at hDx
    have ey := dv_eq hy cok.ok.df
    subst ey
    refine q_asgG (ev_run (ev_ixL (K := K) (ev_var rfl) (ev_var rfl) (sq_of (e1 _ _ hA)) (at_nat hx)) fun H2 e2 => ⟨pc, _, rfl, ex_t (e1.trans e2) hs, rfl, .str c.nm, _, rfl, .str c.kd.s, _, rfl, dvV c.df, _, rfl, .int c.un, _, rfl, .str c.lk, _, rfl, rfl, ?_⟩)
    have E2 := e1.trans e2
    refine q_cut (M := fun σ' H' => ∃ d, σ' = [some (.ref a), some (.int cell), some (.int (m : Int)), some (.str c.nm), some (.str c.kd.s), some (dvV d), some (.int c.un), some (.str c.lk), none, none, none] ∧ ValOf (nb c.kd) d ∧ Ex H2 H') ?_ fun σ' H' hM => ?_
    · refine s_when (et_test (ev_isN (ev_var rfl))) (fun hb H3 e3 => ?_) fun hb H3 e3 => ⟨c.df, rfl, cok.vl.nb fun e => ?_, e3⟩
      · have hq : c.kd.q = true := by
          have hb2 := of_decide_eq_true hb
          have := cok.vl
          cases hv : c.df with
          | none => rw [hv] at this; cases this with
            | non z => exact z
          | int i => rw [hv] at hb2; cases hb2
          | str z => rw [hv] at hb2; cases hb2
          | bool _ => rw [hv] at this; cases this
          | list _ => rw [hv] at this; cases this
          | tuple _ => rw [hv] at this; cases this
          | dict _ => rw [hv] at this; cases this
        have vv := val_of (nb c.kd) (cell / 12)
        refine s_asg (v := dvV (pd (vz (valZ (nb c.kd).s (cell / 12))))) (ev_is (ev_call (ea_cons (ev_is (ev_slS (ev_var rfl) eo_none (eo_some (ev_neg ev_c)) (kn_len _)) (congrArg V.str (nb_cut hq))) (ea_cons (ev_bin (ev_var rfl) ev_c ⟨by decide, by decide⟩) ea_nil)) (cv_value (Wd.div hW) (kn_len _))) ?_) fun H4 e4 => ⟨_, rfl, vv, e3.trans e4⟩
        have sc := (acc_val (nb c.kd) (cell / 12)).2
        generalize vz (valZ (nb c.kd).s (cell / 12)) = v at sc
        cases sc <;> rfl
      · rw [e] at hb
        exact absurd hb (by decide)
    · obtain ⟨d, rfl, hv, e3⟩ := hM
      have E3 := E2.trans e3
      have hA3 := E3 _ _ hA
      have hks := kn_slen c.kd
      refine q_setU (ys := [.str c.nm, .str (nb c.kd).s, dvV d, .int c.un, .str c.lk]) hA3 (eu_tup (ea_cons (ev_var rfl) (ea_cons (ev_is (ev_replM (ev_var rfl) (by rw [show (Str.ofString "").length = 0 by decide +kernel]; omega)) (congrArg V.str (nb_repl c.kd))) (ea_cons (ev_var rfl) (ea_cons (ev_var rfl) (ea_cons (ev_var rfl) ea_nil))))) (by show 5 ≤ 100000; decide)) (fun H4 e4 => ev_var rfl) (fun H4 e4 => ev_var rfl) (by omega) fun t H4 nt e4 ht => ?_
      have E4 := E3.trans e4
      obtain ⟨c', hc'⟩ : ∃ c' : Co, c' = ⟨c.nm, nb c.kd, d, c.un, c.lk⟩ := ⟨_, rfl⟩
      have cok' : c'.okV := by rw [hc']; exact ⟨cok.nm, hv, cok.lk⟩
      have cnm' : c'.nm = c.nm := by rw [hc']
      have cq' : c'.kd.q = false := by rw [hc']; exact nb_q _
      have XN : ExN H4 (upd H4 a (.lst (us.set m (.ref t)))) := ExN.upd (E4 _ _ hA)
      have dt : Dp K (upd H4 a (.lst (us.set m (.ref t)))) (.ref t) c'.d := dp_monoN XN cok'.ok.fl (by rw [hc']; exact .tup (st_of ht) (.cons (.str _) (.cons (.str _) (.cons (dpv_of hv) (.cons (.int _) (.cons (.str _) .nil))))))
      have dS : DpAll K (upd H4 a (.lst (us.set m (.ref t)))) (us.set m (.ref t)) ((cs.set m c').map Co.d) := by
        rw [List.map_set]
        exact dpa_set dt m (dpa_monoN XN (co_fl fun c hc => (hok c hc).ok) (dpa_mono E4 hD))
      have hA5 : (upd H4 a (.lst (us.set m (.ref t)))) a = some (.lst (us.set m (.ref t))) := upd_same
      have B5 : ExB a H (upd H4 a (.lst (us.set m (.ref t)))) := (ExB.of E4).trans ExB.put
      have nms : (cs.set m c').map Co.nm = cs.map Co.nm := by
        rw [List.map_set, cnm']
        refine List.ext_getElem? fun i => ?_
        rw [List.getElem?_set, List.getElem?_map]
        by_cases him : m = i
        · subst him
          rw [if_pos rfl, List.length_map, if_pos (by omega), hc] <;> rfl
        · rw [if_neg him]
      have okS : ∀ x ∈ cs.set m c', x.okV := fun x hx => by
        rcases List.mem_or_eq_of_mem_set hx with h | h
        · exact hok x h
        · rw [h]
          exact cok'
      have memS : c' ∈ cs.set m c' := List.mem_iff_getElem?.mpr ⟨m, by rw [List.getElem?_set_self (by omega)]⟩
      have lenS : (cs.set m c').length = cs.length := List.length_set
      have back : ∀ {b : Addr}, (upd H4 a (.lst (us.set m (.ref t)))) b = none → H b = none := fun {b} hb => by
        cases hbb : H b with
        | none => rfl
        | some o =>
          by_cases hba : b = a
          · rw [hba, hA5] at hb
            cases hb
          · rw [B5 b o hba hbb] at hb
            cases hb
      generalize upd H4 a (.lst (us.set m (.ref t))) = H5 at dS hA5 B5 back
      generalize cs.set m c' = cs2 at dS nms okS memS lenS
      generalize us.set m (.ref t) = us2 at dS hA5
      have hul2 := co_len dS
      refine q_asgL (xs := [.str c.nm]) (el_lst (ea_cons (ev_var rfl) ea_nil) (by show 1 ≤ 100000; decide)) fun pk H6 npk e6 hpk => ?_
      have g2 : ∀ {i : Nat}, i < cs2.length → cs2[i]? = some (cs2.getD i c') := fun {i} hi => by
        rw [List.getD_eq_getElem?_getD, List.getElem?_eq_getElem hi] <;> rfl
      refine q_asgL (el_lcL (K := K) (fun i => !decide ((cs2.getD i c').nm = c.nm) && !(cs2.getD i c').kd.q) (fun i => .str (cs2.getD i c').nm) (ev_var rfl) (sq_of (e6 _ _ hA5)) (by omega) (fun x => rfl) (fun i x H7 e7 hx => ?_) (fun i x H7 e7 hx _ => ?_)) fun po H7 _ e7 hpo => ?_
      · obtain ⟨c2, hc2, hD2⟩ := co_get dS hx
        rw [g2 (List.getElem?_eq_some_iff.mp hc2).1] at hc2
        obtain rfl := Option.some.inj hc2
        have hD7 := dp_mono (e6.trans e7) hD2
        exact et_and (et_test (ev_neS (ev_co (ev_var rfl) hD7).1 (ev_var rfl))) fun _ => et_is (et_not (et_B (ev_ends (ev_co (ev_var rfl) hD7).2.1 ev_c))) (by rw [kn_ends])
      · obtain ⟨c2, hc2, hD2⟩ := co_get dS hx
        rw [g2 (List.getElem?_eq_some_iff.mp hc2).1] at hc2
        obtain rfl := Option.some.inj hc2
        exact (ev_co (ev_var rfl) (dp_mono (e6.trans e7) hD2)).1
      obtain ⟨zs, hzs, hzm⟩ : ∃ zs : List Str, given us2.length (fun i => !decide ((cs2.getD i c').nm = c.nm) && !(cs2.getD i c').kd.q) (fun i => V.str (cs2.getD i c').nm) = zs.map V.str ∧ (∀ z ∈ zs, z ≠ c.nm ∧ ∃ c ∈ cs2, c.nm = z ∧ c.kd.q = false) := by
        refine ⟨((List.range us2.length).filter fun i => !decide ((cs2.getD i c').nm = c.nm) && !(cs2.getD i c').kd.q).map fun i => (cs2.getD i c').nm, by unfold given; rw [List.map_map] <;> rfl, fun z hz => ?_⟩
        obtain ⟨i, hi, rfl⟩ := List.mem_map.mp hz
        obtain ⟨hi1, hi2⟩ := List.mem_filter.mp hi
        have hi3 := List.mem_range.mp hi1
        simp only [Bool.and_eq_true, Bool.not_eq_true', decide_eq_false_iff_not] at hi2
        exact ⟨hi2.1, _, List.mem_of_getElem? (g2 (by omega)), rfl, hi2.2⟩
      rw [hzs] at hpo
      have B7 : ExB a H H7 := (B5.trans (ExB.of e6)).trans (ExB.of e7)
      have hA7 := (e6.trans e7) _ _ hA5
      have dS7 := dpa_mono (e6.trans e7) dS
      have hpk7 := e7 _ _ hpk
      refine q_when (et_and (et_is (et_lst (K := K) (ev_var rfl) fun H8 e8 => sq_of (e8 _ _ hpo)) rfl) fun _ => et_test (ev_eqI (ev_bin (ev_intI (ev_bin (ev_var rfl) ev_c ⟨by decide, by decide⟩)) ev_c (by decide)) ev_c)) (fun hb H8 e8 => ?_) fun hb H8 e8 => ?_
      · have hzp : 0 < zs.length := by
          rw [Bool.and_eq_true] at hb
          have := hb.1
          cases zs with
          | nil => simp at this
          | cons z r => exact Nat.succ_pos _
        have k0 := Int.emod_nonneg (cell / 24) (by rw [List.length_map]; omega : ((zs.map V.str).length : Int) ≠ 0)
        have k1 := Int.emod_lt_of_pos (cell / 24) (by rw [List.length_map]; omega : (0 : Int) < ((zs.map V.str).length : Int))
        rw [List.length_map] at k0 k1
        obtain ⟨z, hz⟩ : ∃ z, zs[(cell / 24 % (zs.length : Int)).toNat]? = some z := ⟨_, List.getElem?_eq_getElem (by omega)⟩
        obtain ⟨hz1, hz2⟩ := hzm z (List.mem_of_getElem? hz)
        refine s_app (K := K) (e8 _ _ hpk7) (ev_var rfl) (ev_ixL (K := K) (v := .str z) (ev_var rfl) (ev_bin (ev_intI (ev_bin (ev_var rfl) ev_c ⟨by decide, by decide⟩)) (ev_lenQ (K := K) (ev_var rfl) (sq_of (e8 _ _ hpo))) (by rw [List.length_map]; omega)) (sq_of (e8 _ _ hpo)) (by rw [List.length_map]; exact atI_of k0 (by rw [List.getElem?_map, hz] <;> rfl))) (by show 1 < 100000; decide) fun H9 e9 => ?_
        have hne : pk ≠ a := fun z => by rw [z, hA5] at npk; cases npk
        have E9 := e8.trans e9
        have XN9 : ExN H9 (upd H9 pk (.lst ([V.str c.nm] ++ [V.str z]))) := ExN.upd (E9 _ _ hpk7)
        refine s_ret (ev_var rfl) fun H10 e10 => q pk [c.nm, z] us2 cs2 H10 (back npk) (((B7.trans (ExB.of E9)).mut (back npk)).trans (ExB.of e10)) (e10 _ _ (by rw [upd_ne hne.symm]; exact E9 _ _ hA7)) (dpa_mono e10 (dpa_monoN XN9 (co_fl fun c hc => (okS c hc).ok) (dpa_mono E9 dS7))) okS nms (e10 _ _ (by rw [upd_same] <;> rfl)) ⟨by show 1 ≤ 2; decide, by show 2 ≤ 2; decide, ?_, fun w hw => ?_⟩
        · exact List.nodup_cons.mpr ⟨fun h => hz1 (List.mem_singleton.mp h).symm, List.nodup_cons.mpr ⟨by simp, List.nodup_nil⟩⟩
        · rcases List.mem_cons.mp hw with h | h
          · exact ⟨c', memS, by rw [h]; exact cnm', cq'⟩
          · rw [List.mem_singleton.mp h]
            exact hz2
      · refine s_ret (ev_var rfl) fun H10 e10 => q pk [c.nm] us2 cs2 H10 (back npk) (B7.trans (ExB.of (e8.trans e10))) ((e8.trans e10) _ _ hA7) (dpa_mono (e8.trans e10) dS7) okS nms ((e8.trans e10) _ _ hpk7) ⟨by show 1 ≤ 1; decide, by show 1 ≤ 2; decide, List.nodup_cons.mpr ⟨by simp, List.nodup_nil⟩, fun w hw => ?_⟩
        rw [List.mem_singleton.mp hw]
        exact ⟨c', memS, cnm', cq'⟩


/-! ### _law_form -/
def lamQF : Str := Str.ofString "_law_form.<locals>.<lambda>"
def spForm (K : PySem.W.Frag) (P : Addr) (pos : Pos) : Sp := fun vs H Q _ => ∃ (a : Addr) (xs : List V) (cs : List Co) (pk : Addr) (ks : List Str), vs = [.ref a, .ref pk] ∧ SqL K H a xs ∧ DpAll K H xs (cs.map Co.d) ∧ SqL K H pk (ks.map V.str) ∧ cs.length ≤ 1000 ∧
  ((LamTab H P pos lamQF ∧ ∀ v H', Ex H H' → Dp K H' v (Fm.mk (sortC cs) ks).d → Q v H') ∨ (H P = some (.tbl #[]) ∧ ∀ v H', LamX.ExtN H H' → LamTab H' P pos lamQF → Dp K H' v (Fm.mk (sortC cs) ks).d → Q v H'))
theorem ok_law_form (T : Txt K mg base) : FnOk P w K mg base CX0 4 T.f_law_form T.d_law_form ["columns", "key"] (spForm K T.P_law_form ⟨137, 38, 137, 62⟩) := by
  refine fun_code T.F_law_form T.cd_law_form sc_law_form (fun vs H Q E h => ?_) (fun A outer s H vs Q E hr h => ?_)
  · obtain ⟨a, xs, cs, pk, ks, rfl, _⟩ := h
    rfl
  · obtain ⟨a, xs, cs, pk, ks, rfl, hS, hD, hK, hl, q⟩ := h
    refine ⟨_, pss_one (ps_ret (pe_tup (pa_cons (pe_callTy (r := rTupOf K) call_tuple_of (by rfl) T.m_tuple (by decide +kernel) (pa_cons (pe_sortLam (hr.mono (by first | decide | omega)) T.tb_law_form rfl (pa_cons (pv 0) pa_nil) (by rfl) T.m_sorted) (pa_nil))) (pa_cons (pe_callTy (r := rTupOf K) call_tuple_of (by rfl) T.m_tuple (by decide +kernel) (pa_cons (pv 1) (pa_nil))) (pa_nil))))), ?_⟩
    have hxl := co_len hD
    -- the pairs: a value, its column
    obtain ⟨ps, hp1, hp2, hp3⟩ : ∃ ps : List (V × Co), ps.map (·.1) = xs ∧ ps.map (·.2) = cs ∧ ∀ p ∈ ps, Dp K H p.1 p.2.d := by
      refine ⟨xs.zip cs, List.map_fst_zip (by omega), List.map_snd_zip (by omega), fun p hp => ?_⟩
      obtain ⟨i, hi⟩ := List.getElem?_of_mem hp
      obtain ⟨h1, h2⟩ := List.getElem?_zip_eq_some.mp hi
      obtain ⟨c, h3, h4⟩ := co_get hD h1
      rw [Option.some.inj (h2.symm.trans h3)]
      exact h4
    have es : ((ps.map fun p => (p.1, p.2.nm)).mergeSort leK).map (·.1) = (ps.mergeSort fun p r => leC p.2 r.2).map (·.1) := by
      rw [← List.map_mergeSort (r := fun p r : V × Co => leC p.2 r.2) (s := leK) (f := fun p => (p.1, p.2.nm)) (fun a _ b _ => rfl), List.map_map] <;> rfl
    have ed : (ps.mergeSort fun p r => leC p.2 r.2).map (·.2) = sortC cs := by
      unfold sortC
      rw [← hp2, ← List.map_mergeSort (r := fun p r : V × Co => leC p.2 r.2) (s := leC) (f := fun p => p.2) (fun a _ b _ => rfl)]
    have all : ∀ {qs : List (V × Co)} {H' : Hp}, (∀ p ∈ qs, Dp K H' p.1 p.2.d) → DpAll K H' (qs.map (·.1)) ((qs.map (·.2)).map Co.d) := fun {qs} => by
      induction qs with
      | nil => exact fun _ => .nil
      | cons p r ih => exact fun h => .cons (h p (List.mem_cons_self ..)) (ih fun x hx => h x (List.mem_cons_of_mem _ hx))
    have keys : ∀ {H' : Hp}, LamX.ExtN H H' → ∀ p ∈ ps.map (fun p => (p.1, p.2.nm)), KeyAt K H' p.1 p.2 := fun e p hp => by
      obtain ⟨r, hr2, rfl⟩ := List.mem_map.mp hp
      obtain ⟨t, y, h1, h2, _⟩ := co_at (hp3 r hr2)
      exact ⟨t, _, h1, xn_t e h2⟩
    have mm : (ps.map fun p => (p.1, p.2.nm)).map (·.1) = xs := by
      rw [List.map_map, ← hp1] <;> rfl
    -- what is handed back
    have fin : ∀ {H' : Hp} {l : Addr}, LamX.ExtN H H' → H' l = some (.lst (((ps.map fun p => (p.1, p.2.nm)).mergeSort leK).map (·.1))) → ∀ t, H' t = none → Dp K (upd H' t (.tup (((ps.map fun p => (p.1, p.2.nm)).mergeSort leK).map (·.1)))) (.ref t) (.tuple ((sortC cs).map Co.d)) := fun e hl t ht => by
      refine .tup (st_of upd_same) ?_
      rw [es, ← ed]
      exact all fun p hp => dp_mono (Ex.new ht) (dp_monoX e (hp3 p (List.mem_mergeSort.mp hp)))
    obtain ⟨P0, hP0⟩ : ∃ P0, P0 = T.P_law_form := ⟨_, rfl⟩
    rw [← hP0] at q
    refine ⟨.ref a, rfl, ?_⟩
    rw [← hP0]
    rcases q with ⟨⟨c', hP, hc'⟩, q⟩ | ⟨hP, q⟩
    · refine .inr ⟨c', hP, hc', fun f hf => ⟨a, f, c', ps.map fun p => (p.1, p.2.nm), rfl, rfl, by rw [mm]; exact ex_l (Ex.new hf) hS, keys (Ex.xn (Ex.new hf)), upd_same, (Ex.new hf) _ _ hc', fun l hl => ⟨l, _, rfl, .inl ⟨sq_of upd_same, fun t ht => ?_⟩⟩⟩⟩
      have E2 : Ex H (upd (upd H f (LamO f c' lamQF _ _ _)) l (.lst (((ps.map fun p => (p.1, p.2.nm)).mergeSort leK).map (·.1)))) := (Ex.new hf).trans (Ex.new hl)
      refine cons_run ?_
      refine eu_run (eu_ofL (K := K) (ev_var rfl) (ex_l (E2.trans (Ex.new ht)) hK)) fun t2 H2 _ e2 h2 => ⟨(by show 2 ≤ sizeLine; decide), fun r hr => ?_⟩
      exact q _ _ (((E2.trans (Ex.new ht)).trans e2).trans (Ex.new hr)) (fm_mk (st_of upd_same) (dp_mono (e2.trans (Ex.new hr)) (fin (Ex.xn E2) upd_same t ht)) (.tup (st_of ((Ex.new hr) _ _ h2)) (dpa_strs ks)))
    · refine .inl ⟨hP, fun c' f hc' hf hcf => ?_⟩
      have nP : ∀ {b : Addr}, H b = none → b ≠ P0 := fun hb z => by rw [z, hP] at hb; cases hb
      have X1 : LamX.ExtN H (upd H P0 (.tbl (tabOf ⟨137, 38, 137, 62⟩ c'))) := fun b o hb n => by rw [upd_ne (fun z => n _ (Option.some.inj (hb.symm.trans (by rw [z]; exact hP))))]; exact hb
      have n1 : (upd H P0 (.tbl (tabOf ⟨137, 38, 137, 62⟩ c'))) c' = none := by rw [upd_ne (nP hc')]; exact hc'
      have E1 := Ex.new (o := LamX.CodeO c' lamQF) n1
      have n2 : (upd (upd H P0 (.tbl (tabOf ⟨137, 38, 137, 62⟩ c'))) c' (LamX.CodeO c' lamQF)) f = none := by rw [upd_ne hcf.symm, upd_ne (nP hf)]; exact hf
      have X2 : LamX.ExtN H (upd (upd H P0 (.tbl (tabOf ⟨137, 38, 137, 62⟩ c'))) c' (LamX.CodeO c' lamQF)) := X1.trans (Ex.xn E1)
      have tab : LamTab (upd (upd H P0 (.tbl (tabOf ⟨137, 38, 137, 62⟩ c'))) c' (LamX.CodeO c' lamQF)) P0 ⟨137, 38, 137, 62⟩ lamQF := ⟨c', by rw [upd_ne (nP hc').symm, upd_same], upd_same⟩
      have X3 : ∀ o, LamX.ExtN H (upd (upd (upd H P0 (.tbl (tabOf ⟨137, 38, 137, 62⟩ c'))) c' (LamX.CodeO c' lamQF)) f o) := fun o => X2.trans (Ex.xn (Ex.new n2))
      refine ⟨a, f, c', ps.map fun p => (p.1, p.2.nm), rfl, rfl, by rw [mm]; exact xn_l (X3 _) hS, keys (X3 _), upd_same, (Ex.new n2) _ _ upd_same, fun l hl => ⟨l, _, rfl, .inl ⟨sq_of upd_same, fun t ht => ?_⟩⟩⟩
      have X4 := (X3 _).trans (Ex.xn (Ex.new (o := .lst (((ps.map fun p => (p.1, p.2.nm)).mergeSort leK).map (·.1))) hl))
      have X5 := X4.trans (Ex.xn (Ex.new (o := .tup (((ps.map fun p => (p.1, p.2.nm)).mergeSort leK).map (·.1))) ht))
      refine cons_run ?_
      refine eu_run (eu_ofL (K := K) (ev_var rfl) (xn_l X5 hK)) fun t2 H2 _ e2 h2 => ⟨(by show 2 ≤ sizeLine; decide), fun r hr => ?_⟩
      exact q _ _ ((X5.trans (Ex.xn e2)).trans (Ex.xn (Ex.new hr))) (((((tab.mono (Ex.new n2)).mono (Ex.new hl)).mono (Ex.new ht)).mono e2).mono (Ex.new hr)) (fm_mk (st_of upd_same) (dp_mono (e2.trans (Ex.new hr)) (fin X4 upd_same t ht)) (.tup (st_of ((Ex.new hr) _ _ h2)) (dpa_strs ks)))


/-! ### _law_is -/
def spIs : Sp := fun vs H Q _ => ∃ i j : Bool, vs = [.bl i, .bl j] ∧ ∀ H', Ex H H' → Q (.bl (decide (i = j))) H'
theorem cv_is {i j : Bool} {H : Hp} : SpV spIs [.bl i, .bl j] H (.bl (decide (i = j))) := fun H1 e Q q E => ⟨i, j, rfl, fun H2 e2 => q H2 e2⟩
theorem ok_law_is (T : Txt K mg base) : FnOk P w K mg base CX0 1 T.f_law_is T.d_law_is ["actual", "expected"] spIs := by
  refine T.F_law_is.ok sc_law_is (fun vs H Q E h => ?_) (fun cdv A outer s H vs Q E hr h => ?_)
  · obtain ⟨i, j, rfl, _⟩ := h
    rfl
  · obtain ⟨i, j, rfl, q⟩ := h
    refine ⟨_, pss_one (ps_ret (pe_and (pe_callB (r := rIsi K) call_isi (by rfl) T.m_isinstance (by decide +kernel) (pa_cons (pv 0) (pa_cons (pe_bltn (v := .ty "bool") (by rfl) T.m_bool (by decide +kernel) rfl) (pa_nil)))) (pe_one (pe_cmpR op_eq (pv 0) (pv 1) (nomark _))))), ?_⟩
    exact s_ret (ev_is (ev_andV (a := true) (ev_isi (K := K) (a := "bool") (ev_var rfl) (fun _ _ => .base (.bl i)) (by decide +kernel)) fun _ => ev_eqB (ev_var rfl) (ev_var rfl)) (by simp)) q


/-! ### _law_accepts -/
def laccB (k : Str) : V → Bool
  | .non => kIn k ["int?", "text?"]
  | .str _ => kIn k ["text", "text?"]
  | _ => kIn k ["int", "int?"]
def spLacc : Sp := fun vs H Q _ => ∃ (k : Str) (v : V), vs = [.str k, v] ∧ Sc v ∧ ∀ H', Ex H H' → Q (.bl (laccB k v)) H'
theorem cv_lacc {k : Str} {v : V} {H : Hp} (h : Sc v) : SpV spLacc [.str k, v] H (.bl (laccB k v)) := fun H1 e Q q E => ⟨k, v, rfl, h, fun H2 e2 => q H2 e2⟩
theorem ok_law_accepts (T : Txt K mg base) : FnOk P w K mg base CX0 1 T.f_law_accepts T.d_law_accepts ["kind", "value"] spLacc := by
  refine T.F_law_accepts.ok sc_law_accepts (fun vs H Q E h => ?_) (fun cdv A outer s H vs Q E hr h => ?_)
  · obtain ⟨k, v, rfl, _⟩ := h
    rfl
  · obtain ⟨k, v, rfl, hv, q⟩ := h
    refine ⟨_, pss_cons (ps_if (pt_cmpR op_isN (pv 1) (pe_non) (nomark _))
      (pss_one (ps_ret (pe_cmpR (r := rIn K false) op_in_seq (pv 0) (pe_lst (pa_cons (pe_str) (pa_cons (pe_str) (pa_nil)))) (by rfl))))
      (pss_nil))
      (pss_cons (ps_if (pt_val (pe_callB (r := rIsi K) call_isi (by rfl) T.m_isinstance (by decide +kernel) (pa_cons (pv 1) (pa_cons (pe_bltn (v := .ty "str") (by rfl) T.m_str (by decide +kernel) rfl) (pa_nil)))))
      (pss_one (ps_ret (pe_cmpR (r := rIn K false) op_in_seq (pv 0) (pe_lst (pa_cons (pe_str) (pa_cons (pe_str) (pa_nil)))) (by rfl))))
      (pss_nil))
      (pss_one (ps_ret (pe_cmpR (r := rIn K false) op_in_seq (pv 0) (pe_lst (pa_cons (pe_str) (pa_cons (pe_str) (pa_nil)))) (by rfl))))), ?_⟩
    cases hv with
    | non => exact q_when (b := true) (et_test (ev_isNt (ev_var rfl))) (fun _ H1 e1 => s_ret (ev_kinL (K := K) (ev_var rfl) (el_lst (ea_cons ev_c (ea_cons ev_c ea_nil)) (by show 2 ≤ 100000; decide))) fun H2 e2 => q H2 (e1.trans e2)) (fun z => nomatch z)
    | int i =>
      refine q_when (b := false) (et_test (ev_isNf (ev_var rfl))) (fun z => nomatch z) fun _ H1 e1 => ?_
      refine q_when (b := false) (et_B (ev_isi (K := K) (a := "int") (ev_var rfl) (fun _ _ => .base (.int i)) (by decide +kernel))) (fun z => nomatch z) fun _ H2 e2 => ?_
      exact s_ret (ev_kinL (K := K) (ev_var rfl) (el_lst (ea_cons ev_c (ea_cons ev_c ea_nil)) (by show 2 ≤ 100000; decide))) fun H3 e3 => q H3 ((e1.trans e2).trans e3)
    | str z =>
      refine q_when (b := false) (et_test (ev_isNf (ev_var rfl))) (fun z => nomatch z) fun _ H1 e1 => ?_
      exact q_when (b := true) (et_B (ev_isi (K := K) (a := "str") (ev_var rfl) (fun _ _ => .base (.str z)) (by decide +kernel))) (fun _ H2 e2 => s_ret (ev_kinL (K := K) (ev_var rfl) (el_lst (ea_cons ev_c (ea_cons ev_c ea_nil)) (by show 2 ≤ 100000; decide))) fun H3 e3 => q H3 ((e1.trans e2).trans e3)) (fun z => nomatch z)


/-! ### _law_row -/
/-- a row of the form -/
def RowOf (K : PySem.W.Frag) (H : Hp) (f : Fm) (p : Addr) (us : List V) : Prop := SqT K H p us ∧ us.length = f.cs.length ∧ ∀ (i : Nat) c u, f.cs[i]? = some c → us[i]? = some u → accB c.kd.s u = true ∧ Sc u
def spRow8 (K : PySem.W.Frag) : Sp := fun vs H Q _ => ∃ (f : Fm) (vf : V) (cell : Int), vs = [vf, .int cell] ∧ Dp K H vf f.d ∧ f.cs.length ≤ 1000 ∧ Wd cell ∧ ∀ p us H', Ex H H' → RowOf K H' f p us → Q (.ref p) H'
theorem ok_law_row (T : Txt K mg base) : FnOk P w K mg base CX0 4 T.f_law_row T.d_law_row ["form", "cell"] (spRow8 K) := by
  refine T.F_law_row.ok sc_law_row (fun vs H Q E h => ?_) (fun cdv A outer s H vs Q E hr h => ?_)
  · obtain ⟨f, vf, c, rfl, _⟩ := h
    rfl
  · obtain ⟨f, vf, c, rfl, hF, hl, hW, q⟩ := h
    obtain ⟨pf, pa, pk, xs, rfl, h1, h2, h3, h4⟩ := fm_at hF
    have hxl := co_len h3
    refine ⟨_, pss_cons (ps_set (i := 2) sc_law_row.nd rfl (by first | exact Or.inl rfl | exact Or.inr rfl) (pe_call (ok_law_draws T) (hr.mono (by first | decide | omega)) (by rfl) T.g_law_draws T.F_law_draws.kp T.b_law_draws .nil pass0 (pa_cons (pv 1) (pa_cons (pe_int) (pa_cons (pe_callB (r := rLenQ K) call_len_seq (by rfl) T.m_len (by decide +kernel) (pa_cons (pe_ix (r := rIxT K) ix_tup (pv 0) (pe_int) (fun _ _ => rfl)) (pa_nil))) (pa_cons (pe_op op_pow (pe_int) (pe_int)) (pa_nil)))))))
      (pss_one (ps_ret (pe_callTy (r := rTupOf K) call_tuple_of (by rfl) T.m_tuple (by decide +kernel) (pa_cons (pe_lc (own := [("k", 3)]) (g := gName 3) (tt := tYes) rfl sc_law_row.nd (pi_range1 (by rfl) T.m_range (pa_cons (pe_callB (r := rLenQ K) call_len_seq (by rfl) T.m_len (by decide +kernel) (pa_cons (pe_ix (r := rIxT K) ix_tup (pv 0) (pe_int) (fun _ _ => rfl)) (pa_nil))) (pa_nil))) (blkOk_by (N := ["form", "cell", "parts", "k"]) (sc := defScope s_law_row) (by decide +kernel)) (fun _ _ _ _ _ => pg_name (i := 3) sc_law_row.nd rfl (Or.inl rfl)) (fun _ _ _ _ _ => pts_nil) (fun _ _ _ _ _ => pe_call (ok_law_value T) (hr.mono (by first | decide | omega)) (by rfl) T.g_law_value T.F_law_value.kp T.b_law_value .nil pass0 (pa_cons (pe_ix (r := rIxT K) ix_tup (pe_ix (r := rIxT K) ix_tup (pe_ix (r := rIxT K) ix_tup (pv 0) (pe_int) (fun _ _ => rfl)) (pv 3) (fun _ _ => rfl)) (pe_int) (fun _ _ => rfl)) (pa_cons (pe_ix (r := rIxL K) ix_list (pv 2) (pv 3) (fun _ _ => rfl)) (pa_nil))))) (pa_nil))))), ?_⟩
    have w64 : Wd ((10 : Int) ^ 64) := Wd.lit (by decide +kernel)
    refine q_asgL (xs := (draws c 7 f.cs.length (10 ^ 64)).map V.int) (el_call (ea_cons (ev_var rfl) (ea_cons ev_c (ea_cons (ev_is (ev_lenT (K := K) (ev_ixT (K := K) (ev_var rfl) ev_c h1 (at_nat (j := 0) rfl)) h2) (by rw [hxl])) (ea_cons (ev_bin ev_c ev_c ⟨by decide, by decide, by decide⟩) ea_nil)))) (cl_draws (count := f.cs.length) hW (by decide) (by omega) (by decide) (by decide +kernel))) fun l H1 _ e1 hl1 => ?_
    have gl := draws_len c 7 f.cs.length (10 ^ 64)
    have gw := draws_ok (salt := 7) hW (by decide : (0 : Int) < 10 ^ 64) w64 f.cs.length
    generalize draws c 7 f.cs.length (10 ^ 64) = gs at hl1 gl gw
    refine s_retU (eu_ofN (K := K) (el_mapR (n := f.cs.length) (ys := (List.range f.cs.length).map fun i => vz (valZ (f.cs.getD i ⟨"", .int, .none, 0, ""⟩).kd.s (gs.getD i 0))) (ea_cons (ev_is (ev_lenT (K := K) (ev_ixT (K := K) (ev_var rfl) ev_c (ex_t e1 h1) (at_nat (j := 0) rfl)) (ex_t e1 h2)) (by rw [hxl])) ea_nil) (by omega) (fun x => rfl) (by rw [List.length_map, List.length_range]) fun i y hi hy H2 e2 => ?_)) fun p H2 _ e2 h2' => ?_
    · rw [List.getElem?_map, List.getElem?_range hi] at hy
      obtain rfl := (Option.some.inj hy).symm
      obtain ⟨cc, hc⟩ : ∃ cc, f.cs[i]? = some cc := ⟨_, List.getElem?_eq_getElem hi⟩
      obtain ⟨x, hx⟩ : ∃ x, xs[i]? = some x := ⟨_, List.getElem?_eq_getElem (by omega)⟩
      obtain ⟨c', hc', hD⟩ := co_get h3 hx
      rw [hc] at hc'
      cases hc'
      have hg : gs[i]? = some (gs.getD i 0) := by rw [List.getD_eq_getElem?_getD, List.getElem?_eq_getElem (by omega)] <;> rfl
      have hk : (f.cs.getD i ⟨"", .int, .none, 0, ""⟩) = cc := by rw [List.getD_eq_getElem?_getD, hc] <;> rfl
      refine ev_is (ev_call (ea_cons (ev_co (ev_ixT (K := K) (ev_ixT (K := K) (ev_var rfl) ev_c (ex_t (e1.trans e2) h1) (at_nat (j := 0) rfl)) (ev_var rfl) (ex_t (e1.trans e2) h2) (at_nat hx)) (dp_mono (e1.trans e2) hD)).2.1 (ea_cons (ev_ixL (K := K) (v := .int (gs.getD i 0)) (ev_var rfl) (ev_var rfl) (sq_of (e2 _ _ hl1)) (at_nat (by rw [List.getElem?_map, hg] <;> rfl))) ea_nil)) (cv_value (gw _ (List.mem_of_getElem? hg)).2 (by have := kn_len cc.kd; omega))) (by
        show _ = vz (valZ (f.cs.getD i _).kd.s (gs.getD i 0))
        rw [hk])
    · refine q p _ H2 (e1.trans e2) ⟨st_of h2', by rw [List.length_map, List.length_range], fun i cc u hc hu => ?_⟩
      have hi := (List.getElem?_eq_some_iff.mp hc).1
      rw [List.getElem?_map, List.getElem?_range hi] at hu
      obtain rfl := (Option.some.inj hu).symm
      have hk : (f.cs.getD i ⟨"", .int, .none, 0, ""⟩) = cc := by rw [List.getD_eq_getElem?_getD, hc] <;> rfl
      show accB cc.kd.s (vz (valZ (f.cs.getD i _).kd.s (gs.getD i 0))) = true ∧ Sc (vz (valZ (f.cs.getD i _).kd.s (gs.getD i 0)))
      rw [hk]
      exact acc_val cc.kd _


/-! ### _law_same -/
/-- data without lists and bools, of nesting at most n -/
inductive Gd : Nat → PyData → Prop
  | non (n : Nat) : Gd n .none
  | int (n : Nat) (i : Int) : Gd n (.int i)
  | str (n : Nat) (z : Str) : Gd n (.str z)
  | tup {n : Nat} {ds : List PyData} (h : ∀ d ∈ ds, Gd n d) (hl : ds.length ≤ 40000) : Gd (n + 1) (.tuple ds)
def spSameG (K : PySem.W.Frag) (n : Nat) : Sp := fun vs H Q _ => ∃ (u v : V) (d : PyData), vs = [u, v] ∧ Dp K H u d ∧ Dp K H v d ∧ Gd n d ∧ ∀ H', Ex H H' → Q (.bl true) H'
theorem cv_sameG {K : PySem.W.Frag} {n : Nat} {u v : V} {d : PyData} {H : Hp} (h : Dp K H u d) (h2 : Dp K H v d) (hf : Gd n d) : SpV (spSameG K n) [u, v] H (.bl true) := fun H1 e Q q E => ⟨u, v, d, rfl, dp_mono e h, dp_mono e h2, hf, fun H2 e2 => q H2 e2⟩
theorem gd_at {n : Nat} {ds : List PyData} (h : Gd (n + 1) (.tuple ds)) : (∀ d ∈ ds, Gd n d) ∧ ds.length ≤ 40000 := by
  cases h with
  | tup h hl => exact ⟨h, hl⟩
theorem ok_law_same_at (T : Txt K mg base) : ∀ n : Nat, FnOk P w K mg base CX0 (n + 1) T.f_law_same T.d_law_same ["actual", "expected"] (spSameG K n)
  | 0 => by
    refine T.F_law_same.ok sc_law_same (fun vs H Q E h => ?_) (fun cdv A outer s H vs Q E hr h => ?_)
    · obtain ⟨u, v, d, rfl, _⟩ := h
      rfl
    · obtain ⟨u, v, d, rfl, hU, hV, hf, q⟩ := h
      refine ⟨_, pss_cons (ps_if (pt_cmpR op_isN (pv 1) (pe_non) (nomark _))
      (pss_one (ps_ret (pe_cmpR op_isN (pv 0) (pe_non) (nomark _))))
      (pss_nil))
      (pss_cons (ps_if (pt_val (pe_callB (r := rIsi K) call_isi (by rfl) T.m_isinstance (by decide +kernel) (pa_cons (pv 1) (pa_cons (pe_bltn (v := .ty "tuple") (by rfl) T.m_tuple (by decide +kernel) rfl) (pa_nil)))))
      (pss_cons (ps_if (PW.pt (pw_or (pt_not (pt_val (pe_callB (r := rIsi K) call_isi (by rfl) T.m_isinstance (by decide +kernel) (pa_cons (pv 0) (pa_cons (pe_bltn (v := .ty "tuple") (by rfl) T.m_tuple (by decide +kernel) rfl) (pa_nil)))))) (pw_or1 (pt_cmpR op_ne (pe_callB (r := rLenQ K) call_len_seq (by rfl) T.m_len (by decide +kernel) (pa_cons (pv 0) (pa_nil))) (pe_callB (r := rLenQ K) call_len_seq (by rfl) T.m_len (by decide +kernel) (pa_cons (pv 1) (pa_nil))) (nomark _)))))
      (pss_one (ps_ret (pe_bl)))
      (pss_nil))
      (pss_cons (ps_for PassesOwn.never rfl (pi_range1 (by rfl) T.m_range (pa_cons (pe_callB (r := rLenQ K) call_len_seq (by rfl) T.m_len (by decide +kernel) (pa_cons (pv 1) (pa_nil))) (pa_nil))) (pg_name (i := 2) sc_law_same.nd rfl (by first | exact Or.inl rfl | exact Or.inr rfl))
      (pss_one (ps_never)))
      (pss_one (ps_ret (pe_bl)))))
      (pss_nil))
      (pss_cons (ps_if (pt_val (pe_callB (r := rIsi K) call_isi (by rfl) T.m_isinstance (by decide +kernel) (pa_cons (pv 1) (pa_cons (pe_bltn (v := .ty "str") (by rfl) T.m_str (by decide +kernel) rfl) (pa_nil)))))
      (pss_one (ps_ret (pe_and (pe_callB (r := rIsi K) call_isi (by rfl) T.m_isinstance (by decide +kernel) (pa_cons (pv 0) (pa_cons (pe_bltn (v := .ty "str") (by rfl) T.m_str (by decide +kernel) rfl) (pa_nil)))) (pe_one (pe_cmpR op_eq (pv 0) (pv 1) (nomark _))))))
      (pss_nil))
      (pss_one (ps_ret (pe_and (pe_callB (r := rIsi K) call_isi (by rfl) T.m_isinstance (by decide +kernel) (pa_cons (pv 0) (pa_cons (pe_bltn (v := .ty "int") (by rfl) T.m_int (by decide +kernel) rfl) (pa_nil)))) (pe_and (pe_not (pe_callB (r := rIsi K) call_isi (by rfl) T.m_isinstance (by decide +kernel) (pa_cons (pv 0) (pa_cons (pe_bltn (v := .ty "bool") (by rfl) T.m_bool (by decide +kernel) rfl) (pa_nil))))) (pe_one (pe_cmpR op_eq (pv 0) (pv 1) (nomark _))))))))), ?_⟩
      cases hV with
      | tup hS r => cases hf
      | lst hS r => cases hf
      | bl b => cases hf
      | non =>
        cases hU
        exact q_when (b := true) (et_test (ev_isNt (ev_var rfl))) (fun _ H1 e1 => s_ret (ev_isNt (ev_var rfl)) fun H2 e2 => q H2 (e1.trans e2)) (fun z => nomatch z)
      | int i =>
        cases hU
        refine q_when (b := false) (et_test (ev_isNf (ev_var rfl))) (fun z => nomatch z) fun _ H1 e1 => ?_
        refine q_when (b := false) (et_B (ev_isi (K := K) (a := "int") (ev_var rfl) (fun _ _ => .base (.int i)) (by decide +kernel))) (fun z => nomatch z) fun _ H2 e2 => ?_
        refine q_when (b := false) (et_B (ev_isi (K := K) (a := "int") (ev_var rfl) (fun _ _ => .base (.int i)) (by decide +kernel))) (fun z => nomatch z) fun _ H3 e3 => ?_
        refine s_ret (v := .bl true) (ev_is (ev_andV (a := true) (b := true) (ev_isi (K := K) (a := "int") (ev_var rfl) (fun _ _ => .base (.int i)) (by decide +kernel)) fun _ => ev_is (ev_andV (a := true) (b := true) (ev_is (ev_notV (ev_isi (K := K) (a := "int") (r := false) (ev_var rfl) (fun _ _ => .base (.int i)) (by decide +kernel))) rfl) fun _ => ev_is (ev_eqI (ev_var rfl) (ev_var rfl)) (congrArg V.bl (decide_eq_true rfl))) rfl) rfl) fun H4 e4 => q H4 (((e1.trans e2).trans e3).trans e4)
      | str z =>
        cases hU
        refine q_when (b := false) (et_test (ev_isNf (ev_var rfl))) (fun z => nomatch z) fun _ H1 e1 => ?_
        refine q_when (b := false) (et_B (ev_isi (K := K) (a := "str") (ev_var rfl) (fun _ _ => .base (.str z)) (by decide +kernel))) (fun z => nomatch z) fun _ H2 e2 => ?_
        refine q_when (b := true) (et_B (ev_isi (K := K) (a := "str") (ev_var rfl) (fun _ _ => .base (.str z)) (by decide +kernel))) (fun _ H3 e3 => ?_) (fun z => nomatch z)
        refine s_ret (v := .bl true) (ev_is (ev_andV (a := true) (b := true) (ev_isi (K := K) (a := "str") (ev_var rfl) (fun _ _ => .base (.str z)) (by decide +kernel)) fun _ => ev_is (ev_eqS (ev_var rfl) (ev_var rfl)) (congrArg V.bl (decide_eq_true rfl))) rfl) fun H4 e4 => q H4 (((e1.trans e2).trans e3).trans e4)
  | n + 1 => by
    have IH := ok_law_same_at T n
    refine T.F_law_same.ok sc_law_same (fun vs H Q E h => ?_) (fun cdv A outer s H vs Q E hr h => ?_)
    · obtain ⟨u, v, d, rfl, _⟩ := h
      rfl
    · obtain ⟨u, v, d, rfl, hU, hV, hf, q⟩ := h
      refine ⟨_, pss_cons (ps_if (pt_cmpR op_isN (pv 1) (pe_non) (nomark _))
      (pss_one (ps_ret (pe_cmpR op_isN (pv 0) (pe_non) (nomark _))))
      (pss_nil))
      (pss_cons (ps_if (pt_val (pe_callB (r := rIsi K) call_isi (by rfl) T.m_isinstance (by decide +kernel) (pa_cons (pv 1) (pa_cons (pe_bltn (v := .ty "tuple") (by rfl) T.m_tuple (by decide +kernel) rfl) (pa_nil)))))
      (pss_cons (ps_if (PW.pt (pw_or (pt_not (pt_val (pe_callB (r := rIsi K) call_isi (by rfl) T.m_isinstance (by decide +kernel) (pa_cons (pv 0) (pa_cons (pe_bltn (v := .ty "tuple") (by rfl) T.m_tuple (by decide +kernel) rfl) (pa_nil)))))) (pw_or1 (pt_cmpR op_ne (pe_callB (r := rLenQ K) call_len_seq (by rfl) T.m_len (by decide +kernel) (pa_cons (pv 0) (pa_nil))) (pe_callB (r := rLenQ K) call_len_seq (by rfl) T.m_len (by decide +kernel) (pa_cons (pv 1) (pa_nil))) (nomark _)))))
      (pss_one (ps_ret (pe_bl)))
      (pss_nil))
      (pss_cons (ps_for PassesOwn.never rfl (pi_range1 (by rfl) T.m_range (pa_cons (pe_callB (r := rLenQ K) call_len_seq (by rfl) T.m_len (by decide +kernel) (pa_cons (pv 1) (pa_nil))) (pa_nil))) (pg_name (i := 2) sc_law_same.nd rfl (by first | exact Or.inl rfl | exact Or.inr rfl))
      (pss_one (ps_if (pt_not (pt_val (pe_call IH (hr.mono (by omega)) (by rfl) T.g_law_same T.F_law_same.kp T.b_law_same .nil pass0 (pa_cons (pe_ix (r := rIxT K) ix_tup (pv 0) (pv 2) (fun _ _ => rfl)) (pa_cons (pe_ix (r := rIxT K) ix_tup (pv 1) (pv 2) (fun _ _ => rfl)) (pa_nil))))))
      (pss_one (ps_ret (pe_bl)))
      (pss_nil))))
      (pss_one (ps_ret (pe_bl)))))
      (pss_nil))
      (pss_cons (ps_if (pt_val (pe_callB (r := rIsi K) call_isi (by rfl) T.m_isinstance (by decide +kernel) (pa_cons (pv 1) (pa_cons (pe_bltn (v := .ty "str") (by rfl) T.m_str (by decide +kernel) rfl) (pa_nil)))))
      (pss_one (ps_ret (pe_and (pe_callB (r := rIsi K) call_isi (by rfl) T.m_isinstance (by decide +kernel) (pa_cons (pv 0) (pa_cons (pe_bltn (v := .ty "str") (by rfl) T.m_str (by decide +kernel) rfl) (pa_nil)))) (pe_one (pe_cmpR op_eq (pv 0) (pv 1) (nomark _))))))
      (pss_nil))
      (pss_one (ps_ret (pe_and (pe_callB (r := rIsi K) call_isi (by rfl) T.m_isinstance (by decide +kernel) (pa_cons (pv 0) (pa_cons (pe_bltn (v := .ty "int") (by rfl) T.m_int (by decide +kernel) rfl) (pa_nil)))) (pe_and (pe_not (pe_callB (r := rIsi K) call_isi (by rfl) T.m_isinstance (by decide +kernel) (pa_cons (pv 0) (pa_cons (pe_bltn (v := .ty "bool") (by rfl) T.m_bool (by decide +kernel) rfl) (pa_nil))))) (pe_one (pe_cmpR op_eq (pv 0) (pv 1) (nomark _))))))))), ?_⟩
      cases hV with
      | lst hS r => cases hf
      | bl b => cases hf
      | non =>
        cases hU
        exact q_when (b := true) (et_test (ev_isNt (ev_var rfl))) (fun _ H1 e1 => s_ret (ev_isNt (ev_var rfl)) fun H2 e2 => q H2 (e1.trans e2)) (fun z => nomatch z)
      | int i =>
        cases hU
        refine q_when (b := false) (et_test (ev_isNf (ev_var rfl))) (fun z => nomatch z) fun _ H1 e1 => ?_
        refine q_when (b := false) (et_B (ev_isi (K := K) (a := "int") (ev_var rfl) (fun _ _ => .base (.int i)) (by decide +kernel))) (fun z => nomatch z) fun _ H2 e2 => ?_
        refine q_when (b := false) (et_B (ev_isi (K := K) (a := "int") (ev_var rfl) (fun _ _ => .base (.int i)) (by decide +kernel))) (fun z => nomatch z) fun _ H3 e3 => ?_
        refine s_ret (v := .bl true) (ev_is (ev_andV (a := true) (b := true) (ev_isi (K := K) (a := "int") (ev_var rfl) (fun _ _ => .base (.int i)) (by decide +kernel)) fun _ => ev_is (ev_andV (a := true) (b := true) (ev_is (ev_notV (ev_isi (K := K) (a := "int") (r := false) (ev_var rfl) (fun _ _ => .base (.int i)) (by decide +kernel))) rfl) fun _ => ev_is (ev_eqI (ev_var rfl) (ev_var rfl)) (congrArg V.bl (decide_eq_true rfl))) rfl) rfl) fun H4 e4 => q H4 (((e1.trans e2).trans e3).trans e4)
      | str z =>
        cases hU
        refine q_when (b := false) (et_test (ev_isNf (ev_var rfl))) (fun z => nomatch z) fun _ H1 e1 => ?_
        refine q_when (b := false) (et_B (ev_isi (K := K) (a := "str") (ev_var rfl) (fun _ _ => .base (.str z)) (by decide +kernel))) (fun z => nomatch z) fun _ H2 e2 => ?_
        refine q_when (b := true) (et_B (ev_isi (K := K) (a := "str") (ev_var rfl) (fun _ _ => .base (.str z)) (by decide +kernel))) (fun _ H3 e3 => ?_) (fun z => nomatch z)
        refine s_ret (v := .bl true) (ev_is (ev_andV (a := true) (b := true) (ev_isi (K := K) (a := "str") (ev_var rfl) (fun _ _ => .base (.str z)) (by decide +kernel)) fun _ => ev_is (ev_eqS (ev_var rfl) (ev_var rfl)) (congrArg V.bl (decide_eq_true rfl))) rfl) fun H4 e4 => q H4 (((e1.trans e2).trans e3).trans e4)
      | tup hS r =>
        rename_i a xs ds
        cases hU with
        | tup hS2 r2 =>
        rename_i b ys
        have lx := dpa_len r
        have ly := dpa_len r2
        have hz := (gd_at hf).2
        refine q_when (b := false) (et_test (ev_isNf (ev_var rfl))) (fun z => nomatch z) fun _ H1 e1 => ?_
        refine q_when (b := true) (et_B (ev_isi (K := K) (a := "tuple") (ev_var rfl) (fun H2 e2 => tyx_tup (ex_t (e1.trans e2) hS)) (by decide +kernel))) (fun _ H2 e2 => ?_) (fun z => nomatch z)
        have E2 := e1.trans e2
        refine q_when (b := false) (et_is (et_or (a := false) (b := false) (et_is (et_not (et_B (ev_isi (K := K) (a := "tuple") (r := true) (ev_var rfl) (fun H3 e3 => tyx_tup (ex_t (E2.trans e3) hS2)) (by decide +kernel)))) rfl) fun _ => et_is (et_test (ev_neI (ev_lenT (K := K) (ev_var rfl) (ex_t E2 hS2)) (ev_lenT (K := K) (ev_var rfl) (ex_t E2 hS)))) (by rw [lx, ly]; simp)) rfl) (fun z => nomatch z) fun _ H3 e3 => ?_
        have E3 := E2.trans e3
        refine q_forR1 (n := (ds.length : Int)) (ea_cons (ev_is (ev_lenT (K := K) (ev_var rfl) (ex_t E3 hS)) (by rw [lx])) ea_nil) (by omega) (fun i σ' H' => ∃ kv : Option V, σ' = [some (.ref b), some (.ref a), kv] ∧ Ex H H')
          (fun H4 e4 => ⟨none, rfl, E3.trans e4⟩) (fun i σ' H' hi hP => ?_) (fun σ' H' hP => ?_)
        · obtain ⟨kv, rfl, eH⟩ := hP
          have hi2 : i < ds.length := by omega
          have h2 : ds[i]? = some ds[i] := List.getElem?_eq_getElem hi2
          obtain ⟨v1, h1, h3⟩ := dpa_get r h2
          obtain ⟨v2, g1, g3⟩ := dpa_get r2 h2
          have hm : ds[i] ∈ ds := List.mem_of_getElem? h2
          refine s_when (b := false) (et_is (et_not (et_B (ev_call (ea_cons (ev_ixT (K := K) (ev_var rfl) (ev_var rfl) (ex_t eH hS2) (at_nat g1)) (ea_cons (ev_ixT (K := K) (ev_var rfl) (ev_var rfl) (ex_t eH hS) (at_nat h1)) ea_nil)) (cv_sameG (dp_mono eH g3) (dp_mono eH h3) ((gd_at hf).1 _ hm))))) rfl) (fun z => nomatch z) fun _ H4 e4 => ⟨_, rfl, eH.trans e4⟩
        · obtain ⟨kv, rfl, eH⟩ := hP
          exact s_ret ev_c fun H4 e4 => q H4 (eH.trans e4)
theorem ok_law_same (T : Txt K mg base) : FnOk P w K mg base CX0 5 T.f_law_same T.d_law_same ["actual", "expected"] (spSameG K 4) := ok_law_same_at T 4


/-! ### _law_thing -/
def thingZ (ns : List Int) (k : Nat) : Int := if k < ns.length then cellZ ns k else if ns.length = 0 then (k : Int) else (cellZ ns (k % ns.length) * 48271 + (k : Int) * 69621) % 2147483647
theorem Wd.thing {ns : List Int} (h : ∀ n ∈ ns, Wd n) {k : Nat} (hk : k ≤ 100000) : Wd (thingZ ns k) := by
  unfold thingZ
  split
  · exact Wd.cell h k
  · split
    · exact Wd.small (by omega) (by omega)
    · exact Wd.mod (by decide) (Wd.lit (by decide))
def sp_thing (K : PySem.W.Frag) : Sp := fun vs H Q _ => ∃ (a : Addr) (ns : List Int) (k : Nat), vs = [.ref a, .int (k : Int)] ∧ SqL K H a (ns.map V.int) ∧ (∀ n ∈ ns, Wd n) ∧ k ≤ 100000 ∧ ∀ H', Ex H H' → Q (.int (thingZ ns k)) H'
theorem cv_thing {a : Addr} {ns : List Int} {k : Nat} {H : Hp} (h : SqL K H a (ns.map V.int)) (hw : ∀ n ∈ ns, Wd n) (hk : k ≤ 100000) : SpV (sp_thing K) [.ref a, .int (k : Int)] H (.int (thingZ ns k)) := fun H1 e Q q E => ⟨a, ns, k, rfl, ex_l e h, hw, hk, fun H2 e2 => q H2 e2⟩
theorem ok_law_thing (T : Txt K mg base) : FnOk P w K mg base CX0 1 T.f_law_thing T.d_law_thing ["script", "k"] (sp_thing K) := by
  refine T.F_law_thing.ok sc_law_thing (fun vs H Q E h => ?_) (fun cdv A outer s H vs Q E hr h => ?_)
  · obtain ⟨a, ns, k, rfl, _⟩ := h
    rfl
  · obtain ⟨a, ns, k, rfl, hS, hw, hk1, q⟩ := h
    have el : (ns.map V.int).length = ns.length := List.length_map ..
    have item : ∀ j : Nat, j < ns.length → (ns.map V.int)[j]? = some (.int (cellZ ns j)) := fun j hj => by
      rw [List.getElem?_map, List.getElem?_eq_getElem hj]
      unfold cellZ
      rw [List.getD_eq_getElem?_getD, List.getElem?_eq_getElem hj] <;> rfl
    refine ⟨_, pss_cons (ps_if (pt_cmpR op_lt (pv 1) (pe_callB (r := rLenQ K) call_len_seq (by rfl) T.m_len (by decide +kernel) (pa_cons (pv 0) (pa_nil))) (nomark _))
      (pss_one (ps_ret (pe_ix (r := rIxL K) ix_list (pv 0) (pv 1) (fun _ _ => rfl))))
      (pss_nil))
      (pss_cons (ps_if (pt_cmpR op_eq (pe_callB (r := rLenQ K) call_len_seq (by rfl) T.m_len (by decide +kernel) (pa_cons (pv 0) (pa_nil))) (pe_int) (nomark _))
      (pss_one (ps_ret (pv 1)))
      (pss_nil))
      (pss_one (ps_ret (pe_op op_mod (pe_callTy call_int1 (by rfl) T.m_int (by decide +kernel) (pa_cons (pe_op op_add (pe_op op_mulX (pe_ix (r := rIxL K) ix_list (pv 0) (pe_op op_mod (pe_callTy call_int1 (by rfl) T.m_int (by decide +kernel) (pa_cons (pv 1) (pa_nil))) (pe_callB (r := rLenQ K) call_len_seq (by rfl) T.m_len (by decide +kernel) (pa_cons (pv 0) (pa_nil)))) (fun _ _ => rfl)) (pe_int)) (pe_op op_mulX (pv 1) (pe_int))) (pa_nil))) (pe_int))))), ?_⟩
    refine q_when (b := decide ((k : Int) < ((ns.map V.int).length : Int))) (et_test (ev_bin0 (ev_var rfl) (ev_lenQ (K := K) (ev_var rfl) hS))) (fun hb H1 e1 => ?_) (fun hb H1 e1 => ?_)
    · have hk : k < ns.length := by
        have := of_decide_eq_true hb
        rw [el] at this
        omega
      refine s_ret (ev_ixL (K := K) (ev_var rfl) (ev_var rfl) (ex_l e1 hS) (at_nat (item k hk))) fun H2 e2 => ?_
      have e0 : thingZ ns k = cellZ ns k := if_pos hk
      rw [← e0]
      exact q H2 (e1.trans e2)
    · have hk : ¬ k < ns.length := by
        have := of_decide_eq_false hb
        rw [el] at this
        omega
      refine q_when (et_test (ev_eqI (ev_lenQ (K := K) (ev_var rfl) (ex_l e1 hS)) ev_c)) (fun hb H2 e2 => ?_) (fun hb H2 e2 => ?_)
      · have h0 : ns.length = 0 := by
          have := of_decide_eq_true hb
          rw [el] at this
          omega
        refine s_ret (ev_var rfl) fun H3 e3 => ?_
        have e0 : thingZ ns k = (k : Int) := by unfold thingZ; rw [if_neg hk, if_pos h0]
        rw [← e0]
        exact q H3 ((e1.trans e2).trans e3)
      · have h0 : ¬ ns.length = 0 := by
          have := of_decide_eq_false hb
          rw [el] at this
          omega
        have hm : k % ns.length < ns.length := Nat.mod_lt _ (by omega)
        refine s_ret (ev_bin (i := cellZ ns (k % ns.length) * 48271 + (k : Int) * 69621) (ev_intI (ev_bin0 (ev_bin (ev_ixL (K := K) (i := ((k % ns.length : Nat) : Int)) (ev_var rfl) (ev_is (ev_bin (ev_intI (ev_var rfl)) (ev_lenQ (K := K) (ev_var rfl) (ex_l (e1.trans e2) hS)) (by rw [el]; omega)) (by rw [el]; rfl)) (ex_l (e1.trans e2) hS) (at_nat (item _ hm))) ev_c (Wd.mul (Wd.cell hw _) (Wd.lit (by decide)))) (ev_bin (ev_var rfl) ev_c (Wd.mul (Wd.small (by omega) (by omega)) (Wd.lit (by decide)))))) ev_c (by decide)) fun H3 e3 => ?_
        have e0 : thingZ ns k = (cellZ ns (k % ns.length) * 48271 + (k : Int) * 69621) % 2147483647 := by unfold thingZ; rw [if_neg hk, if_neg h0]
        rw [← e0]
        exact q H3 ((e1.trans e2).trans e3)


/-! ### base_kind -/
def spBase : Sp := fun vs H Q _ => ∃ k : Str, vs = [.str k] ∧ ∀ H', Ex H H' → Q (.str (baseT k)) H'
theorem cv_base {k : Str} {H : Hp} : SpV spBase [.str k] H (.str (baseT k)) := fun H1 e Q q E => ⟨k, rfl, fun H2 e2 => q H2 e2⟩
theorem ok_base_kind (T : Txt K mg base) : FnOk P w K mg base CX0 1 T.f_base_kind T.d_base_kind ["kind"] spBase := by
  refine T.F_base_kind.ok sc_base_kind (fun vs H Q E h => ?_) (fun cdv A outer s H vs Q E hr h => ?_)
  · obtain ⟨k, rfl, _⟩ := h
    rfl
  · obtain ⟨k, rfl, q⟩ := h
    refine ⟨_, pss_one (ps_ret (pe_ifExp (pt_cmpR (r := rIn K false) op_in_seq (pv 0) (pe_tup (pa_cons (pe_str) (pa_cons (pe_str) (pa_nil)))) (by rfl)) (pe_str) (pe_str))), ?_⟩
    refine s_ret (v := .str (baseT k)) (ev_if (b := kIn k ["int", "int?"]) (et_test (ev_kinU (K := K) (ev_var rfl) (eu_tup (ea_cons ev_c (ea_cons ev_c ea_nil)) (by show 2 ≤ 100000; decide)))) (fun hb => ?_) (fun hb => ?_)) fun H1 e1 => q H1 e1
    · exact ev_is ev_c (by unfold baseT; rw [hb] <;> rfl)
    · exact ev_is ev_c (by unfold baseT; rw [hb] <;> rfl)


/-! ### accepts -/
def spAcc : Sp := fun vs H Q _ => ∃ (k : Str) (v : V), vs = [.str k, v] ∧ Sc v ∧ ∀ H', Ex H H' → Q (.bl (accB k v)) H'
theorem cv_acc {k : Str} {v : V} {H : Hp} (h : Sc v) : SpV spAcc [.str k, v] H (.bl (accB k v)) := fun H1 e Q q E => ⟨k, v, rfl, h, fun H2 e2 => q H2 e2⟩
theorem ok_accepts (T : Txt K mg base) : FnOk P w K mg base CX0 2 T.f_accepts T.d_accepts ["kind", "value"] spAcc := by
  refine T.F_accepts.ok sc_accepts (fun vs H Q E h => ?_) (fun cdv A outer s H vs Q E hr h => ?_)
  · obtain ⟨k, v, rfl, _⟩ := h
    rfl
  · obtain ⟨k, v, rfl, hv, q⟩ := h
    refine ⟨_, pss_cons (ps_if (pt_cmpR op_isN (pv 1) (pe_non) (nomark _))
      (pss_one (ps_ret (pe_cmpR (r := rIn K false) op_in_seq (pv 0) (pe_tup (pa_cons (pe_str) (pa_cons (pe_str) (pa_nil)))) (by rfl))))
      (pss_nil))
      (pss_cons (ps_if (pt_cmpR op_eq (pe_call (ok_base_kind T) (hr.mono (by first | decide | omega)) (by rfl) T.g_base_kind T.F_base_kind.kp T.b_base_kind .nil pass0 (pa_cons (pv 0) (pa_nil))) (pe_str) (nomark _))
      (pss_one (ps_ret (pe_and (pe_callB (r := rIsi K) call_isi (by rfl) T.m_isinstance (by decide +kernel) (pa_cons (pv 1) (pa_cons (pe_bltn (v := .ty "int") (by rfl) T.m_int (by decide +kernel) rfl) (pa_nil)))) (pe_one (pe_not (pe_callB (r := rIsi K) call_isi (by rfl) T.m_isinstance (by decide +kernel) (pa_cons (pv 1) (pa_cons (pe_bltn (v := .ty "bool") (by rfl) T.m_bool (by decide +kernel) rfl) (pa_nil)))))))))
      (pss_nil))
      (pss_one (ps_ret (pe_callB (r := rIsi K) call_isi (by rfl) T.m_isinstance (by decide +kernel) (pa_cons (pv 1) (pa_cons (pe_bltn (v := .ty "str") (by rfl) T.m_str (by decide +kernel) rfl) (pa_nil))))))), ?_⟩
    cases hv with
    | non => exact q_when (b := true) (et_test (ev_isNt (ev_var rfl))) (fun _ H1 e1 => s_ret (ev_kinU (K := K) (ev_var rfl) (eu_tup (ea_cons ev_c (ea_cons ev_c ea_nil)) (by show 2 ≤ 100000; decide))) fun H2 e2 => q H2 (e1.trans e2)) (fun z => nomatch z)
    | int i =>
      refine q_when (b := false) (et_test (ev_isNf (ev_var rfl))) (fun z => nomatch z) fun _ H1 e1 => ?_
      refine q_when (b := decide (baseT k = Str.ofString "int")) (et_test (ev_eqS (ev_call (ea_cons (ev_var rfl) ea_nil) cv_base) ev_c)) (fun hb H2 e2 => ?_) (fun hb H2 e2 => ?_)
      · refine s_ret (v := .bl (decide (baseT k = Str.ofString "int"))) (ev_is (ev_andV (a := true) (b := true) (ev_isi (K := K) (a := "int") (ev_var rfl) (fun _ _ => .base (.int i)) (by decide +kernel)) fun _ => ev_is (ev_notV (ev_isi (K := K) (a := "int") (r := false) (ev_var rfl) (fun _ _ => .base (.int i)) (by decide +kernel))) rfl) (by rw [hb] <;> rfl)) fun H3 e3 => q H3 ((e1.trans e2).trans e3)
      · refine s_ret (v := .bl (decide (baseT k = Str.ofString "int"))) (ev_is (ev_isi (K := K) (a := "int") (r := false) (ev_var rfl) (fun _ _ => .base (.int i)) (by decide +kernel)) (by rw [hb])) fun H3 e3 => q H3 ((e1.trans e2).trans e3)
    | str z =>
      refine q_when (b := false) (et_test (ev_isNf (ev_var rfl))) (fun z => nomatch z) fun _ H1 e1 => ?_
      refine q_when (b := decide (baseT k = Str.ofString "int")) (et_test (ev_eqS (ev_call (ea_cons (ev_var rfl) ea_nil) cv_base) ev_c)) (fun hb H2 e2 => ?_) (fun hb H2 e2 => ?_)
      · refine s_ret (v := .bl (!decide (baseT k = Str.ofString "int"))) (ev_is (ev_andV (a := false) (b := false) (ev_isi (K := K) (a := "str") (r := false) (ev_var rfl) (fun _ _ => .base (.str z)) (by decide +kernel)) fun z => nomatch z) (by rw [hb] <;> rfl)) fun H3 e3 => q H3 ((e1.trans e2).trans e3)
      · refine s_ret (v := .bl (!decide (baseT k = Str.ofString "int"))) (ev_is (ev_isi (K := K) (a := "str") (r := true) (ev_var rfl) (fun _ _ => .base (.str z)) (by decide +kernel)) (by rw [hb] <;> rfl)) fun H3 e3 => q H3 ((e1.trans e2).trans e3)


/-! ### fits -/
/-- is it a row of the form -/
def fitL (f : Fm) (us : List V) : List Bool := (f.cs.zip us).map fun p => accB p.1.kd.s p.2
def fitB (f : Fm) (us : List V) : Bool := decide (us.length = f.cs.length) && (fitL f us).all id
def spFits (K : PySem.W.Frag) : Sp := fun vs H Q _ => ∃ (f : Fm) (vf : V) (p : Addr) (us : List V), vs = [vf, .ref p] ∧ Dp K H vf f.d ∧ SqT K H p us ∧ (∀ u ∈ us, Sc u) ∧ f.cs.length ≤ 1000 ∧ us.length ≤ 1000 ∧ ∀ H', Ex H H' → Q (.bl (fitB f us)) H'
theorem ok_fits (T : Txt K mg base) : FnOk P w K mg base CX0 3 T.f_fits T.d_fits ["form", "row"] (spFits K) := by
  refine T.F_fits.ok sc_fits (fun vs H Q E h => ?_) (fun cdv A outer s H vs Q E hr h => ?_)
  · obtain ⟨f, vf, p, us, rfl, _⟩ := h
    rfl
  · obtain ⟨f, vf, p, us, rfl, hF, hS, hsc, hl1, hl2, q⟩ := h
    obtain ⟨pf, pa, pk, xs, rfl, h1, h2, h3, h4⟩ := fm_at hF
    have hxl := co_len h3
    refine ⟨_, pss_cons (ps_set (i := 2) sc_fits.nd rfl (by first | exact Or.inl rfl | exact Or.inr rfl) (pe_ix (r := rIxT K) ix_tup (pv 0) (pe_int) (fun _ _ => rfl)))
      (pss_cons (ps_if (pt_cmpR op_ne (pe_callB (r := rLenQ K) call_len_seq (by rfl) T.m_len (by decide +kernel) (pa_cons (pv 1) (pa_nil))) (pe_callB (r := rLenQ K) call_len_seq (by rfl) T.m_len (by decide +kernel) (pa_cons (pv 2) (pa_nil))) (nomark _))
      (pss_one (ps_ret (pe_bl)))
      (pss_nil))
      (pss_one (ps_ret (pe_callB (cr_all rfl) (by rfl) T.m_all (by decide +kernel) (pa_cons (pe_lc (own := [("column", 3), ("value", 4)]) (g := gTup K 2 (gCons (gName 3) (gCons (gName 4) gNil))) (tt := tYes) rfl sc_fits.nd (RZ.pi_zipA (by rfl) T.m_zip (pa_cons (pv 2) (pa_cons (pv 1) pa_nil))) (blkOk_by (N := ["form", "row", "columns", "column", "value"]) (sc := defScope s_fits) (by decide +kernel)) (fun _ _ _ _ _ => pg_tup rfl (pgs_cons (pg_name (i := 3) sc_fits.nd rfl (Or.inl rfl)) (pgs_cons (pg_name (i := 4) sc_fits.nd rfl (Or.inl rfl)) pgs_nil))) (fun _ _ _ _ _ => pts_nil) (fun _ _ _ _ _ => pe_call (ok_accepts T) (hr.mono (by first | decide | omega)) (by rfl) T.g_accepts T.F_accepts.kp T.b_accepts .nil pass0 (pa_cons (pe_ix (r := rIxT K) ix_tup (pv 3) (pe_int) (fun _ _ => rfl)) (pa_cons (pv 4) (pa_nil))))) (pa_nil)))))), ?_⟩
    refine q_asg (ev_ixT (K := K) (ev_var rfl) ev_c h1 (at_nat (j := 0) rfl)) fun H1 e1 => ?_
    refine q_when (b := !decide ((us.length : Int) = (xs.length : Int))) (et_test (ev_neI (ev_lenT (K := K) (ev_var rfl) (ex_t e1 hS)) (ev_lenT (K := K) (ev_var rfl) (ex_t e1 h2)))) (fun hb H2 e2 => ?_) fun hb H2 e2 => ?_
    · refine s_ret ev_c fun H3 e3 => ?_
      have : fitB f us = false := by
        unfold fitB
        rw [decide_eq_false (by simp at hb; omega)] <;> rfl
      rw [← this]
      exact q H3 ((e1.trans e2).trans e3)
    have hlen : us.length = xs.length := by simp at hb; omega
    have E2 := e1.trans e2
    refine s_ret (v := .bl ((fitL f us).all id)) (ev_allN (K := K) (bs := fitL f us) ?_) fun H3 e3 => ?_
    · refine el_lcZ (K := K) (ea_cons (ev_var rfl) (ea_cons (ev_var rfl) ea_nil)) (ex_t E2 h2) (ex_t E2 hS) hlen.symm (by unfold fitL; rw [List.length_map, List.length_map, List.length_zip]; omega) (by omega) (fun x y => rfl) fun k x y u H3 hx hy hu e3 => ?_
      obtain ⟨c, hc, hD⟩ := co_get h3 hx
      have hz : (f.cs.zip us)[k]? = some (c, y) := List.getElem?_zip_eq_some.mpr ⟨hc, hy⟩
      unfold fitL at hu
      rw [List.getElem?_map, List.getElem?_map, hz] at hu
      obtain rfl := (Option.some.inj hu).symm
      exact ev_call (ea_cons (ev_co (ev_var rfl) (dp_mono (E2.trans e3) hD)).2.1 (ea_cons (ev_var rfl) ea_nil)) (cv_acc (hsc y (List.mem_of_getElem? hy)))
    · have : fitB f us = (fitL f us).all id := by
        unfold fitB
        rw [decide_eq_true (by omega), Bool.true_and]
      rw [← this]
      exact q H3 (E2.trans e3)


/-! ### column_names -/
def spNms (K : PySem.W.Frag) : Sp := fun vs H Q _ => ∃ (f : Fm) (vf : V), vs = [vf] ∧ Dp K H vf f.d ∧ f.cs.length ≤ 1000 ∧ ∀ p H', H p = none → Ex H H' → H' p = some (.tup (f.cs.map fun c => V.str c.nm)) → Q (.ref p) H'
theorem eu_nms {K : PySem.W.Frag} {σ : L2.St} {H : Hp} {te : TE} {E : XK} {f : Fm} {vf : V} (h : Ev te σ H vf) (hF : Dp K H vf f.d) (hl : f.cs.length ≤ 1000) : EvU (tCall (spNms K) [] E (tCons te tNil)) σ H (f.cs.map fun c => V.str c.nm) := fun H1 e Q q => h H1 e _ fun H2 e2 => ⟨f, vf, rfl, dp_mono (e.trans e2) hF, hl, fun p H3 hp e3 h3 => q p H3 (fresh_back e2 hp) (e2.trans e3) h3⟩
theorem ok_column_names (T : Txt K mg base) : FnOk P w K mg base CX0 1 T.f_column_names T.d_column_names ["form"] (spNms K) := by
  refine T.F_column_names.ok sc_column_names (fun vs H Q E h => ?_) (fun cdv A outer s H vs Q E hr h => ?_)
  · obtain ⟨f, vf, rfl, _⟩ := h
    rfl
  · obtain ⟨f, vf, rfl, hF, hl, q⟩ := h
    obtain ⟨p, a, b, xs, rfl, h1, h2, h3, h4⟩ := fm_at hF
    refine ⟨_, pss_one (ps_ret (pe_callTy (r := rTupOf K) call_tuple_of (by rfl) T.m_tuple (by decide +kernel) (pa_cons (pe_lc (own := [("column", 1)]) (g := gName 1) (tt := tYes) rfl sc_column_names.nd (pi_tup (pe_ix (r := rIxT K) ix_tup (pv 0) (pe_int) (fun _ _ => rfl))) (blkOk_by (N := ["form", "column"]) (sc := defScope s_column_names) (by decide +kernel)) (fun _ _ _ _ _ => pg_name (i := 1) sc_column_names.nd rfl (Or.inl rfl)) (fun _ _ _ _ _ => pts_nil) (fun _ _ _ _ _ => pe_ix (r := rIxT K) ix_tup (pv 1) (pe_int) (fun _ _ => rfl))) (pa_nil)))), ?_⟩
    refine s_retU (eu_ofN (K := K) (el_mapT (K := K) (ev_ixT (K := K) (ev_var rfl) ev_c h1 (at_nat (j := 0) rfl)) h2 (by rw [co_len h3]; omega) (fun x => rfl) (by rw [List.length_map, co_len h3]) fun i x y hx hy H1 e1 => ?_)) q
    obtain ⟨c, hc, hD⟩ := co_get h3 hx
    rw [List.getElem?_map, hc] at hy
    rw [← Option.some.inj hy]
    exact (ev_co (ev_var rfl) (dp_mono e1 hD)).1


/-! ### split_row -/
def spSplit (K : PySem.W.Frag) : Sp := fun vs H Q _ => ∃ (f : Fm) (vf : V) (pr : Addr) (us : List V), vs = [vf, .ref pr] ∧ Dp K H vf f.d ∧ f.kn ∧ SqT K H pr us ∧ us.length = f.cs.length ∧ (∀ u ∈ us, Sc u) ∧ ∀ v H', Ex H H' → Dp K H' v (splitD f us) → Q v H'
theorem ok_split_row (T : Txt K mg base) : FnOk P w K mg base CX0 2 T.f_split_row T.d_split_row ["form", "row"] (spSplit K) := by
  refine T.F_split_row.ok sc_split_row (fun vs H Q E h => ?_) (fun cdv A outer s H vs Q E hr h => ?_)
  · obtain ⟨f, vf, pr, us, rfl, _⟩ := h
    rfl
  · obtain ⟨f, vf, pr, us, rfl, hF, kn, hS, hl, hsc, q⟩ := h
    have hu : (A.deeper (envOfC (Str.ofString "split_row") (defScope s_split_row) s.heap.objs.size T.f_split_row cdv)).units + 1 < cLine := Nat.lt_of_le_of_lt (Nat.add_le_add_left (by decide) _) hr.un
    have hF0 := hF
    obtain ⟨pf, pa, pk, xs, rfl, h1, h2, h3, h4⟩ := fm_at hF
    have kl := kn.l1
    have k2 := kn.l2
    refine ⟨_, pss_cons (ps_set (i := 2) sc_split_row.nd rfl (by first | exact Or.inl rfl | exact Or.inr rfl) (pe_call (ok_column_names T) (hr.mono (by first | decide | omega)) (by rfl) T.g_column_names T.F_column_names.kp T.b_column_names .nil pass0 (pa_cons (pv 0) (pa_nil))))
      (pss_cons (ps_set (i := 3) sc_split_row.nd rfl (by first | exact Or.inl rfl | exact Or.inr rfl) (pe_dictZip rfl (by rfl) T.m_zip (by rfl) T.m_dict (pa_cons (pv 2) (pa_cons (pv 1) pa_nil))))
      (pss_cons (ps_set (i := 4) sc_split_row.nd rfl (by first | exact Or.inl rfl | exact Or.inr rfl) (pe_callTy (r := rTupOf K) call_tuple_of (by rfl) T.m_tuple (by decide +kernel) (pa_cons (pe_lc (own := [("name", 5)]) (g := gName 5) (tt := tYes) rfl sc_split_row.nd (pi_tup (pe_ix (r := rIxT K) ix_tup (pv 0) (pe_int) (fun _ _ => rfl))) (blkOk_by (N := ["form", "row", "names", "values", "key", "name", "rest"]) (sc := defScope s_split_row) (by decide +kernel)) (fun _ _ _ _ _ => pg_name (i := 5) sc_split_row.nd rfl (Or.inl rfl)) (fun _ _ _ _ _ => pts_nil) (fun _ _ _ _ _ => pe_dget hu (pv 3) (pv 5) (fun _ _ => rfl))) (pa_nil))))
      (pss_cons (ps_set (i := 6) sc_split_row.nd rfl (by first | exact Or.inl rfl | exact Or.inr rfl) (pe_callTy (r := rTupOf K) call_tuple_of (by rfl) T.m_tuple (by decide +kernel) (pa_cons (pe_lc (own := [("name", 5)]) (g := gName 5) rfl sc_split_row.nd (pi_tup (pv 2)) (blkOk_by (N := ["form", "row", "names", "values", "key", "name", "rest"]) (sc := defScope s_split_row) (by decide +kernel)) (fun _ _ _ _ _ => pg_name (i := 5) sc_split_row.nd rfl (Or.inl rfl)) (fun _ _ _ _ _ => pts_one (pt_cmpR (r := rIn K true) op_notIn_seq (pv 5) (pe_ix (r := rIxT K) ix_tup (pv 0) (pe_int) (fun _ _ => rfl)) (by rfl))) (fun _ _ _ _ _ => pe_dget hu (pv 3) (pv 5) (fun _ _ => rfl))) (pa_nil))))
      (pss_one (ps_ret (pe_tup (pa_cons (pv 4) (pa_cons (pv 6) (pa_nil))))))))), ?_⟩
    refine q_asgU (eu_nms (K := K) (ev_var rfl) hF0 (by omega)) fun pn H1 _ e1 hpn => ?_
    refine q_asgK (dz_run2 (cons_run (var_run rfl (cons_run (var_run rfl ⟨pn, pr, (nmsF f).map (fun z => (Sum.inr z : Key)), us, rfl, ?_, ex_t e1 hS, by rw [List.length_map, nms_len, hl], by omega, fun d hd => ?_⟩)))))
    · unfold nmsF
      rw [List.map_map, List.map_map]
      exact st_of hpn
    have E2 := e1.trans (Ex.new (o := .dK (mergeK [] (((nmsF f).map fun z => (Sum.inr z : Key)).zip us))) hd)
    have eX := Ex.new (o := .dK (mergeK [] (((nmsF f).map fun z => (Sum.inr z : Key)).zip us))) hd
    have hDN : DN (upd H1 d (.dK (mergeK [] (((nmsF f).map fun z => (Sum.inr z : Key)).zip us)))) d (nmsF f) (valN f us) := dn_zip kn.nd (us_map kn.nd hl).symm upd_same
    have hpn2 := eX _ _ hpn
    generalize upd H1 d (.dK (mergeK [] (((nmsF f).map fun z => (Sum.inr z : Key)).zip us))) = H2 at E2 eX hDN hpn2
    refine q_asgU (eu_ofN (K := K) (el_mapT (K := K) (ys := f.ks.map (valN f us)) (ev_ixT (K := K) (ev_var rfl) ev_c (ex_t E2 h1) (at_nat (j := 1) rfl)) (ex_t E2 h4) (by rw [List.length_map]; omega) (fun x => rfl) (by rw [List.length_map, List.length_map]) fun i x y hx hy H3 e3 => ?_)) fun pkk H3 _ e3 hpk => ?_
    · rw [List.getElem?_map] at hx hy
      cases hz : f.ks[i]? with
      | none => rw [hz] at hx; cases hx
      | some z =>
        rw [hz] at hx hy
        obtain rfl := (Option.some.inj hx).symm
        obtain rfl := (Option.some.inj hy).symm
        exact ev_dn (hDN.mono e3) (kn.ki z (List.mem_of_getElem? hz)) rfl rfl
    have E3 := E2.trans e3
    have eg := given_filterS (l := nmsF f) (fun z => !decide (z ∈ f.ks)) (valN f us)
    have hpn3 : SqT K H3 pn ((nmsF f).map V.str) := by
      unfold nmsF
      rw [List.map_map]
      exact st_of (e3 _ _ hpn2)
    have len3 : ((nmsF f).map V.str).length = (nmsF f).length := by rw [List.length_map]
    have hz3 : ∀ {i : Nat} {x : V}, ((nmsF f).map V.str)[i]? = some x → x = .str ((nmsF f).getD i "") ∧ (nmsF f).getD i "" ∈ nmsF f := fun {i x} hx => by
      rw [List.getElem?_map] at hx
      cases hz : (nmsF f)[i]? with
      | none => rw [hz] at hx; cases hx
      | some z =>
        rw [hz] at hx
        rw [List.getD_eq_getElem?_getD, hz]
        exact ⟨(Option.some.inj hx).symm, List.mem_of_getElem? hz⟩
    refine q_asgU (xs := (restN f).map (valN f us)) (eu_ofN (K := K) (by
      unfold restN
      rw [← eg, ← len3]
      exact el_lcT (K := K) (ev_var rfl) hpn3 (by rw [len3, nms_len]; omega) (fun x => rfl) (fun i x H4 hx e4 => by
        rw [(hz3 hx).1]
        exact et_is (et_test (ev_op (ev_var rfl) (ev_ixT (K := K) (ev_var rfl) ev_c (ex_t (E3.trans e4) h1) (at_nat (j := 1) rfl)) (rv_niT (ex_t (E3.trans e4) h4) rfl (by rw [List.all_map]; exact List.all_eq_true.mpr fun _ _ => rfl)))) (by rw [inS_mem])) (fun i x H4 hx _ e4 => by
        rw [(hz3 hx).1]
        exact ev_dn (hDN.mono (e3.trans e4)) (hz3 hx).2 rfl rfl))) fun prr H4 _ e4 hpr => ?_
    refine ret_run (tup_run (cons_run (var_run rfl (cons_run (var_run rfl ⟨(by show 2 ≤ sizeLine; decide), fun p hp => q _ _ ((E3.trans e4).trans (Ex.new hp)) (.tup (st_of upd_same) (.cons (.tup (st_of ((Ex.new hp) _ _ (e4 _ _ hpk))) (dpa_scs fun x hx => ?_)) (.cons (.tup (st_of ((Ex.new hp) _ _ hpr)) (dpa_scs fun x hx => ?_)) .nil)))⟩)))))
    · obtain ⟨z, _, rfl⟩ := List.mem_map.mp hx
      exact valN_sc hsc
    · obtain ⟨z, _, rfl⟩ := List.mem_map.mp hx
      exact valN_sc hsc


/-! ### join_row -/
def spJoin (K : PySem.W.Frag) : Sp := fun vs H Q _ => ∃ (f : Fm) (vf : V) (pk pr : Addr) (g1 g2 : Str → V), vs = [vf, .ref pk, .ref pr] ∧ Dp K H vf f.d ∧ f.kn ∧ SqT K H pk (f.ks.map g1) ∧ SqT K H pr ((restN f).map g2) ∧ ∀ p H', Ex H H' → SqT K H' p ((nmsF f).map (mixV f g1 g2)) → Q (.ref p) H'
theorem nms_nd {f : Fm} (kn : f.kn) : (f.ks ++ restN f).Nodup := by
  rw [List.nodup_append]
  exact ⟨kn.kd, kn.nd.sublist List.filter_sublist, fun x hx y hy e => (restN_in hy).2 (e ▸ hx)⟩
theorem ok_join_row (T : Txt K mg base) : FnOk P w K mg base CX0 2 T.f_join_row T.d_join_row ["form", "key", "rest"] (spJoin K) := by
  refine T.F_join_row.ok sc_join_row (fun vs H Q E h => ?_) (fun cdv A outer s H vs Q E hr h => ?_)
  · obtain ⟨f, vf, pk, pr, g1, g2, rfl, _⟩ := h
    rfl
  · obtain ⟨f, vf, pk, pr, g1, g2, rfl, hF, kn, hK, hR, q⟩ := h
    have hu : (A.deeper (envOfC (Str.ofString "join_row") (defScope s_join_row) s.heap.objs.size T.f_join_row cdv)).units + 1 < cLine := Nat.lt_of_le_of_lt (Nat.add_le_add_left (by decide) _) hr.un
    have hF0 := hF
    obtain ⟨pf, pa, pkk, xs, rfl, h1, h2, h3, h4⟩ := fm_at hF
    have kl := kn.l1
    have k2 := kn.l2
    have rl := restN_len f
    refine ⟨_, pss_cons (ps_set (i := 3) sc_join_row.nd rfl (by first | exact Or.inl rfl | exact Or.inr rfl) (pe_call (ok_column_names T) (hr.mono (by first | decide | omega)) (by rfl) T.g_column_names T.F_column_names.kp T.b_column_names .nil pass0 (pa_cons (pv 0) (pa_nil))))
      (pss_cons (ps_setLc (i := 4) (own := [("name", 5)]) (g := gName 5) (by rfl) sc_join_row.nd rfl rfl (sw_true rfl rfl rfl (by decide +kernel)) (pi_tup (pv 3)) (blkOk_by (N := ["form", "key", "rest", "names", "other_names", "name", "values"]) (sc := defScope s_join_row) (by decide +kernel)) (fun _ _ _ _ _ => pg_name (i := 5) sc_join_row.nd rfl (Or.inl rfl)) (fun _ _ _ _ _ => pts_one (pt_cmpR (r := rIn K true) op_notIn_seq (pv 5) (pe_ix (r := rIxT K) ix_tup (pv 0) (pe_int) (fun _ _ => rfl)) (by rfl))) (fun _ _ _ _ _ => pv 5))
      (pss_cons (ps_set (i := 6) sc_join_row.nd rfl (by first | exact Or.inl rfl | exact Or.inr rfl) (pe_dictZipL rfl (by rfl) T.m_zip (by rfl) T.m_dict (pa_cons (pe_op op_cat (pe_callTy call_list_of (by rfl) T.m_list (by decide +kernel) (pa_cons (pe_ix (r := rIxT K) ix_tup (pv 0) (pe_int) (fun _ _ => rfl)) (pa_nil))) (pv 4)) (pa_cons (pe_op op_catA (pv 1) (pv 2)) pa_nil))))
      (pss_one (ps_ret (pe_callTy (r := rTupOf K) call_tuple_of (by rfl) T.m_tuple (by decide +kernel) (pa_cons (pe_lc (own := [("name", 5)]) (g := gName 5) (tt := tYes) rfl sc_join_row.nd (pi_tup (pv 3)) (blkOk_by (N := ["form", "key", "rest", "names", "other_names", "name", "values"]) (sc := defScope s_join_row) (by decide +kernel)) (fun _ _ _ _ _ => pg_name (i := 5) sc_join_row.nd rfl (Or.inl rfl)) (fun _ _ _ _ _ => pts_nil) (fun _ _ _ _ _ => pe_dget hu (pv 6) (pv 5) (fun _ _ => rfl))) (pa_nil))))))), ?_⟩
    refine q_asgU (eu_nms (K := K) (ev_var rfl) hF0 (by omega)) fun pn H1 _ e1 hpn => ?_
    have hpn1 : SqT K H1 pn ((nmsF f).map V.str) := by
      unfold nmsF
      rw [List.map_map]
      exact st_of hpn
    have len3 : ((nmsF f).map V.str).length = (nmsF f).length := by rw [List.length_map]
    have hz3 : ∀ {i : Nat} {x : V}, ((nmsF f).map V.str)[i]? = some x → x = .str ((nmsF f).getD i "") ∧ (nmsF f).getD i "" ∈ nmsF f := fun {i x} hx => by
      rw [List.getElem?_map] at hx
      cases hz : (nmsF f)[i]? with
      | none => rw [hz] at hx; cases hx
      | some z =>
        rw [hz] at hx
        rw [List.getD_eq_getElem?_getD, hz]
        exact ⟨(Option.some.inj hx).symm, List.mem_of_getElem? hz⟩
    have eg := given_filterS (l := nmsF f) (fun z => !decide (z ∈ f.ks)) V.str
    refine q_asgL (xs := (restN f).map V.str) (by
      unfold restN
      rw [← eg, ← len3]
      exact el_lcT (K := K) (ev_var rfl) hpn1 (by rw [len3, nms_len]; omega) (fun x => rfl) (fun i x H4 hx e4 => by
        rw [(hz3 hx).1]
        exact et_is (et_test (ev_op (ev_var rfl) (ev_ixT (K := K) (ev_var rfl) ev_c (ex_t (e1.trans e4) h1) (at_nat (j := 1) rfl)) (rv_niT (ex_t (e1.trans e4) h4) rfl (by rw [List.all_map]; exact List.all_eq_true.mpr fun _ _ => rfl)))) (by rw [inS_mem])) (fun i x H4 hx _ e4 => by
        rw [(hz3 hx).1]
        exact ev_var rfl)) fun po H2 _ e2 hpo => ?_
    have E2 := e1.trans e2
    refine q_asgK (dzl_run (cons_run (op_run (el_run (el_listT (K := K) (ev_ixT (K := K) (ev_var rfl) ev_c (ex_t E2 h1) (at_nat (j := 1) rfl)) (ex_t E2 h4)) fun p3 H3 _ e3 hp3 => var_run rfl ⟨p3, po, _, _, rfl, rfl, hp3, e3 _ _ hpo, sz_of (by rw [List.length_map, List.length_map]; omega), fun p4 hp4 => ?_⟩))))
    have E4 := (E2.trans e3).trans (Ex.new (o := .lst (f.ks.map V.str ++ (restN f).map V.str)) hp4)
    refine cons_run (etv_run (K := K) (etv_cat (etv_ev (ev_var rfl) (ex_t E4 hK)) (etv_ev (ev_var rfl) (ex_t E4 hR)) (by rw [List.length_map, List.length_map]; omega)) fun p5 H5 e5 hp5 => ?_)
    have E5 := E4.trans e5
    have h45 : H5 p4 = some (.lst (f.ks.map V.str ++ (restN f).map V.str)) := e5 _ _ upd_same
    refine ⟨p4, p5, (f.ks ++ restN f).map (fun z => (Sum.inr z : Key)), _, rfl, ?_, hp5, by rw [List.length_map, List.length_append, List.length_append, List.length_map, List.length_map], by rw [List.length_append, List.length_map, List.length_map]; omega, fun d hd => ?_⟩
    · rw [List.map_map]
      have : (f.ks ++ restN f).map (kV ∘ fun z => (Sum.inr z : Key)) = f.ks.map V.str ++ (restN f).map V.str := by rw [List.map_append] <;> rfl
      rw [this]
      exact sq_of h45
    have eX := Ex.new (o := .dK (mergeK [] (((f.ks ++ restN f).map fun z => (Sum.inr z : Key)).zip (f.ks.map g1 ++ (restN f).map g2)))) hd
    have hDN : DN (upd H5 d (.dK (mergeK [] (((f.ks ++ restN f).map fun z => (Sum.inr z : Key)).zip (f.ks.map g1 ++ (restN f).map g2))))) d (f.ks ++ restN f) (mixV f g1 g2) := dn_zip (nms_nd kn) (by
      rw [List.map_append]
      congr 1
      · exact List.map_congr_left fun z hz => by unfold mixV; rw [if_pos hz]
      · exact List.map_congr_left fun z hz => by unfold mixV; rw [if_neg (restN_in hz).2]) upd_same
    have E6 := E5.trans eX
    have hpn6 := ex_t (((e2.trans e3).trans (Ex.new (o := .lst (f.ks.map V.str ++ (restN f).map V.str)) hp4)).trans (e5.trans eX)) hpn1
    generalize upd H5 d (.dK (mergeK [] (((f.ks ++ restN f).map fun z => (Sum.inr z : Key)).zip (f.ks.map g1 ++ (restN f).map g2)))) = H6 at hDN E6 hpn6
    refine s_retU (eu_ofN (K := K) (el_mapT (K := K) (ys := (nmsF f).map (mixV f g1 g2)) (ev_var rfl) hpn6 (by rw [len3, nms_len]; omega) (fun x => rfl) (by rw [List.length_map, List.length_map]) fun i x y hx hy H7 e7 => ?_)) fun p H7 _ e7 hp => q p H7 (E6.trans e7) (st_of hp)
    obtain ⟨hx1, hx2⟩ := hz3 hx
    rw [hx1]
    rw [List.getElem?_map] at hx hy
    cases hz : (nmsF f)[i]? with
    | none => rw [hz] at hx; cases hx
    | some z =>
      rw [hz] at hy
      have hzd : (nmsF f).getD i "" = z := by rw [List.getD_eq_getElem?_getD, hz] <;> rfl
      rw [hzd] at hx2 ⊢
      obtain rfl := (Option.some.inj hy).symm
      refine ev_dn (hDN.mono e7) ?_ rfl rfl
      rw [List.mem_append]
      by_cases hk : z ∈ f.ks
      · exact .inl hk
      · exact .inr (List.mem_filter.mpr ⟨hx2, by simpa using hk⟩)


/-! ### _law_key_of -/
def spKeyOf (K : PySem.W.Frag) : Sp := fun vs H Q _ => ∃ (f : Fm) (vf : V) (pr : Addr) (us : List V), vs = [vf, .ref pr] ∧ Dp K H vf f.d ∧ f.kn ∧ SqT K H pr us ∧ us.length = f.cs.length ∧ ∀ p H', H p = none → Ex H H' → H' p = some (.tup (f.ks.map (valN f us))) → Q (.ref p) H'
theorem cu_keyof {K : PySem.W.Frag} {H : Hp} {f : Fm} {vf : V} {pr : Addr} {us : List V} {σ : L2.St} {E : XK} {ta tb : TE} (ha : Ev ta σ H vf) (hb : Ev tb σ H (.ref pr)) (hF : Dp K H vf f.d) (kn : f.kn) (hS : SqT K H pr us) (hl : us.length = f.cs.length) : EvU (tCall (spKeyOf K) [] E (tCons ta (tCons tb tNil))) σ H (f.ks.map (valN f us)) := fun H1 e Q q =>
  ha H1 e _ fun H2 e2 => hb H2 (e.trans e2) _ fun H3 e3 => ⟨f, vf, pr, us, rfl, dp_mono ((e.trans e2).trans e3) hF, kn, ex_t ((e.trans e2).trans e3) hS, hl, fun p H4 np e4 hp => q p H4 (fresh_back (e2.trans e3) np) ((e2.trans e3).trans e4) hp⟩
theorem ok_law_key_of (T : Txt K mg base) : FnOk P w K mg base CX0 1 T.f_law_key_of T.d_law_key_of ["form", "row"] (spKeyOf K) := by
  refine T.F_law_key_of.ok sc_law_key_of (fun vs H Q E h => ?_) (fun cdv A outer s H vs Q E hr h => ?_)
  · obtain ⟨f, vf, pr, us, rfl, _⟩ := h
    rfl
  · obtain ⟨f, vf, pr, us, rfl, hF, kn, hS, hl, q⟩ := h
    obtain ⟨pf, pa, pk, xs, rfl, h1, h2, h3, h4⟩ := fm_at hF
    have kl := kn.l1
    have k2 := kn.l2
    have hxl := co_len h3
    refine ⟨_, pss_cons (ps_set (i := 2) sc_law_key_of.nd rfl (by first | exact Or.inl rfl | exact Or.inr rfl) (pe_lst (pa_nil)))
      (pss_cons (ps_for PassesOwn.never rfl (pi_tup (pe_ix (r := rIxT K) ix_tup (pv 0) (pe_int) (fun _ _ => rfl))) (pg_name (i := 3) sc_law_key_of.nd rfl (by first | exact Or.inl rfl | exact Or.inr rfl))
      (pss_one (ps_for PassesOwn.never rfl (pi_range1 (by rfl) T.m_range (pa_cons (pe_callB (r := rLenQ K) call_len_seq (by rfl) T.m_len (by decide +kernel) (pa_cons (pv 1) (pa_nil))) (pa_nil))) (pg_name (i := 4) sc_law_key_of.nd rfl (by first | exact Or.inl rfl | exact Or.inr rfl))
      (pss_one (ps_if (pt_cmpR op_eq (pe_ix (r := rIxT K) ix_tup (pe_ix (r := rIxT K) ix_tup (pe_ix (r := rIxT K) ix_tup (pv 0) (pe_int) (fun _ _ => rfl)) (pv 4) (fun _ _ => rfl)) (pe_int) (fun _ _ => rfl)) (pv 3) (nomark _))
      (pss_one (ps_expr (pe_bm PySem.F.plainAttrs_list PySem.F.slot_list_append PySem.F.type_list_append mt_append (pv 2) (pa_cons (pe_ix (r := rIxT K) ix_tup (pv 1) (pv 4) (fun _ _ => rfl)) (pa_nil)))))
      (pss_nil))))))
      (pss_one (ps_ret (pe_callTy (r := rTupOf K) call_tuple_of (by rfl) T.m_tuple (by decide +kernel) (pa_cons (pv 2) (pa_nil)))))), ?_⟩
    refine q_asgL (xs := []) (el_lst ea_nil (by decide)) fun pv H1 npv e1 g1 => ?_
    refine q_forT (K := K) (a := pk) (xs := f.ks.map V.str) (ev_ixT (K := K) (ev_var rfl) ev_c (ex_t e1 h1) (at_nat (j := 1) rfl)) (ex_t e1 h4) (fun i σ' H' => ∃ (x3 x4 : Option V), σ' = [some (.ref pf), some (.ref pr), some (.ref pv), x3, x4] ∧ Ex H H' ∧ H' pv = some (.lst ((f.ks.take i).map (valN f us))))
      (fun H2 e2 => ⟨_, _, rfl, e1.trans e2, e2 _ _ g1⟩) (fun i σ' H' _ hP => by
        obtain ⟨_, _, _, e, _⟩ := hP
        exact ex_t e h4) (fun i x σ' H' hx hP => ?_) (fun σ' H' hP => ?_)
    · obtain ⟨x3, x4, rfl, eH, hpv⟩ := hP
      rw [List.getElem?_map] at hx
      cases hz : f.ks[i]? with
      | none => rw [hz] at hx; cases hx
      | some z =>
        rw [hz] at hx
        obtain rfl := (Option.some.inj hx).symm
        have hzk := List.mem_of_getElem? hz
        have hi := (List.getElem?_eq_some_iff.mp hz).1
        refine s_forR1 (n := (us.length : Int)) (ea_cons (ev_lenT (K := K) (ev_var rfl) (ex_t eH hS)) ea_nil) (by omega) (fun k σ' H3 => ∃ (x4 : Option V), σ' = [some (.ref pf), some (.ref pr), some (.ref pv), some (.str z), x4] ∧ Ex H H3 ∧ ((∃ (j : Nat) (o : Co), j < k ∧ f.cs[j]? = some o ∧ o.nm = z) → H3 pv = some (.lst ((f.ks.take i).map (valN f us) ++ [valN f us z]))) ∧ ((∀ (j : Nat) (o : Co), j < k → f.cs[j]? = some o → o.nm ≠ z) → H3 pv = some (.lst ((f.ks.take i).map (valN f us)))))
          (fun H3 e3 => ⟨_, rfl, eH.trans e3, fun ⟨j, o, hj, _⟩ => by omega, fun _ => e3 _ _ hpv⟩) (fun k σ' H3 hk hP => ?_) fun σ' H3 hP => ?_
        · obtain ⟨x4, rfl, e3, hf, hnf⟩ := hP
          have hk2 : k < us.length := by omega
          obtain ⟨o, ho⟩ : ∃ o, f.cs[k]? = some o := ⟨_, List.getElem?_eq_getElem (by omega)⟩
          obtain ⟨u, hu⟩ : ∃ u, us[k]? = some u := ⟨_, List.getElem?_eq_getElem hk2⟩
          obtain ⟨yo, hyo⟩ : ∃ yo, xs[k]? = some yo := ⟨_, List.getElem?_eq_getElem (by omega)⟩
          obtain ⟨o', ho', hDo⟩ := co_get h3 hyo
          rw [ho] at ho'
          cases ho'
          have yv : ∀ {H' : Hp} {σ : L2.St}, Ex H H' → σ[0]? = some (some (V.ref pf)) → σ[4]? = some (some (V.int (k : Int))) → Ev (tOp (rIxT K) (tOp (rIxT K) (tVar 0) (tC (.int 0))) (tVar 4)) σ H' yo := fun e s0 s4 => ev_ixT (K := K) (ev_ixT (K := K) (ev_var s0) ev_c (ex_t e h1) (at_nat (j := 0) rfl)) (ev_var s4) (ex_t e h2) (at_nat hyo)
          refine s_when (b := decide (o.nm = z)) (et_test (ev_eqS (ev_co (yv e3 rfl rfl) (dp_mono e3 hDo)).1 (ev_var rfl))) (fun hb H4 e4 => ?_) fun hb H4 e4 => ⟨_, rfl, e3.trans e4, fun ⟨j, o2, hj, h5, h6⟩ => ?_, fun hh => e4 _ _ (hnf fun j o2 hj => hh j o2 (by omega))⟩
          · have hoz := of_decide_eq_true hb
            have hno : ∀ (j : Nat) (o2 : Co), j < k → f.cs[j]? = some o2 → o2.nm ≠ z := fun j o2 hj h5 h6 => by
              have := nd_idx (l := f.cs.map Co.nm) (i := j) (j := k) (by rw [List.length_map]; omega) kn.nd (by rw [List.getElem?_map, List.getElem?_map, h5, ho]; show some o2.nm = some o.nm; rw [h6, hoz])
              omega
            refine s_app (K := K) (e4 _ _ (hnf hno)) (ev_var rfl) (ev_ixT (K := K) (ev_var rfl) (ev_var rfl) (ex_t (e3.trans e4) hS) (at_nat hu)) (by rw [List.length_map, List.length_take]; omega) fun H5 e5 => ⟨_, rfl, ((e3.trans e4).trans e5).mut (fresh_back (Ex.refl _) npv), fun _ => ?_, fun hh => absurd hoz (hh k o (by omega) ho)⟩
            rw [upd_same, ← hoz, valN_at kn.nd hl ho hu]
          · by_cases hjk : j < k
            · exact e4 _ _ (hf ⟨j, o2, hjk, h5, h6⟩)
            · obtain rfl : j = k := by omega
              rw [ho] at h5
              cases h5
              rw [h6] at hb
              simp at hb
        · obtain ⟨x4, rfl, e3, hf, hnf⟩ := hP
          obtain ⟨c, hc, hcz⟩ := List.mem_map.mp (kn.ki z hzk)
          obtain ⟨j, hj⟩ := List.getElem?_of_mem hc
          have hj2 := (List.getElem?_eq_some_iff.mp hj).1
          refine ⟨_, _, rfl, e3, ?_⟩
          rw [hf ⟨j, c, by omega, hj, hcz⟩, List.take_add_one, hz, List.map_append] <;> rfl
    · obtain ⟨x3, x4, rfl, eH, hpv⟩ := hP
      rw [List.length_map, List.take_length] at hpv
      exact s_retU (eu_ofL (K := K) (ev_var rfl) (sq_of hpv)) fun p H2 np e2 g2 => q p H2 (fresh_back eH np) (eH.trans e2) g2


/-! ### _law_rest_of -/
def spRestOf (K : PySem.W.Frag) : Sp := fun vs H Q _ => ∃ (f : Fm) (vf : V) (pr : Addr) (us : List V), vs = [vf, .ref pr] ∧ Dp K H vf f.d ∧ f.kn ∧ SqT K H pr us ∧ us.length = f.cs.length ∧ ∀ p H', H p = none → Ex H H' → H' p = some (.tup ((restN f).map (valN f us))) → Q (.ref p) H'
theorem cu_restof {K : PySem.W.Frag} {H : Hp} {f : Fm} {vf : V} {pr : Addr} {us : List V} {σ : L2.St} {E : XK} {ta tb : TE} (ha : Ev ta σ H vf) (hb : Ev tb σ H (.ref pr)) (hF : Dp K H vf f.d) (kn : f.kn) (hS : SqT K H pr us) (hl : us.length = f.cs.length) : EvU (tCall (spRestOf K) [] E (tCons ta (tCons tb tNil))) σ H ((restN f).map (valN f us)) := fun H1 e Q q =>
  ha H1 e _ fun H2 e2 => hb H2 (e.trans e2) _ fun H3 e3 => ⟨f, vf, pr, us, rfl, dp_mono ((e.trans e2).trans e3) hF, kn, ex_t ((e.trans e2).trans e3) hS, hl, fun p H4 np e4 hp => q p H4 (fresh_back (e2.trans e3) np) ((e2.trans e3).trans e4) hp⟩
theorem ok_law_rest_of (T : Txt K mg base) : FnOk P w K mg base CX0 1 T.f_law_rest_of T.d_law_rest_of ["form", "row"] (spRestOf K) := by
  refine T.F_law_rest_of.ok sc_law_rest_of (fun vs H Q E h => ?_) (fun cdv A outer s H vs Q E hr h => ?_)
  · obtain ⟨f, vf, pr, us, rfl, _⟩ := h
    rfl
  · obtain ⟨f, vf, pr, us, rfl, hF, kn, hS, hl, q⟩ := h
    obtain ⟨pf, pa, pk, xs, rfl, h1, h2, h3, h4⟩ := fm_at hF
    have kl := kn.l1
    have hxl := co_len h3
    refine ⟨_, pss_one (ps_ret (pe_callTy (r := rTupOf K) call_tuple_of (by rfl) T.m_tuple (by decide +kernel) (pa_cons (pe_lc (own := [("k", 2)]) (g := gName 2) rfl sc_law_rest_of.nd (pi_range1 (by rfl) T.m_range (pa_cons (pe_callB (r := rLenQ K) call_len_seq (by rfl) T.m_len (by decide +kernel) (pa_cons (pv 1) (pa_nil))) (pa_nil))) (blkOk_by (N := ["form", "row", "k"]) (sc := defScope s_law_rest_of) (by decide +kernel)) (fun _ _ _ _ _ => pg_name (i := 2) sc_law_rest_of.nd rfl (Or.inl rfl)) (fun _ _ _ _ _ => pts_one (pt_cmpR (r := rIn K true) op_notIn_seq (pe_ix (r := rIxT K) ix_tup (pe_ix (r := rIxT K) ix_tup (pe_ix (r := rIxT K) ix_tup (pv 0) (pe_int) (fun _ _ => rfl)) (pv 2) (fun _ _ => rfl)) (pe_int) (fun _ _ => rfl)) (pe_ix (r := rIxT K) ix_tup (pv 0) (pe_int) (fun _ _ => rfl)) (by rfl))) (fun _ _ _ _ _ => pe_ix (r := rIxT K) ix_tup (pv 1) (pv 2) (fun _ _ => rfl))) (pa_nil)))), ?_⟩
    have eg := given_filterS (l := nmsF f) (fun z => !decide (z ∈ f.ks)) (valN f us)
    have at_ : ∀ {k : Nat}, (k : Int) < (us.length : Int) → ∃ o u yo, f.cs[k]? = some o ∧ us[k]? = some u ∧ xs[k]? = some yo ∧ Dp K H yo o.d ∧ (nmsF f).getD k "" = o.nm := fun {k} hk => by
      obtain ⟨o, ho⟩ : ∃ o, f.cs[k]? = some o := ⟨_, List.getElem?_eq_getElem (by omega)⟩
      obtain ⟨u, hu⟩ : ∃ u, us[k]? = some u := ⟨_, List.getElem?_eq_getElem (by omega)⟩
      obtain ⟨yo, hyo⟩ : ∃ yo, xs[k]? = some yo := ⟨_, List.getElem?_eq_getElem (by omega)⟩
      obtain ⟨o', ho', hDo⟩ := co_get h3 hyo
      rw [ho] at ho'
      cases ho'
      exact ⟨o, u, yo, ho, hu, hyo, hDo, nms_get ho⟩
    refine s_retU (xs := (restN f).map (valN f us)) (eu_ofN (K := K) (by
      unfold restN
      rw [← eg, show (nmsF f).length = ((us.length : Int)).toNat by rw [nms_len]; omega]
      exact el_lcR1 (fun i => !decide ((nmsF f).getD i "" ∈ f.ks)) (fun i => valN f us ((nmsF f).getD i "")) (ea_cons (ev_lenT (K := K) (ev_var rfl) hS) ea_nil) (by omega) (fun x => rfl) (fun i H1 e1 hi => by
        obtain ⟨o, u, yo, ho, hu, hyo, hDo, hnm⟩ := at_ hi
        rw [hnm]
        exact et_is (et_test (ev_op (ev_co (ev_ixT (K := K) (ev_ixT (K := K) (ev_var rfl) ev_c (ex_t e1 h1) (at_nat (j := 0) rfl)) (ev_var rfl) (ex_t e1 h2) (at_nat hyo)) (dp_mono e1 hDo)).1 (ev_ixT (K := K) (ev_var rfl) ev_c (ex_t e1 h1) (at_nat (j := 1) rfl)) (rv_niT (ex_t e1 h4) rfl (by rw [List.all_map]; exact List.all_eq_true.mpr fun _ _ => rfl)))) (by rw [inS_mem])) (fun i H1 e1 hi _ => by
        obtain ⟨o, u, yo, ho, hu, hyo, hDo, hnm⟩ := at_ hi
        rw [hnm, valN_at kn.nd hl ho hu]
        exact ev_ixT (K := K) (ev_var rfl) (ev_var rfl) (ex_t e1 hS) (at_nat hu)))) fun p H2 np e2 hp => q p H2 np e2 hp


/-! ### _law_other_tuple -/
def spOther (K : PySem.W.Frag) : Sp := fun vs H Q _ => ∃ (vf : V) (pr : Addr) (us : List V) (cell : Int), vs = [vf, .ref pr, .int cell] ∧ SqT K H pr us ∧ 1 ≤ us.length ∧ us.length ≤ 100 ∧ (∀ u ∈ us, Sc u) ∧ Wd cell ∧ ∀ p vs H', Ex H H' → SqT K H' p vs → vs.length ≤ 300 → (∀ u ∈ vs, Sc u) → Q (.ref p) H'
theorem qmarks_at (n : Int) : ∃ kd : Kn, ([.str (Str.ofString "int?"), .str (Str.ofString "text?")] : List V)[(n % 2).toNat]? = some (.str kd.s) := by
  have h1 := Int.emod_nonneg n (by decide : (2 : Int) ≠ 0)
  have h2 := Int.emod_lt_of_pos n (by decide : (0 : Int) < 2)
  have hh : n % 2 = 0 ∨ n % 2 = 1 := by omega
  rcases hh with e | e <;> rw [e]
  · exact ⟨.intq, rfl⟩
  · exact ⟨.textq, rfl⟩
theorem ok_law_other_tuple (T : Txt K mg base) : FnOk P w K mg base CX0 4 T.f_law_other_tuple T.d_law_other_tuple ["form", "row", "cell"] (spOther K) := by
  refine T.F_law_other_tuple.ok sc_law_other_tuple (fun vs H Q E h => ?_) (fun cdv A outer s H vs Q E hr h => ?_)
  · obtain ⟨vf, pr, us, cell, rfl, _⟩ := h
    rfl
  · obtain ⟨vf, pr, us, cell, rfl, hS, hl1, hl2, hsc, hW, q⟩ := h
    have w64 : Wd ((10 : Int) ^ 64) := Wd.lit (by decide +kernel)
    refine ⟨_, pss_cons (ps_set (i := 3) sc_law_other_tuple.nd rfl (by first | exact Or.inl rfl | exact Or.inr rfl) (pe_call (ok_law_draws T) (hr.mono (by first | decide | omega)) (by rfl) T.g_law_draws T.F_law_draws.kp T.b_law_draws .nil pass0 (pa_cons (pv 2) (pa_cons (pe_int) (pa_cons (pe_int) (pa_cons (pe_op op_pow (pe_int) (pe_int)) (pa_nil)))))))
      (pss_cons (ps_set (i := 4) sc_law_other_tuple.nd rfl (by first | exact Or.inl rfl | exact Or.inr rfl) (pe_call (ok_law_value T) (hr.mono (by first | decide | omega)) (by rfl) T.g_law_value T.F_law_value.kp T.b_law_value .nil pass0 (pa_cons (pe_ix (r := rIxL K) ix_list (pe_lst (pa_cons (pe_str) (pa_cons (pe_str) (pa_nil)))) (pe_op op_mod (pe_callTy call_int1 (by rfl) T.m_int (by decide +kernel) (pa_cons (pe_ix (r := rIxL K) ix_list (pv 3) (pe_int) (fun _ _ => rfl)) (pa_nil))) (pe_int)) (fun _ _ => rfl)) (pa_cons (pe_ix (r := rIxL K) ix_list (pv 3) (pe_int) (fun _ _ => rfl)) (pa_nil)))))
      (pss_cons (ps_set (i := 5) sc_law_other_tuple.nd rfl (by first | exact Or.inl rfl | exact Or.inr rfl) (pe_op op_mod (pe_callTy call_int1 (by rfl) T.m_int (by decide +kernel) (pa_cons (pe_op op_fdivW (pe_ix (r := rIxL K) ix_list (pv 3) (pe_int) (fun _ _ => rfl)) (pe_int)) (pa_nil))) (pe_callB (r := rLenQ K) call_len_seq (by rfl) T.m_len (by decide +kernel) (pa_cons (pv 1) (pa_nil)))))
      (pss_cons (ps_set (i := 6) sc_law_other_tuple.nd rfl (by first | exact Or.inl rfl | exact Or.inr rfl) (pe_op op_mod (pe_callTy call_int1 (by rfl) T.m_int (by decide +kernel) (pa_cons (pe_ix (r := rIxL K) ix_list (pv 3) (pe_int) (fun _ _ => rfl)) (pa_nil))) (pe_int)))
      (pss_cons (ps_if (pt_cmpR op_lt (pv 6) (pe_int) (nomark _))
      (pss_one (ps_ret (pe_op op_catA (pe_op op_catA (pe_slice (r := rSlA K) sl_tupA (pv 1) (po_none) (po_some (pv 5))) (pe_tup (pa_cons (pv 4) (pa_nil)))) (pe_slice (r := rSlA K) sl_tupA (pv 1) (po_some (pe_op op_add (pv 5) (pe_int))) (po_none)))))
      (pss_nil))
      (pss_cons (ps_if (pt_cmpR op_eq (pv 6) (pe_int) (nomark _))
      (pss_one (ps_ret (pe_op op_catA (pe_slice (r := rSlA K) sl_tupA (pv 1) (po_none) (po_some (pv 5))) (pe_slice (r := rSlA K) sl_tupA (pv 1) (po_some (pe_op op_add (pv 5) (pe_int))) (po_none)))))
      (pss_nil))
      (pss_cons (ps_if (pt_cmpR op_eq (pv 6) (pe_int) (nomark _))
      (pss_one (ps_ret (pe_op op_catA (pe_op op_catA (pe_slice (r := rSlA K) sl_tupA (pv 1) (po_none) (po_some (pv 5))) (pe_tup (pa_cons (pv 4) (pa_nil)))) (pe_slice (r := rSlA K) sl_tupA (pv 1) (po_some (pv 5)) (po_none)))))
      (pss_nil))
      (pss_one (ps_ret (pv 1))))))))), ?_⟩
    refine q_asgL (xs := (draws cell 13 3 (10 ^ 64)).map V.int) (el_call (ea_cons (ev_var rfl) (ea_cons ev_c (ea_cons ev_c (ea_cons (ev_bin ev_c ev_c ⟨by decide, by decide, by decide⟩) ea_nil)))) (cl_draws (count := 3) hW (by decide) (by decide) (by decide) (by decide +kernel))) fun pn H1 _ e1 hpn => ?_
    have gl : (draws cell 13 3 (10 ^ 64)).length = 3 := draws_len ..
    have gw := draws_ok (salt := 13) hW (by decide : (0 : Int) < 10 ^ 64) w64 3
    generalize draws cell 13 3 (10 ^ 64) = gs at hpn gl gw
    have num : ∀ {H' : Hp} {σ : L2.St} {j : Nat}, Ex H1 H' → σ[3]? = some (some (V.ref pn)) → j < 3 → Ev (tOp (rIxL K) (tVar 3) (tC (.int (j : Int)))) σ H' (.int (gs.getD j 0)) := fun {H' σ j} e hσ hj => ev_ixL (K := K) (ev_var hσ) ev_c (sq_of (e _ _ hpn)) (at_nat (getD_int (by omega)))
    obtain ⟨kd, hkd⟩ := qmarks_at (gs.getD 1 0)
    refine q_asg (v := vz (valZ kd.s (gs.getD 2 0))) (ev_call (ea_cons (ev_ixN (K := K) (xs := [.str (Str.ofString "int?"), .str (Str.ofString "text?")]) (i := gs.getD 1 0 % 2) (el_lst (ea_cons ev_c (ea_cons ev_c ea_nil)) (by show 2 ≤ 100000; decide)) (fun H2 e2 => ev_bin (ev_intI (num (j := 1) e2 rfl (by decide))) ev_c (by decide)) (atI_of (Int.emod_nonneg _ (by decide)) hkd)) (ea_cons (num (j := 2) (Ex.refl _) rfl (by decide)) ea_nil)) (cv_value (gw _ (getD_mem0 (by omega))).2 (kn_len _))) fun H2 e2 => ?_
    have sv := (acc_val kd (gs.getD 2 0)).2
    generalize vz (valZ kd.s (gs.getD 2 0)) = v at sv
    have hpos : (0 : Int) < (us.length : Int) := by omega
    have m0 := Int.emod_nonneg (gs.getD 1 0 / 2) (by omega : (us.length : Int) ≠ 0)
    refine q_asg (ev_bin (ev_intI (ev_bin (num (j := 1) e2 rfl (by decide)) ev_c ⟨by decide, by decide⟩)) (ev_lenT (K := K) (ev_var rfl) (ex_t (e1.trans e2) hS)) hpos) fun H3 e3 => ?_
    obtain ⟨m, hm⟩ : ∃ m : Nat, gs.getD 1 0 / 2 % (us.length : Int) = (m : Int) := ⟨_, (Int.toNat_of_nonneg m0).symm⟩
    rw [hm]
    refine q_asg (ev_bin (ev_intI (num (j := 0) (e2.trans e3) rfl (by decide))) ev_c (by decide)) fun H4 e4 => ?_
    have E4 := ((e1.trans e2).trans e3).trans e4
    have row : ∀ {H'} {σ : L2.St}, Ex H4 H' → σ[1]? = some (some (V.ref pr)) → ETv K (tVar 1) σ H' us := fun e hσ => etv_ev (ev_var hσ) (ex_t (E4.trans e) hS)
    have lo := cutV_length us none (some (m : Int))
    have hi := cutV_length us (some ((m : Int) + 1)) none
    have hi0 := cutV_length us (some (m : Int)) none
    have sc : ∀ {xs : List V} {a b c d : Option Int}, ∀ x ∈ cutV us a b ++ xs ++ cutV us c d, (∀ y ∈ xs, Sc y) → Sc x := fun {xs a b c d} x hx hy => by
      rcases List.mem_append.mp hx with h | h
      · rcases List.mem_append.mp h with h | h
        · exact hsc x (cutV_mem h)
        · exact hy x h
      · exact hsc x (cutV_mem h)
    have one : ∀ y ∈ [v], Sc y := fun y hy => by rw [List.mem_singleton.mp hy]; exact sv
    refine q_when (et_test (ev_bin0 (ev_var rfl) ev_c)) (fun hb H5 e5 => ?_) fun hb H5 e5 => ?_
    · refine s_retTv (K := K) (etv_cat (etv_cat (etv_sl (row e5 rfl) (fun H6 e6 => eo_none) fun H6 e6 => eo_some (ev_var rfl)) (etv_u (eu_tup (ea_cons (ev_var rfl) ea_nil) (by show 1 ≤ 100000; decide))) (by show _ + 1 ≤ 100000; omega)) (etv_sl (row e5 rfl) (fun H6 e6 => eo_some (ev_bin0 (ev_var rfl) ev_c)) fun H6 e6 => eo_none) (by rw [List.length_append]; show _ + 1 + _ ≤ 100000; omega)) fun p H6 e6 hp => q p _ H6 ((E4.trans e5).trans e6) hp (by rw [List.length_append, List.length_append]; show _ + 1 + _ ≤ 300; omega) fun u hu => sc u hu one
    refine q_when (et_test (ev_eqI (ev_var rfl) ev_c)) (fun hb H6 e6 => ?_) fun hb H6 e6 => ?_
    · refine s_retTv (K := K) (etv_cat (etv_sl (row (e5.trans e6) rfl) (fun H6 e6 => eo_none) fun H6 e6 => eo_some (ev_var rfl)) (etv_sl (row (e5.trans e6) rfl) (fun H6 e6 => eo_some (ev_bin0 (ev_var rfl) ev_c)) fun H6 e6 => eo_none) (by omega)) fun p H7 e7 hp => q p _ H7 (((E4.trans e5).trans e6).trans e7) hp (by rw [List.length_append]; omega) fun u hu => ?_
      rcases List.mem_append.mp hu with h | h
      · exact hsc u (cutV_mem h)
      · exact hsc u (cutV_mem h)
    refine q_when (et_test (ev_eqI (ev_var rfl) ev_c)) (fun hb H7 e7 => ?_) fun hb H7 e7 => ?_
    · refine s_retTv (K := K) (etv_cat (etv_cat (etv_sl (row ((e5.trans e6).trans e7) rfl) (fun H6 e6 => eo_none) fun H6 e6 => eo_some (ev_var rfl)) (etv_u (eu_tup (ea_cons (ev_var rfl) ea_nil) (by show 1 ≤ 100000; decide))) (by show _ + 1 ≤ 100000; omega)) (etv_sl (row ((e5.trans e6).trans e7) rfl) (fun H6 e6 => eo_some (ev_var rfl)) fun H6 e6 => eo_none) (by rw [List.length_append]; show _ + 1 + _ ≤ 100000; omega)) fun p H8 e8 hp => q p _ H8 ((((E4.trans e5).trans e6).trans e7).trans e8) hp (by rw [List.length_append, List.length_append]; show _ + 1 + _ ≤ 300; omega) fun u hu => sc u hu one
    · exact s_ret (ev_var rfl) fun H8 e8 => q pr us H8 ((((E4.trans e5).trans e6).trans e7).trans e8) (ex_t ((((E4.trans e5).trans e6).trans e7).trans e8) hS) (by omega) hsc


/-! ### _law_is_row -/
def spIsRow (K : PySem.W.Frag) : Sp := fun vs H Q _ => ∃ (f : Fm) (vf : V) (pr : Addr) (us : List V), vs = [vf, .ref pr] ∧ Dp K H vf f.d ∧ SqT K H pr us ∧ (∀ u ∈ us, Sc u) ∧ f.cs.length ≤ 1000 ∧ us.length ≤ 1000 ∧ ∀ H', Ex H H' → Q (.bl (fitB f us)) H'
theorem cv_isrow {K : PySem.W.Frag} {H : Hp} {f : Fm} {vf : V} {p : Addr} {us : List V} (hF : Dp K H vf f.d) (hS : SqT K H p us) (hs : ∀ u ∈ us, Sc u) (h1 : f.cs.length ≤ 1000) (h2 : us.length ≤ 1000) : SpV (spIsRow K) [vf, .ref p] H (.bl (fitB f us)) := fun H1 e Q q E => ⟨f, vf, p, us, rfl, dp_mono e hF, ex_t e hS, hs, h1, h2, fun H2 e2 => q H2 e2⟩
theorem lacc_eq2 (kd : Kn) {x : V} (h : Sc x) : laccB kd.s x = accB kd.s x := by
  cases h <;> cases kd <;> first | decide +kernel | rfl
theorem ok_law_is_row (T : Txt K mg base) : FnOk P w K mg base CX0 2 T.f_law_is_row T.d_law_is_row ["form", "row"] (spIsRow K) := by
  refine T.F_law_is_row.ok sc_law_is_row (fun vs H Q E h => ?_) (fun cdv A outer s H vs Q E hr h => ?_)
  · obtain ⟨f, vf, pr, us, rfl, _⟩ := h
    rfl
  · obtain ⟨f, vf, pr, us, rfl, hF, hS, hsc, hl1, hl2, q⟩ := h
    obtain ⟨pf, pa, pk, xs, rfl, h1, h2, h3, h4⟩ := fm_at hF
    have hxl := co_len h3
    refine ⟨_, pss_cons (ps_if (pt_cmpR op_ne (pe_callB (r := rLenQ K) call_len_seq (by rfl) T.m_len (by decide +kernel) (pa_cons (pv 1) (pa_nil))) (pe_callB (r := rLenQ K) call_len_seq (by rfl) T.m_len (by decide +kernel) (pa_cons (pe_ix (r := rIxT K) ix_tup (pv 0) (pe_int) (fun _ _ => rfl)) (pa_nil))) (nomark _))
      (pss_one (ps_ret (pe_bl)))
      (pss_nil))
      (pss_cons (ps_for PassesOwn.never rfl (pi_range1 (by rfl) T.m_range (pa_cons (pe_callB (r := rLenQ K) call_len_seq (by rfl) T.m_len (by decide +kernel) (pa_cons (pv 1) (pa_nil))) (pa_nil))) (pg_name (i := 2) sc_law_is_row.nd rfl (by first | exact Or.inl rfl | exact Or.inr rfl))
      (pss_one (ps_if (pt_not (pt_val (pe_call (ok_law_accepts T) (hr.mono (by first | decide | omega)) (by rfl) T.g_law_accepts T.F_law_accepts.kp T.b_law_accepts .nil pass0 (pa_cons (pe_ix (r := rIxT K) ix_tup (pe_ix (r := rIxT K) ix_tup (pe_ix (r := rIxT K) ix_tup (pv 0) (pe_int) (fun _ _ => rfl)) (pv 2) (fun _ _ => rfl)) (pe_int) (fun _ _ => rfl)) (pa_cons (pe_ix (r := rIxT K) ix_tup (pv 1) (pv 2) (fun _ _ => rfl)) (pa_nil))))))
      (pss_one (ps_ret (pe_bl)))
      (pss_nil))))
      (pss_one (ps_ret (pe_bl)))), ?_⟩
    refine q_when (b := !decide ((us.length : Int) = (xs.length : Int))) (et_test (ev_neI (ev_lenT (K := K) (ev_var rfl) hS) (ev_lenT (K := K) (ev_ixT (K := K) (ev_var rfl) ev_c h1 (at_nat (j := 0) rfl)) h2))) (fun hb H1 e1 => ?_) fun hb H1 e1 => ?_
    · refine s_ret ev_c fun H2 e2 => ?_
      have : fitB f us = false := by
        unfold fitB
        rw [decide_eq_false (by simp at hb; omega)] <;> rfl
      rw [← this]
      exact q H2 (e1.trans e2)
    have hlen : us.length = xs.length := by simp at hb; omega
    have fb : fitB f us = (fitL f us).all id := by
      unfold fitB
      rw [decide_eq_true (by omega), Bool.true_and]
    refine q_forR1 (n := (us.length : Int)) (ea_cons (ev_lenT (K := K) (ev_var rfl) (ex_t e1 hS)) ea_nil) (by omega) (fun k σ' H3 => ∃ (x2 : Option V), σ' = [some (.ref pf), some (.ref pr), x2] ∧ Ex H H3 ∧ ∀ (j : Nat) c u, j < k → f.cs[j]? = some c → us[j]? = some u → accB c.kd.s u = true)
      (fun H3 e3 => ⟨_, rfl, e1.trans e3, fun j c u hj => by omega⟩) (fun k σ' H3 hk hP => ?_) fun σ' H3 hP => ?_
    · obtain ⟨x2, rfl, e3, hall⟩ := hP
      obtain ⟨o, ho⟩ : ∃ o, f.cs[k]? = some o := ⟨_, List.getElem?_eq_getElem (by omega)⟩
      obtain ⟨u, hu⟩ : ∃ u, us[k]? = some u := ⟨_, List.getElem?_eq_getElem (by omega)⟩
      obtain ⟨yo, hyo⟩ : ∃ yo, xs[k]? = some yo := ⟨_, List.getElem?_eq_getElem (by omega)⟩
      obtain ⟨o', ho', hDo⟩ := co_get h3 hyo
      rw [ho] at ho'
      cases ho'
      have su := hsc u (List.mem_of_getElem? hu)
      refine s_when (b := !accB o.kd.s u) (et_is (et_not (et_B (ev_call (ea_cons (ev_co (ev_ixT (K := K) (ev_ixT (K := K) (ev_var rfl) ev_c (ex_t e3 h1) (at_nat (j := 0) rfl)) (ev_var rfl) (ex_t e3 h2) (at_nat hyo)) (dp_mono e3 hDo)).2.1 (ea_cons (ev_ixT (K := K) (ev_var rfl) (ev_var rfl) (ex_t e3 hS) (at_nat hu)) ea_nil)) (cv_lacc su)))) (by rw [lacc_eq2 _ su])) (fun hb H4 e4 => ?_) fun hb H4 e4 => ⟨_, rfl, e3.trans e4, fun j c u2 hj hc hu2 => ?_⟩
      · have hf : fitB f us = false := by
          rw [fb]
          cases hz : (fitL f us).all id with
          | false => rfl
          | true =>
            have := List.all_eq_true.mp hz (accB o.kd.s u) (by
              unfold fitL
              exact List.mem_map.mpr ⟨(o, u), List.mem_of_getElem? (i := k) (List.getElem?_zip_eq_some.mpr ⟨ho, hu⟩), rfl⟩)
            simp at hb
            rw [hb] at this
            cases this
        rw [hf] at q
        exact s_ret ev_c fun H5 e5 => q H5 ((e3.trans e4).trans e5)
      · by_cases hjk : j < k
        · exact hall j c u2 hjk hc hu2
        · obtain rfl : j = k := by omega
          rw [ho] at hc
          rw [hu] at hu2
          cases hc
          cases hu2
          simpa using hb
    · obtain ⟨x2, rfl, e3, hall⟩ := hP
      have hf : fitB f us = true := by
        rw [fb, List.all_eq_true]
        intro b hb
        obtain ⟨p, hp, rfl⟩ := List.mem_map.mp hb
        obtain ⟨i, hi⟩ := List.getElem?_of_mem hp
        obtain ⟨g1, g2⟩ := List.getElem?_zip_eq_some.mp hi
        exact hall i _ _ (by have := (List.getElem?_eq_some_iff.mp g2).1; omega) g1 g2
      rw [hf] at q
      exact s_ret ev_c fun H4 e4 => q H4 (e3.trans e4)


/-! ### law -/
theorem fm_fl {cs : List Co} {ks : List Str} (h : ∀ c ∈ cs, c.okV) (hl : cs.length ≤ 1000) (k : KeyOk cs ks) : Fl 3 (Fm.mk cs ks).d := .tup (fun d hd => by
  simp only [List.mem_cons, List.not_mem_nil, or_false] at hd
  rcases hd with e | e <;> rw [e]
  · exact .tup (co_fl fun c hc => (h c hc).ok) (by rw [List.length_map]; exact hl)
  · refine .tup (fun x hx => ?_) (by rw [List.length_map]; have := k.l2; omega)
    obtain ⟨z, hz, rfl⟩ := List.mem_map.mp hx
    obtain ⟨c, hc, rfl, _⟩ := k.mem z hz
    exact .str 1 (h c hc).nm.tx.sh)
theorem cv_fits {K : PySem.W.Frag} {H : Hp} {f : Fm} {vf : V} {p : Addr} {us : List V} (hF : Dp K H vf f.d) (hS : SqT K H p us) (hs : ∀ u ∈ us, Sc u) (h1 : f.cs.length ≤ 1000) (h2 : us.length ≤ 1000) : SpV (spFits K) [vf, .ref p] H (.bl (fitB f us)) := fun H1 e Q q E => ⟨f, vf, p, us, rfl, dp_mono e hF, ex_t e hS, hs, h1, h2, fun H2 e2 => q H2 e2⟩
theorem fit_row {K : PySem.W.Frag} {H : Hp} {f : Fm} {p : Addr} {us : List V} (h : RowOf K H f p us) : fitB f us = true := by
  obtain ⟨_, hl, hv⟩ := h
  unfold fitB fitL
  rw [decide_eq_true hl, Bool.true_and, List.all_eq_true]
  intro b hb
  obtain ⟨q, hq, rfl⟩ := List.mem_map.mp hb
  obtain ⟨i, hi⟩ := List.getElem?_of_mem hq
  obtain ⟨g1, g2⟩ := List.getElem?_zip_eq_some.mp hi
  exact (hv i _ _ g1 g2).1
theorem ev_sameP {K : PySem.W.Frag} {σ : L2.St} {H : Hp} {ta tb : TE} {E : XK} {n : Nat} {d : PyData} (ha : EP K ta σ H (· = d)) (hb : EP K tb σ H (· = d)) (g : Gd n d) : Ev (tCall (spSameG K n) [] E (tCons ta (tCons tb tNil))) σ H (.bl true) := fun H1 e Q q =>
  ha H1 e _ fun v d1 H2 e2 h1 hv => hb H2 (e.trans e2) _ fun w d2 H3 e3 h2 hw => ⟨v, w, d, rfl, by rw [← h1]; exact dp_mono e3 hv, by rw [← h2]; exact hw, g, fun H4 e4 => q H4 ((e2.trans e3).trans e4)⟩
theorem gd_sc {n : Nat} {us : List V} (h : ∀ u ∈ us, Sc u) (hl : us.length ≤ 1000) : Gd (n + 1) (.tuple (us.map pd)) := .tup (fun d hd => by
  obtain ⟨u, hu, rfl⟩ := List.mem_map.mp hd
  cases h u hu with
  | non => exact .non _
  | int i => exact .int _ i
  | str z => exact .str _ z) (by rw [List.length_map]; omega)
theorem ep_u {K : PySem.W.Frag} {σ : L2.St} {H : Hp} {te : TE} {xs : List V} (h : EvU te σ H xs) (hs : ∀ x ∈ xs, Sc x) : EP K te σ H (· = .tuple (xs.map pd)) := fun H1 e Q q => h H1 e _ fun p H2 _ e2 hp => q (.ref p) _ H2 e2 rfl (.tup (st_of hp) (dpa_scs hs))
theorem ep_split {K : PySem.W.Frag} {σ : L2.St} {H : Hp} {E : XK} {ta tb : TE} {f : Fm} {vf : V} {pr : Addr} {us : List V} (ha : Ev ta σ H vf) (hb : Ev tb σ H (.ref pr)) (hF : Dp K H vf f.d) (kn : f.kn) (hS : SqT K H pr us) (hl : us.length = f.cs.length) (hsc : ∀ u ∈ us, Sc u) : EP K (tCall (spSplit K) [] E (tCons ta (tCons tb tNil))) σ H (· = splitD f us) := fun H1 e Q q =>
  ha H1 e _ fun H2 e2 => hb H2 (e.trans e2) _ fun H3 e3 => ⟨f, vf, pr, us, rfl, dp_mono ((e.trans e2).trans e3) hF, kn, ex_t ((e.trans e2).trans e3) hS, hl, hsc, fun v H4 e4 hv => q v _ H4 ((e2.trans e3).trans e4) rfl hv⟩
theorem mix_sc {f : Fm} {g1 g2 : Str → V} (h1 : ∀ z, Sc (g1 z)) (h2 : ∀ z, Sc (g2 z)) (z : Str) : Sc (mixV f g1 g2 z) := by
  unfold mixV
  split
  · exact h1 z
  · exact h2 z
theorem ep_join {K : PySem.W.Frag} {σ : L2.St} {H : Hp} {E : XK} {ta tb tc : TE} {f : Fm} {vf : V} {g1 g2 : Str → V} (ha : Ev ta σ H vf) (hb : EvU tb σ H (f.ks.map g1)) (hc : EvU tc σ H ((restN f).map g2)) (hF : Dp K H vf f.d) (kn : f.kn) (h1 : ∀ z, Sc (g1 z)) (h2 : ∀ z, Sc (g2 z)) : EP K (tCall (spJoin K) [] E (tCons ta (tCons tb (tCons tc tNil)))) σ H (· = .tuple (((nmsF f).map (mixV f g1 g2)).map pd)) := fun H1 e Q q =>
  ha H1 e _ fun H2 e2 => hb H2 (e.trans e2) _ fun pk H3 _ e3 hpk => hc H3 ((e.trans e2).trans e3) _ fun pr H4 _ e4 hpr => by
    have E4 := (e2.trans e3).trans e4
    exact ⟨f, vf, pk, pr, g1, g2, rfl, dp_mono (e.trans E4) hF, kn, st_of (e4 _ _ hpk), st_of hpr, fun p H5 e5 hp => q _ _ H5 (E4.trans e5) rfl (.tup hp (dpa_scs fun x hx => by
      obtain ⟨z, _, rfl⟩ := List.mem_map.mp hx
      exact mix_sc h1 h2 z))⟩
theorem mix_self {f : Fm} {us : List V} (hn : (nmsF f).Nodup) (hl : us.length = f.cs.length) : (nmsF f).map (mixV f (valN f us) (valN f us)) = us := by
  rw [show mixV f (valN f us) (valN f us) = valN f us from funext fun z => by unfold mixV; split <;> rfl]
  exact us_map hn hl
def spLaw (K : PySem.W.Frag) (P : Addr) : Sp := fun vs H Q _ => ∃ (a : Addr) (ns : List Int), vs = [.ref a] ∧ SqL K H a (ns.map V.int) ∧ ns.length ≤ 63 ∧ (∀ z ∈ ns, Builtin.Int.intBits z ≤ 1048576) ∧ H P = some (.tbl #[]) ∧ ∀ H', Q (.bl true) H'
set_option maxHeartbeats 4000000 in
theorem ok_law (T : Txt K mg base) : FnOk P w K mg base CX0 6 T.f_law T.d_law ["script"] (spLaw K T.P_law_form) := by
  refine T.F_law.ok sc_law (fun vs H Q E h => ?_) (fun cdv A outer s H vs Q E hr h => ?_)
  · obtain ⟨a, ns, rfl, _⟩ := h
    rfl
  · obtain ⟨a, ns, rfl, hS, hlen, hbits, hP, q⟩ := h
    have hw : ∀ n ∈ ns, Wd n := fun n hn => Wd.bits (hbits n hn)
    have th : ∀ {H' : Hp} {σ : L2.St} {te : TE} {E : XK} {k : Nat}, LamX.ExtN H H' → σ[0]? = some (some (V.ref a)) → k ≤ 100 → Ev te σ H' (.int (k : Int)) → Ev (tCall (sp_thing K) [] E (tCons (tVar 0) (tCons te tNil))) σ H' (.int (thingZ ns k)) := fun e hσ hk ht => ev_call (ea_cons (ev_var hσ) (ea_cons ht ea_nil)) (cv_thing (xn_l e hS) hw (by omega))
    have w20 : Wd ((10 : Int) ^ 20) := Wd.lit (by decide +kernel)
    refine ⟨_, pss_cons (ps_set (i := 1) sc_law.nd rfl (by first | exact Or.inl rfl | exact Or.inr rfl) (pe_call (ok_law_draws T) (hr.mono (by first | decide | omega)) (by rfl) T.g_law_draws T.F_law_draws.kp T.b_law_draws .nil pass0 (pa_cons (pe_call (ok_law_cell T) (hr.mono (by first | decide | omega)) (by rfl) T.g_law_cell T.F_law_cell.kp T.b_law_cell .nil pass0 (pa_cons (pv 0) (pa_cons (pe_int) (pa_nil)))) (pa_cons (pe_int) (pa_cons (pe_int) (pa_cons (pe_op op_pow (pe_int) (pe_int)) (pa_nil)))))))
      (pss_cons (ps_set (i := 2) sc_law.nd rfl (by first | exact Or.inl rfl | exact Or.inr rfl) (pe_ix (r := rIxL K) ix_list (pe_lst (pa_cons (pe_op op_add (pe_int) (pe_op op_mod (pe_callTy call_int1 (by rfl) T.m_int (by decide +kernel) (pa_cons (pe_ix (r := rIxL K) ix_list (pv 1) (pe_int) (fun _ _ => rfl)) (pa_nil))) (pe_int))) (pa_cons (pe_op op_add (pe_int) (pe_op op_mod (pe_callTy call_int1 (by rfl) T.m_int (by decide +kernel) (pa_cons (pe_ix (r := rIxL K) ix_list (pv 1) (pe_int) (fun _ _ => rfl)) (pa_nil))) (pe_int))) (pa_cons (pe_int) (pa_nil))))) (pe_op op_mod (pe_callTy call_int1 (by rfl) T.m_int (by decide +kernel) (pa_cons (pe_ix (r := rIxL K) ix_list (pv 1) (pe_int) (fun _ _ => rfl)) (pa_nil))) (pe_int)) (fun _ _ => rfl)))
      (pss_cons (ps_set (i := 3) sc_law.nd rfl (by first | exact Or.inl rfl | exact Or.inr rfl) (pe_call (ok_law_columns T) (hr.mono (by first | decide | omega)) (by rfl) T.g_law_columns T.F_law_columns.kp T.b_law_columns .nil pass0 (pa_cons (pe_lc (own := [("k", 4)]) (g := gName 4) (tt := tYes) rfl sc_law.nd (pi_range1 (by rfl) T.m_range (pa_cons (pv 2) (pa_nil))) (blkOk_by (N := ["script", "head", "count", "columns", "k", "key", "form", "first", "second", "row", "mixed", "other"]) (sc := defScope s_law) (by decide +kernel)) (fun _ _ _ _ _ => pg_name (i := 4) sc_law.nd rfl (Or.inl rfl)) (fun _ _ _ _ _ => pts_nil) (fun _ _ _ _ _ => pe_call (ok_law_thing T) (hr.mono (by first | decide | omega)) (by rfl) T.g_law_thing T.F_law_thing.kp T.b_law_thing .nil pass0 (pa_cons (pv 0) (pa_cons (pe_op op_add (pe_int) (pv 4)) (pa_nil))))) (pa_nil))))
      (pss_cons (ps_set (i := 5) sc_law.nd rfl (by first | exact Or.inl rfl | exact Or.inr rfl) (pe_call (ok_law_drawn_key T) (hr.mono (by first | decide | omega)) (by rfl) T.g_law_drawn_key T.F_law_drawn_key.kp T.b_law_drawn_key .nil pass0 (pa_cons (pv 3) (pa_cons (pe_ix (r := rIxL K) ix_list (pv 1) (pe_int) (fun _ _ => rfl)) (pa_nil)))))
      (pss_cons (ps_set (i := 6) sc_law.nd rfl (by first | exact Or.inl rfl | exact Or.inr rfl) (pe_call (ok_law_form T) (hr.mono (by first | decide | omega)) (by rfl) T.g_law_form T.F_law_form.kp T.b_law_form .nil pass0 (pa_cons (pv 3) (pa_cons (pv 5) (pa_nil)))))
      (pss_cons (ps_set (i := 7) sc_law.nd rfl (by first | exact Or.inl rfl | exact Or.inr rfl) (pe_call (ok_law_row T) (hr.mono (by first | decide | omega)) (by rfl) T.g_law_row T.F_law_row.kp T.b_law_row .nil pass0 (pa_cons (pv 6) (pa_cons (pe_call (ok_law_thing T) (hr.mono (by first | decide | omega)) (by rfl) T.g_law_thing T.F_law_thing.kp T.b_law_thing .nil pass0 (pa_cons (pv 0) (pa_cons (pe_int) (pa_nil)))) (pa_nil)))))
      (pss_cons (ps_set (i := 8) sc_law.nd rfl (by first | exact Or.inl rfl | exact Or.inr rfl) (pe_call (ok_law_row T) (hr.mono (by first | decide | omega)) (by rfl) T.g_law_row T.F_law_row.kp T.b_law_row .nil pass0 (pa_cons (pv 6) (pa_cons (pe_call (ok_law_thing T) (hr.mono (by first | decide | omega)) (by rfl) T.g_law_thing T.F_law_thing.kp T.b_law_thing .nil pass0 (pa_cons (pv 0) (pa_cons (pe_int) (pa_nil)))) (pa_nil)))))
      (pss_cons (ps_for PassesOwn.never rfl (pi_list (pe_lst (pa_cons (pv 7) (pa_cons (pv 8) (pa_nil))))) (pg_name (i := 9) sc_law.nd rfl (by first | exact Or.inl rfl | exact Or.inr rfl))
      (pss_cons (ps_if (pt_not (pt_val (pe_call (ok_law_same T) (hr.mono (by first | decide | omega)) (by rfl) T.g_law_same T.F_law_same.kp T.b_law_same .nil pass0 (pa_cons (pe_call (ok_split_row T) (hr.mono (by first | decide | omega)) (by rfl) T.g_split_row T.F_split_row.kp T.b_split_row .nil pass0 (pa_cons (pv 6) (pa_cons (pv 9) (pa_nil)))) (pa_cons (pe_tup (pa_cons (pe_call (ok_law_key_of T) (hr.mono (by first | decide | omega)) (by rfl) T.g_law_key_of T.F_law_key_of.kp T.b_law_key_of .nil pass0 (pa_cons (pv 6) (pa_cons (pv 9) (pa_nil)))) (pa_cons (pe_call (ok_law_rest_of T) (hr.mono (by first | decide | omega)) (by rfl) T.g_law_rest_of T.F_law_rest_of.kp T.b_law_rest_of .nil pass0 (pa_cons (pv 6) (pa_cons (pv 9) (pa_nil)))) (pa_nil)))) (pa_nil))))))
      (pss_one (ps_ret (pe_bl)))
      (pss_nil))
      (pss_cons (ps_if (pt_not (pt_val (pe_call (ok_law_same T) (hr.mono (by first | decide | omega)) (by rfl) T.g_law_same T.F_law_same.kp T.b_law_same .nil pass0 (pa_cons (pe_call (ok_join_row T) (hr.mono (by first | decide | omega)) (by rfl) T.g_join_row T.F_join_row.kp T.b_join_row .nil pass0 (pa_cons (pv 6) (pa_cons (pe_call (ok_law_key_of T) (hr.mono (by first | decide | omega)) (by rfl) T.g_law_key_of T.F_law_key_of.kp T.b_law_key_of .nil pass0 (pa_cons (pv 6) (pa_cons (pv 9) (pa_nil)))) (pa_cons (pe_call (ok_law_rest_of T) (hr.mono (by first | decide | omega)) (by rfl) T.g_law_rest_of T.F_law_rest_of.kp T.b_law_rest_of .nil pass0 (pa_cons (pv 6) (pa_cons (pv 9) (pa_nil)))) (pa_nil))))) (pa_cons (pv 9) (pa_nil))))))
      (pss_one (ps_ret (pe_bl)))
      (pss_nil))
      (pss_one (ps_if (pt_not (pt_val (pe_call (ok_law_is T) (hr.mono (by first | decide | omega)) (by rfl) T.g_law_is T.F_law_is.kp T.b_law_is .nil pass0 (pa_cons (pe_call (ok_fits T) (hr.mono (by first | decide | omega)) (by rfl) T.g_fits T.F_fits.kp T.b_fits .nil pass0 (pa_cons (pv 6) (pa_cons (pv 9) (pa_nil)))) (pa_cons (pe_bl) (pa_nil))))))
      (pss_one (ps_ret (pe_bl)))
      (pss_nil))))))
      (pss_cons (ps_setLc (i := 10) (own := [("k", 4)]) (g := gName 4) (tt := tYes) (by rfl) sc_law.nd rfl rfl (sw_true rfl rfl rfl (by decide +kernel)) (pi_range1 (by rfl) T.m_range (pa_cons (pv 2) (pa_nil))) (blkOk_by (N := ["script", "head", "count", "columns", "k", "key", "form", "first", "second", "row", "mixed", "other"]) (sc := defScope s_law) (by decide +kernel)) (fun _ _ _ _ _ => pg_name (i := 4) sc_law.nd rfl (Or.inl rfl)) (fun _ _ _ _ _ => pts_nil) (fun _ _ _ _ _ => pe_ix (r := rIxT K) ix_tup (pv 7) (pv 4) (fun _ _ => rfl)))
      (pss_cons (ps_for PassesOwn.never rfl (pi_range1 (by rfl) T.m_range (pa_cons (pv 2) (pa_nil))) (pg_name (i := 4) sc_law.nd rfl (by first | exact Or.inl rfl | exact Or.inr rfl))
      (pss_one (ps_if (pt_cmpR (r := rIn K true) op_notIn_seq (pe_ix (r := rIxT K) ix_tup (pe_ix (r := rIxT K) ix_tup (pe_ix (r := rIxT K) ix_tup (pv 6) (pe_int) (fun _ _ => rfl)) (pv 4) (fun _ _ => rfl)) (pe_int) (fun _ _ => rfl)) (pv 5) (by rfl))
      (pss_one (ps_asg (pe_ix (r := rIxT K) ix_tup (pv 8) (pv 4) (fun _ _ => rfl)) (pg_sub (pv 10) (pv 4) set_list)))
      (pss_nil))))
      (pss_cons (ps_if (pt_not (pt_val (pe_call (ok_law_same T) (hr.mono (by first | decide | omega)) (by rfl) T.g_law_same T.F_law_same.kp T.b_law_same .nil pass0 (pa_cons (pe_call (ok_join_row T) (hr.mono (by first | decide | omega)) (by rfl) T.g_join_row T.F_join_row.kp T.b_join_row .nil pass0 (pa_cons (pv 6) (pa_cons (pe_call (ok_law_key_of T) (hr.mono (by first | decide | omega)) (by rfl) T.g_law_key_of T.F_law_key_of.kp T.b_law_key_of .nil pass0 (pa_cons (pv 6) (pa_cons (pv 7) (pa_nil)))) (pa_cons (pe_call (ok_law_rest_of T) (hr.mono (by first | decide | omega)) (by rfl) T.g_law_rest_of T.F_law_rest_of.kp T.b_law_rest_of .nil pass0 (pa_cons (pv 6) (pa_cons (pv 8) (pa_nil)))) (pa_nil))))) (pa_cons (pe_callTy (r := rTupOf K) call_tuple_of (by rfl) T.m_tuple (by decide +kernel) (pa_cons (pv 10) (pa_nil))) (pa_nil))))))
      (pss_one (ps_ret (pe_bl)))
      (pss_nil))
      (pss_cons (ps_set (i := 11) sc_law.nd rfl (by first | exact Or.inl rfl | exact Or.inr rfl) (pe_call (ok_law_other_tuple T) (hr.mono (by first | decide | omega)) (by rfl) T.g_law_other_tuple T.F_law_other_tuple.kp T.b_law_other_tuple .nil pass0 (pa_cons (pv 6) (pa_cons (pv 7) (pa_cons (pe_call (ok_law_thing T) (hr.mono (by first | decide | omega)) (by rfl) T.g_law_thing T.F_law_thing.kp T.b_law_thing .nil pass0 (pa_cons (pv 0) (pa_cons (pe_int) (pa_nil)))) (pa_nil))))))
      (pss_one (ps_ret (pe_call (ok_law_is T) (hr.mono (by first | decide | omega)) (by rfl) T.g_law_is T.F_law_is.kp T.b_law_is .nil pass0 (pa_cons (pe_call (ok_fits T) (hr.mono (by first | decide | omega)) (by rfl) T.g_fits T.F_fits.kp T.b_fits .nil pass0 (pa_cons (pv 6) (pa_cons (pv 11) (pa_nil)))) (pa_cons (pe_call (ok_law_is_row T) (hr.mono (by first | decide | omega)) (by rfl) T.g_law_is_row T.F_law_is_row.kp T.b_law_is_row .nil pass0 (pa_cons (pv 6) (pa_cons (pv 11) (pa_nil)))) (pa_nil))))))))))))))))), ?_⟩
    refine q_asgL (xs := (draws (cellZ ns 0) 0 3 (10 ^ 20)).map V.int) (el_call (ea_cons (ev_call (ea_cons (ev_var rfl) (ea_cons ev_c ea_nil)) (cv_cell (k := 0) hS)) (ea_cons ev_c (ea_cons ev_c (ea_cons (ev_bin ev_c ev_c ⟨by decide, by decide, by decide⟩) ea_nil)))) (cl_draws (count := 3) (Wd.cell hw 0) (by decide) (by decide) (by decide) (by decide +kernel))) fun ph H1 _ e1 hph => ?_
    have gl : (draws (cellZ ns 0) 0 3 (10 ^ 20)).length = 3 := draws_len ..
    have gw := draws_ok (salt := 0) (Wd.cell hw 0) (by decide : (0 : Int) < 10 ^ 20) w20 3
    generalize draws (cellZ ns 0) 0 3 (10 ^ 20) = gs at hph gl gw
    have num : ∀ {H' : Hp} {σ : L2.St} {j : Nat}, Ex H1 H' → σ[1]? = some (some (V.ref ph)) → j < 3 → Ev (tOp (rIxL K) (tVar 1) (tC (.int (j : Int)))) σ H' (.int (gs.getD j 0)) := fun {H' σ j} e hσ hj => ev_ixL (K := K) (ev_var hσ) ev_c (sq_of (e _ _ hph)) (at_nat (getD_int (by omega)))
    obtain ⟨n, hn, hn1, hn2⟩ := three_at (gs.getD 1 0) (gs.getD 1 0) (gs.getD 0 0)
    refine q_asg (v := .int (n : Int)) (ev_ixN (K := K) (xs := [.int (1 + gs.getD 1 0 % 4), .int (1 + gs.getD 1 0 % 12), .int 12]) (i := gs.getD 0 0 % 3) (el_lst (ea_cons (ev_bin0 ev_c (ev_bin (ev_intI (num (j := 1) (Ex.refl _) rfl (by decide))) ev_c (by decide))) (ea_cons (ev_bin0 ev_c (ev_bin (ev_intI (num (j := 1) (Ex.refl _) rfl (by decide))) ev_c (by decide))) (ea_cons ev_c ea_nil))) (by show 3 ≤ 100000; decide)) (fun H2 e2 => ev_bin (ev_intI (num (j := 0) e2 rfl (by decide))) ev_c (by decide)) (atI_of (Int.emod_nonneg _ (by decide)) hn)) fun H2 e2 => ?_
    have E2 := e1.trans e2
    -- the columns
    refine q_asgK (call_run (ea_l1' (xs := ((List.range n).map fun k => thingZ ns (4 + k)).map V.int) (el_mapR (n := n) (ea_cons (ev_var rfl) ea_nil) (by omega) (fun x => rfl) (by rw [List.length_map, List.length_map, List.length_range]) fun k y hk hy H3 e3 => ?_) fun p3 H3 _ e3 hp3 => ?_))
    · rw [List.getElem?_map, List.getElem?_map, List.getElem?_range hk] at hy
      obtain rfl := (Option.some.inj hy).symm
      exact th (Ex.xn (E2.trans e3)) rfl (by omega) (ev_is (ev_bin0 ev_c (ev_var rfl)) (congrArg V.int (show (4 : Int) + (k : Int) = ((4 + k : Nat) : Int) by omega)))
    refine ⟨p3, _, rfl, sq_of hp3, by rw [List.length_map, List.length_range]; exact hn2, fun c hc => ?_, fun pc us cs H4 npc e4 hpc hD hcl hok hnd => ?_⟩
    · obtain ⟨k, hk, rfl⟩ := List.mem_map.mp hc
      exact Wd.thing hw (by have := List.mem_range.mp hk; omega)
    rw [List.length_map, List.length_range] at hcl
    have E4 := (E2.trans e3).trans e4
    have E14 := (e2.trans e3).trans e4
    -- the key, the form
    refine q_asgK (call_run (cons_run (var_run rfl (cons_run (ev_run (num (j := 2) E14 rfl (by decide)) fun H8 e8 => ⟨pc, us, cs, _, rfl, e8 _ _ hpc, dpa_mono e8 hD, hok, hnd, by omega, by omega, (gw _ (getD_mem0 (by omega))).2, fun pk ks us2 cs2 H9 npk B9 hpc9 hD9 hok2 hnm2 hpk hkey => ?_⟩)))))
    have hPc : T.P_law_form ≠ pc := fun z => by
      have := E4 _ _ hP
      rw [z, hpc] at this
      cases this
    have hl2 : cs2.length = cs.length := by
      have := congrArg List.length hnm2
      rwa [List.length_map, List.length_map] at this
    refine q_asgK (call_run (cons_run (var_run rfl (cons_run (var_run rfl ⟨pc, us2, cs2, pk, ks, rfl, sq_of hpc9, hD9, sq_of hpk, by omega, .inr ⟨B9 _ _ hPc (e8 _ _ (E4 _ _ hP)), fun vf H10 X10 tab hVf => ?_⟩⟩)))))
    have X9 : LamX.ExtN H H9 := ExB.xn (fresh_back (E2.trans e3) npc) (Ex.xn (E4.trans e8)) B9
    have X10 := X9.trans X10
    have hpk10 : SqL K H10 pk (ks.map V.str) := xn_l (by assumption) (sq_of hpk)
    have hoS : ∀ c ∈ sortC cs2, c.okV := fun c hc => hok2 c (sortC_mem.mp hc)
    have hoL : (sortC cs2).length = n := by rw [sortC_len]; omega
    have hoN : ((sortC cs2).map Co.nm).Nodup := sortC_nd (by rw [hnm2]; exact hnd)
    generalize hfo : Fm.mk (sortC cs2) ks = f at hVf
    have f1 : f.cs = sortC cs2 := by rw [← hfo]
    have f2 : f.ks = ks := by rw [← hfo]
    rw [← f1] at hoS hoL hoN
    rw [← f2] at hpk10
    have kn : f.kn := ⟨hoN, by rw [f2]; exact hkey.nd, fun z hz => by
      rw [f2] at hz
      obtain ⟨c, hc, hcz, _⟩ := hkey.mem z hz
      exact List.mem_map.mpr ⟨c, by rw [f1]; exact sortC_mem.mpr hc, hcz⟩, by omega, by rw [f2]; exact hkey.l2⟩
    -- two rows
    refine q_asgK (call_run (cons_run (var_run rfl (cons_run (ev_run (th (k := 1) X10 rfl (by decide) ev_c) fun H11 e11 => ⟨f, vf, _, rfl, dp_mono e11 hVf, by omega, Wd.thing hw (by decide), fun pa ua H12 e12 hrowA => ?_⟩)))))
    have E12 := e11.trans e12
    refine q_asgK (call_run (cons_run (var_run rfl (cons_run (ev_run (th (k := 2) (X10.trans (Ex.xn E12)) rfl (by decide) ev_c) fun H13 e13 => ⟨f, vf, _, rfl, dp_mono (E12.trans e13) hVf, by omega, Wd.thing hw (by decide), fun pb ub H14 e14 hrowB => ?_⟩)))))
    have E14 := e13.trans e14
    have F14 : ∀ {H'}, Ex H14 H' → Dp K H' vf f.d := fun e => dp_mono ((E12.trans E14).trans e) hVf
    have sca : ∀ {p us Hx}, RowOf K Hx f p us → ∀ u ∈ us, Sc u := fun {p us Hx} h u hu => by
      obtain ⟨i, hi⟩ := List.getElem?_of_mem hu
      obtain ⟨c, hc⟩ : ∃ c, f.cs[i]? = some c := ⟨_, List.getElem?_eq_getElem (by have := (List.getElem?_eq_some_iff.mp hi).1; have := h.2.1; omega)⟩
      exact (h.2.2 i c u hc hi).2
    have scA := sca hrowA
    have scB := sca hrowB
    have lA := hrowA.2.1
    have lB := hrowB.2.1
    have SA : ∀ {H'}, Ex H14 H' → SqT K H' pa ua := fun e => ex_t (E14.trans e) hrowA.1
    have SB : ∀ {H'}, Ex H14 H' → SqT K H' pb ub := fun e => ex_t e hrowB.1
    -- each row
    refine q_forNLn (xs := [V.ref pa, V.ref pb]) (el_lst (ea_cons (ev_var rfl) (ea_cons (ev_var rfl) ea_nil)) (by show 2 ≤ 100000; decide)) (fun p j σ' H' => ∃ x9 : Option V, σ' = [some (.ref a), some (.ref ph), some (.int (n : Int)), some (.ref pc), none, some (.ref pk), some vf, some (.ref pa), some (.ref pb), x9, none, none] ∧ Ex H14 H' ∧ H' p = some (.lst [V.ref pa, V.ref pb]))
      (fun p H15 _ e15 hp => ⟨_, rfl, e15, hp⟩) (fun p j σ' H' _ hP => ?_) (fun p j x σ' H' hx hP => ?_) (fun p σ' H' hP => ?_)
    · obtain ⟨_, _, _, hp⟩ := hP
      exact sq_of hp
    · obtain ⟨x9, rfl, eP, hp⟩ := hP
      obtain ⟨pr, us, rfl, hrow, sc⟩ : ∃ pr us, x = .ref pr ∧ RowOf K H' f pr us ∧ ∀ u ∈ us, Sc u := by
        have hm := List.mem_of_getElem? hx
        simp only [List.mem_cons, List.not_mem_nil, or_false] at hm
        rcases hm with e | e <;> rw [e]
        · exact ⟨pa, ua, rfl, ⟨SA eP, lA, hrowA.2.2⟩, scA⟩
        · exact ⟨pb, ub, rfl, ⟨SB eP, lB, hrowB.2.2⟩, scB⟩
      have lr := hrow.2.1
      have hFP := F14 eP
      have vsc : ∀ z, Sc (valN f us z) := fun z => valN_sc sc
      have g1 : Gd 3 (.tuple ((f.ks.map (valN f us)).map pd)) := gd_sc (fun u hu => by
        obtain ⟨z, _, rfl⟩ := List.mem_map.mp hu
        exact vsc z) (by rw [List.length_map]; have := kn.l2; omega)
      have g2 : Gd 3 (.tuple (((restN f).map (valN f us)).map pd)) := gd_sc (fun u hu => by
        obtain ⟨z, _, rfl⟩ := List.mem_map.mp hu
        exact vsc z) (by rw [List.length_map]; have := restN_len f; omega)
      have gS : Gd 4 (splitD f us) := .tup (fun d hd => by
        simp only [List.mem_cons, List.not_mem_nil, or_false] at hd
        rcases hd with e | e <;> rw [e]
        · exact g1
        · exact g2) (by show 2 ≤ 40000; decide)
      have kU : ∀ {H2 : Hp} {σ : L2.St} {E : XK} {ta tb : TE}, Ex H' H2 → Ev ta σ H2 vf → Ev tb σ H2 (.ref pr) → EvU (tCall (spKeyOf K) [] E (tCons ta (tCons tb tNil))) σ H2 (f.ks.map (valN f us)) := fun e h1 h2 => cu_keyof h1 h2 (dp_mono e hFP) kn (ex_t e hrow.1) lr
      have rU : ∀ {H2 : Hp} {σ : L2.St} {E : XK} {ta tb : TE}, Ex H' H2 → Ev ta σ H2 vf → Ev tb σ H2 (.ref pr) → EvU (tCall (spRestOf K) [] E (tCons ta (tCons tb tNil))) σ H2 ((restN f).map (valN f us)) := fun e h1 h2 => cu_restof h1 h2 (dp_mono e hFP) kn (ex_t e hrow.1) lr
      refine q_when (b := false) (et_is (et_not (et_B (ev_sameP (ep_split (ev_var rfl) (ev_var rfl) hFP kn hrow.1 lr sc) (ep_t (epa_c (ep_u (kU (Ex.refl _) (ev_var rfl) (ev_var rfl)) fun u hu => by
        obtain ⟨z, _, rfl⟩ := List.mem_map.mp hu
        exact vsc z) (epa_c (ep_u (rU (Ex.refl _) (ev_var rfl) (ev_var rfl)) fun u hu => by
        obtain ⟨z, _, rfl⟩ := List.mem_map.mp hu
        exact vsc z) epa_nil)) (by show 2 ≤ 100000; decide)) gS))) rfl) (fun z => nomatch z) fun _ H15 e15 => ?_
      refine q_when (b := false) (et_is (et_not (et_B (ev_sameP (d := .tuple (us.map pd)) (EP.imp (ep_join (ev_var rfl) (kU e15 (ev_var rfl) (ev_var rfl)) (rU e15 (ev_var rfl) (ev_var rfl)) (dp_mono e15 hFP) kn vsc vsc) fun d hd => by rw [hd, mix_self kn.nd lr]) (ep_is (ev_var rfl) (.tup (ex_t e15 hrow.1) (dpa_scs sc)) rfl) (gd_sc (n := 3) sc (by omega))))) rfl) (fun z => nomatch z) fun _ H16 e16 => ?_
      refine s_when (b := false) (et_is (et_not (et_B (ev_call (ea_cons (ev_call (ea_cons (ev_var rfl) (ea_cons (ev_var rfl) ea_nil)) (cv_fits (dp_mono (e15.trans e16) hFP) (ex_t (e15.trans e16) hrow.1) sc (by omega) (by omega))) (ea_cons ev_c ea_nil)) cv_is))) (by rw [fit_row hrow] <;> rfl)) (fun z => nomatch z) fun _ H17 e17 => ⟨_, rfl, ((eP.trans e15).trans e16).trans e17, ((e15.trans e16).trans e17) _ _ hp⟩
    obtain ⟨x9, rfl, eP, _⟩ := hP
    -- one mixed
    have hFP := F14 eP
    obtain ⟨pf, qa, qk, xs, rfl, o1, o2, o3, o4⟩ := fm_at hFP
    have oxl := co_len o3
    refine q_asgL (xs := ua) (el_mapR (n := n) (ea_cons (ev_var rfl) ea_nil) (by omega) (fun x => rfl) (by omega) fun k y hk hy H15 e15 => ev_ixT (K := K) (ev_var rfl) (ev_var rfl) (SA (eP.trans e15)) (at_nat hy)) fun pm H15 npm e15 hpm => ?_
    refine q_forR1 (n := (n : Int)) (ea_cons (ev_var rfl) ea_nil) (by omega) (fun k σ' H3 => ∃ (x4 : Option V) (ms : List V), σ' = [some (.ref a), some (.ref ph), some (.int (n : Int)), some (.ref pc), x4, some (.ref pk), some (.ref pf), some (.ref pa), some (.ref pb), x9, some (.ref pm), none] ∧ Ex H' H3 ∧ H3 pm = some (.lst ms) ∧ ms.length = n ∧ ∀ (i : Nat) c, f.cs[i]? = some c → ms[i]? = if i < k ∧ ¬ c.nm ∈ f.ks then ub[i]? else ua[i]?)
      (fun H16 e16 => ⟨_, ua, rfl, e15.trans e16, e16 _ _ hpm, by omega, fun i c hc => by rw [if_neg (by omega)]⟩) (fun k σ' H3 hk hP => ?_) fun σ' H3 hP => ?_
    · obtain ⟨x4, ms, rfl, e3, hpm3, hml, hms⟩ := hP
      obtain ⟨o, ho⟩ : ∃ o, f.cs[k]? = some o := ⟨_, List.getElem?_eq_getElem (by omega)⟩
      obtain ⟨u, hu⟩ : ∃ u, ub[k]? = some u := ⟨_, List.getElem?_eq_getElem (by omega)⟩
      obtain ⟨yo, hyo⟩ : ∃ yo, xs[k]? = some yo := ⟨_, List.getElem?_eq_getElem (by omega)⟩
      obtain ⟨o', ho', hDo⟩ := co_get o3 hyo
      rw [ho] at ho'
      cases ho'
      have hkl : SqL K H3 pk (f.ks.map V.str) := ex_l (((E12.trans E14).trans eP).trans e3) hpk10
      refine s_when (b := !decide (o.nm ∈ f.ks)) (et_is (et_test (ev_op (ev_co (ev_ixT (K := K) (ev_ixT (K := K) (ev_var rfl) ev_c (ex_t e3 o1) (at_nat (j := 0) rfl)) (ev_var rfl) (ex_t e3 o2) (at_nat hyo)) (dp_mono e3 hDo)).1 (ev_var rfl) (rv_niL hkl rfl (by rw [List.all_map]; exact List.all_eq_true.mpr fun _ _ => rfl)))) (by rw [inS_mem])) (fun hb H4 e4 => ?_) fun hb H4 e4 => ⟨_, ms, rfl, e3.trans e4, e4 _ _ hpm3, hml, fun i c hc => ?_⟩
      · refine s_setL (e4 _ _ hpm3) (ev_ixT (K := K) (ev_var rfl) (ev_var rfl) (SB ((eP.trans e3).trans e4)) (at_nat hu)) (ev_var rfl) (ev_var rfl) (by omega) fun H5 e5 => ⟨_, ms.set k u, rfl, ((e3.trans e4).trans e5).mut npm, upd_same, by rw [List.length_set]; exact hml, fun i c hc => ?_⟩
        rw [List.getElem?_set]
        by_cases hki : k = i
        · subst hki
          rw [ho] at hc
          cases hc
          rw [if_pos rfl, if_pos (by omega), if_pos ⟨Nat.lt_succ_self _, by simpa using hb⟩, hu]
        · rw [if_neg hki, hms i c hc]
          by_cases hik : i < k
          · by_cases hc2 : c.nm ∈ f.ks
            · rw [if_neg fun z => z.2 hc2, if_neg fun z => z.2 hc2]
            · rw [if_pos ⟨hik, hc2⟩, if_pos ⟨by omega, hc2⟩]
          · rw [if_neg fun z => hik z.1, if_neg fun z => hik (by omega)]
      · rw [hms i c hc]
        by_cases hki : i = k
        · subst hki
          rw [ho] at hc
          cases hc
          have : o.nm ∈ f.ks := by simpa using hb
          rw [if_neg fun z => z.2 this, if_neg fun z => z.2 this]
        · by_cases hc2 : c.nm ∈ f.ks
          · rw [if_neg fun z => z.2 hc2, if_neg fun z => z.2 hc2]
          · by_cases hik : i < k
            · rw [if_pos ⟨hik, hc2⟩, if_pos ⟨by omega, hc2⟩]
            · rw [if_neg fun z => hik z.1, if_neg fun z => hik (by omega)]
    · obtain ⟨x4, ms, rfl, e3, hpm3, hml, hms⟩ := hP
      have EP3 := eP.trans e3
      have vA : ∀ z, Sc (valN f ua z) := fun z => valN_sc scA
      have vB : ∀ z, Sc (valN f ub z) := fun z => valN_sc scB
      have emix : (nmsF f).map (mixV f (valN f ua) (valN f ub)) = ms := by
        refine List.ext_getElem? fun i => ?_
        by_cases hi : i < n
        · obtain ⟨c, hc⟩ : ∃ c, f.cs[i]? = some c := ⟨_, List.getElem?_eq_getElem (by omega)⟩
          obtain ⟨u1, hu1⟩ : ∃ u, ua[i]? = some u := ⟨_, List.getElem?_eq_getElem (by omega)⟩
          obtain ⟨u2, hu2⟩ : ∃ u, ub[i]? = some u := ⟨_, List.getElem?_eq_getElem (by omega)⟩
          rw [hms i c hc]
          unfold nmsF
          rw [List.getElem?_map, List.getElem?_map, hc]
          show some (mixV f (valN f ua) (valN f ub) c.nm) = _
          unfold mixV
          rw [valN_at kn.nd lA hc hu1, valN_at kn.nd lB hc hu2]
          by_cases hc2 : c.nm ∈ f.ks
          · rw [if_pos hc2, if_neg fun z => z.2 hc2, hu1]
          · rw [if_neg hc2, if_pos ⟨by omega, hc2⟩, hu2]
        · rw [List.getElem?_eq_none (by rw [List.length_map, nms_len]; omega), List.getElem?_eq_none (by omega)]
      have scm : ∀ u ∈ ms, Sc u := fun u hu => by
        rw [← emix] at hu
        obtain ⟨z, _, rfl⟩ := List.mem_map.mp hu
        exact mix_sc vA vB z
      have hF3 := F14 EP3
      refine q_when (b := false) (et_is (et_not (et_B (ev_sameP (d := .tuple (ms.map pd)) (EP.imp (ep_join (ev_var rfl) (cu_keyof (ev_var rfl) (ev_var rfl) hF3 kn (SA EP3) lA) (cu_restof (ev_var rfl) (ev_var rfl) hF3 kn (SB EP3) lB) hF3 kn vA vB) fun d hd => by rw [hd, emix]) (ep_u (eu_ofL (K := K) (ev_var rfl) (sq_of hpm3)) scm) (gd_sc (n := 3) scm (by omega))))) rfl) (fun z => nomatch z) fun _ H16 e16 => ?_
      have E16 := EP3.trans e16
      refine q_asgK (call_run (cons_run (var_run rfl (cons_run (var_run rfl (cons_run (ev_run (th (k := 3) (X10.trans (Ex.xn ((E12.trans E14).trans E16))) rfl (by decide) ev_c) fun H17 e17 => ⟨_, pa, ua, _, rfl, SA (E16.trans e17), by omega, by omega, scA, Wd.thing hw (by decide), fun pt ut H18 e18 hut hutl huts => ?_⟩)))))))
      have hF18 := F14 ((E16.trans e17).trans e18)
      exact s_ret (ev_is (ev_call (ea_cons (ev_call (ea_cons (ev_var rfl) (ea_cons (ev_var rfl) ea_nil)) (cv_fits hF18 hut huts (by omega) (by omega))) (ea_cons (ev_call (ea_cons (ev_var rfl) (ea_cons (ev_var rfl) ea_nil)) (cv_isrow hF18 hut huts (by omega) (by omega))) ea_nil)) cv_is) (congrArg V.bl (decide_eq_true rfl))) fun H19 _ => q H19


end

def pOf (o : Obj) : Option Addr := match o.data with
  | .fields vs => (match (vs[11]? : Option Value) with
    | some (.ref P) => some P
    | _ => none)
  | _ => none

theorem all_mk {l : PySem.W.OpenLaw} {w : World} {K : PySem.W.Frag} {h : Heap} {mg : Str → Option Value} {fa f_law_cell f_law_draws f_law_name f_law_names f_law_integer f_law_char f_law_text f_law_value f_law_columns f_law_drawn_key f_law_form f_law_is f_law_accepts f_law_row f_law_same f_law_thing f_base_kind f_accepts f_fits f_column_names f_split_row f_join_row f_law_key_of f_law_rest_of f_law_other_tuple f_law_is_row f_law : Addr} {od_law_cell an_law_cell : Option Addr} {sl_law_cell : Array (Option Value)} {oc_law_cell kV_law_cell dc_law_cell pm_law_cell cd_law_cell ct_law_cell : Value}
    {od_law_draws an_law_draws : Option Addr} {sl_law_draws : Array (Option Value)} {oc_law_draws kV_law_draws dc_law_draws pm_law_draws cd_law_draws ct_law_draws : Value}
    {od_law_name an_law_name : Option Addr} {sl_law_name : Array (Option Value)} {oc_law_name kV_law_name dc_law_name pm_law_name cd_law_name ct_law_name : Value}
    {od_law_names an_law_names : Option Addr} {sl_law_names : Array (Option Value)} {oc_law_names kV_law_names dc_law_names pm_law_names cd_law_names ct_law_names : Value}
    {od_law_integer an_law_integer : Option Addr} {sl_law_integer : Array (Option Value)} {oc_law_integer kV_law_integer dc_law_integer pm_law_integer cd_law_integer ct_law_integer : Value}
    {od_law_char an_law_char : Option Addr} {sl_law_char : Array (Option Value)} {oc_law_char kV_law_char dc_law_char pm_law_char cd_law_char ct_law_char : Value}
    {od_law_text an_law_text : Option Addr} {sl_law_text : Array (Option Value)} {oc_law_text kV_law_text dc_law_text pm_law_text cd_law_text ct_law_text : Value}
    {od_law_value an_law_value : Option Addr} {sl_law_value : Array (Option Value)} {oc_law_value kV_law_value dc_law_value pm_law_value cd_law_value ct_law_value : Value}
    {od_law_columns an_law_columns : Option Addr} {sl_law_columns : Array (Option Value)} {oc_law_columns kV_law_columns dc_law_columns pm_law_columns cd_law_columns ct_law_columns : Value}
    {od_law_drawn_key an_law_drawn_key : Option Addr} {sl_law_drawn_key : Array (Option Value)} {oc_law_drawn_key kV_law_drawn_key dc_law_drawn_key pm_law_drawn_key cd_law_drawn_key ct_law_drawn_key : Value}
    {od_law_form an_law_form : Option Addr} {sl_law_form : Array (Option Value)} {oc_law_form kV_law_form dc_law_form pm_law_form ct_law_form : Value}
    {od_law_is an_law_is : Option Addr} {sl_law_is : Array (Option Value)} {oc_law_is kV_law_is dc_law_is pm_law_is cd_law_is ct_law_is : Value}
    {od_law_accepts an_law_accepts : Option Addr} {sl_law_accepts : Array (Option Value)} {oc_law_accepts kV_law_accepts dc_law_accepts pm_law_accepts cd_law_accepts ct_law_accepts : Value}
    {od_law_row an_law_row : Option Addr} {sl_law_row : Array (Option Value)} {oc_law_row kV_law_row dc_law_row pm_law_row cd_law_row ct_law_row : Value}
    {od_law_same an_law_same : Option Addr} {sl_law_same : Array (Option Value)} {oc_law_same kV_law_same dc_law_same pm_law_same cd_law_same ct_law_same : Value}
    {od_law_thing an_law_thing : Option Addr} {sl_law_thing : Array (Option Value)} {oc_law_thing kV_law_thing dc_law_thing pm_law_thing cd_law_thing ct_law_thing : Value}
    {od_base_kind an_base_kind : Option Addr} {sl_base_kind : Array (Option Value)} {oc_base_kind kV_base_kind dc_base_kind pm_base_kind cd_base_kind ct_base_kind : Value}
    {od_accepts an_accepts : Option Addr} {sl_accepts : Array (Option Value)} {oc_accepts kV_accepts dc_accepts pm_accepts cd_accepts ct_accepts : Value}
    {od_fits an_fits : Option Addr} {sl_fits : Array (Option Value)} {oc_fits kV_fits dc_fits pm_fits cd_fits ct_fits : Value}
    {od_column_names an_column_names : Option Addr} {sl_column_names : Array (Option Value)} {oc_column_names kV_column_names dc_column_names pm_column_names cd_column_names ct_column_names : Value}
    {od_split_row an_split_row : Option Addr} {sl_split_row : Array (Option Value)} {oc_split_row kV_split_row dc_split_row pm_split_row cd_split_row ct_split_row : Value}
    {od_join_row an_join_row : Option Addr} {sl_join_row : Array (Option Value)} {oc_join_row kV_join_row dc_join_row pm_join_row cd_join_row ct_join_row : Value}
    {od_law_key_of an_law_key_of : Option Addr} {sl_law_key_of : Array (Option Value)} {oc_law_key_of kV_law_key_of dc_law_key_of pm_law_key_of cd_law_key_of ct_law_key_of : Value}
    {od_law_rest_of an_law_rest_of : Option Addr} {sl_law_rest_of : Array (Option Value)} {oc_law_rest_of kV_law_rest_of dc_law_rest_of pm_law_rest_of cd_law_rest_of ct_law_rest_of : Value}
    {od_law_other_tuple an_law_other_tuple : Option Addr} {sl_law_other_tuple : Array (Option Value)} {oc_law_other_tuple kV_law_other_tuple dc_law_other_tuple pm_law_other_tuple cd_law_other_tuple ct_law_other_tuple : Value}
    {od_law_is_row an_law_is_row : Option Addr} {sl_law_is_row : Array (Option Value)} {oc_law_is_row kV_law_is_row dc_law_is_row pm_law_is_row cd_law_is_row ct_law_is_row : Value}
    {od_law an_law : Option Addr} {sl_law : Array (Option Value)} {oc_law kV_law dc_law pm_law cd_law ct_law : Value}
    {cc_law_form P_law_form : Addr} {oK_law_form : Obj} (X : K.In h) (G : h.Ns mainGlobals mg) (hfa : mg "law" = some (.ref fa))
    (a_law_cell : PySem.W.nsIn K mainGlobals "_law_cell" = some (some (.ref f_law_cell))) (l_law_cell : K.lookup f_law_cell = some ⟨oc_law_cell, od_law_cell, .func (PySem.W.fnOf "_law_cell" "_law_cell" (defArgs s_law_cell) (defBody s_law_cell) (defScope s_law_cell) .none kV_law_cell dc_law_cell pm_law_cell an_law_cell cd_law_cell ct_law_cell), sl_law_cell⟩) (c_law_cell : PySem.W.codeIn K cd_law_cell "_law_cell" = true) (k_law_cell : PySem.W.keepIn K (.ref f_law_cell) = true)
    (a_law_draws : PySem.W.nsIn K mainGlobals "_law_draws" = some (some (.ref f_law_draws))) (l_law_draws : K.lookup f_law_draws = some ⟨oc_law_draws, od_law_draws, .func (PySem.W.fnOf "_law_draws" "_law_draws" (defArgs s_law_draws) (defBody s_law_draws) (defScope s_law_draws) .none kV_law_draws dc_law_draws pm_law_draws an_law_draws cd_law_draws ct_law_draws), sl_law_draws⟩) (c_law_draws : PySem.W.codeIn K cd_law_draws "_law_draws" = true) (k_law_draws : PySem.W.keepIn K (.ref f_law_draws) = true)
    (a_law_name : PySem.W.nsIn K mainGlobals "_law_name" = some (some (.ref f_law_name))) (l_law_name : K.lookup f_law_name = some ⟨oc_law_name, od_law_name, .func (PySem.W.fnOf "_law_name" "_law_name" (defArgs s_law_name) (defBody s_law_name) (defScope s_law_name) .none kV_law_name dc_law_name pm_law_name an_law_name cd_law_name ct_law_name), sl_law_name⟩) (c_law_name : PySem.W.codeIn K cd_law_name "_law_name" = true) (k_law_name : PySem.W.keepIn K (.ref f_law_name) = true)
    (a_law_names : PySem.W.nsIn K mainGlobals "_law_names" = some (some (.ref f_law_names))) (l_law_names : K.lookup f_law_names = some ⟨oc_law_names, od_law_names, .func (PySem.W.fnOf "_law_names" "_law_names" (defArgs s_law_names) (defBody s_law_names) (defScope s_law_names) .none kV_law_names dc_law_names pm_law_names an_law_names cd_law_names ct_law_names), sl_law_names⟩) (c_law_names : PySem.W.codeIn K cd_law_names "_law_names" = true) (k_law_names : PySem.W.keepIn K (.ref f_law_names) = true)
    (a_law_integer : PySem.W.nsIn K mainGlobals "_law_integer" = some (some (.ref f_law_integer))) (l_law_integer : K.lookup f_law_integer = some ⟨oc_law_integer, od_law_integer, .func (PySem.W.fnOf "_law_integer" "_law_integer" (defArgs s_law_integer) (defBody s_law_integer) (defScope s_law_integer) .none kV_law_integer dc_law_integer pm_law_integer an_law_integer cd_law_integer ct_law_integer), sl_law_integer⟩) (c_law_integer : PySem.W.codeIn K cd_law_integer "_law_integer" = true) (k_law_integer : PySem.W.keepIn K (.ref f_law_integer) = true)
    (a_law_char : PySem.W.nsIn K mainGlobals "_law_char" = some (some (.ref f_law_char))) (l_law_char : K.lookup f_law_char = some ⟨oc_law_char, od_law_char, .func (PySem.W.fnOf "_law_char" "_law_char" (defArgs s_law_char) (defBody s_law_char) (defScope s_law_char) .none kV_law_char dc_law_char pm_law_char an_law_char cd_law_char ct_law_char), sl_law_char⟩) (c_law_char : PySem.W.codeIn K cd_law_char "_law_char" = true) (k_law_char : PySem.W.keepIn K (.ref f_law_char) = true)
    (a_law_text : PySem.W.nsIn K mainGlobals "_law_text" = some (some (.ref f_law_text))) (l_law_text : K.lookup f_law_text = some ⟨oc_law_text, od_law_text, .func (PySem.W.fnOf "_law_text" "_law_text" (defArgs s_law_text) (defBody s_law_text) (defScope s_law_text) .none kV_law_text dc_law_text pm_law_text an_law_text cd_law_text ct_law_text), sl_law_text⟩) (c_law_text : PySem.W.codeIn K cd_law_text "_law_text" = true) (k_law_text : PySem.W.keepIn K (.ref f_law_text) = true)
    (a_law_value : PySem.W.nsIn K mainGlobals "_law_value" = some (some (.ref f_law_value))) (l_law_value : K.lookup f_law_value = some ⟨oc_law_value, od_law_value, .func (PySem.W.fnOf "_law_value" "_law_value" (defArgs s_law_value) (defBody s_law_value) (defScope s_law_value) .none kV_law_value dc_law_value pm_law_value an_law_value cd_law_value ct_law_value), sl_law_value⟩) (c_law_value : PySem.W.codeIn K cd_law_value "_law_value" = true) (k_law_value : PySem.W.keepIn K (.ref f_law_value) = true)
    (a_law_columns : PySem.W.nsIn K mainGlobals "_law_columns" = some (some (.ref f_law_columns))) (l_law_columns : K.lookup f_law_columns = some ⟨oc_law_columns, od_law_columns, .func (PySem.W.fnOf "_law_columns" "_law_columns" (defArgs s_law_columns) (defBody s_law_columns) (defScope s_law_columns) .none kV_law_columns dc_law_columns pm_law_columns an_law_columns cd_law_columns ct_law_columns), sl_law_columns⟩) (c_law_columns : PySem.W.codeIn K cd_law_columns "_law_columns" = true) (k_law_columns : PySem.W.keepIn K (.ref f_law_columns) = true)
    (a_law_drawn_key : PySem.W.nsIn K mainGlobals "_law_drawn_key" = some (some (.ref f_law_drawn_key))) (l_law_drawn_key : K.lookup f_law_drawn_key = some ⟨oc_law_drawn_key, od_law_drawn_key, .func (PySem.W.fnOf "_law_drawn_key" "_law_drawn_key" (defArgs s_law_drawn_key) (defBody s_law_drawn_key) (defScope s_law_drawn_key) .none kV_law_drawn_key dc_law_drawn_key pm_law_drawn_key an_law_drawn_key cd_law_drawn_key ct_law_drawn_key), sl_law_drawn_key⟩) (c_law_drawn_key : PySem.W.codeIn K cd_law_drawn_key "_law_drawn_key" = true) (k_law_drawn_key : PySem.W.keepIn K (.ref f_law_drawn_key) = true)
    (a_law_form : PySem.W.nsIn K mainGlobals "_law_form" = some (some (.ref f_law_form))) (l_law_form : K.lookup f_law_form = some ⟨oc_law_form, od_law_form, .func (PySem.W.fnOf "_law_form" "_law_form" (defArgs s_law_form) (defBody s_law_form) (defScope s_law_form) .none kV_law_form dc_law_form pm_law_form an_law_form (.ref cc_law_form) ct_law_form), sl_law_form⟩) (c_law_form : PySem.W.codeIn K (.ref cc_law_form) "_law_form" = true) (k_law_form : PySem.W.keepIn K (.ref f_law_form) = true)
    (a_law_is : PySem.W.nsIn K mainGlobals "_law_is" = some (some (.ref f_law_is))) (l_law_is : K.lookup f_law_is = some ⟨oc_law_is, od_law_is, .func (PySem.W.fnOf "_law_is" "_law_is" (defArgs s_law_is) (defBody s_law_is) (defScope s_law_is) .none kV_law_is dc_law_is pm_law_is an_law_is cd_law_is ct_law_is), sl_law_is⟩) (c_law_is : PySem.W.codeIn K cd_law_is "_law_is" = true) (k_law_is : PySem.W.keepIn K (.ref f_law_is) = true)
    (a_law_accepts : PySem.W.nsIn K mainGlobals "_law_accepts" = some (some (.ref f_law_accepts))) (l_law_accepts : K.lookup f_law_accepts = some ⟨oc_law_accepts, od_law_accepts, .func (PySem.W.fnOf "_law_accepts" "_law_accepts" (defArgs s_law_accepts) (defBody s_law_accepts) (defScope s_law_accepts) .none kV_law_accepts dc_law_accepts pm_law_accepts an_law_accepts cd_law_accepts ct_law_accepts), sl_law_accepts⟩) (c_law_accepts : PySem.W.codeIn K cd_law_accepts "_law_accepts" = true) (k_law_accepts : PySem.W.keepIn K (.ref f_law_accepts) = true)
    (a_law_row : PySem.W.nsIn K mainGlobals "_law_row" = some (some (.ref f_law_row))) (l_law_row : K.lookup f_law_row = some ⟨oc_law_row, od_law_row, .func (PySem.W.fnOf "_law_row" "_law_row" (defArgs s_law_row) (defBody s_law_row) (defScope s_law_row) .none kV_law_row dc_law_row pm_law_row an_law_row cd_law_row ct_law_row), sl_law_row⟩) (c_law_row : PySem.W.codeIn K cd_law_row "_law_row" = true) (k_law_row : PySem.W.keepIn K (.ref f_law_row) = true)
    (a_law_same : PySem.W.nsIn K mainGlobals "_law_same" = some (some (.ref f_law_same))) (l_law_same : K.lookup f_law_same = some ⟨oc_law_same, od_law_same, .func (PySem.W.fnOf "_law_same" "_law_same" (defArgs s_law_same) (defBody s_law_same) (defScope s_law_same) .none kV_law_same dc_law_same pm_law_same an_law_same cd_law_same ct_law_same), sl_law_same⟩) (c_law_same : PySem.W.codeIn K cd_law_same "_law_same" = true) (k_law_same : PySem.W.keepIn K (.ref f_law_same) = true)
    (a_law_thing : PySem.W.nsIn K mainGlobals "_law_thing" = some (some (.ref f_law_thing))) (l_law_thing : K.lookup f_law_thing = some ⟨oc_law_thing, od_law_thing, .func (PySem.W.fnOf "_law_thing" "_law_thing" (defArgs s_law_thing) (defBody s_law_thing) (defScope s_law_thing) .none kV_law_thing dc_law_thing pm_law_thing an_law_thing cd_law_thing ct_law_thing), sl_law_thing⟩) (c_law_thing : PySem.W.codeIn K cd_law_thing "_law_thing" = true) (k_law_thing : PySem.W.keepIn K (.ref f_law_thing) = true)
    (a_base_kind : PySem.W.nsIn K mainGlobals "base_kind" = some (some (.ref f_base_kind))) (l_base_kind : K.lookup f_base_kind = some ⟨oc_base_kind, od_base_kind, .func (PySem.W.fnOf "base_kind" "base_kind" (defArgs s_base_kind) (defBody s_base_kind) (defScope s_base_kind) .none kV_base_kind dc_base_kind pm_base_kind an_base_kind cd_base_kind ct_base_kind), sl_base_kind⟩) (c_base_kind : PySem.W.codeIn K cd_base_kind "base_kind" = true) (k_base_kind : PySem.W.keepIn K (.ref f_base_kind) = true)
    (a_accepts : PySem.W.nsIn K mainGlobals "accepts" = some (some (.ref f_accepts))) (l_accepts : K.lookup f_accepts = some ⟨oc_accepts, od_accepts, .func (PySem.W.fnOf "accepts" "accepts" (defArgs s_accepts) (defBody s_accepts) (defScope s_accepts) .none kV_accepts dc_accepts pm_accepts an_accepts cd_accepts ct_accepts), sl_accepts⟩) (c_accepts : PySem.W.codeIn K cd_accepts "accepts" = true) (k_accepts : PySem.W.keepIn K (.ref f_accepts) = true)
    (a_fits : PySem.W.nsIn K mainGlobals "fits" = some (some (.ref f_fits))) (l_fits : K.lookup f_fits = some ⟨oc_fits, od_fits, .func (PySem.W.fnOf "fits" "fits" (defArgs s_fits) (defBody s_fits) (defScope s_fits) .none kV_fits dc_fits pm_fits an_fits cd_fits ct_fits), sl_fits⟩) (c_fits : PySem.W.codeIn K cd_fits "fits" = true) (k_fits : PySem.W.keepIn K (.ref f_fits) = true)
    (a_column_names : PySem.W.nsIn K mainGlobals "column_names" = some (some (.ref f_column_names))) (l_column_names : K.lookup f_column_names = some ⟨oc_column_names, od_column_names, .func (PySem.W.fnOf "column_names" "column_names" (defArgs s_column_names) (defBody s_column_names) (defScope s_column_names) .none kV_column_names dc_column_names pm_column_names an_column_names cd_column_names ct_column_names), sl_column_names⟩) (c_column_names : PySem.W.codeIn K cd_column_names "column_names" = true) (k_column_names : PySem.W.keepIn K (.ref f_column_names) = true)
    (a_split_row : PySem.W.nsIn K mainGlobals "split_row" = some (some (.ref f_split_row))) (l_split_row : K.lookup f_split_row = some ⟨oc_split_row, od_split_row, .func (PySem.W.fnOf "split_row" "split_row" (defArgs s_split_row) (defBody s_split_row) (defScope s_split_row) .none kV_split_row dc_split_row pm_split_row an_split_row cd_split_row ct_split_row), sl_split_row⟩) (c_split_row : PySem.W.codeIn K cd_split_row "split_row" = true) (k_split_row : PySem.W.keepIn K (.ref f_split_row) = true)
    (a_join_row : PySem.W.nsIn K mainGlobals "join_row" = some (some (.ref f_join_row))) (l_join_row : K.lookup f_join_row = some ⟨oc_join_row, od_join_row, .func (PySem.W.fnOf "join_row" "join_row" (defArgs s_join_row) (defBody s_join_row) (defScope s_join_row) .none kV_join_row dc_join_row pm_join_row an_join_row cd_join_row ct_join_row), sl_join_row⟩) (c_join_row : PySem.W.codeIn K cd_join_row "join_row" = true) (k_join_row : PySem.W.keepIn K (.ref f_join_row) = true)
    (a_law_key_of : PySem.W.nsIn K mainGlobals "_law_key_of" = some (some (.ref f_law_key_of))) (l_law_key_of : K.lookup f_law_key_of = some ⟨oc_law_key_of, od_law_key_of, .func (PySem.W.fnOf "_law_key_of" "_law_key_of" (defArgs s_law_key_of) (defBody s_law_key_of) (defScope s_law_key_of) .none kV_law_key_of dc_law_key_of pm_law_key_of an_law_key_of cd_law_key_of ct_law_key_of), sl_law_key_of⟩) (c_law_key_of : PySem.W.codeIn K cd_law_key_of "_law_key_of" = true) (k_law_key_of : PySem.W.keepIn K (.ref f_law_key_of) = true)
    (a_law_rest_of : PySem.W.nsIn K mainGlobals "_law_rest_of" = some (some (.ref f_law_rest_of))) (l_law_rest_of : K.lookup f_law_rest_of = some ⟨oc_law_rest_of, od_law_rest_of, .func (PySem.W.fnOf "_law_rest_of" "_law_rest_of" (defArgs s_law_rest_of) (defBody s_law_rest_of) (defScope s_law_rest_of) .none kV_law_rest_of dc_law_rest_of pm_law_rest_of an_law_rest_of cd_law_rest_of ct_law_rest_of), sl_law_rest_of⟩) (c_law_rest_of : PySem.W.codeIn K cd_law_rest_of "_law_rest_of" = true) (k_law_rest_of : PySem.W.keepIn K (.ref f_law_rest_of) = true)
    (a_law_other_tuple : PySem.W.nsIn K mainGlobals "_law_other_tuple" = some (some (.ref f_law_other_tuple))) (l_law_other_tuple : K.lookup f_law_other_tuple = some ⟨oc_law_other_tuple, od_law_other_tuple, .func (PySem.W.fnOf "_law_other_tuple" "_law_other_tuple" (defArgs s_law_other_tuple) (defBody s_law_other_tuple) (defScope s_law_other_tuple) .none kV_law_other_tuple dc_law_other_tuple pm_law_other_tuple an_law_other_tuple cd_law_other_tuple ct_law_other_tuple), sl_law_other_tuple⟩) (c_law_other_tuple : PySem.W.codeIn K cd_law_other_tuple "_law_other_tuple" = true) (k_law_other_tuple : PySem.W.keepIn K (.ref f_law_other_tuple) = true)
    (a_law_is_row : PySem.W.nsIn K mainGlobals "_law_is_row" = some (some (.ref f_law_is_row))) (l_law_is_row : K.lookup f_law_is_row = some ⟨oc_law_is_row, od_law_is_row, .func (PySem.W.fnOf "_law_is_row" "_law_is_row" (defArgs s_law_is_row) (defBody s_law_is_row) (defScope s_law_is_row) .none kV_law_is_row dc_law_is_row pm_law_is_row an_law_is_row cd_law_is_row ct_law_is_row), sl_law_is_row⟩) (c_law_is_row : PySem.W.codeIn K cd_law_is_row "_law_is_row" = true) (k_law_is_row : PySem.W.keepIn K (.ref f_law_is_row) = true)
    (a_law : PySem.W.nsIn K mainGlobals "law" = some (some (.ref f_law))) (l_law : K.lookup f_law = some ⟨oc_law, od_law, .func (PySem.W.fnOf "law" "law" (defArgs s_law) (defBody s_law) (defScope s_law) .none kV_law dc_law pm_law an_law cd_law ct_law), sl_law⟩) (c_law : PySem.W.codeIn K cd_law "law" = true) (k_law : PySem.W.keepIn K (.ref f_law) = true)
    (z_all : PySem.W.nsIn K mainGlobals "all" = some none)
    (z_bool : PySem.W.nsIn K mainGlobals "bool" = some none)
    (z_dict : PySem.W.nsIn K mainGlobals "dict" = some none)
    (z_int : PySem.W.nsIn K mainGlobals "int" = some none)
    (z_isinstance : PySem.W.nsIn K mainGlobals "isinstance" = some none)
    (z_len : PySem.W.nsIn K mainGlobals "len" = some none)
    (z_list : PySem.W.nsIn K mainGlobals "list" = some none)
    (z_range : PySem.W.nsIn K mainGlobals "range" = some none)
    (z_sorted : PySem.W.nsIn K mainGlobals "sorted" = some none)
    (z_str : PySem.W.nsIn K mainGlobals "str" = some none)
    (z_tuple : PySem.W.nsIn K mainGlobals "tuple" = some none)
    (z_zip : PySem.W.nsIn K mainGlobals "zip" = some none)
    (oc2_law_form : K.lookup cc_law_form = some oK_law_form) (op_law_form : pOf oK_law_form = some P_law_form) (oh_law_form : PySem.W.codeHdIn K cc_law_form P_law_form = true) (on_law_form : K.lookup P_law_form = none) (ot_law_form : h.get? P_law_form = some { cls := .none, data := .fields #[] }) :
    LamX.LawAtS l w K CX0 6 63 "script" mg fa h := by
  have e := hfa.symm.trans (PySem.W.mg_of X G a_law)
  cases e
  refine ⟨PySem.W.fnOf "law" "law" (defArgs s_law) (defBody s_law) (defScope s_law) .none kV_law dc_law pm_law an_law cd_law ct_law, [(cc_law_form, P_law_form)], spLaw K P_law_form, (fun p hp => by
    simp only [List.mem_cons, List.not_mem_nil, or_false] at hp
    subst hp
    · exact ot_law_form), (fun p hp => by
    simp only [List.mem_cons, List.not_mem_nil, or_false] at hp
    subst hp
    · exact on_law_form), (fun p hp => by
    simp only [List.mem_cons, List.not_mem_nil, or_false] at hp
    subst hp
    · exact PySem.W.codeHd_of_K X oh_law_form), fun s v => .of_eq rfl, fun H a ns hl hb hT hS => ⟨a, ns, rfl, hS, hl, hb, hT (cc_law_form, P_law_form) (by simp), fun _ => rfl⟩, fun base _ _ TB => ?_⟩
  have F_law_cell := fun_mk (st := s_law_cell) l_law_cell c_law_cell k_law_cell
  have F_law_draws := fun_mk (st := s_law_draws) l_law_draws c_law_draws k_law_draws
  have F_law_name := fun_mk (st := s_law_name) l_law_name c_law_name k_law_name
  have F_law_names := fun_mk (st := s_law_names) l_law_names c_law_names k_law_names
  have F_law_integer := fun_mk (st := s_law_integer) l_law_integer c_law_integer k_law_integer
  have F_law_char := fun_mk (st := s_law_char) l_law_char c_law_char k_law_char
  have F_law_text := fun_mk (st := s_law_text) l_law_text c_law_text k_law_text
  have F_law_value := fun_mk (st := s_law_value) l_law_value c_law_value k_law_value
  have F_law_columns := fun_mk (st := s_law_columns) l_law_columns c_law_columns k_law_columns
  have F_law_drawn_key := fun_mk (st := s_law_drawn_key) l_law_drawn_key c_law_drawn_key k_law_drawn_key
  have F_law_form := fun_mk (st := s_law_form) l_law_form c_law_form k_law_form
  have F_law_is := fun_mk (st := s_law_is) l_law_is c_law_is k_law_is
  have F_law_accepts := fun_mk (st := s_law_accepts) l_law_accepts c_law_accepts k_law_accepts
  have F_law_row := fun_mk (st := s_law_row) l_law_row c_law_row k_law_row
  have F_law_same := fun_mk (st := s_law_same) l_law_same c_law_same k_law_same
  have F_law_thing := fun_mk (st := s_law_thing) l_law_thing c_law_thing k_law_thing
  have F_base_kind := fun_mk (st := s_base_kind) l_base_kind c_base_kind k_base_kind
  have F_accepts := fun_mk (st := s_accepts) l_accepts c_accepts k_accepts
  have F_fits := fun_mk (st := s_fits) l_fits c_fits k_fits
  have F_column_names := fun_mk (st := s_column_names) l_column_names c_column_names k_column_names
  have F_split_row := fun_mk (st := s_split_row) l_split_row c_split_row k_split_row
  have F_join_row := fun_mk (st := s_join_row) l_join_row c_join_row k_join_row
  have F_law_key_of := fun_mk (st := s_law_key_of) l_law_key_of c_law_key_of k_law_key_of
  have F_law_rest_of := fun_mk (st := s_law_rest_of) l_law_rest_of c_law_rest_of k_law_rest_of
  have F_law_other_tuple := fun_mk (st := s_law_other_tuple) l_law_other_tuple c_law_other_tuple k_law_other_tuple
  have F_law_is_row := fun_mk (st := s_law_is_row) l_law_is_row c_law_is_row k_law_is_row
  have F_law := fun_mk (st := s_law) l_law c_law k_law
  exact ok_law ({
    f_law_cell := f_law_cell, d_law_cell := _, F_law_cell := F_law_cell, b_law_cell := (F_law_cell.binds (ps := ["script", "k"]) fun _ _ _ _ _ _ us hl => match us, hl with | [_, _], _ => rfl),
    g_law_cell := PySem.W.mg_of X G a_law_cell,
    f_law_draws := f_law_draws, d_law_draws := _, F_law_draws := F_law_draws, b_law_draws := (F_law_draws.binds (ps := ["cell", "salt", "count", "base"]) fun _ _ _ _ _ _ us hl => match us, hl with | [_, _, _, _], _ => rfl),
    g_law_draws := PySem.W.mg_of X G a_law_draws,
    f_law_name := f_law_name, d_law_name := _, F_law_name := F_law_name, b_law_name := (F_law_name.binds (ps := ["cell"]) fun _ _ _ _ _ _ us hl => match us, hl with | [_], _ => rfl),
    g_law_name := PySem.W.mg_of X G a_law_name,
    f_law_names := f_law_names, d_law_names := _, F_law_names := F_law_names, b_law_names := (F_law_names.binds (ps := ["cells"]) fun _ _ _ _ _ _ us hl => match us, hl with | [_], _ => rfl),
    g_law_names := PySem.W.mg_of X G a_law_names,
    f_law_integer := f_law_integer, d_law_integer := _, F_law_integer := F_law_integer, b_law_integer := (F_law_integer.binds (ps := ["cell"]) fun _ _ _ _ _ _ us hl => match us, hl with | [_], _ => rfl),
    g_law_integer := PySem.W.mg_of X G a_law_integer,
    f_law_char := f_law_char, d_law_char := _, F_law_char := F_law_char, b_law_char := (F_law_char.binds (ps := ["number"]) fun _ _ _ _ _ _ us hl => match us, hl with | [_], _ => rfl),
    g_law_char := PySem.W.mg_of X G a_law_char,
    f_law_text := f_law_text, d_law_text := _, F_law_text := F_law_text, b_law_text := (F_law_text.binds (ps := ["cell"]) fun _ _ _ _ _ _ us hl => match us, hl with | [_], _ => rfl),
    g_law_text := PySem.W.mg_of X G a_law_text,
    f_law_value := f_law_value, d_law_value := _, F_law_value := F_law_value, b_law_value := (F_law_value.binds (ps := ["kind", "cell"]) fun _ _ _ _ _ _ us hl => match us, hl with | [_, _], _ => rfl),
    g_law_value := PySem.W.mg_of X G a_law_value,
    f_law_columns := f_law_columns, d_law_columns := _, F_law_columns := F_law_columns, b_law_columns := (F_law_columns.binds (ps := ["cells"]) fun _ _ _ _ _ _ us hl => match us, hl with | [_], _ => rfl),
    g_law_columns := PySem.W.mg_of X G a_law_columns,
    f_law_drawn_key := f_law_drawn_key, d_law_drawn_key := _, F_law_drawn_key := F_law_drawn_key, b_law_drawn_key := (F_law_drawn_key.binds (ps := ["columns", "cell"]) fun _ _ _ _ _ _ us hl => match us, hl with | [_, _], _ => rfl),
    g_law_drawn_key := PySem.W.mg_of X G a_law_drawn_key,
    f_law_form := f_law_form, d_law_form := _, F_law_form := F_law_form, b_law_form := (F_law_form.binds (ps := ["columns", "key"]) fun _ _ _ _ _ _ us hl => match us, hl with | [_, _], _ => rfl),
    g_law_form := PySem.W.mg_of X G a_law_form,
    f_law_is := f_law_is, d_law_is := _, F_law_is := F_law_is, b_law_is := (F_law_is.binds (ps := ["actual", "expected"]) fun _ _ _ _ _ _ us hl => match us, hl with | [_, _], _ => rfl),
    g_law_is := PySem.W.mg_of X G a_law_is,
    f_law_accepts := f_law_accepts, d_law_accepts := _, F_law_accepts := F_law_accepts, b_law_accepts := (F_law_accepts.binds (ps := ["kind", "value"]) fun _ _ _ _ _ _ us hl => match us, hl with | [_, _], _ => rfl),
    g_law_accepts := PySem.W.mg_of X G a_law_accepts,
    f_law_row := f_law_row, d_law_row := _, F_law_row := F_law_row, b_law_row := (F_law_row.binds (ps := ["form", "cell"]) fun _ _ _ _ _ _ us hl => match us, hl with | [_, _], _ => rfl),
    g_law_row := PySem.W.mg_of X G a_law_row,
    f_law_same := f_law_same, d_law_same := _, F_law_same := F_law_same, b_law_same := (F_law_same.binds (ps := ["actual", "expected"]) fun _ _ _ _ _ _ us hl => match us, hl with | [_, _], _ => rfl),
    g_law_same := PySem.W.mg_of X G a_law_same,
    f_law_thing := f_law_thing, d_law_thing := _, F_law_thing := F_law_thing, b_law_thing := (F_law_thing.binds (ps := ["script", "k"]) fun _ _ _ _ _ _ us hl => match us, hl with | [_, _], _ => rfl),
    g_law_thing := PySem.W.mg_of X G a_law_thing,
    f_base_kind := f_base_kind, d_base_kind := _, F_base_kind := F_base_kind, b_base_kind := (F_base_kind.binds (ps := ["kind"]) fun _ _ _ _ _ _ us hl => match us, hl with | [_], _ => rfl),
    g_base_kind := PySem.W.mg_of X G a_base_kind,
    f_accepts := f_accepts, d_accepts := _, F_accepts := F_accepts, b_accepts := (F_accepts.binds (ps := ["kind", "value"]) fun _ _ _ _ _ _ us hl => match us, hl with | [_, _], _ => rfl),
    g_accepts := PySem.W.mg_of X G a_accepts,
    f_fits := f_fits, d_fits := _, F_fits := F_fits, b_fits := (F_fits.binds (ps := ["form", "row"]) fun _ _ _ _ _ _ us hl => match us, hl with | [_, _], _ => rfl),
    g_fits := PySem.W.mg_of X G a_fits,
    f_column_names := f_column_names, d_column_names := _, F_column_names := F_column_names, b_column_names := (F_column_names.binds (ps := ["form"]) fun _ _ _ _ _ _ us hl => match us, hl with | [_], _ => rfl),
    g_column_names := PySem.W.mg_of X G a_column_names,
    f_split_row := f_split_row, d_split_row := _, F_split_row := F_split_row, b_split_row := (F_split_row.binds (ps := ["form", "row"]) fun _ _ _ _ _ _ us hl => match us, hl with | [_, _], _ => rfl),
    g_split_row := PySem.W.mg_of X G a_split_row,
    f_join_row := f_join_row, d_join_row := _, F_join_row := F_join_row, b_join_row := (F_join_row.binds (ps := ["form", "key", "rest"]) fun _ _ _ _ _ _ us hl => match us, hl with | [_, _, _], _ => rfl),
    g_join_row := PySem.W.mg_of X G a_join_row,
    f_law_key_of := f_law_key_of, d_law_key_of := _, F_law_key_of := F_law_key_of, b_law_key_of := (F_law_key_of.binds (ps := ["form", "row"]) fun _ _ _ _ _ _ us hl => match us, hl with | [_, _], _ => rfl),
    g_law_key_of := PySem.W.mg_of X G a_law_key_of,
    f_law_rest_of := f_law_rest_of, d_law_rest_of := _, F_law_rest_of := F_law_rest_of, b_law_rest_of := (F_law_rest_of.binds (ps := ["form", "row"]) fun _ _ _ _ _ _ us hl => match us, hl with | [_, _], _ => rfl),
    g_law_rest_of := PySem.W.mg_of X G a_law_rest_of,
    f_law_other_tuple := f_law_other_tuple, d_law_other_tuple := _, F_law_other_tuple := F_law_other_tuple, b_law_other_tuple := (F_law_other_tuple.binds (ps := ["form", "row", "cell"]) fun _ _ _ _ _ _ us hl => match us, hl with | [_, _, _], _ => rfl),
    g_law_other_tuple := PySem.W.mg_of X G a_law_other_tuple,
    f_law_is_row := f_law_is_row, d_law_is_row := _, F_law_is_row := F_law_is_row, b_law_is_row := (F_law_is_row.binds (ps := ["form", "row"]) fun _ _ _ _ _ _ us hl => match us, hl with | [_, _], _ => rfl),
    g_law_is_row := PySem.W.mg_of X G a_law_is_row,
    f_law := fa, d_law := _, F_law := F_law, b_law := (F_law.binds (ps := ["script"]) fun _ _ _ _ _ _ us hl => match us, hl with | [_], _ => rfl),
    g_law := PySem.W.mg_of X G a_law,
    m_all := PySem.W.mg_none_of X G z_all,
    m_bool := PySem.W.mg_none_of X G z_bool,
    m_dict := PySem.W.mg_none_of X G z_dict,
    m_int := PySem.W.mg_none_of X G z_int,
    m_isinstance := PySem.W.mg_none_of X G z_isinstance,
    m_len := PySem.W.mg_none_of X G z_len,
    m_list := PySem.W.mg_none_of X G z_list,
    m_range := PySem.W.mg_none_of X G z_range,
    m_sorted := PySem.W.mg_none_of X G z_sorted,
    m_str := PySem.W.mg_none_of X G z_str,
    m_tuple := PySem.W.mg_none_of X G z_tuple,
    m_zip := PySem.W.mg_none_of X G z_zip,
    cc_law_form := cc_law_form, P_law_form := P_law_form, cd_law_form := rfl, tb_law_form := TB (cc_law_form, P_law_form) (by simp) } : Txt K mg base)

end Vt

open PySem PySem.W PyProof.Rows
set_option maxHeartbeats 0 in
theorem PySem.Challenge.cw_versiontables_k07_split_and_join_holds : PySem.Challenge.rw_versiontables_k07_split_and_join.Holds := by
  w_on; o_law; k_head; (case hw => w_witness2)
  k_fill
  refine LamX.walk_ofTs (l := PySem.Challenge.rw_versiontables_k07_split_and_join) (n := 63) (k := 6) (x := "script") (CX := fun _ => L2.CX0) rfl (by decide) rfl ⟨rfl, by decide, by decide⟩ (fun w h Y => PySem.W.km_in_of Y) ?F (fun _ _ _ _ _ h => h)
  case F =>
    intro w mg fa h Y KX G hmg
    have hT8 := PySem.W.km_tabs_of Y
    refine' Vt.all_mk KX G hmg ?a_law_cell ?l_law_cell ?c_law_cell ?k_law_cell ?a_law_draws ?l_law_draws ?c_law_draws ?k_law_draws ?a_law_name ?l_law_name ?c_law_name ?k_law_name ?a_law_names ?l_law_names ?c_law_names ?k_law_names ?a_law_integer ?l_law_integer ?c_law_integer ?k_law_integer ?a_law_char ?l_law_char ?c_law_char ?k_law_char ?a_law_text ?l_law_text ?c_law_text ?k_law_text ?a_law_value ?l_law_value ?c_law_value ?k_law_value ?a_law_columns ?l_law_columns ?c_law_columns ?k_law_columns ?a_law_drawn_key ?l_law_drawn_key ?c_law_drawn_key ?k_law_drawn_key ?a_law_form ?l_law_form ?c_law_form ?k_law_form ?a_law_is ?l_law_is ?c_law_is ?k_law_is ?a_law_accepts ?l_law_accepts ?c_law_accepts ?k_law_accepts ?a_law_row ?l_law_row ?c_law_row ?k_law_row ?a_law_same ?l_law_same ?c_law_same ?k_law_same ?a_law_thing ?l_law_thing ?c_law_thing ?k_law_thing ?a_base_kind ?l_base_kind ?c_base_kind ?k_base_kind ?a_accepts ?l_accepts ?c_accepts ?k_accepts ?a_fits ?l_fits ?c_fits ?k_fits ?a_column_names ?l_column_names ?c_column_names ?k_column_names ?a_split_row ?l_split_row ?c_split_row ?k_split_row ?a_join_row ?l_join_row ?c_join_row ?k_join_row ?a_law_key_of ?l_law_key_of ?c_law_key_of ?k_law_key_of ?a_law_rest_of ?l_law_rest_of ?c_law_rest_of ?k_law_rest_of ?a_law_other_tuple ?l_law_other_tuple ?c_law_other_tuple ?k_law_other_tuple ?a_law_is_row ?l_law_is_row ?c_law_is_row ?k_law_is_row ?a_law ?l_law ?c_law ?k_law ?z_all ?z_bool ?z_dict ?z_int ?z_isinstance ?z_len ?z_list ?z_range ?z_sorted ?z_str ?z_tuple ?z_zip ?oc2_law_form ?op_law_form ?oh_law_form ?on_law_form ?ot_law_form
    (case a_law_cell => k_is)
    (case l_law_cell => k_is)
    (case c_law_cell => k_is)
    (case k_law_cell => k_is)
    (case a_law_draws => k_is)
    (case l_law_draws => k_is)
    (case c_law_draws => k_is)
    (case k_law_draws => k_is)
    (case a_law_name => k_is)
    (case l_law_name => k_is)
    (case c_law_name => k_is)
    (case k_law_name => k_is)
    (case a_law_names => k_is)
    (case l_law_names => k_is)
    (case c_law_names => k_is)
    (case k_law_names => k_is)
    (case a_law_integer => k_is)
    (case l_law_integer => k_is)
    (case c_law_integer => k_is)
    (case k_law_integer => k_is)
    (case a_law_char => k_is)
    (case l_law_char => k_is)
    (case c_law_char => k_is)
    (case k_law_char => k_is)
    (case a_law_text => k_is)
    (case l_law_text => k_is)
    (case c_law_text => k_is)
    (case k_law_text => k_is)
    (case a_law_value => k_is)
    (case l_law_value => k_is)
    (case c_law_value => k_is)
    (case k_law_value => k_is)
    (case a_law_columns => k_is)
    (case l_law_columns => k_is)
    (case c_law_columns => k_is)
    (case k_law_columns => k_is)
    (case a_law_drawn_key => k_is)
    (case l_law_drawn_key => k_is)
    (case c_law_drawn_key => k_is)
    (case k_law_drawn_key => k_is)
    (case a_law_form => k_is)
    (case l_law_form => k_is)
    (case c_law_form => k_is)
    (case k_law_form => k_is)
    (case a_law_is => k_is)
    (case l_law_is => k_is)
    (case c_law_is => k_is)
    (case k_law_is => k_is)
    (case a_law_accepts => k_is)
    (case l_law_accepts => k_is)
    (case c_law_accepts => k_is)
    (case k_law_accepts => k_is)
    (case a_law_row => k_is)
    (case l_law_row => k_is)
    (case c_law_row => k_is)
    (case k_law_row => k_is)
    (case a_law_same => k_is)
    (case l_law_same => k_is)
    (case c_law_same => k_is)
    (case k_law_same => k_is)
    (case a_law_thing => k_is)
    (case l_law_thing => k_is)
    (case c_law_thing => k_is)
    (case k_law_thing => k_is)
    (case a_base_kind => k_is)
    (case l_base_kind => k_is)
    (case c_base_kind => k_is)
    (case k_base_kind => k_is)
    (case a_accepts => k_is)
    (case l_accepts => k_is)
    (case c_accepts => k_is)
    (case k_accepts => k_is)
    (case a_fits => k_is)
    (case l_fits => k_is)
    (case c_fits => k_is)
    (case k_fits => k_is)
    (case a_column_names => k_is)
    (case l_column_names => k_is)
    (case c_column_names => k_is)
    (case k_column_names => k_is)
    (case a_split_row => k_is)
    (case l_split_row => k_is)
    (case c_split_row => k_is)
    (case k_split_row => k_is)
    (case a_join_row => k_is)
    (case l_join_row => k_is)
    (case c_join_row => k_is)
    (case k_join_row => k_is)
    (case a_law_key_of => k_is)
    (case l_law_key_of => k_is)
    (case c_law_key_of => k_is)
    (case k_law_key_of => k_is)
    (case a_law_rest_of => k_is)
    (case l_law_rest_of => k_is)
    (case c_law_rest_of => k_is)
    (case k_law_rest_of => k_is)
    (case a_law_other_tuple => k_is)
    (case l_law_other_tuple => k_is)
    (case c_law_other_tuple => k_is)
    (case k_law_other_tuple => k_is)
    (case a_law_is_row => k_is)
    (case l_law_is_row => k_is)
    (case c_law_is_row => k_is)
    (case k_law_is_row => k_is)
    (case a_law => k_is)
    (case l_law => k_is)
    (case c_law => k_is)
    (case k_law => k_is)
    (case z_all => k_is)
    (case z_bool => k_is)
    (case z_dict => k_is)
    (case z_int => k_is)
    (case z_isinstance => k_is)
    (case z_len => k_is)
    (case z_list => k_is)
    (case z_range => k_is)
    (case z_sorted => k_is)
    (case z_str => k_is)
    (case z_tuple => k_is)
    (case z_zip => k_is)
    (case oc2_law_form => k_is)
    (case op_law_form => rfl)
    (case oh_law_form => kernel_rfl)
    (case on_law_form => kernel_rfl)
    (case ot_law_form => exact hT8 _ (by simp))
