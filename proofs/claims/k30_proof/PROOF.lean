import PyProof.Rows.All
import Wide.All
import OpenK.AllK
import Wide.FinOn
import HandS.ForMost
import HandS.Evl
import HandS.IsInst
import HandS.FStr
import HandS.WideBits
import HandS.Wide
import HandS.EndBits
import HandS.Exc
import HandS.TupAny
import PyProof.StrOps2
import HandS.ExcOwn
import HandS.ExcIs
import HandS.ExcCtx
import HandS.SuiteRaise
import HandS.RaiseFrom
import HandS.ExcValue
import HandS.ExcValueFrom
import HandS.WordsExc
import HandS.Replace
import HandS.ReplaceLit
import HandS.NoneIn
import HandS.StrMore
import HandS.TupLe
import HandS.Sort
import HandS.SortKw
import HandS.Lambda
import HandS.EndTab
import KE.KNestM
import KE.SortKeyHeap
import KE.SortData
import HandS.Iter
import KE.GoesMore
import KE.GoesEnum
import HandS.SetTxt0
import HandS.Set
import HandS.Strs
import HandS.Star
import HandS.Zip
import KE.KDictZip
import PySem.Challenge.RW_versiontables_k30_merge_forms


set_option Elab.async false
set_option linter.all false
set_option maxRecDepth 100000
set_option maxHeartbeats 400000

namespace Vt
open PySem PySem.Spec PyProof.Rows L2 Evl

def topS (i : Nat) : Stmt := PySem.Challenge.pw_versiontables_k30_merge_forms.main.body.getD i (.Pass ⟨0, 0, 0, 0⟩)

abbrev s_law_text : Stmt := topS 12

theorem sc_law_text : FnScope ["a", "b", "chars", "size", "k"] ["a", "b"] (defScope s_law_text) := ⟨rfl, rfl, rfl, by decide +kernel, rfl, by decide +kernel, by decide +kernel⟩

abbrev s_law_value : Stmt := topS 13

theorem sc_law_value : FnScope ["kind", "a", "b"] ["kind", "a", "b"] (defScope s_law_value) := ⟨rfl, rfl, rfl, by decide +kernel, rfl, by decide +kernel, by decide +kernel⟩

abbrev s_law_column : Stmt := topS 15

theorem sc_law_column : FnScope ["name", "a", "b", "kind"] ["name", "a", "b"] (defScope s_law_column) := ⟨rfl, rfl, rfl, by decide +kernel, rfl, by decide +kernel, by decide +kernel⟩

abbrev s_law_in_columns : Stmt := topS 16

theorem sc_law_in_columns : FnScope ["columns"] ["columns"] (defScope s_law_in_columns) := ⟨rfl, rfl, rfl, by decide +kernel, rfl, by decide +kernel, by decide +kernel⟩

abbrev s_law_base : Stmt := topS 17

theorem sc_law_base : FnScope ["numbers", "columns", "key", "names", "k"] ["numbers"] (defScope s_law_base) := ⟨rfl, rfl, rfl, by decide +kernel, rfl, by decide +kernel, by decide +kernel⟩

abbrev s_law_cell : Stmt := topS 10

theorem sc_law_cell : FnScope ["script", "k"] ["script", "k"] (defScope s_law_cell) := ⟨rfl, rfl, rfl, by decide +kernel, rfl, by decide +kernel, by decide +kernel⟩

abbrev s_law_found : Stmt := topS 21

theorem sc_law_found : FnScope ["form", "name", "column"] ["form", "name"] (defScope s_law_found) := ⟨rfl, rfl, rfl, by decide +kernel, rfl, by decide +kernel, by decide +kernel⟩

abbrev s_law_due : Stmt := topS 22

theorem sc_law_due : FnScope ["b", "o", "t", "signatures", "name", "form", "columns", "column", "three", "chosen"] ["b", "o", "t"] (defScope s_law_due) := ⟨rfl, rfl, rfl, by decide +kernel, rfl, by decide +kernel, by decide +kernel⟩

abbrev s_law_numbers : Stmt := topS 11

theorem sc_law_numbers : FnScope ["cell", "count", "numbers", "k", "mixed"] ["cell", "count"] (defScope s_law_numbers) := ⟨rfl, rfl, rfl, by decide +kernel, rfl, by decide +kernel, by decide +kernel⟩

abbrev s_law_rekeyed : Stmt := topS 20

theorem sc_law_rekeyed : FnScope ["form", "numbers", "columns", "column"] ["form", "numbers"] (defScope s_law_rekeyed) := ⟨rfl, rfl, rfl, by decide +kernel, rfl, by decide +kernel, by decide +kernel⟩

abbrev s_law_same : Stmt := topS 14

theorem sc_law_same : FnScope ["actual", "due", "k"] ["actual", "due"] (defScope s_law_same) := ⟨rfl, rfl, rfl, by decide +kernel, rfl, by decide +kernel, by decide +kernel⟩

abbrev s_law_changed : Stmt := topS 18

theorem sc_law_changed : FnScope ["form", "numbers", "columns", "free", "column", "names", "name", "lost", "old", "new"] ["form", "numbers"] (defScope s_law_changed) := ⟨rfl, rfl, rfl, by decide +kernel, rfl, by decide +kernel, by decide +kernel⟩

abbrev s_law_side : Stmt := topS 19

theorem sc_law_side : FnScope ["form", "script", "first", "count", "k"] ["form", "script", "first", "count"] (defScope s_law_side) := ⟨rfl, rfl, rfl, by decide +kernel, rfl, by decide +kernel, by decide +kernel⟩

abbrev s_choose : Stmt := topS 7

theorem sc_choose : FnScope ["base", "ours", "theirs"] ["base", "ours", "theirs"] (defScope s_choose) := ⟨rfl, rfl, rfl, by decide +kernel, rfl, by decide +kernel, by decide +kernel⟩

abbrev s_clash : Stmt := topS 6

theorem sc_clash : FnScope ["base", "ours", "theirs"] ["base", "ours", "theirs"] (defScope s_clash) := ⟨rfl, rfl, rfl, by decide +kernel, rfl, by decide +kernel, by decide +kernel⟩

abbrev s_column_names : Stmt := topS 3

theorem sc_column_names : FnScope ["form", "column"] ["form"] (defScope s_column_names) := ⟨rfl, rfl, rfl, by decide +kernel, rfl, by decide +kernel, by decide +kernel⟩

abbrev s_find_column : Stmt := topS 2

theorem sc_find_column : FnScope ["form", "name", "column"] ["form", "name"] (defScope s_find_column) := ⟨rfl, rfl, rfl, by decide +kernel, rfl, by decide +kernel, by decide +kernel⟩

abbrev s_key_signature : Stmt := topS 4

theorem sc_key_signature : FnScope ["form", "name"] ["form"] (defScope s_key_signature) := ⟨rfl, rfl, rfl, by decide +kernel, rfl, by decide +kernel, by decide +kernel⟩

abbrev s_merge_forms : Stmt := topS 8

theorem sc_merge_forms : FnScope ["base", "ours", "theirs", "signature", "columns", "name", "same_name", "form", "column"] ["base", "ours", "theirs"] (defScope s_merge_forms) := ⟨rfl, rfl, rfl, by decide +kernel, rfl, by decide +kernel, by decide +kernel⟩

abbrev s_law : Stmt := topS 23

theorem sc_law : FnScope ["script", "base", "numbers", "ours", "start", "theirs", "due"] ["script"] (defScope s_law) := ⟨rfl, rfl, rfl, by decide +kernel, rfl, by decide +kernel, by decide +kernel⟩

structure Txt (K : PySem.W.Frag) (mg : Str → Option Value) (base : Heap) where
  f_law_text : Addr
  d_law_text : FuncData
  F_law_text : Fun K "_law_text" "_law_text" s_law_text f_law_text d_law_text
  b_law_text : Binds K d_law_text ["a", "b"] []
  g_law_text : mg "_law_text" = some (.ref f_law_text)
  f_law_value : Addr
  d_law_value : FuncData
  F_law_value : Fun K "_law_value" "_law_value" s_law_value f_law_value d_law_value
  b_law_value : Binds K d_law_value ["kind", "a", "b"] []
  g_law_value : mg "_law_value" = some (.ref f_law_value)
  f_law_column : Addr
  d_law_column : FuncData
  F_law_column : Fun K "_law_column" "_law_column" s_law_column f_law_column d_law_column
  b_law_column : Binds K d_law_column ["name", "a", "b"] []
  g_law_column : mg "_law_column" = some (.ref f_law_column)
  f_law_in_columns : Addr
  d_law_in_columns : FuncData
  F_law_in_columns : Fun K "_law_in_columns" "_law_in_columns" s_law_in_columns f_law_in_columns d_law_in_columns
  b_law_in_columns : Binds K d_law_in_columns ["columns"] []
  g_law_in_columns : mg "_law_in_columns" = some (.ref f_law_in_columns)
  f_law_base : Addr
  d_law_base : FuncData
  F_law_base : Fun K "_law_base" "_law_base" s_law_base f_law_base d_law_base
  b_law_base : Binds K d_law_base ["numbers"] []
  g_law_base : mg "_law_base" = some (.ref f_law_base)
  f_law_cell : Addr
  d_law_cell : FuncData
  F_law_cell : Fun K "_law_cell" "_law_cell" s_law_cell f_law_cell d_law_cell
  b_law_cell : Binds K d_law_cell ["script", "k"] []
  g_law_cell : mg "_law_cell" = some (.ref f_law_cell)
  f_law_found : Addr
  d_law_found : FuncData
  F_law_found : Fun K "_law_found" "_law_found" s_law_found f_law_found d_law_found
  b_law_found : Binds K d_law_found ["form", "name"] []
  g_law_found : mg "_law_found" = some (.ref f_law_found)
  f_law_due : Addr
  d_law_due : FuncData
  F_law_due : Fun K "_law_due" "_law_due" s_law_due f_law_due d_law_due
  b_law_due : Binds K d_law_due ["b", "o", "t"] []
  g_law_due : mg "_law_due" = some (.ref f_law_due)
  f_law_numbers : Addr
  d_law_numbers : FuncData
  F_law_numbers : Fun K "_law_numbers" "_law_numbers" s_law_numbers f_law_numbers d_law_numbers
  b_law_numbers : Binds K d_law_numbers ["cell", "count"] []
  g_law_numbers : mg "_law_numbers" = some (.ref f_law_numbers)
  f_law_rekeyed : Addr
  d_law_rekeyed : FuncData
  F_law_rekeyed : Fun K "_law_rekeyed" "_law_rekeyed" s_law_rekeyed f_law_rekeyed d_law_rekeyed
  b_law_rekeyed : Binds K d_law_rekeyed ["form", "numbers"] []
  g_law_rekeyed : mg "_law_rekeyed" = some (.ref f_law_rekeyed)
  f_law_same : Addr
  d_law_same : FuncData
  F_law_same : Fun K "_law_same" "_law_same" s_law_same f_law_same d_law_same
  b_law_same : Binds K d_law_same ["actual", "due"] []
  g_law_same : mg "_law_same" = some (.ref f_law_same)
  f_law_changed : Addr
  d_law_changed : FuncData
  F_law_changed : Fun K "_law_changed" "_law_changed" s_law_changed f_law_changed d_law_changed
  b_law_changed : Binds K d_law_changed ["form", "numbers"] []
  g_law_changed : mg "_law_changed" = some (.ref f_law_changed)
  f_law_side : Addr
  d_law_side : FuncData
  F_law_side : Fun K "_law_side" "_law_side" s_law_side f_law_side d_law_side
  b_law_side : Binds K d_law_side ["form", "script", "first", "count"] []
  g_law_side : mg "_law_side" = some (.ref f_law_side)
  f_choose : Addr
  d_choose : FuncData
  F_choose : Fun K "choose" "choose" s_choose f_choose d_choose
  b_choose : Binds K d_choose ["base", "ours", "theirs"] []
  g_choose : mg "choose" = some (.ref f_choose)
  f_clash : Addr
  d_clash : FuncData
  F_clash : Fun K "clash" "clash" s_clash f_clash d_clash
  b_clash : Binds K d_clash ["base", "ours", "theirs"] []
  g_clash : mg "clash" = some (.ref f_clash)
  f_column_names : Addr
  d_column_names : FuncData
  F_column_names : Fun K "column_names" "column_names" s_column_names f_column_names d_column_names
  b_column_names : Binds K d_column_names ["form"] []
  g_column_names : mg "column_names" = some (.ref f_column_names)
  f_find_column : Addr
  d_find_column : FuncData
  F_find_column : Fun K "find_column" "find_column" s_find_column f_find_column d_find_column
  b_find_column : Binds K d_find_column ["form", "name"] []
  g_find_column : mg "find_column" = some (.ref f_find_column)
  f_key_signature : Addr
  d_key_signature : FuncData
  F_key_signature : Fun K "key_signature" "key_signature" s_key_signature f_key_signature d_key_signature
  b_key_signature : Binds K d_key_signature ["form"] []
  g_key_signature : mg "key_signature" = some (.ref f_key_signature)
  f_merge_forms : Addr
  d_merge_forms : FuncData
  F_merge_forms : Fun K "merge_forms" "merge_forms" s_merge_forms f_merge_forms d_merge_forms
  b_merge_forms : Binds K d_merge_forms ["base", "ours", "theirs"] []
  g_merge_forms : mg "merge_forms" = some (.ref f_merge_forms)
  f_law : Addr
  d_law : FuncData
  F_law : Fun K "law" "law" s_law f_law d_law
  b_law : Binds K d_law ["script"] []
  g_law : mg "law" = some (.ref f_law)
  m_bool : mg "bool" = none
  m_int : mg "int" = none
  m_isinstance : mg "isinstance" = none
  m_len : mg "len" = none
  m_list : mg "list" = none
  m_range : mg "range" = none
  m_set : mg "set" = none
  m_sorted : mg "sorted" = none
  m_str : mg "str" = none
  m_tuple : mg "tuple" = none
  cc_law_in_columns : Addr
  P_law_in_columns : Addr
  cd_law_in_columns : d_law_in_columns.code = .ref cc_law_in_columns
  tb_law_in_columns : LamX.TabB base mg cc_law_in_columns P_law_in_columns
  t_MOST_COLUMNS : Tok
  k_MOST_COLUMNS : mg "MOST_COLUMNS" = some (.int 12 t_MOST_COLUMNS)

/-! ### sizes of ints -/
/-- an int of at most some million bits -/
structure Wd (n : Int) : Prop where
  h : n.natAbs.log2 < 1100000
theorem log2_mono {a b : Nat} (h : a ≤ b) : a.log2 ≤ b.log2 := by
  by_cases ha : a = 0
  · subst ha
    exact Nat.le_trans (Nat.le_of_eq (by decide)) (Nat.zero_le _)
  · refine Nat.lt_succ_iff.mp ((Nat.log2_lt ha).mpr (Nat.lt_of_le_of_lt h Nat.lt_log2_self))
theorem Wd.le {n m : Int} (h : Wd n) (e : m.natAbs ≤ n.natAbs) : Wd m := ⟨Nat.lt_of_le_of_lt (log2_mono e) h.h⟩
theorem Wd.lt {n : Int} (h : n.natAbs < 2 ^ 9000) : Wd n := ⟨Nat.lt_trans (PySem.Flt.log2_lt_of (by decide) h) (by decide)⟩
theorem Wd.lit {n : Int} (h : n.natAbs < 2 ^ 256) : Wd n := ⟨Nat.lt_trans (PySem.Flt.log2_lt_of (by decide) h) (by decide)⟩
theorem Wd.bits {n : Int} (h : Builtin.Int.intBits n ≤ 1048576) : Wd n := by
  unfold Builtin.Int.intBits at h
  by_cases e : n = 0
  · subst e
    exact Wd.lit (by decide)
  · rw [if_neg (by simpa using e)] at h
    exact ⟨by omega⟩
theorem Wd.small {n : Int} (h1 : -(2 ^ 64) < n) (h2 : n < 2 ^ 64) : Wd n := Wd.lit (by
  have : n.natAbs < 2 ^ 64 := by omega
  exact Nat.lt_of_lt_of_le this (by decide))
theorem Wd.div {n b : Int} (h : Wd n) : Wd (n / b) := h.le (Int.natAbs_ediv_le_natAbs n b)
theorem Wd.mod {n b : Int} (hb : 0 < b) (h : Wd b) : Wd (n % b) := h.le (by
  have h1 := Int.emod_nonneg n (by omega : b ≠ 0)
  have h2 := Int.emod_lt_of_pos n hb
  omega)
theorem Wd.neg {n : Int} (h : Wd n) : Wd (-n) := h.le (by omega)
theorem bits_log (n : Int) : Builtin.Int.intBits n ≤ n.natAbs.log2 + 1 := by
  unfold Builtin.Int.intBits
  split <;> omega
theorem Wd.mul {i j : Int} (hi : Wd i) (hj : Wd j) : CMulX i j := by
  have a := bits_log i
  have b := bits_log j
  have c := hi.h
  have d := hj.h
  unfold CMulX
  omega
/-- what falls to a comparison of two ints -/
theorem dec_int {i j : Int} : decide (V.int i = V.int j) = decide (i = j) := by
  by_cases h : i = j
  · rw [decide_eq_true h, decide_eq_true (congrArg V.int h)]
  · rw [decide_eq_false h, decide_eq_false fun e => h (V.int.inj e)]
theorem dec_str {i j : Str} : decide (V.str i = V.str j) = decide (i = j) := by
  by_cases h : i = j
  · rw [decide_eq_true h, decide_eq_true (congrArg V.str h)]
  · rw [decide_eq_false h, decide_eq_false fun e => h (V.str.inj e)]
theorem dec_bl {i j : Bool} : decide (V.bl i = V.bl j) = decide (i = j) := by
  by_cases h : i = j
  · rw [decide_eq_true h, decide_eq_true (congrArg V.bl h)]
  · rw [decide_eq_false h, decide_eq_false fun e => h (V.bl.inj e)]
/-- len, tuple of a list or tuple -/
abbrev rLenQ (K : PySem.W.Frag) : List V → Hp → VK → Prop := fun xs H Q => ∃ p ys, xs = [V.ref p] ∧ (SqL K H p ys ∨ SqT K H p ys) ∧ Q (.int ys.length) H
abbrev rTupOf (K : PySem.W.Frag) : List V → Hp → VK → Prop := fun xs H Q => ∃ p ys, xs = [V.ref p] ∧ ((SqL K H p ys ∧ ∀ l, H l = none → Q (.ref l) (upd H l (.tup ys))) ∨ (SqT K H p ys ∧ Q (.ref p) H))
/-! ### more of what evaluates -/
section
variable {K : PySem.W.Frag} {σ : L2.St} {H : Hp} {ta tb te : TE}
theorem ev_eqI {i j : Int} (ha : Ev ta σ H (.int i)) (hb : Ev tb σ H (.int j)) : Ev (tOp rEq ta tb) σ H (.bl (decide (i = j))) := ev_is (ev_op ha hb (rv_eq rfl)) (congrArg V.bl dec_int)
theorem ev_neI {i j : Int} (ha : Ev ta σ H (.int i)) (hb : Ev tb σ H (.int j)) : Ev (tOp rNe ta tb) σ H (.bl (!decide (i = j))) := ev_is (ev_op ha hb (rv_ne rfl)) (congrArg (fun b => V.bl (!b)) dec_int)
theorem ev_eqS {i j : Str} (ha : Ev ta σ H (.str i)) (hb : Ev tb σ H (.str j)) : Ev (tOp rEq ta tb) σ H (.bl (decide (i = j))) := ev_is (ev_op ha hb (rv_eq rfl)) (congrArg V.bl dec_str)
theorem ev_neS {i j : Str} (ha : Ev ta σ H (.str i)) (hb : Ev tb σ H (.str j)) : Ev (tOp rNe ta tb) σ H (.bl (!decide (i = j))) := ev_is (ev_op ha hb (rv_ne rfl)) (congrArg (fun b => V.bl (!b)) dec_str)
theorem ev_eqB {i j : Bool} (ha : Ev ta σ H (.bl i)) (hb : Ev tb σ H (.bl j)) : Ev (tOp rEq ta tb) σ H (.bl (decide (i = j))) := ev_is (ev_op ha hb (rv_eq rfl)) (congrArg V.bl dec_bl)
theorem ev_neB {i j : Bool} (ha : Ev ta σ H (.bl i)) (hb : Ev tb σ H (.bl j)) : Ev (tOp rNe ta tb) σ H (.bl (!decide (i = j))) := ev_is (ev_op ha hb (rv_ne rfl)) (congrArg (fun b => V.bl (!b)) dec_bl)
theorem ev_bin {C : Int → Int → Prop} {g : Int → Int → V} {i j : Int} (ha : Ev ta σ H (.int i)) (hb : Ev tb σ H (.int j)) (hc : C i j) : Ev (tOp (rI C g) ta tb) σ H (g i j) := ev_op ha hb (rv_I hc)
theorem ev_bin0 {g : Int → Int → V} {i j : Int} (ha : Ev ta σ H (.int i)) (hb : Ev tb σ H (.int j)) : Ev (tOp (rI0 g) ta tb) σ H (g i j) := ev_op ha hb rv_I0
theorem ev_intI {i : Int} (h : Ev te σ H (.int i)) : Ev (tCB (fun xs H Q => (∃ i, xs = [V.int i] ∧ Q (.int i) H) ∨ ∃ k, xs = [V.bl k] ∧ Q (.int (if k = true then 1 else 0)) H) (tCons te tNil)) σ H (.int i) := fun H1 e Q q =>
  h H1 e _ fun H2 e2 => .inl ⟨i, rfl, q H2 e2⟩
theorem ev_lenS {z : Str} (h : Ev te σ H (.str z)) (hz : z.length ≤ 100000) : Ev (tCB (fun xs H Q => ∃ z, xs = [V.str z] ∧ z.length ≤ sizeLine ∧ Q (.int z.length) H) (tCons te tNil)) σ H (.int (z.length : Int)) := fun H1 e Q q =>
  h H1 e _ fun H2 e2 => ⟨z, rfl, sz_of hz, q H2 e2⟩
theorem ev_lenQ {p : Addr} {xs : List V} (ha : Ev ta σ H (.ref p)) (h : SqL K H p xs) : Ev (tCB (fun xs H Q => ∃ p ys, xs = [V.ref p] ∧ (SqL K H p ys ∨ SqT K H p ys) ∧ Q (.int ys.length) H) (tCons ta tNil)) σ H (.int (xs.length : Int)) := fun H1 e Q q =>
  ha H1 e _ fun H2 e2 => ⟨p, xs, rfl, Or.inl (ex_l (e.trans e2) h), q H2 e2⟩
theorem ev_lenT {p : Addr} {xs : List V} (ha : Ev ta σ H (.ref p)) (h : SqT K H p xs) : Ev (tCB (fun xs H Q => ∃ p ys, xs = [V.ref p] ∧ (SqL K H p ys ∨ SqT K H p ys) ∧ Q (.int ys.length) H) (tCons ta tNil)) σ H (.int (xs.length : Int)) := fun H1 e Q q =>
  ha H1 e _ fun H2 e2 => ⟨p, xs, rfl, Or.inr (ex_t (e.trans e2) h), q H2 e2⟩
theorem ev_ixL {p : Addr} {xs : List V} {i : Int} {v : V} (ha : Ev ta σ H (.ref p)) (hb : Ev tb σ H (.int i)) (h : SqL K H p xs) (hi : atI xs i = some v) : Ev (tOp (rIxL K) ta tb) σ H v := ev_op ha hb (rv_ixL h hi)
theorem ev_ixT {p : Addr} {xs : List V} {i : Int} {v : V} (ha : Ev ta σ H (.ref p)) (hb : Ev tb σ H (.int i)) (h : SqT K H p xs) (hi : atI xs i = some v) : Ev (tOp (rIxT K) ta tb) σ H v := ev_op ha hb (rv_ixT h hi)
/-- an item of a list that is written there -/
theorem ev_ixN {xs : List V} {i : Int} {v : V} (ha : EvL ta σ H xs) (hb : ∀ H1, Ex H H1 → Ev tb σ H1 (.int i)) (hi : atI xs i = some v) : Ev (tOp (rIxL K) ta tb) σ H v := ev_opL1 ha hb fun p H1 h1 _ => rv_ixL (sq_of h1) hi
theorem ev_ixS {z : Str} {i : Int} {c : Nat} (ha : Ev ta σ H (.str z)) (hb : Ev tb σ H (.int i)) (hz : z.length ≤ 100000) (hi : atI z.cps.toList i = some c) : Ev (tOp rIxS ta tb) σ H (.str ⟨#[c]⟩) := ev_op ha hb (rv_ixS hz hi)
theorem ev_addS {x y : Str} (ha : Ev ta σ H (.str x)) (hb : Ev tb σ H (.str y)) (hz : x.length + y.length ≤ 16777216) : Ev (tOp (fun x y H Q => ∃ i j, x = V.str i ∧ y = V.str j ∧ i.length + j.length ≤ sizeLine ∧ Q (.str (i ++ j)) H) ta tb) σ H (.str (x ++ y)) :=
  ev_op ha hb fun H1 _ Q q => ⟨x, y, rfl, rfl, by rw [sizeLine_eq]; exact hz, q H1 (Ex.refl H1)⟩
theorem ev_neg {i : Int} (h : Ev te σ H (.int i)) : Ev (tUn (rU fun i => .int (-i)) te) σ H (.int (-i)) := ev_un h ru_neg
theorem ev_isN {v : V} (h : Ev te σ H v) : Ev (tOp (fun x y H Q => y = .non ∧ Q (.bl (decide (x = .non))) H) te (tC .non)) σ H (.bl (decide (v = .non))) := fun H1 e Q q => h H1 e _ fun H2 e2 => ⟨rfl, q H2 e2⟩
end
section
variable {σ : L2.St} {H : Hp} {te : TE}
theorem ev_isNt (h : Ev te σ H .non) : Ev (tOp (fun x y H Q => y = .non ∧ Q (.bl (decide (x = .non))) H) te (tC .non)) σ H (.bl true) := ev_is (ev_isN h) (congrArg V.bl (decide_eq_true rfl))
theorem ev_isNf {v : V} (h : Ev te σ H v) (hv : v ≠ .non := by intro z; cases z) : Ev (tOp (fun x y H Q => y = .non ∧ Q (.bl (decide (x = .non))) H) te (tC .non)) σ H (.bl false) := ev_is (ev_isN h) (congrArg V.bl (decide_eq_false hv))
end
theorem at_nat {xs : List V} {j : Nat} {v : V} (h : xs[j]? = some v) : atI xs (j : Int) = some v := atI_nat h
theorem sizeOk {n : Nat} (h : n ≤ 16777216) : n ≤ sizeLine := by rw [sizeLine_eq]; exact h

/-! ### texts, joins, comprehensions -/
theorem str_ext {a b : Str} (h : a.cps.toList = b.cps.toList) : a = b := by
  obtain ⟨a⟩ := a
  obtain ⟨b⟩ := b
  exact congrArg Str.mk (Array.toList_inj.mp h)
/-- the join of one-sign texts -/
theorem join_signs (l : List Nat) : Txt.join (Str.ofString "") (l.map fun c => (⟨#[c]⟩ : Str)) = ⟨l.toArray⟩ := by
  rw [TL.join_eq]
  refine str_ext ?_
  have key : ∀ l : List Nat, TL.joinL [] (l.map fun c => [c]) = l := fun l => by
    induction l with
    | nil => rfl
    | cons a r ih =>
      cases r with
      | nil => rfl
      | cons b r =>
        show [a] ++ ([] ++ TL.joinL [] ((b :: r).map fun c => [c])) = a :: b :: r
        rw [ih] <;> rfl
  have h := TL.tl_join (Str.ofString "") (l.map fun c => (⟨#[c]⟩ : Str))
  have e1 : TL.tl (Str.ofString "") = [] := by decide +kernel
  rw [e1, List.map_map] at h
  exact h.trans (key l)
theorem sum_ones (l : List Nat) : ((l.map fun c => (⟨#[c]⟩ : Str)).map (·.length)).sum = l.length := by
  induction l with
  | nil => rfl
  | cons a r ih =>
    rw [List.map_cons, List.map_cons, List.sum_cons, ih, List.length_cons]
    show 1 + r.length = r.length + 1
    omega
/-- a join of a new list of texts -/
theorem ev_joinN {K : PySem.W.Frag} {σ : L2.St} {H : Hp} {to te : TE} {a : Str} {ys : List Str} (h0 : Ev to σ H (.str a)) (h : EvL te σ H (ys.map V.str)) (hz : (ys.map (·.length)).sum + ys.length * a.length ≤ 16777216) :
    Ev (tM1 (fun x xs H Q => ∃ a p, ∃ ys : List Str, x = .str a ∧ xs = [.ref p] ∧ (SqL K H p (ys.map V.str) ∨ SqT K H p (ys.map V.str)) ∧ (ys.map (·.length)).sum + ys.length * a.length ≤ 16777216 ∧ Q (.str (Txt.join a ys)) H) to te) σ H (.str (Txt.join a ys)) :=
  fun H1 e Q q => h0 H1 e _ fun H2 e2 => ⟨⟨a, rfl⟩, h H2 (e.trans e2) _ fun p H3 hp e3 hl => ⟨a, p, ys, rfl, rfl, .inl (sq_of hl), hz, q H3 (e2.trans e3)⟩⟩
theorem given_all {n : Nat} {v : Nat → V} {xs : List V} (hn : xs.length = n) (h : ∀ i, i < n → xs[i]? = some (v i)) : given n (fun _ => true) v = xs := by
  unfold given
  rw [List.filter_eq_self.mpr (fun _ _ => rfl)]
  refine List.ext_getElem? fun i => ?_
  rw [List.getElem?_map]
  by_cases hi : i < n
  · rw [List.getElem?_range hi, h i hi] <;> rfl
  · rw [List.getElem?_eq_none (by rw [List.length_range]; omega), List.getElem?_eq_none (by omega)] <;> rfl
/-- [f(x) for x in a new list of ints] -/
theorem el_mapN {K : PySem.W.Frag} {σ : L2.St} {H : Hp} {tl te : TE} {j : Nat} {vs : List Nat} {ns : List Int} {f : Int → V} (h : EvL tl σ H (ns.map V.int)) (hz : ns.length ≤ 40000) (hw : ∀ x, wipe ((wipe σ vs).set j (some x)) vs = wipe σ vs)
    (he : ∀ n ∈ ns, ∀ H1, Ex H H1 → Ev te ((wipe σ vs).set j (some (.int n))) H1 (f n)) : EvL (tLc (iList K tl) (gName j) tYes te vs) σ H (ns.map f) := by
  have g : given (ns.map V.int).length (fun _ => true) (fun i => f (ns.getD i 0)) = ns.map f := given_all (by rw [List.length_map, List.length_map]) fun i hi => by
    rw [List.length_map] at hi
    rw [List.getElem?_map, List.getElem?_eq_getElem hi, List.getD_eq_getElem?_getD, List.getElem?_eq_getElem hi] <;> rfl
  rw [← g]
  refine el_lcNL (fun _ => true) (fun i => f (ns.getD i 0)) h (by rw [List.length_map]; exact hz) hw (fun i x H1 e1 hx => ?_) (fun i x H1 e1 hx _ => ?_)
  · exact fun H2 e2 Q q => q H2 (Ex.refl H2)
  · rw [List.getElem?_map] at hx
    cases e : ns[i]? with
    | none =>
      rw [e] at hx
      cases hx
    | some n =>
      rw [e] at hx
      have ex : x = .int n := (Option.some.inj hx).symm
      rw [ex, List.getD_eq_getElem?_getD, e]
      exact he n (List.mem_of_getElem? e) H1 e1
theorem atI_of {xs : List V} {n : Int} {v : V} (h0 : 0 ≤ n) (h : xs[n.toNat]? = some v) : atI xs n = some v := by
  have e : n = ((n.toNat : Nat) : Int) := by omega
  rw [e]
  exact atI_nat (by simpa using h)
theorem at_cps {z : Str} {l : List Nat} (h : z.cps.toList = l) {n : Int} (h0 : 0 ≤ n) (h1 : n < l.length) : atI z.cps.toList n = some (l.getD n.toNat 0) := by
  rw [h]
  have e : n = ((n.toNat : Nat) : Int) := by omega
  have h3 : n.toNat < l.length := by omega
  have h4 : ixN l.length n = some n.toNat := by rw [e]; exact ixN_nat (by omega)
  unfold atI
  rw [h4]
  show l[n.toNat]? = some (l.getD n.toNat 0)
  rw [List.getElem?_eq_getElem h3, List.getD_eq_getElem?_getD, List.getElem?_eq_getElem h3]
  all_goals rfl

/-- the join of texts by their codes -/
theorem join_codes (l : List (List Nat)) : Txt.join (Str.ofString "") (l.map fun c => (⟨c.toArray⟩ : Str)) = ⟨l.flatten.toArray⟩ := by
  rw [TL.join_eq]
  refine str_ext ?_
  have key : ∀ l : List (List Nat), TL.joinL [] l = l.flatten := fun l => by
    induction l with
    | nil => rfl
    | cons a r ih =>
      cases r with
      | nil => simp [TL.joinL]
      | cons b r =>
        show a ++ ([] ++ TL.joinL [] (b :: r)) = (a :: b :: r).flatten
        rw [ih, List.nil_append]
        exact List.flatten_cons.symm
  have h := TL.tl_join (Str.ofString "") (l.map fun c => (⟨c.toArray⟩ : Str))
  have e1 : TL.tl (Str.ofString "") = [] := by decide +kernel
  have e2 : (l.map fun c => (⟨c.toArray⟩ : Str)).map TL.tl = l := by
    rw [List.map_map]
    exact List.map_id l
  rw [e1, e2] at h
  exact h.trans (key l)
theorem sum_codes (l : List (List Nat)) : ((l.map fun c => (⟨c.toArray⟩ : Str)).map (·.length)).sum = l.flatten.length := by
  induction l with
  | nil => rfl
  | cons a r ih =>
    rw [List.map_cons, List.map_cons, List.sum_cons, ih, List.flatten_cons, List.length_append] <;> rfl
/-- [f(x) for x in a tuple] -/
theorem el_mapT {K : PySem.W.Frag} {σ : L2.St} {H : Hp} {tl te : TE} {j : Nat} {vs : List Nat} {a : Addr} {xs ys : List V} (h : Ev tl σ H (.ref a)) (hx : SqT K H a xs) (hz : xs.length ≤ 40000) (hw : ∀ x, wipe ((wipe σ vs).set j (some x)) vs = wipe σ vs) (hl : ys.length = xs.length)
    (he : ∀ (i : Nat) (x y : V), xs[i]? = some x → ys[i]? = some y → ∀ H1, Ex H H1 → Ev te ((wipe σ vs).set j (some x)) H1 y) : EvL (tLc (iTup K tl) (gName j) tYes te vs) σ H ys := by
  intro H0 e Q q
  refine h H0 e _ fun H1 e1 => ⟨a, rfl, ⟨xs, ex_t (e.trans e1) hx⟩, fun Dl hD => ?_⟩
  refine lc_tup (xs := xs) (fun i H' => H1 Dl = none ∧ Ex H1 H' ∧ H' Dl = some (.lst (ys.take i))) ⟨hD, Ex.new hD, upd_same⟩ (fun i H' _ p => ex_t ((e.trans e1).trans p.2.1) hx) (fun i x H' hi p => ⟨hw x, ?_⟩) (fun H' p => ?_)
  · obtain ⟨p1, p2, p3⟩ := p
    have hi2 : i < ys.length := by
      have := (List.getElem?_eq_some_iff.mp hi).1
      omega
    have hy : ys[i]? = some ys[i] := List.getElem?_eq_getElem hi2
    show te ((wipe σ vs).set j (some x)) H' _
    refine he i x ys[i] hi hy H1 (e.trans e1) H' p2 _ fun H4 e4 => ⟨ys.take i, e4 Dl _ p3, sz_lt (by rw [List.length_take]; omega), p1, (p2.trans e4).mut p1, ?_⟩
    rw [upd_same, List.take_add_one, hy] <;> rfl
  · obtain ⟨p1, p2, p3⟩ := p
    rw [← hl, List.take_length] at p3
    exact q Dl H' (fresh_back e1 p1) (e1.trans p2) p3
/-- [f(x) for x in a list] -/
theorem el_mapL {K : PySem.W.Frag} {σ : L2.St} {H : Hp} {tl te : TE} {j : Nat} {vs : List Nat} {a : Addr} {xs ys : List V} (h : Ev tl σ H (.ref a)) (hx : SqL K H a xs) (hz : xs.length ≤ 40000) (hw : ∀ x, wipe ((wipe σ vs).set j (some x)) vs = wipe σ vs) (hl : ys.length = xs.length)
    (he : ∀ (i : Nat) (x y : V), xs[i]? = some x → ys[i]? = some y → ∀ H1, Ex H H1 → Ev te ((wipe σ vs).set j (some x)) H1 y) : EvL (tLc (iList K tl) (gName j) tYes te vs) σ H ys := by
  intro H0 e Q q
  refine h H0 e _ fun H1 e1 => ⟨a, rfl, ⟨xs, ex_l (e.trans e1) hx⟩, fun Dl hD => ?_⟩
  refine lc_list (xs := xs) (fun i H' => H1 Dl = none ∧ Ex H1 H' ∧ H' Dl = some (.lst (ys.take i))) ⟨hD, Ex.new hD, upd_same⟩ (fun i H' _ p => ex_l ((e.trans e1).trans p.2.1) hx) (fun i x H' hi p => ⟨hw x, ?_⟩) (fun H' p => ?_)
  · obtain ⟨p1, p2, p3⟩ := p
    have hi2 : i < ys.length := by
      have := (List.getElem?_eq_some_iff.mp hi).1
      omega
    have hy : ys[i]? = some ys[i] := List.getElem?_eq_getElem hi2
    show te ((wipe σ vs).set j (some x)) H' _
    refine he i x ys[i] hi hy H1 (e.trans e1) H' p2 _ fun H4 e4 => ⟨ys.take i, e4 Dl _ p3, sz_lt (by rw [List.length_take]; omega), p1, (p2.trans e4).mut p1, ?_⟩
    rw [upd_same, List.take_add_one, hy] <;> rfl
  · obtain ⟨p1, p2, p3⟩ := p
    rw [← hl, List.take_length] at p3
    exact q Dl H' (fresh_back e1 p1) (e1.trans p2) p3
/-- [f(k) for k in range(n)] -/
theorem el_mapR {σ : L2.St} {H : Hp} {ta : TA} {te : TE} {j : Nat} {vs : List Nat} {n : Nat} {ys : List V} (h : EvA ta σ H [.int (n : Int)]) (hz : n ≤ 40000) (hw : ∀ x, wipe ((wipe σ vs).set j (some x)) vs = wipe σ vs) (hl : ys.length = n)
    (he : ∀ (i : Nat) (y : V), i < n → ys[i]? = some y → ∀ H1, Ex H H1 → Ev te ((wipe σ vs).set j (some (.int (i : Int)))) H1 y) : EvL (tLc (iRng1 ta) (gName j) tYes te vs) σ H ys := by
  have g : given (n : Int).toNat (fun _ => true) (fun i => ys.getD i .non) = ys := given_all (by omega) fun i hi => by
    have hi2 : i < ys.length := by omega
    rw [List.getElem?_eq_getElem hi2, List.getD_eq_getElem?_getD, List.getElem?_eq_getElem hi2] <;> rfl
  rw [← g]
  refine el_lcR1 (fun _ => true) (fun i => ys.getD i .non) h (by omega) hw (fun i H1 e1 hi => ?_) (fun i H1 e1 hi _ => ?_)
  · exact fun H2 e2 Q q => q H2 (Ex.refl H2)
  · have hi2 : i < ys.length := by omega
    have hy : ys[i]? = some (ys.getD i .non) := by rw [List.getElem?_eq_getElem hi2, List.getD_eq_getElem?_getD, List.getElem?_eq_getElem hi2] <;> rfl
    exact he i _ (by omega) hy H1 e1
/-- for c in a text -/
theorem s_forS {σ : L2.St} {H : Hp} {te : TE} {tu : TS} {D : Ends} {j : Nat} {z : Str} (h : Ev te σ H (.str z)) (Pv : Nat → L2.St → Hp → Prop) (h0 : ∀ H1, Ex H H1 → Pv 0 σ H1)
    (hs : ∀ i c σ' H', z.cps.toList[i]? = some c → Pv i σ' H' → tu { D with nx := Pv (i + 1), ct := Pv (i + 1), bk := D.nx } (σ'.set j (some (.str ⟨#[c]⟩))) H') (hd : ∀ σ' H', Pv z.cps.toList.length σ' H' → D.nx σ' H') : tFor (iStr te) (gName j) tu D σ H := by
  refine h H (Ex.refl H) _ fun H1 e => ⟨z, rfl, fun i m σ' H' => m = z.cps.toList.length - i ∧ i ≤ z.cps.toList.length ∧ Pv i σ' H', ⟨_, rfl, Nat.zero_le _, h0 H1 e⟩, ?_⟩
  rintro i m σ' H' ⟨rfl, hi, p⟩
  by_cases hlt : i < z.cps.toList.length
  · refine .inr ⟨(by show i < z.cps.size; simpa using hlt), Pv (i + 1), fun σ2 H2 p2 => ⟨_, by omega, rfl, hlt, p2⟩, fun x H2 y => ?_⟩
    obtain ⟨rfl, c, hc, rfl⟩ := y
    exact hs i c σ' H2 (by simpa using hc) p
  · have ei : i = z.cps.toList.length := by omega
    subst ei
    exact .inl ⟨(by show z.cps.size ≤ z.cps.toList.length; simp), hd σ' H' p⟩
theorem q_forS {σ : L2.St} {H : Hp} {te : TE} {tu tz : TS} {D : Ends} {j : Nat} {z : Str} (h : Ev te σ H (.str z)) (Pv : Nat → L2.St → Hp → Prop) (h0 : ∀ H1, Ex H H1 → Pv 0 σ H1)
    (hs : ∀ i c σ' H', z.cps.toList[i]? = some c → Pv i σ' H' → tu { D with nx := Pv (i + 1), ct := Pv (i + 1), bk := tz D } (σ'.set j (some (.str ⟨#[c]⟩))) H') (hd : ∀ σ' H', Pv z.cps.toList.length σ' H' → tz D σ' H') : tSeq (tFor (iStr te) (gName j) tu) tz D σ H :=
  s_forS (D := { D with nx := tz D }) h Pv h0 hs hd
/-! ### isinstance against a built-in type; f-strings -/
theorem tyx_tup {K : PySem.W.Frag} {H : Hp} {a : Addr} {xs : List V} (h : SqT K H a xs) : TyX K H (.ref a) (.type "tuple") := by
  rcases h with (h | ⟨o, h⟩) | ⟨o, its, n, h, hc, _⟩
  · exact .base (.tup h)
  · exact .fTuple h
  · exact .kTuple h hc
theorem ev_isi {K : PySem.W.Frag} {σ : L2.St} {H : Hp} {te : TE} {x : V} {a b : String} {r : Bool} (h : Ev te σ H x) (ht : ∀ H1, Ex H H1 → TyX K H1 x (.type a)) (hk : kitB a b = some r) : Ev (tCB (rIsi K) (tCons te (tCons (tC (.ty b)) tNil))) σ H (.bl r) := fun H1 e Q q =>
  h H1 e _ fun H2 e2 => ⟨x, .ty b, .type a, .type b, r, rfl, .ty b, ht H2 (e.trans e2), kit_ty hk, q H2 e2⟩
/-- parts that evaluate to texts -/
inductive EvJ (σ : L2.St) (H : Hp) : List TE → List Str → Prop where
  | nil : EvJ σ H [] []
  | cons {t : TE} {ts : List TE} {y : Str} {ys : List Str} (h : Ev t σ H (.str y)) (r : EvJ σ H ts ys) : EvJ σ H (t :: ts) (y :: ys)
theorem evj_run {σ : L2.St} {H : Hp} {ts : List TE} {ys : List Str} (h : EvJ σ H ts ys) : ∀ (acc : Str) (H1 : Hp) (Q : Str → Hp → Prop), Ex H H1 → acc.length + (ys.map (·.length)).sum ≤ 16777216 → (∀ H2, Ex H1 H2 → Q (ys.foldl (· ++ ·) acc) H2) → tJs ts acc σ H1 Q := by
  induction h with
  | nil => exact fun acc H1 Q _ _ q => q H1 (Ex.refl H1)
  | @cons t ts y ys h r ih =>
    intro acc H1 Q e hz q
    rw [List.map_cons, List.sum_cons] at hz
    have el : (acc ++ y).length = acc.length + y.length := by
      show (acc.cps ++ y.cps).size = acc.cps.size + y.cps.size
      exact Array.size_append
    refine h H1 e _ fun H2 e2 => ⟨y, rfl, sizeOk (by rw [el]; omega), ih (acc ++ y) H2 Q (e.trans e2) (by rw [el]; omega) fun H3 e3 => q H3 (e2.trans e3)⟩
theorem ev_joined {σ : L2.St} {H : Hp} {ts : List TE} {ys : List Str} (h : EvJ σ H ts ys) (hz : (ys.map (·.length)).sum ≤ 16777216) : Ev (fun σ H Q => tJs ts Str.empty σ H fun out H1 => Q (.str out) H1) σ H (.str (ys.foldl (· ++ ·) Str.empty)) := fun H1 e Q q =>
  evj_run h Str.empty H1 _ e (by show 0 + _ ≤ _; omega) fun H2 e2 => q H2 e2
theorem ev_fmtS {σ : L2.St} {H : Hp} {te : TE} {y : Str} (h : Ev te σ H (.str y)) (hz : y.length ≤ 16777216) : Ev (tFmt te) σ H (.str y) := fun H1 e Q q => h H1 e _ fun H2 e2 => .inl ⟨y, rfl, sizeOk hz, q H2 e2⟩
theorem ev_fmtI {σ : L2.St} {H : Hp} {te : TE} {i : Int} (h : Ev te σ H (.int i)) (hz : i.natAbs.log2 < 1920) : Ev (tFmt te) σ H (.str (toString i)) := fun H1 e Q q => h H1 e _ fun H2 e2 => .inr ⟨i, rfl, hz, q H2 e2⟩
theorem ev_strI {σ : L2.St} {H : Hp} {te : TE} {i : Int} (h : Ev te σ H (.int i)) (hz : i.natAbs.log2 < 1920) : Ev (tCB (fun xs H Q => ∃ i : Int, xs = [V.int i] ∧ i.natAbs.log2 < 1920 ∧ Q (.str (toString i)) H) (tCons te tNil)) σ H (.str (toString i)) := fun H1 e Q q => h H1 e _ fun H2 e2 => ⟨i, rfl, hz, q H2 e2⟩
theorem ev_ordS {σ : L2.St} {H : Hp} {te : TE} {c : Nat} (h : Ev te σ H (.str ⟨#[c]⟩)) : Ev (tCB (fun xs H Q => ∃ x : Str, xs = [V.str x] ∧ x.length = 1 ∧ Q (.int (x.cps.getD 0 0 : Nat)) H) (tCons te tNil)) σ H (.int (c : Int)) := fun H1 e Q q => h H1 e _ fun H2 e2 => ⟨_, rfl, rfl, q H2 e2⟩
theorem ev_ends {σ : L2.St} {H : Hp} {to te : TE} {a b : Str} (h0 : Ev to σ H (.str a)) (h : Ev te σ H (.str b)) : Ev (tM1 (fun x xs H Q => ∃ a b, x = V.str a ∧ xs = [V.str b] ∧ Q (.bl (Txt.endswith a b)) H) to te) σ H (.bl (Txt.endswith a b)) := fun H1 e Q q =>
  h0 H1 e _ fun H2 e2 => ⟨⟨a, rfl⟩, h H2 (e.trans e2) _ fun H3 e3 => ⟨a, b, rfl, rfl, q H3 (e2.trans e3)⟩⟩
theorem ev_slS {σ : L2.St} {H : Hp} {te : TE} {tl th : TO} {z : Str} {lo hi : Option Int} (h : Ev te σ H (.str z)) (h1 : EvO tl σ H lo) (h2 : EvO th σ H hi) (hz : z.length ≤ 100000) : Ev (tSl rSlS te tl th) σ H (.str (cutS z lo hi)) := fun H1 e Q q =>
  h H1 e _ fun H2 e2 => h1 H2 (e.trans e2) _ fun H3 e3 => h2 H3 ((e.trans e2).trans e3) _ fun H4 e4 => ⟨z, rfl, sz_of hz, q H4 ((e2.trans e3).trans e4)⟩
/-- tuple(a new list) -/
theorem eu_ofN {K : PySem.W.Frag} {σ : L2.St} {H : Hp} {te : TE} {xs : List V} (h : EvL te σ H xs) : EvU (tCB (fun xs H Q => ∃ p ys, xs = [V.ref p] ∧ ((SqL K H p ys ∧ ∀ l, H l = none → Q (.ref l) (upd H l (.tup ys))) ∨ (SqT K H p ys ∧ Q (.ref p) H))) (tCons te tNil)) σ H xs := fun H1 e Q q =>
  h H1 e _ fun p H2 _ e2 hp => ⟨p, xs, rfl, .inl ⟨sq_of hp, fun l hl => q l _ (fresh_back e2 hl) (e2.trans (Ex.new hl)) upd_same⟩⟩
theorem eu_ofL {K : PySem.W.Frag} {σ : L2.St} {H : Hp} {te : TE} {p : Addr} {xs : List V} (h : Ev te σ H (.ref p)) (hx : SqL K H p xs) : EvU (tCB (fun xs H Q => ∃ p ys, xs = [V.ref p] ∧ ((SqL K H p ys ∧ ∀ l, H l = none → Q (.ref l) (upd H l (.tup ys))) ∨ (SqT K H p ys ∧ Q (.ref p) H))) (tCons te tNil)) σ H xs := fun H1 e Q q =>
  h H1 e _ fun H2 e2 => ⟨p, xs, rfl, .inl ⟨ex_l (e.trans e2) hx, fun l hl => q l _ (fresh_back e2 hl) (e2.trans (Ex.new hl)) upd_same⟩⟩
/-- a def that hands back a new tuple -/
def SpU (sp : Sp) (vs : List V) (H : Hp) (xs : List V) : Prop := ∀ H1, Ex H H1 → ∀ Q : VK, (∀ p H2, Ex H1 H2 → H2 p = some (.tup xs) → Q (.ref p) H2) → ∀ E : XK, sp vs H1 Q E
theorem q_callU {sp : Sp} {dvs vs xs : List V} {E : XK} {ta : TA} {σ : L2.St} {H : Hp} {tz : TS} {D : Ends} {i : Nat} (h : EvA ta σ H vs) (hs : SpU sp (vs ++ dvs) H xs) (k : ∀ p H1, Ex H H1 → H1 p = some (.tup xs) → tz D (σ.set i (some (.ref p))) H1) : tSeq (tAsg (tCall sp dvs E ta) (gName i)) tz D σ H :=
  h H (Ex.refl H) _ fun H2 e2 => hs H2 e2 _ (fun p H3 e3 hp => k p H3 (e2.trans e3) hp) E
theorem s_callU {sp : Sp} {dvs vs xs : List V} {E : XK} {ta : TA} {σ : L2.St} {H : Hp} {D : Ends} {i : Nat} (h : EvA ta σ H vs) (hs : SpU sp (vs ++ dvs) H xs) (k : ∀ p H1, Ex H H1 → H1 p = some (.tup xs) → D.nx (σ.set i (some (.ref p))) H1) : tAsg (tCall sp dvs E ta) (gName i) D σ H :=
  h H (Ex.refl H) _ fun H2 e2 => hs H2 e2 _ (fun p H3 e3 hp => k p H3 (e2.trans e3) hp) E
/-- a call whose one argument is a new tuple -/
theorem ev_callU {sp : Sp} {dvs xs : List V} {z : V} {E : XK} {te : TE} {σ : L2.St} {H : Hp} (h : EvU te σ H xs) (hs : ∀ p H1, H1 p = some (.tup xs) → Ex H H1 → SpV sp ([.ref p] ++ dvs) H1 z) : Ev (tCall sp dvs E (tCons te tNil)) σ H z := fun H1 e Q q =>
  h H1 e _ fun p H2 _ e2 hp => hs p H2 hp (e.trans e2) H2 (Ex.refl H2) Q (fun H3 e3 => q H3 (e2.trans e3)) E
/-- written tuples, one behind the other -/
def EvP (ta : TA) (σ : L2.St) (H : Hp) (xss : List (List V)) : Prop := ∀ H1, Ex H H1 → ∀ Q : List V → Hp → Prop, (∀ (ps : List Addr) H2, Ex H1 H2 → Paired (fun p xs => H2 p = some (.tup xs)) ps xss → Q (ps.map V.ref) H2) → ta σ H1 Q
theorem paired_mono {H H' : Hp} (e : Ex H H') : ∀ {ps : List Addr} {xss : List (List V)}, Paired (fun p xs => H p = some (.tup xs)) ps xss → Paired (fun p xs => H' p = some (.tup xs)) ps xss
  | _, _, .nil => .nil
  | _, _, .cons h r => .cons (e _ _ h) (paired_mono e r)
theorem ep_nil {σ : L2.St} {H : Hp} : EvP tNil σ H [] := fun H1 e Q q => q [] H1 (Ex.refl H1) .nil
theorem ep_cons {σ : L2.St} {H : Hp} {te : TE} {tr : TA} {xs : List V} {xss : List (List V)} (h : EvU te σ H xs) (r : EvP tr σ H xss) : EvP (tCons te tr) σ H (xs :: xss) := fun H1 e Q q =>
  h H1 e _ fun p H2 _ e2 hp => r H2 (e.trans e2) _ fun ps H3 e3 hr => q (p :: ps) H3 (e2.trans e3) (.cons (e3 p _ hp) hr)
theorem q_asgLP {ta : TA} {xss : List (List V)} {σ : L2.St} {H : Hp} {tz : TS} {D : Ends} {i : Nat} (h : EvP ta σ H xss) (hz : xss.length ≤ 100000) (k : ∀ p ps H1, Ex H H1 → H1 p = some (.lst (ps.map V.ref)) → Paired (fun p xs => H1 p = some (.tup xs)) ps xss → tz D (σ.set i (some (.ref p))) H1) :
    tSeq (tAsg (tLst ta) (gName i)) tz D σ H := h H (Ex.refl H) _ fun ps H1 e1 hps => by
  have el : ∀ {as : List Addr} {bs : List (List V)}, Paired (fun p xs => H1 p = some (.tup xs)) as bs → as.length = bs.length := fun h => by
    induction h with
    | nil => rfl
    | cons _ _ ih => exact congrArg (· + 1) ih
  exact ⟨sz_of (by rw [List.length_map, el hps]; exact hz), fun p hp => k p ps _ (e1.trans (Ex.new hp)) upd_same (paired_mono (Ex.new hp) hps)⟩
theorem paired_at {H : Hp} : ∀ {ps : List Addr} {xss : List (List V)}, Paired (fun p xs => H p = some (.tup xs)) ps xss → ∀ {i : Nat} {xs : List V}, xss[i]? = some xs → ∃ p, ps[i]? = some p ∧ H p = some (.tup xs)
  | _, _, .cons h _, 0, xs, e => by
    have e := Option.some.inj e
    subst e
    exact ⟨_, rfl, h⟩
  | _, _, .cons _ r, i + 1, xs, e => by
    obtain ⟨p, h1, h2⟩ := paired_at r (i := i) (by simpa using e)
    exact ⟨p, by simpa using h1, h2⟩
theorem paired_len {α β : Type} {R : α → β → Prop} : ∀ {as : List α} {bs : List β}, Paired R as bs → as.length = bs.length
  | _, _, .nil => rfl
  | _, _, .cons _ r => congrArg (· + 1) (paired_len r)
/-- a list that is tracked, and a new one behind it -/
theorem el_catV {K : PySem.W.Frag} {σ : L2.St} {H : Hp} {ta tb : TE} {p : Addr} {xs ys : List V} (ha : Ev ta σ H (.ref p)) (hp : H p = some (.lst xs)) (hb : EvL tb σ H ys) (hz : xs.length + ys.length ≤ 100000) : EvL (tOp rCat ta tb) σ H (xs ++ ys) := fun H1 e Q q =>
  ha H1 e _ fun H2 e2 => hb H2 (e.trans e2) _ fun r H3 hr e3 h3 => ⟨p, r, xs, ys, rfl, rfl, ((e.trans e2).trans e3) p _ hp, h3, sz_of hz, fun l hl => q l _ (fresh_back (e2.trans e3) hl) ((e2.trans e3).trans (Ex.new hl)) upd_same⟩
theorem codes_app {a b : Str} {x y : List Nat} (ha : a.cps.toList = x) (hb : b.cps.toList = y) : (a ++ b).cps.toList = x ++ y := by
  show (a.cps ++ b.cps).toList = x ++ y
  rw [Array.toList_append, ha, hb]
theorem str_len (z : Str) : z.length = z.cps.toList.length := by simp [Str.length]
theorem mk_of {z : Str} {l : List Nat} (h : z.cps.toList = l) : z = ⟨l.toArray⟩ := str_ext h
/-- long texts -/
theorem ev_lenB {σ : L2.St} {H : Hp} {te : TE} {z : Str} (h : Ev te σ H (.str z)) (hz : z.length ≤ 16777216) : Ev (tCB (fun xs H Q => ∃ z, xs = [V.str z] ∧ z.length ≤ sizeLine ∧ Q (.int z.length) H) (tCons te tNil)) σ H (.int (z.length : Int)) := fun H1 e Q q =>
  h H1 e _ fun H2 e2 => ⟨z, rfl, sizeOk hz, q H2 e2⟩
theorem ev_ixB {σ : L2.St} {H : Hp} {ta tb : TE} {z : Str} {i : Int} {c : Nat} (ha : Ev ta σ H (.str z)) (hb : Ev tb σ H (.int i)) (hz : z.length ≤ 16777216) (hi : atI z.cps.toList i = some c) : Ev (tOp rIxS ta tb) σ H (.str ⟨#[c]⟩) :=
  ev_op ha hb fun H1 _ _ q => ⟨z, i, c, rfl, rfl, sizeOk hz, hi, q H1 (Ex.refl H1)⟩
theorem ev_slB {σ : L2.St} {H : Hp} {te : TE} {tl th : TO} {z : Str} {lo hi : Option Int} (h : Ev te σ H (.str z)) (h1 : EvO tl σ H lo) (h2 : EvO th σ H hi) (hz : z.length ≤ 16777216) : Ev (tSl rSlS te tl th) σ H (.str (cutS z lo hi)) := fun H1 e Q q =>
  h H1 e _ fun H2 e2 => h1 H2 (e.trans e2) _ fun H3 e3 => h2 H3 ((e.trans e2).trans e3) _ fun H4 e4 => ⟨z, rfl, sizeOk hz, q H4 ((e2.trans e3).trans e4)⟩
theorem at_natS {l : List Nat} {j c : Nat} (h : l[j]? = some c) : atI l (j : Int) = some c := by
  have hj := (List.getElem?_eq_some_iff.mp h).1
  unfold atI
  rw [ixN_nat hj]
  exact h
theorem q_asgAug {σ : L2.St} {H : Hp} {te : TE} {tz : TS} {D : Ends} {i : Nat} {a b : Int} (hx : σ[i]? = some (some (.int a))) (h : Ev te σ H (.int b)) (k : ∀ H1, Ex H H1 → tz D (σ.set i (some (.int (a + b)))) H1) : tSeq (tAug i te (ipI fun i j => i + j)) tz D σ H := q_aug hx h k
theorem q_callV {sp : Sp} {dvs vs : List V} {E : XK} {ta : TA} {σ : L2.St} {H : Hp} {tz : TS} {D : Ends} {i : Nat} (h : EvA ta σ H vs) (k : ∀ H1, Ex H H1 → sp (vs ++ dvs) H1 (fun v H2 => tz D (σ.set i (some v)) H2) E) : tSeq (tAsg (tCall sp dvs E ta) (gName i)) tz D σ H := h H (Ex.refl H) _ fun H1 e1 => k H1 e1
/-! ### a small tactic: what an expression evaluates to -/
local macro_rules | `(tactic| walk_at "side") => `(tactic| first | assumption | decide | (show (0 : Int) < _; omega) | omega | (show CDivW _ _; exact ⟨by first | decide | omega, by decide⟩) | (show CPow _ _; exact ⟨by decide, by decide, by decide⟩) | (show CMulX _ _; (refine Wd.mul ?_ ?_ <;> walk_at "wd")))
local macro_rules | `(tactic| walk_at "wd") => `(tactic| first | assumption | exact Wd.lit (by decide) | exact Wd.small (by omega) (by omega) | (refine Wd.div ?_; walk_at "wd") | (refine Wd.mod ?_ ?_; (first | decide | omega); (walk_at "wd")) | (refine Wd.neg ?_; walk_at "wd"))
local macro_rules | `(tactic| walk_at "call") => `(tactic| fail "no call")
local macro_rules | `(tactic| walk_at "seq") => `(tactic| first | assumption | (refine ex_l ?_ ?_ <;> assumption) | exact sq_of (by assumption))
local macro_rules | `(tactic| walk_at "ev") => `(tactic| first
  | with_reducible exact ev_c
  | exact ev_var rfl
  | (refine ev_intI ?_; walk_at "ev")
  | (refine ev_bin0 ?_ ?_; (walk_at "ev"); (walk_at "ev"))
  | (refine ev_bin ?_ ?_ ?_; (walk_at "ev"); (walk_at "ev"); (walk_at "side"))
  | (refine ev_eqI ?_ ?_; (walk_at "ev"); (walk_at "ev"))
  | (refine ev_neI ?_ ?_; (walk_at "ev"); (walk_at "ev"))
  | (refine ev_eqS ?_ ?_; (walk_at "ev"); (walk_at "ev"))
  | (refine ev_neS ?_ ?_; (walk_at "ev"); (walk_at "ev"))
  | (refine ev_neg ?_; walk_at "ev")
  | walk_at "call")
local macro_rules | `(tactic| walk_at "et") => `(tactic| first
  | (refine et_test ?_; walk_at "ev")
  | (refine et_B ?_; walk_at "ev")
  | (refine et_not ?_; walk_at "et"))
local macro_rules | `(tactic| walk_at "ea") => `(tactic| first | exact ea_nil | (refine ea_cons ?_ ?_; (walk_at "ev"); (walk_at "ea")))


/-! ### a text times a number -/
theorem foldl_reps (a : Array Nat) : ∀ (m : Nat) (acc : Array Nat), ((List.replicate m a).foldl (· ++ ·) acc).toList = acc.toList ++ (List.replicate m a.toList).flatten
  | 0, acc => by simp
  | m + 1, acc => by
    rw [List.replicate_succ, List.replicate_succ, List.foldl_cons, foldl_reps a m (acc ++ a), Array.toList_append, List.flatten_cons, List.append_assoc]
def repC (z : Str) (n : Nat) : List Nat := (List.replicate n z.cps.toList).flatten
theorem op_repS {X : Cx} : OpR X (binaryOp .Mult) (fun x y H Q => ∃ (z : Str) (k : Int), x = V.str z ∧ y = V.int k ∧ 0 ≤ k ∧ z.length * k.toNat ≤ 16777216 ∧ k < 2 ^ 60 ∧ Q (.str ⟨(repC z k.toNat).toArray⟩) H) := by
  intro pins s σ H x y v u Q I rx ry h
  obtain ⟨z, k, rfl, rfl, h0, hz, hk, q⟩ := h
  obtain ⟨t, rfl⟩ := rx
  obtain ⟨t', rfl⟩ := ry
  have ez : z.length = z.cps.toList.length := by simp [Str.length]
  have hzi : (z.length : Int) * k ≤ 16777216 := by
    have e : ((z.length * k.toNat : Nat) : Int) = (z.length : Int) * k := by
      rw [Int.natCast_mul, Int.toNat_of_nonneg h0]
    omega
  refine PySem.P.mul_str ?_ (fun h1 _ z2 => ?_) (fun h1 _ => ?_) ?_
  · rw [decide_eq_false (by omega), decide_eq_false (by omega)] <;> rfl
  · have h3 : (z.length : Int) ≤ (2 ^ 63 - 1) / k := Int.le_ediv_of_mul_le (by omega) (by omega)
    omega
  · have : ¬ z.length * k.toNat > sizeLine := by
      rw [sizeLine_eq]
      omega
    unfold Builtin.Str.tooLong
    exact decide_eq_false this
  · have e1 : ∀ y : Str, y.cps.toList = repC z k.toNat → y = ⟨(repC z k.toNat).toArray⟩ := fun y hy => by
      obtain ⟨y⟩ := y
      exact congrArg Str.mk (Array.toList_inj.mp (hy.trans rfl))
    have er : (repC z k.toNat).length = k.toNat * z.length := by
      unfold repC
      rw [List.length_flatten, List.map_replicate, List.sum_replicate_nat, ez]
    split
    · have e2 : Str.empty = (⟨(repC z k.toNat).toArray⟩ : Str) := e1 _ (by
        have : k.toNat = 0 := by omega
        unfold repC
        rw [this] <;> rfl)
      refine ⟨by decide, ?_⟩
      rw [e2]
      exact ⟨.str ⟨(repC z k.toNat).toArray⟩, H, I.tok _, ⟨_, rfl⟩, q⟩
    · split
      · rename_i h1 h2
        have e2 : z = (⟨(repC z k.toNat).toArray⟩ : Str) := e1 _ (by
          unfold repC
          rw [Bool.or_eq_true, beq_iff_eq, beq_iff_eq] at h2
          rcases h2 with h2 | h2
          · rw [h2]
            show _ = (List.replicate 1 _).flatten
            simp
          · have : z.cps.toList = [] := List.length_eq_zero_iff.mp (by omega)
            rw [this]
            simp)
        show EP X pins σ Q _ _
        rw [← e2] at q
        exact ⟨.str z, H, I, ⟨t, rfl⟩, q⟩
      · have e2 : (⟨(List.replicate k.toNat z.cps).foldl (· ++ ·) #[]⟩ : Str) = ⟨(repC z k.toNat).toArray⟩ := e1 _ (by
          show ((List.replicate k.toNat z.cps).foldl (· ++ ·) #[]).toList = _
          rw [foldl_reps] <;> rfl)
        rw [e2]
        refine ⟨?_, ⟨.str ⟨(repC z k.toNat).toArray⟩, H, I.tok _, ⟨_, rfl⟩, q⟩⟩
        show (repC z k.toNat).toArray.size ≤ sizeLine
        rw [List.size_toArray, er, sizeLine_eq, Nat.mul_comm]
        exact hz
theorem ev_repS {σ : L2.St} {H : Hp} {ta tb : TE} {z : Str} {n : Nat} (ha : Ev ta σ H (.str z)) (hb : Ev tb σ H (.int (n : Int))) (hz : z.length * n ≤ 16777216) (hn : n ≤ 16777216) : Ev (tOp (fun x y H Q => ∃ (z : Str) (k : Int), x = V.str z ∧ y = V.int k ∧ 0 ≤ k ∧ z.length * k.toNat ≤ 16777216 ∧ k < 2 ^ 60 ∧ Q (.str ⟨(repC z k.toNat).toArray⟩) H) ta tb) σ H (.str ⟨(repC z n).toArray⟩) :=
  ev_op ha hb fun H1 _ Q q => ⟨z, n, rfl, rfl, by omega, hz, by omega, q H1 (Ex.refl H1)⟩


/-! ### items and their written form -/
inductive It where
  | non
  | int (i : Int)
  | str (z : Str)
  | tup (xs : List It)
def numC (i : Int) : List Nat := (toString i : Str).cps.toList
mutual
/-- the codes of the written item -/
def encC : It → List Nat
  | .non => [110]
  | .int i => 105 :: (numC i ++ [59])
  | .str z => 116 :: (numC (z.length : Int) ++ (58 :: z.cps.toList))
  | .tup xs => 40 :: (encL xs ++ [41])
def encL : List It → List Nat
  | [] => []
  | d :: ds => encC d ++ encL ds
end
theorem encL_flat : ∀ ds : List It, encL ds = (ds.map encC).flatten
  | [] => rfl
  | d :: ds => by
    show encC d ++ encL ds = _
    rw [encL_flat ds, List.map_cons, List.flatten_cons]
theorem encL_app : ∀ a b : List It, encL (a ++ b) = encL a ++ encL b
  | [], b => rfl
  | x :: a, b => by
    show encC x ++ encL (a ++ b) = encC x ++ encL a ++ encL b
    rw [encL_app a b, List.append_assoc]
theorem encC_pos (d : It) : 1 ≤ (encC d).length := by
  cases d with
  | non => exact Nat.le_refl 1
  | int i => show 1 ≤ (105 :: _).length; simp
  | str z => show 1 ≤ (116 :: _).length; simp
  | tup xs => show 1 ≤ (40 :: _).length; simp
theorem encL_mem : ∀ {ds : List It} {d : It}, d ∈ ds → (encC d).length ≤ (encL ds).length
  | d' :: ds, d, h => by
    show _ ≤ (encC d' ++ encL ds).length
    rw [List.length_append]
    rcases List.mem_cons.mp h with e | e
    · rw [e]; omega
    · have := encL_mem e; omega
mutual
/-- the value v of the heap is the item -/
inductive Dv (K : PySem.W.Frag) (H : Hp) : V → It → Prop
  | non : Dv K H .non .non
  | int (i : Int) : Dv K H (.int i) (.int i)
  | str (z : Str) : Dv K H (.str z) (.str z)
  | tup {a : Addr} {xs : List V} {ds : List It} (h : SqT K H a xs) (r : DvL K H xs ds) : Dv K H (.ref a) (.tup ds)
inductive DvL (K : PySem.W.Frag) (H : Hp) : List V → List It → Prop
  | nil : DvL K H [] []
  | cons {v : V} {vs : List V} {d : It} {ds : List It} (h : Dv K H v d) (r : DvL K H vs ds) : DvL K H (v :: vs) (d :: ds)
end
/-- all but lists stands as it stood -/
def ExN (H H' : Hp) : Prop := ∀ a o, H a = some o → (∀ xs, o ≠ .lst xs) → H' a = some o
theorem exN_t {K : PySem.W.Frag} {H H' : Hp} {a : Addr} {xs : List V} (e : ExN H H') (h : SqT K H a xs) : SqT K H' a xs := by
  rcases h with (h | ⟨o, h⟩) | h
  · exact .inl (.inl (e _ _ h fun _ z => nomatch z))
  · exact .inl (.inr ⟨o, e _ _ h fun _ z => nomatch z⟩)
  · exact .inr h
theorem Ex.n {H H' : Hp} (e : Ex H H') : ExN H H' := fun a o h _ => e a o h
theorem ExN.trans {H H1 H2 : Hp} (a : ExN H H1) (b : ExN H1 H2) : ExN H H2 := fun x o h n => b x o (a x o h n) n
theorem ExN.upd {H : Hp} {p : Addr} {xs : List V} {o : HO} (h : H p = some (.lst xs)) : ExN H (upd H p o) := fun a u e n => by
  rw [upd_ne (fun z => n xs (by rw [z, h] at e; exact (Option.some.inj e).symm))]
  exact e
mutual
theorem Dv.monoN {K : PySem.W.Frag} {H H' : Hp} (e : ExN H H') : ∀ {v : V} {d : It}, Dv K H v d → Dv K H' v d
  | _, _, .non => .non
  | _, _, .int i => .int i
  | _, _, .str z => .str z
  | _, _, .tup h r => .tup (exN_t e h) (DvL.monoN e r)
theorem DvL.monoN {K : PySem.W.Frag} {H H' : Hp} (e : ExN H H') : ∀ {vs : List V} {ds : List It}, DvL K H vs ds → DvL K H' vs ds
  | _, _, .nil => .nil
  | _, _, .cons h r => .cons (Dv.monoN e h) (DvL.monoN e r)
end
theorem Dv.mono {K : PySem.W.Frag} {H H' : Hp} (e : Ex H H') {v : V} {d : It} (h : Dv K H v d) : Dv K H' v d := h.monoN (Ex.n e)
theorem DvL.mono {K : PySem.W.Frag} {H H' : Hp} (e : Ex H H') {vs : List V} {ds : List It} (h : DvL K H vs ds) : DvL K H' vs ds := h.monoN (Ex.n e)
theorem DvL.app {K : PySem.W.Frag} {H : Hp} : ∀ {vs us : List V} {ds es : List It}, DvL K H vs ds → DvL K H us es → DvL K H (vs ++ us) (ds ++ es)
  | _, _, _, _, .nil, h => h
  | _, _, _, _, .cons a r, h => .cons a (r.app h)
theorem DvL.take {K : PySem.W.Frag} {H : Hp} : ∀ {vs : List V} {ds : List It} (n : Nat), DvL K H vs ds → DvL K H (vs.take n) (ds.take n)
  | _, _, 0, _ => .nil
  | _, _, _ + 1, .nil => .nil
  | _, _, n + 1, .cons a r => .cons a (r.take n)
theorem DvL.drop {K : PySem.W.Frag} {H : Hp} : ∀ {vs : List V} {ds : List It} (n : Nat), DvL K H vs ds → DvL K H (vs.drop n) (ds.drop n)
  | _, _, 0, h => h
  | _, _, _ + 1, .nil => .nil
  | _, _, n + 1, .cons _ r => r.drop n
theorem DvL.len {K : PySem.W.Frag} {H : Hp} : ∀ {vs : List V} {ds : List It}, DvL K H vs ds → vs.length = ds.length
  | _, _, .nil => rfl
  | _, _, .cons _ r => congrArg (· + 1) r.len
theorem DvL.at {K : PySem.W.Frag} {H : Hp} : ∀ {vs : List V} {ds : List It}, DvL K H vs ds → ∀ {i : Nat} {v : V} {d : It}, vs[i]? = some v → ds[i]? = some d → Dv K H v d
  | _, _, .cons h _, 0, v, d, e1, e2 => by
    have e1 := Option.some.inj e1
    have e2 := Option.some.inj e2
    subst e1 e2
    exact h
  | _, _, .cons _ r, i + 1, v, d, e1, e2 => r.at (i := i) (by simpa using e1) (by simpa using e2)
/-- depth, width and sizes -/
def It.fit : Nat → It → Prop
  | 0, x => match x with
    | .non => True
    | .int i => -(10 ^ 60) < i ∧ i < 10 ^ 60
    | .str z => z.length ≤ 999999
    | .tup _ => False
  | n + 1, x => match x with
    | .non => True
    | .int i => -(10 ^ 60) < i ∧ i < 10 ^ 60
    | .str z => z.length ≤ 999999
    | .tup xs => xs.length ≤ 1000 ∧ ∀ y ∈ xs, It.fit n y
theorem log60 {i : Int} (h : -(10 ^ 60) < i ∧ i < 10 ^ 60) : i.natAbs.log2 < 1920 := by
  have e60 : (10 : Int) ^ 60 = 1000000000000000000000000000000000000000000000000000000000000 := by decide
  rw [e60] at h
  exact Nat.lt_of_lt_of_le (PySem.Flt.log2_lt_of (k := 256) (by decide) (by omega)) (by decide)
theorem fit_int60 {n : Nat} {i : Int} (h : It.fit n (.int i)) : -(10 ^ 60) < i ∧ i < 10 ^ 60 := by cases n <;> exact h
theorem fit_int {n : Nat} {i : Int} (h : It.fit n (.int i)) : i.natAbs.log2 < 1920 := log60 (fit_int60 h)
theorem fit_str {n : Nat} {z : Str} (h : It.fit n (.str z)) : z.length ≤ 999999 := by cases n <;> exact h
theorem It.fit_mono : ∀ {n m : Nat} {d : It}, It.fit n d → n ≤ m → It.fit m d
  | n, m, .non, _, _ => by cases m <;> trivial
  | n, m, .int i, h, _ => by
    have := fit_int60 h
    cases m <;> exact this
  | n, m, .str z, h, _ => by
    have := fit_str h
    cases m <;> exact this
  | 0, m, .tup xs, h, _ => h.elim
  | n + 1, 0, .tup xs, h, e => by omega
  | n + 1, m + 1, .tup xs, h, e => ⟨h.1, fun y hy => It.fit_mono (h.2 y hy) (by omega)⟩
def spEnc (K : PySem.W.Frag) (n : Nat) : Sp := fun vs H Q _ => ∃ (v : V) (d : It), vs = [v] ∧ Dv K H v d ∧ d.fit n ∧ (encC d).length ≤ 16000000 ∧ ∀ H', Ex H H' → Q (.str ⟨(encC d).toArray⟩) H'
theorem cv_enc {K : PySem.W.Frag} {n : Nat} {v : V} {d : It} {H : Hp} (h : Dv K H v d) (hf : d.fit n) (hz : (encC d).length ≤ 16000000) : SpV (spEnc K n) [v] H (.str ⟨(encC d).toArray⟩) := fun H1 e Q q E => ⟨v, d, rfl, h.mono e, hf, hz, fun H2 e2 => q H2 e2⟩
/-- '(' + ''.join([f(part) for part in item]) + ')' -/
theorem ev_parts {K : PySem.W.Frag} {σ : L2.St} {H : Hp} {te tl : TE} {j : Nat} {vs : List Nat} {a : Addr} {xs : List V} {ds : List It} {n : Nat} (hl : Ev tl σ H (.ref a)) (h : SqT K H a xs) (r : DvL K H xs ds) (hf : It.fit (n + 1) (.tup ds)) (hz : (encC (.tup ds)).length ≤ 16000000)
    (hw : ∀ x, wipe ((wipe σ vs).set j (some x)) vs = wipe σ vs)
    (he : ∀ (x : V) (d : It) H1, Ex H H1 → Dv K H1 x d → d.fit n → (encC d).length ≤ 16000000 → Ev te ((wipe σ vs).set j (some x)) H1 (.str ⟨(encC d).toArray⟩)) :
    Ev (tOp (fun x y H Q => ∃ i j, x = V.str i ∧ y = V.str j ∧ i.length + j.length ≤ sizeLine ∧ Q (.str (i ++ j)) H) (tOp (fun x y H Q => ∃ i j, x = V.str i ∧ y = V.str j ∧ i.length + j.length ≤ sizeLine ∧ Q (.str (i ++ j)) H) (tC (.str (Str.ofString "(")))
      (tM1 (fun x xs H Q => ∃ a p, ∃ ys : List Str, x = .str a ∧ xs = [.ref p] ∧ (SqL K H p (ys.map V.str) ∨ SqT K H p (ys.map V.str)) ∧ (ys.map (·.length)).sum + ys.length * a.length ≤ 16777216 ∧ Q (.str (Txt.join a ys)) H) (tC (.str (Str.ofString ""))) (tLc (iTup K tl) (gName j) tYes te vs)))
      (tC (.str (Str.ofString ")")))) σ H (.str ⟨(encC (.tup ds)).toArray⟩) := by
  have ez : (encC (.tup ds)).length = (encL ds).length + 2 := by
    show (40 :: (encL ds ++ [41])).length = _
    rw [List.length_cons, List.length_append] <;> rfl
  have ef : (encL ds) = (ds.map encC).flatten := encL_flat ds
  have ej : Txt.join (Str.ofString "") ((ds.map encC).map fun c => (⟨c.toArray⟩ : Str)) = ⟨(encL ds).toArray⟩ := by rw [join_codes, ef]
  have e1 : (⟨(encC (.tup ds)).toArray⟩ : Str) = Str.ofString "(" ++ Txt.join (Str.ofString "") ((ds.map encC).map fun c => (⟨c.toArray⟩ : Str)) ++ Str.ofString ")" := by
    refine str_ext ?_
    rw [ej]
    have a1 : (Str.ofString "(").cps.toList = [40] := by decide +kernel
    have a2 : (Str.ofString ")").cps.toList = [41] := by decide +kernel
    rw [codes_app (codes_app a1 rfl) a2]
    show 40 :: (encL ds ++ [41]) = _
    simp
  rw [e1]
  have l1 : (Str.ofString "(").length = 1 := by decide +kernel
  have l2 : (Str.ofString ")").length = 1 := by decide +kernel
  have l3 : (Str.ofString "(" ++ Txt.join (Str.ofString "") ((ds.map encC).map fun c => (⟨c.toArray⟩ : Str))).length = 1 + (encL ds).length := by
    rw [ej, str_len, codes_app (x := [40]) (by decide +kernel) rfl, List.length_append]
    simp
  have l4 : (Txt.join (Str.ofString "") ((ds.map encC).map fun c => (⟨c.toArray⟩ : Str))).length = (encL ds).length := by
    rw [ej, str_len]
  refine ev_addS (ev_addS ev_c (ev_joinN (K := K) ev_c (el_mapT (K := K) hl h ?_ hw ?_ fun i x y hx hy H1 ex => ?_) ?_) ?_) ev_c ?_
  · have := hf.1
    rw [r.len]; omega
  · rw [List.length_map, List.length_map, List.length_map, r.len]
  · rw [List.getElem?_map, List.getElem?_map, List.getElem?_map] at hy
    cases e : ds[i]? with
    | none =>
      rw [e] at hy
      cases hy
    | some d =>
      rw [e] at hy
      have ey : y = .str ⟨(encC d).toArray⟩ := (Option.some.inj hy).symm
      have hm := List.mem_of_getElem? e
      rw [ey]
      have := encL_mem hm
      exact he x d H1 ex ((r.at hx e).mono ex) (hf.2 d hm) (by omega)
  · rw [sum_codes, ← ef]
    show _ + _ * 0 ≤ 16777216
    omega
  · rw [l1, l4]; omega
  · rw [l3, l2]; omega
/-- return f'i{item};' -/
theorem enc_int {n : Nat} {i : Int} {σ : L2.St} {H : Hp} {D : Ends} (hf : It.fit n (.int i)) (hz : (encC (.int i)).length ≤ 16000000) (q : ∀ H1, Ex H H1 → D.rt (.str ⟨(encC (.int i)).toArray⟩) H1) {te : TE} (he : Ev te σ H (.int i) := by exact ev_var rfl) :
    tRet (fun σ H Q => tJs [tC (.str (Str.ofString "i")), tFmt te, tC (.str (Str.ofString ";"))] Str.empty σ H fun out H1 => Q (.str out) H1) D σ H := by
  have a1 : (Str.ofString "i").cps.toList = [105] := by decide +kernel
  have a2 : (Str.ofString ";").cps.toList = [59] := by decide +kernel
  have a0 : (Str.empty).cps.toList = [] := by decide +kernel
  have ey : ([Str.ofString "i", (toString i : Str), Str.ofString ";"].foldl (· ++ ·) Str.empty : Str) = ⟨(encC (.int i)).toArray⟩ := mk_of (by
    show (((Str.empty ++ Str.ofString "i") ++ (toString i : Str)) ++ Str.ofString ";").cps.toList = _
    rw [codes_app (codes_app (codes_app a0 a1) rfl) a2]
    show _ = 105 :: (numC i ++ [59])
    simp [numC])
  refine s_ret (ev_is (ev_joined (.cons ev_c (.cons (ev_fmtI he (fit_int hf)) (.cons ev_c .nil))) ?_) (congrArg V.str ey)) q
  have e1 : (encC (.int i)).length = 2 + (numC i).length := by
    show (105 :: (numC i ++ [59])).length = _
    rw [List.length_cons, List.length_append, List.length_singleton]
    omega
  have e2 : ([Str.ofString "i", (toString i : Str), Str.ofString ";"].map (·.length)).sum = 1 + ((numC i).length + (1 + 0)) := by
    show (Str.ofString "i").length + ((toString i : Str).length + ((Str.ofString ";").length + 0)) = _
    rw [str_len, str_len, str_len, a1, a2] <;> rfl
  omega
/-- return f't{len(item)}:{item}' -/
theorem enc_str {n : Nat} {z : Str} {σ : L2.St} {H : Hp} {D : Ends} (hf : It.fit n (.str z)) (hz : (encC (.str z)).length ≤ 16000000) (q : ∀ H1, Ex H H1 → D.rt (.str ⟨(encC (.str z)).toArray⟩) H1) {te : TE} (he : Ev te σ H (.str z) := by exact ev_var rfl) :
    tRet (fun σ H Q => tJs [tC (.str (Str.ofString "t")), tFmt (tCB (fun xs H Q => ∃ z, xs = [V.str z] ∧ z.length ≤ sizeLine ∧ Q (.int z.length) H) (tCons te tNil)), tC (.str (Str.ofString ":")), tFmt te] Str.empty σ H fun out H1 => Q (.str out) H1) D σ H := by
  have a1 : (Str.ofString "t").cps.toList = [116] := by decide +kernel
  have a2 : (Str.ofString ":").cps.toList = [58] := by decide +kernel
  have a0 : (Str.empty).cps.toList = [] := by decide +kernel
  have hl := fit_str hf
  have hl2 : z.length ≤ sizeLine := sizeOk (by omega)
  have hs : ((z.length : Int)).natAbs.log2 < 1920 := Nat.lt_of_lt_of_le (PySem.Flt.log2_lt_of (k := 64) (by decide) (by omega)) (by decide)
  have ey : ([Str.ofString "t", (toString (z.length : Int) : Str), Str.ofString ":", z].foldl (· ++ ·) Str.empty : Str) = ⟨(encC (.str z)).toArray⟩ := mk_of (by
    show ((((Str.empty ++ Str.ofString "t") ++ (toString (z.length : Int) : Str)) ++ Str.ofString ":") ++ z).cps.toList = _
    rw [codes_app (codes_app (codes_app (codes_app a0 a1) rfl) a2) rfl]
    show _ = 116 :: (numC (z.length : Int) ++ (58 :: z.cps.toList))
    simp [numC])
  refine s_ret (ev_is (ev_joined (.cons ev_c (.cons (ev_fmtI (fun H1 e Q q => he H1 e _ fun H2 e2 => ⟨z, rfl, hl2, q H2 e2⟩) hs) (.cons ev_c (.cons (ev_fmtS he (by omega)) .nil)))) ?_) (congrArg V.str ey)) q
  have e1 : (encC (.str z)).length = 2 + (numC (z.length : Int)).length + z.cps.toList.length := by
    show (116 :: (numC (z.length : Int) ++ (58 :: z.cps.toList))).length = _
    rw [List.length_cons, List.length_append, List.length_cons]
    omega
  have e2 : ([Str.ofString "t", (toString (z.length : Int) : Str), Str.ofString ":", z].map (·.length)).sum = 1 + ((numC (z.length : Int)).length + (1 + (z.cps.toList.length + 0))) := by
    show (Str.ofString "t").length + ((toString (z.length : Int) : Str).length + ((Str.ofString ":").length + (z.length + 0))) = _
    rw [str_len, str_len (toString _ : Str), str_len (Str.ofString ":"), str_len z, a1, a2] <;> rfl
  omega

def rCatS' : R2 := fun x y H Q => ∃ i j, x = V.str i ∧ y = V.str j ∧ i.length + j.length ≤ sizeLine ∧ Q (.str (i ++ j)) H
/-- return 'i' + str(item) + ';' -/
theorem wr_int {n : Nat} {i : Int} {σ : L2.St} {H : Hp} {D : Ends} (hf : It.fit n (.int i)) (hz : (encC (.int i)).length ≤ 16000000) (q : ∀ H1, Ex H H1 → D.rt (.str ⟨(encC (.int i)).toArray⟩) H1) {te : TE} (he : Ev te σ H (.int i) := by exact ev_var rfl) :
    tRet (tOp rCatS' (tOp rCatS' (tC (.str (Str.ofString "i"))) (tCB (fun xs H Q => ∃ i : Int, xs = [V.int i] ∧ i.natAbs.log2 < 1920 ∧ Q (.str (toString i)) H) (tCons te tNil))) (tC (.str (Str.ofString ";")))) D σ H := by
  have a1 : (Str.ofString "i").cps.toList = [105] := by decide +kernel
  have a2 : (Str.ofString ";").cps.toList = [59] := by decide +kernel
  have ey : ((Str.ofString "i" ++ (toString i : Str)) ++ Str.ofString ";") = (⟨(encC (.int i)).toArray⟩ : Str) := mk_of (by
    rw [codes_app (codes_app a1 rfl) a2]
    show _ = 105 :: (numC i ++ [59])
    simp [numC])
  have e1 : (encC (.int i)).length = 2 + (numC i).length := by
    show (105 :: (numC i ++ [59])).length = _
    rw [List.length_cons, List.length_append, List.length_singleton]
    omega
  have e3 : (toString i : Str).length = (numC i).length := str_len _
  have e2 : (Str.ofString "i" ++ (toString i : Str)).length = 1 + (numC i).length := by
    rw [str_len, codes_app a1 rfl, List.length_append] <;> rfl
  have l1 : (Str.ofString "i").length = 1 := by decide +kernel
  have l2 : (Str.ofString ";").length = 1 := by decide +kernel
  refine s_ret (ev_is (ev_addS (ev_addS ev_c (ev_strI he (fit_int hf)) ?_) ev_c ?_) (congrArg V.str ey)) q
  · rw [l1, e3]; omega
  · rw [e2, l2]; omega
/-- return 't' + str(len(item)) + ':' + item -/
theorem wr_str {n : Nat} {z : Str} {σ : L2.St} {H : Hp} {D : Ends} (hf : It.fit n (.str z)) (hz : (encC (.str z)).length ≤ 16000000) (q : ∀ H1, Ex H H1 → D.rt (.str ⟨(encC (.str z)).toArray⟩) H1) {te : TE} (he : Ev te σ H (.str z) := by exact ev_var rfl) :
    tRet (tOp rCatS' (tOp rCatS' (tOp rCatS' (tC (.str (Str.ofString "t"))) (tCB (fun xs H Q => ∃ i : Int, xs = [V.int i] ∧ i.natAbs.log2 < 1920 ∧ Q (.str (toString i)) H) (tCons (tCB (fun xs H Q => ∃ z, xs = [V.str z] ∧ z.length ≤ sizeLine ∧ Q (.int z.length) H) (tCons te tNil)) tNil))) (tC (.str (Str.ofString ":")))) te) D σ H := by
  have a1 : (Str.ofString "t").cps.toList = [116] := by decide +kernel
  have a2 : (Str.ofString ":").cps.toList = [58] := by decide +kernel
  have hl := fit_str hf
  have hl2 : z.length ≤ sizeLine := sizeOk (by omega)
  have hs : ((z.length : Int)).natAbs.log2 < 1920 := Nat.lt_of_lt_of_le (PySem.Flt.log2_lt_of (k := 64) (by decide) (by omega)) (by decide)
  have ey : (((Str.ofString "t" ++ (toString (z.length : Int) : Str)) ++ Str.ofString ":") ++ z) = (⟨(encC (.str z)).toArray⟩ : Str) := mk_of (by
    rw [codes_app (codes_app (codes_app a1 rfl) a2) rfl]
    show _ = 116 :: (numC (z.length : Int) ++ (58 :: z.cps.toList))
    simp [numC])
  have e1 : (encC (.str z)).length = 2 + (numC (z.length : Int)).length + z.cps.toList.length := by
    show (116 :: (numC (z.length : Int) ++ (58 :: z.cps.toList))).length = _
    rw [List.length_cons, List.length_append, List.length_cons]
    omega
  have e3 : (toString (z.length : Int) : Str).length = (numC (z.length : Int)).length := str_len _
  have e2 : (Str.ofString "t" ++ (toString (z.length : Int) : Str)).length = 1 + (numC (z.length : Int)).length := by
    rw [str_len, codes_app a1 rfl, List.length_append] <;> rfl
  have e4 : ((Str.ofString "t" ++ (toString (z.length : Int) : Str)) ++ Str.ofString ":").length = 2 + (numC (z.length : Int)).length := by
    rw [str_len, codes_app (codes_app a1 rfl) a2, List.length_append, List.length_append]
    show 1 + _ + 1 = _
    unfold numC
    omega
  have l1 : (Str.ofString "t").length = 1 := by decide +kernel
  have l2 : (Str.ofString ":").length = 1 := by decide +kernel
  have l4 := str_len z
  refine s_ret (ev_is (ev_addS (ev_addS (ev_addS ev_c (ev_strI (fun H1 e Q q => he H1 e _ fun H2 e2 => ⟨z, rfl, hl2, q H2 e2⟩) hs) ?_) ev_c ?_) he ?_) (congrArg V.str ey)) q
  · rw [l1, e3]; omega
  · rw [e2, l2]; omega
  · rw [e4]; omega
/-! ### sizes -/
theorem numC_len {i : Int} (h : i.natAbs.log2 < 1920) : (numC i).length ≤ 1921 := by
  have e := int_text_length_le (k := 1920) (by decide) h
  have e2 : (numC i).length = (toString i : Str).length := (str_len _).symm
  rw [e2]
  show (Str.ofString (toString i)).length ≤ 1921
  rw [PySem.ofString_length]
  exact e
theorem enc_int_len {i : Int} (h : i.natAbs.log2 < 1920) : (encC (.int i)).length ≤ 1923 := by
  have := numC_len h
  show (105 :: (numC i ++ [59])).length ≤ _
  rw [List.length_cons, List.length_append, List.length_singleton]
  omega
theorem enc_str_len {z : Str} (h : z.length ≤ 1000000) : (encC (.str z)).length ≤ 1923 + z.length := by
  have hs : ((z.length : Int)).natAbs.log2 < 1920 := Nat.lt_of_lt_of_le (PySem.Flt.log2_lt_of (k := 64) (by decide) (by omega)) (by decide)
  have := numC_len hs
  have e := str_len z
  show (116 :: (numC (z.length : Int) ++ (58 :: z.cps.toList))).length ≤ _
  rw [List.length_cons, List.length_append, List.length_cons]
  omega
/-- a value of the document: None, an int below 10 ** 60, a text of some signs -/
def It.sc : It → Prop
  | .non => True
  | .int i => -(10 ^ 60) < i ∧ i < 10 ^ 60
  | .str z => z.length ≤ 200
  | .tup _ => False
def vz : It → V
  | .non => .non
  | .int i => .int i
  | .str z => .str z
  | .tup _ => .non
theorem It.sc_fit {d : It} (h : d.sc) (n : Nat) : d.fit n := by
  cases d with
  | non => cases n <;> trivial
  | int i => cases n <;> exact h
  | str z =>
    have h : z.length ≤ 200 := h
    cases n <;> (show z.length ≤ 999999; omega)
  | tup xs => exact h.elim
theorem It.sc_len {d : It} (h : d.sc) : (encC d).length ≤ 2200 := by
  cases d with
  | non => show 1 ≤ 2200; decide
  | int i => exact Nat.le_trans (enc_int_len (log60 h)) (by decide)
  | str z =>
    have h : z.length ≤ 200 := h
    have := enc_str_len (z := z) (by omega)
    omega
  | tup xs => exact h.elim
theorem Dv.sc {K : PySem.W.Frag} {H : Hp} {d : It} (h : d.sc) : Dv K H (vz d) d := by
  cases d with
  | non => exact .non
  | int i => exact .int i
  | str z => exact .str z
  | tup xs => exact h.elim
theorem DvL.sc {K : PySem.W.Frag} {H : Hp} : ∀ {ds : List It}, (∀ d ∈ ds, d.sc) → DvL K H (ds.map vz) ds
  | [], _ => .nil
  | d :: ds, h => .cons (.sc (h d (List.mem_cons_self ..))) (.sc fun x hx => h x (List.mem_cons_of_mem _ hx))
theorem encL_len : ∀ {ds : List It} {m : Nat}, (∀ d ∈ ds, (encC d).length ≤ m) → (encL ds).length ≤ ds.length * m
  | [], m, _ => Nat.zero_le _
  | d :: ds, m, h => by
    have h1 := h d (List.mem_cons_self ..)
    have h2 := encL_len (ds := ds) (m := m) fun x hx => h x (List.mem_cons_of_mem _ hx)
    show (encC d ++ encL ds).length ≤ (ds.length + 1) * m
    rw [List.length_append, Nat.add_mul]
    omega
theorem enc_tup_len (ds : List It) : (encC (.tup ds)).length = (encL ds).length + 2 := by
  show (40 :: (encL ds ++ [41])).length = _
  rw [List.length_cons, List.length_append] <;> rfl


/-- the digest -/
def digS (t : Int) (c : Nat) : Int := (31 * t + (c : Int)) % 1000003
def digZ (l : List Nat) : Int := l.foldl digS 7
theorem digZ_succ {l : List Nat} {i c : Nat} (h : l[i]? = some c) : digZ (l.take (i + 1)) = (31 * digZ (l.take i) + (c : Int)) % 1000003 := by
  unfold digZ
  rw [List.take_add_one, h]
  show ((l.take i) ++ [c]).foldl digS 7 = _
  rw [List.foldl_append] <;> rfl
theorem digZ_ge : ∀ (l : List Nat), 0 ≤ digZ l ∧ digZ l < 1000003 := by
  intro l
  unfold digZ
  have key : ∀ (l : List Nat) (t : Int), 0 ≤ t ∧ t < 1000003 → 0 ≤ l.foldl digS t ∧ l.foldl digS t < 1000003 := by
    intro l
    induction l with
    | nil => exact fun t h => h
    | cons a r ih => exact fun t _ => ih (digS t a) ⟨Int.emod_nonneg (31 * t + (a : Int)) (by decide : (1000003 : Int) ≠ 0), Int.emod_lt_of_pos (31 * t + (a : Int)) (by decide : (0 : Int) < 1000003)⟩
  exact key l 7 ⟨by decide, by decide⟩
def spDig : Sp := fun vs H Q _ => ∃ z : Str, vs = [.str z] ∧ ∀ H', Ex H H' → Q (.int (digZ z.cps.toList)) H'
theorem cv_dig {z : Str} {H : Hp} : SpV spDig [.str z] H (.int (digZ z.cps.toList)) := fun H1 e Q q E => ⟨z, rfl, fun H2 e2 => q H2 e2⟩


/-! ### what is read back -/
theorem numC_nat (n : Nat) : numC ((n : Nat) : Int) = TL.numL n := TL.tl_num n
theorem neg_text (n : Nat) : (toString (Int.negSucc n) : String) = "-" ++ toString ((n + 1 : Nat) : Int) := rfl
theorem ofString_app (a b : String) : Str.ofString (a ++ b) = Str.ofString a ++ Str.ofString b := by
  refine str_ext ?_
  rw [codes_app (signs_ofString a) (signs_ofString b), signs_ofString, String.toList_append, List.map_append]
theorem numC_neg (n : Nat) : numC (Int.negSucc n) = 45 :: TL.numL (n + 1) := by
  show (Str.ofString (toString (Int.negSucc n))).cps.toList = _
  rw [neg_text, ofString_app, codes_app (x := [45]) (by decide +kernel) rfl]
  exact congrArg (List.cons 45) (numC_nat (n + 1))
/-- digits without a leading zero -/
structure Digs (ds : List Nat) (most : Nat) : Prop where
  all : ∀ c ∈ ds, 48 ≤ c ∧ c ≤ 57
  ne : ds ≠ []
  len : ds.length ≤ most
  lead : ds.length = 1 ∨ ds.head? ≠ some 48
theorem numL_head : ∀ n : Nat, (TL.numL n).length = 1 ∨ (TL.numL n).head? ≠ some 48 := by
  intro n
  induction n using Nat.strongRecOn with
  | _ n ih =>
    by_cases h : n < 10
    · exact .inl (by rw [TL.numL_lt h] <;> rfl)
    · refine .inr ?_
      have h10 : 10 ≤ n := by omega
      rw [TL.numL_step h10]
      have hne := TL.numL_ne (n / 10)
      cases e : TL.numL (n / 10) with
      | nil => exact absurd e hne
      | cons c r =>
        show some c ≠ some 48
        rcases ih (n / 10) (by omega) with h1 | h1
        · rw [e] at h1
          have hr : r = [] := List.length_eq_zero_iff.mp (by simpa using h1)
          subst hr
          have hq : n / 10 < 10 := by
            by_cases hq : n / 10 < 10
            · exact hq
            · rw [TL.numL_step (by omega)] at e
              have := congrArg List.length e
              have h3 := List.length_pos_iff.mpr (TL.numL_ne (n / 10 / 10))
              rw [List.length_append, List.length_singleton, List.length_singleton] at this
              omega
          rw [TL.numL_lt hq] at e
          have e2 : 48 + n / 10 = c := by simpa using e
          intro z
          have := Option.some.inj z
          omega
        · rw [e] at h1
          exact h1
theorem digs_num {n most : Nat} (hm : 0 < most) (h : n < 10 ^ most) : Digs (TL.numL n) most := ⟨TL.numL_digits n, TL.numL_ne n, TL.numL_len hm h, numL_head n⟩
theorem slice_app {l a b c : List Nat} (h : l = a ++ (b ++ c)) : (l.drop a.length).take b.length = b := by
  rw [h, List.drop_left, List.take_left]
/-- text[i:j] of a text that is known there -/
theorem cutS_at {z : Str} {a b c : List Nat} (h : z.cps.toList = a ++ (b ++ c)) : cutS z (some (a.length : Int)) (some ((a.length + b.length : Nat) : Int)) = ⟨b.toArray⟩ := by
  have el : z.length = a.length + (b.length + c.length) := by rw [str_len, h, List.length_append, List.length_append]
  unfold cutS
  rw [HT.sIx_nat, HT.sIx_nat, Nat.min_eq_left (by omega), Nat.min_eq_left (by omega), Nat.add_sub_cancel_left, slice_app h]
theorem int_at {i : Int} (h : -(10 ^ 60) < i ∧ i < 10 ^ 60) : intText? (⟨(numC i).toArray⟩ : Str) = some i ∧ (⟨(numC i).toArray⟩ : Str).length ≤ 640 := by
  have e60 : (10 : Int) ^ 60 = 1000000000000000000000000000000000000000000000000000000000000 := by decide
  have n60 : (10 : Nat) ^ 60 = 1000000000000000000000000000000000000000000000000000000000000 := by decide
  rw [e60] at h
  cases i with
  | ofNat n =>
    have hn : n < 10 ^ 60 := by
      rw [n60]
      have := h.2
      simp at this
      omega
    have hl := TL.numL_len (by decide) hn
    have e : (⟨(numC (Int.ofNat n)).toArray⟩ : Str) = Str.ofString (toString ((n : Nat) : Int)) := str_ext rfl
    refine ⟨?_, ?_⟩
    · rw [e]
      exact TL.int_num (by omega)
    · rw [str_len]
      show (numC ((n : Nat) : Int)).length ≤ 640
      rw [numC_nat]
      omega
  | negSucc n =>
    have hn : n + 1 < 10 ^ 60 := by
      rw [n60]
      have := h.1
      omega
    have hl := TL.numL_len (by decide) hn
    have ec : (⟨(numC (Int.negSucc n)).toArray⟩ : Str).cps.toList = 45 :: TL.numL (n + 1) := numC_neg n
    have ln : (⟨(numC (Int.negSucc n)).toArray⟩ : Str).length = (TL.numL (n + 1)).length + 1 := by rw [str_len, ec] <;> rfl
    refine ⟨?_, by omega⟩
    have := PySem.intText_neg ec (TL.numL_digits _) (TL.numL_ne _) (by omega)
    rw [TL.numL_val] at this
    rw [this]
    exact congrArg some (by omega)
/-! ### a chain of two comparisons of texts -/
theorem le_str1 (a c : Nat) : (!decide ((⟨#[c]⟩ : Str).cps.toList < (⟨#[a]⟩ : Str).cps.toList)) = decide (a ≤ c) := by
  have e : ((⟨#[c]⟩ : Str).cps.toList < (⟨#[a]⟩ : Str).cps.toList) ↔ c < a := by
    show ([c] : List Nat) < [a] ↔ c < a
    constructor
    · intro h
      cases h with
      | rel h => exact h
      | cons h => cases h
    · intro h
      exact List.Lex.rel h
  by_cases h : c < a
  · rw [decide_eq_true (e.mpr h), decide_eq_false (by omega)] <;> rfl
  · rw [decide_eq_false (fun z => h (e.mp z)), decide_eq_true (by omega)] <;> rfl
abbrev rLeS : R2 := fun x y H Q => ∃ i j, x = .str i ∧ y = .str j ∧ Q (.bl (!decide (j.cps.toList < i.cps.toList))) H
theorem et_dig {σ : L2.St} {H : Hp} {tb : TE} {c : Nat} (hb : Ev tb σ H (.str ⟨#[c]⟩)) : EvT (tTest (tChain rLeS rLeS (tC (.str (Str.ofString "0"))) tb (tC (.str (Str.ofString "9"))))) σ H (decide (48 ≤ c ∧ c ≤ 57)) := fun H1 e Q q => by
  have e0 : (Str.ofString "0") = ⟨#[48]⟩ := by decide +kernel
  have e9 : (Str.ofString "9") = ⟨#[57]⟩ := by decide +kernel
  refine hb H1 e _ fun H2 e2 => ⟨_, _, rfl, rfl, decide (48 ≤ c), ?_, ?_⟩
  · rw [e0]
    exact congrArg V.bl (le_str1 48 c)
  · by_cases h : 48 ≤ c
    · rw [decide_eq_true h]
      refine iteT ⟨_, _, rfl, rfl, decide (c ≤ 57), ?_, ?_⟩
      · rw [e9]
        exact congrArg V.bl (le_str1 c 57)
      · have : decide (48 ≤ c ∧ c ≤ 57) = decide (c ≤ 57) := decide_eq_decide.mpr ⟨fun z => z.2, fun z => ⟨h, z⟩⟩
        rw [← this]
        exact q H2 e2
    · rw [decide_eq_false h]
      refine iteF ⟨false, rfl, ?_⟩
      have : decide (48 ≤ c ∧ c ≤ 57) = false := decide_eq_false fun z => h z.1
      rw [← this]
      exact q H2 e2
theorem str1_eq {a c : Nat} : decide ((⟨#[c]⟩ : Str) = ⟨#[a]⟩) = decide (c = a) := decide_eq_decide.mpr ⟨fun h => by
  have := congrArg (fun s : Str => s.cps.toList) h
  simpa using this, fun h => by rw [h]⟩
def spDec (K : PySem.W.Frag) : Sp := fun vs H Q _ => ∃ (z : Str) (d : It), vs = [.str z] ∧ z = ⟨(encC d).toArray⟩ ∧ d.fit 12 ∧ (encC d).length ≤ 16000000 ∧ ∀ v H', Ex H H' → Dv K H' v d → Q v H'


/-! ### kinds -/
def kIn (k : Str) (xs : List String) : Bool := inV (.str k) (xs.map fun x => V.str (Str.ofString x))
def baseT (k : Str) : Str := if kIn k ["int", "int?"] then Str.ofString "int" else Str.ofString "text"
theorem ev_kinU {K : PySem.W.Frag} {σ : L2.St} {H : Hp} {ta tb : TE} {k : Str} {xs : List String} (ha : Ev ta σ H (.str k)) (hb : EvU tb σ H (xs.map fun x => V.str (Str.ofString x))) (hf : (xs.map fun x => V.str (Str.ofString x)).all flatV = true := by rfl) : Ev (tOp (rIn K false) ta tb) σ H (.bl (kIn k xs)) := ev_inU ha hb rfl hf
theorem ev_kinL {K : PySem.W.Frag} {σ : L2.St} {H : Hp} {ta tb : TE} {k : Str} {xs : List String} (ha : Ev ta σ H (.str k)) (hb : EvL tb σ H (xs.map fun x => V.str (Str.ofString x))) (hf : (xs.map fun x => V.str (Str.ofString x)).all flatV = true := by rfl) : Ev (tOp (rIn K false) ta tb) σ H (.bl (kIn k xs)) := ev_opL ha hb fun _ _ h _ => rv_isL (sq_of h) rfl hf
/-- None, an integer or a text -/
inductive Sc : V → Prop
  | non : Sc .non
  | int (i : Int) : Sc (.int i)
  | str (z : Str) : Sc (.str z)
def accB (k : Str) : V → Bool
  | .non => kIn k ["int?", "text?"]
  | .int _ => decide (baseT k = Str.ofString "int")
  | _ => !decide (baseT k = Str.ofString "int")


/-! ### names: a comprehension over a text, all, chains -/
theorem el_lcS {σ : L2.St} {H : Hp} {te tl : TE} {z : Str} {j : Nat} {vs : List Nat} {ys : List V} (h : Ev te σ H (.str z)) (hz : z.cps.toList.length ≤ 40000) (hw : ∀ x, wipe ((wipe σ vs).set j (some x)) vs = wipe σ vs) (hl : ys.length = z.cps.toList.length)
    (he : ∀ (i c : Nat) (y : V), z.cps.toList[i]? = some c → ys[i]? = some y → ∀ H1, Ex H H1 → Ev tl ((wipe σ vs).set j (some (.str ⟨#[c]⟩))) H1 y) : EvL (tLc (iStr te) (gName j) tYes tl vs) σ H ys := fun H0 e Q q => h H0 e _ fun H1 e1 => ⟨z, rfl, fun D hD => by
  have g : given z.cps.toList.length (fun _ => true) (fun i => ys.getD i .non) = ys := given_all hl fun i hi => by
    have hi2 : i < ys.length := by omega
    rw [List.getElem?_eq_getElem hi2, List.getD_eq_getElem?_getD, List.getElem?_eq_getElem hi2] <;> rfl
  refine ⟨fun i m H' => m = z.cps.toList.length - i ∧ i ≤ z.cps.toList.length ∧ Cw H1 (fun _ => true) (fun i => ys.getD i .non) D i H', ⟨_, rfl, Nat.zero_le _, hD, Ex.new hD, upd_same⟩, ?_⟩
  rintro i m H' ⟨rfl, hi, p⟩
  by_cases hlt : i < z.cps.toList.length
  · refine .inr ⟨(by show i < z.cps.size; simpa using hlt), Cw H1 (fun _ => true) (fun i => ys.getD i .non) D (i + 1), fun H2 p2 => ⟨_, by omega, rfl, hlt, p2⟩, fun x H2 y => ?_⟩
    obtain ⟨rfl, c, hc, rfl⟩ := y
    have hc' : z.cps.toList[i]? = some c := by simpa using hc
    have hi2 : i < ys.length := by omega
    have hy : ys[i]? = some (ys.getD i .non) := by rw [List.getElem?_eq_getElem hi2, List.getD_eq_getElem?_getD, List.getElem?_eq_getElem hi2] <;> rfl
    exact ⟨hw _, cw_turn p (by omega) (fun H3 e3 Q q => q H3 (Ex.refl H3)) fun _ => (he i c _ hc' hy H1 (e.trans e1))⟩
  · have ei : i = z.cps.toList.length := by omega
    subst ei
    refine .inl ⟨(by show z.cps.size ≤ z.cps.toList.length; simp), ?_⟩
    have p2 := p.2.2
    rw [g] at p2
    exact q D H' (fresh_back e1 p.1) (e1.trans p.2.1) p2⟩
theorem ev_allN {K : PySem.W.Frag} {σ : L2.St} {H : Hp} {te : TE} {bs : List Bool} (h : EvL te σ H (bs.map V.bl)) : Ev (tCB (rAll K) (tCons te tNil)) σ H (.bl (bs.all id)) := fun H1 e Q q =>
  h H1 e _ fun p H2 _ e2 hp => ⟨p, bs, rfl, sq_of hp, q H2 e2⟩
theorem ev_chainI {f g : Int → Int → V} {σ : L2.St} {H : Hp} {tb : TE} {i j k : Int} {a b : Bool} (hb : Ev tb σ H (.int j)) (hf : f i j = .bl a) (hg : g j k = .bl b) : Ev (tChain (rI0 f) (rI0 g) (tC (.int i)) tb (tC (.int k))) σ H (.bl (a && b)) := fun H1 e Q q =>
  hb H1 e _ fun H2 e2 => ⟨i, j, rfl, rfl, a, hf, by
    cases a with
    | true => exact iteT ⟨j, k, rfl, rfl, by rw [hg]; exact q H2 e2⟩
    | false => exact iteF (q H2 e2)⟩
theorem ev_chainS {σ : L2.St} {H : Hp} {tb : TE} {x y c : Nat} {sx sy : Str} (hx : sx = ⟨#[x]⟩) (hy : sy = ⟨#[y]⟩) (hb : Ev tb σ H (.str ⟨#[c]⟩)) : Ev (tChain rLeS rLeS (tC (.str sx)) tb (tC (.str sy))) σ H (.bl (decide (x ≤ c ∧ c ≤ y))) := fun H1 e Q q => by
  subst hx hy
  refine hb H1 e _ fun H2 e2 => ⟨_, _, rfl, rfl, decide (x ≤ c), congrArg V.bl (le_str1 x c), ?_⟩
  by_cases h : x ≤ c
  · rw [decide_eq_true h]
    refine iteT ⟨_, _, rfl, rfl, ?_⟩
    rw [le_str1 c y]
    have : decide (x ≤ c ∧ c ≤ y) = decide (c ≤ y) := decide_eq_decide.mpr ⟨fun z => z.2, fun z => ⟨h, z⟩⟩
    rw [← this]
    exact q H2 e2
  · rw [decide_eq_false h]
    refine iteF ?_
    have : decide (x ≤ c ∧ c ≤ y) = false := decide_eq_false fun z => h z.1
    rw [← this]
    exact q H2 e2
def lowerC (c : Nat) : Bool := decide (97 ≤ c ∧ c ≤ 122)
def nameB (z : Str) : Bool := decide (1 ≤ z.length ∧ z.length ≤ 12) && z.cps.toList.all lowerC


/-! ### data of the heap -/
mutual
theorem dp_mono {K : PySem.W.Frag} {H H' : Hp} (e : Ex H H') : ∀ {v : V} {d : PyData}, Dp K H v d → Dp K H' v d
  | _, _, .non => .non
  | _, _, .bl b => .bl b
  | _, _, .int i => .int i
  | _, _, .str z => .str z
  | _, _, .lst h r => .lst (ex_l e h) (dpa_mono e r)
  | _, _, .tup h r => .tup (ex_t e h) (dpa_mono e r)
theorem dpa_mono {K : PySem.W.Frag} {H H' : Hp} (e : Ex H H') : ∀ {vs : List V} {ds : List PyData}, DpAll K H vs ds → DpAll K H' vs ds
  | _, _, .nil => .nil
  | _, _, .cons h r => .cons (dp_mono e h) (dpa_mono e r)
end
theorem dpa_len {K : PySem.W.Frag} {H : Hp} : ∀ {vs : List V} {ds : List PyData}, DpAll K H vs ds → vs.length = ds.length
  | _, _, .nil => rfl
  | _, _, .cons _ r => congrArg (· + 1) (dpa_len r)
theorem dpa_app {K : PySem.W.Frag} {H : Hp} : ∀ {vs us : List V} {ds es : List PyData}, DpAll K H vs ds → DpAll K H us es → DpAll K H (vs ++ us) (ds ++ es)
  | _, _, _, _, .nil, h => h
  | _, _, _, _, .cons a r, h => .cons a (dpa_app r h)
theorem dpa_at {K : PySem.W.Frag} {H : Hp} : ∀ {vs : List V} {ds : List PyData}, DpAll K H vs ds → ∀ {i : Nat} {v : V}, vs[i]? = some v → ∃ d, ds[i]? = some d ∧ Dp K H v d
  | _, _, .cons h _, 0, v, e => by
    cases Option.some.inj e
    exact ⟨_, rfl, h⟩
  | _, _, .cons _ r, i + 1, v, e => by
    obtain ⟨d, h1, h2⟩ := dpa_at r (i := i) (by simpa using e)
    exact ⟨d, by simpa using h1, h2⟩
theorem dpa_get {K : PySem.W.Frag} {H : Hp} : ∀ {vs : List V} {ds : List PyData}, DpAll K H vs ds → ∀ {i : Nat} {d : PyData}, ds[i]? = some d → ∃ v, vs[i]? = some v ∧ Dp K H v d
  | _, _, .cons h _, 0, d, e => by
    cases Option.some.inj e
    exact ⟨_, rfl, h⟩
  | _, _, .cons _ r, i + 1, d, e => by
    obtain ⟨v, h1, h2⟩ := dpa_get r (i := i) (by simpa using e)
    exact ⟨v, by simpa using h1, h2⟩
/-- data without lists, bools and dicts, of nesting at most n -/
inductive Fl : Nat → PyData → Prop
  | non (n : Nat) : Fl n .none
  | int (n : Nat) (i : Int) : Fl n (.int i)
  | str (n : Nat) {z : Str} (h : SeqAt.shaped (.str z) = true) : Fl n (.str z)
  | tup {n : Nat} {ds : List PyData} (h : ∀ d ∈ ds, Fl n d) (hl : ds.length ≤ 1000 := by first | decide | simp) : Fl (n + 1) (.tuple ds)
theorem Fl.mono : ∀ {n m : Nat} {d : PyData}, Fl n d → n ≤ m → Fl m d
  | _, _, _, .non _, _ => .non _
  | _, _, _, .int _ i, _ => .int _ i
  | _, _, _, .str _ h, _ => .str _ h
  | n + 1, m + 1, _, .tup h l, e => .tup (fun d hd => (h d hd).mono (by omega)) l
  | n + 1, 0, _, .tup h _, e => by omega
mutual
theorem dp_monoN {K : PySem.W.Frag} {H H' : Hp} (e : ExN H H') : ∀ {n : Nat} {v : V} {d : PyData}, Fl n d → Dp K H v d → Dp K H' v d
  | _, _, _, .non _, .non => .non
  | _, _, _, .int _ i, .int _ => .int i
  | _, _, _, .str _ _, .str z => .str z
  | _ + 1, _, _, .tup f _, .tup h r => .tup (exN_t e h) (dpa_monoN e f r)
theorem dpa_monoN {K : PySem.W.Frag} {H H' : Hp} (e : ExN H H') : ∀ {n : Nat} {vs : List V} {ds : List PyData}, (∀ d ∈ ds, Fl n d) → DpAll K H vs ds → DpAll K H' vs ds
  | _, _, _, _, .nil => .nil
  | _, _, _, f, .cons h r => .cons (dp_monoN e (f _ (List.mem_cons_self ..)) h) (dpa_monoN e (fun d hd => f d (List.mem_cons_of_mem _ hd)) r)
end
theorem q_asgK {te : TE} {σ : L2.St} {H : Hp} {tz : TS} {D : Ends} {i : Nat} (k : te σ H fun v H1 => tz D (σ.set i (some v)) H1) : tSeq (tAsg te (gName i)) tz D σ H := k
theorem q_asgG {te : TE} {g : TG} {σ : L2.St} {H : Hp} {tz : TS} {D : Ends} (k : te σ H fun v H1 => g v σ H1 (tz D)) : tSeq (tAsg te g) tz D σ H := k
/-! ### equality of data -/
/-- no bool, no dict -/
inductive Pl : PyData → Prop
  | non : Pl .none
  | int (i : Int) : Pl (.int i)
  | str (z : Str) : Pl (.str z)
  | lst {ds : List PyData} (h : ∀ d ∈ ds, Pl d) : Pl (.list ds)
  | tup {ds : List PyData} (h : ∀ d ∈ ds, Pl d) : Pl (.tuple ds)
theorem Fl.pl : ∀ {n : Nat} {d : PyData}, Fl n d → Pl d
  | _, _, .non _ => .non
  | _, _, .int _ i => .int i
  | _, _, .str _ _ => .str _
  | _ + 1, _, .tup h _ => .tup fun d hd => (h d hd).pl
mutual
theorem eqv_iff : ∀ (d e : PyData), Pl d → Pl e → (PyData.eqv d e = true ↔ d = e)
  | .none, e, _, he => by cases he <;> simp [PyData.eqv]
  | .int i, e, _, he => by cases he <;> simp [PyData.eqv]
  | .str z, e, _, he => by cases he <;> simp [PyData.eqv]
  | .list xs, e, hd, he => by
    cases hd with
    | lst hd =>
      cases he with
      | lst he =>
        rename_i ys
        rw [show PyData.eqv (.list xs) (.list ys) = PyData.eqvAll xs ys by simp [PyData.eqv], eqvAll_iff xs ys hd he]
        simp
      | _ => simp [PyData.eqv]
  | .tuple xs, e, hd, he => by
    cases hd with
    | tup hd =>
      cases he with
      | tup he =>
        rename_i ys
        rw [show PyData.eqv (.tuple xs) (.tuple ys) = PyData.eqvAll xs ys by simp [PyData.eqv], eqvAll_iff xs ys hd he]
        simp
      | _ => simp [PyData.eqv]
  | .bool _, _, hd, _ => by cases hd
  | .dict _, _, hd, _ => by cases hd
theorem eqvAll_iff : ∀ (xs ys : List PyData), (∀ d ∈ xs, Pl d) → (∀ d ∈ ys, Pl d) → (PyData.eqvAll xs ys = true ↔ xs = ys)
  | [], [], _, _ => by simp [PyData.eqvAll]
  | [], y :: ys, _, _ => by simp [PyData.eqvAll]
  | x :: xs, [], _, _ => by simp [PyData.eqvAll]
  | x :: xs, y :: ys, hx, hy => by
    rw [show PyData.eqvAll (x :: xs) (y :: ys) = (PyData.eqv x y && PyData.eqvAll xs ys) by simp [PyData.eqvAll], Bool.and_eq_true,
      eqv_iff x y (hx x (List.mem_cons_self ..)) (hy y (List.mem_cons_self ..)), eqvAll_iff xs ys (fun d hd => hx d (List.mem_cons_of_mem _ hd)) (fun d hd => hy d (List.mem_cons_of_mem _ hd))]
    simp
end
noncomputable def eqB (d e : PyData) : Bool := PyData.eqv d e
theorem eqv_dec {d e : PyData} (hd : Pl d) (he : Pl e) [Decidable (d = e)] : PyData.eqv d e = decide (d = e) := by
  by_cases h : d = e
  · rw [decide_eq_true h]
    exact (eqv_iff d e hd he).mpr h
  · rw [decide_eq_false h]
    cases x : PyData.eqv d e with
    | false => rfl
    | true => exact absurd ((eqv_iff d e hd he).mp x) h
mutual
theorem canLay_fl : ∀ {n : Nat} {d : PyData}, Fl n d → d.canLay0 = true
  | _, .none, _ => by simp [PyData.canLay0]
  | _, .int _, _ => by simp [PyData.canLay0]
  | _, .str z, h => by
    cases h with
    | str _ h => exact SeqAt.canLay_of_shaped h
  | _, .tuple xs, h => by
    cases h with
    | tup h _ =>
      rw [show (PyData.tuple xs).canLay0 = PyData.canLayAll0 xs by simp [PyData.canLay0]]
      exact canLayAll_fl h
  | _, .bool _, h => by cases h
  | _, .list _, h => by cases h
  | _, .dict _, h => by cases h
theorem canLayAll_fl : ∀ {n : Nat} {ds : List PyData}, (∀ d ∈ ds, Fl n d) → PyData.canLayAll0 ds = true
  | _, [], _ => by simp [PyData.canLayAll0]
  | _, d :: ds, h => by
    rw [show PyData.canLayAll0 (d :: ds) = (d.canLay0 && PyData.canLayAll0 ds) by simp [PyData.canLayAll0], canLay_fl (h d (List.mem_cons_self ..)), canLayAll_fl fun x hx => h x (List.mem_cons_of_mem _ hx)] <;> rfl
end
mutual
theorem depth_fl : ∀ {n : Nat} {d : PyData}, Fl n d → d.depth ≤ n + 1
  | _, .none, _ => by simp [PyData.depth]
  | _, .int _, _ => by simp [PyData.depth]
  | _, .str z, _ => by simp [PyData.depth]
  | _ + 1, .tuple xs, .tup h _ => by
    rw [show (PyData.tuple xs).depth = 1 + PyData.depthAll xs by simp [PyData.depth, Nat.add_comm]]
    have := depthAll_fl h
    omega
  | _, .bool _, h => by cases h
  | _, .list _, h => by cases h
  | _, .dict _, h => by cases h
theorem depthAll_fl : ∀ {n : Nat} {ds : List PyData}, (∀ d ∈ ds, Fl n d) → PyData.depthAll ds ≤ n + 1
  | _, [], _ => by simp [PyData.depthAll]
  | n, d :: ds, h => by
    have h1 := depth_fl (h d (List.mem_cons_self ..))
    have h2 := depthAll_fl fun x hx => h x (List.mem_cons_of_mem _ hx)
    rw [show PyData.depthAll (d :: ds) = max d.depth (PyData.depthAll ds) by simp [PyData.depthAll]]
    omega
end
theorem shaped_fl {n : Nat} {d : PyData} (h : Fl n d) (hn : n ≤ 60) : SeqAt.shaped d = true := by
  have := depth_fl h
  unfold SeqAt.shaped
  rw [canLay_fl h, decide_eq_true (by omega)] <;> rfl
theorem shaped_lst {n : Nat} {ds : List PyData} (h : ∀ d ∈ ds, Fl n d) (hn : n ≤ 60) : SeqAt.shaped (.list ds) = true := by
  have := depthAll_fl h
  unfold SeqAt.shaped
  rw [show (PyData.list ds).canLay0 = PyData.canLayAll0 ds by simp [PyData.canLay0], canLayAll_fl h, decide_eq_true (by
    rw [show (PyData.list ds).depth = 1 + PyData.depthAll ds by simp [PyData.depth, Nat.add_comm]]
    omega)] <;> rfl
/-! ### what evaluates to data -/
def EP (K : PySem.W.Frag) (te : TE) (σ : L2.St) (H : Hp) (R : PyData → Prop) : Prop := ∀ H1, Ex H H1 → ∀ Q : VK, (∀ v d H2, Ex H1 H2 → R d → Dp K H2 v d → Q v H2) → te σ H1 Q
def EPA (K : PySem.W.Frag) (ta : TA) (σ : L2.St) (H : Hp) (R : List PyData → Prop) : Prop := ∀ H1, Ex H H1 → ∀ Q : List V → Hp → Prop, (∀ vs ds H2, Ex H1 H2 → R ds → DpAll K H2 vs ds → Q vs H2) → ta σ H1 Q
/-- a new list -/
def EPL (K : PySem.W.Frag) (te : TE) (σ : L2.St) (H : Hp) (R : List PyData → Prop) : Prop := ∀ H1, Ex H H1 → ∀ Q : VK, (∀ p vs ds H2, H1 p = none → Ex H1 H2 → H2 p = some (.lst vs) → R ds → DpAll K H2 vs ds → Q (.ref p) H2) → te σ H1 Q
section
variable {K : PySem.W.Frag} {σ : L2.St} {H : Hp} {te ta tb : TE}
theorem ep_is {v : V} {d : PyData} {R : PyData → Prop} (h : Ev te σ H v) (hd : Dp K H v d) (hr : R d) : EP K te σ H R := fun H1 e Q q => h H1 e _ fun H2 e2 => q v d H2 e2 hr (dp_mono (e.trans e2) hd)
theorem ep_int {i : Int} (h : Ev te σ H (.int i)) : EP K te σ H (· = .int i) := ep_is h (.int i) rfl
theorem ep_str {z : Str} (h : Ev te σ H (.str z)) : EP K te σ H (· = .str z) := ep_is h (.str z) rfl
theorem ep_non (h : Ev te σ H .non) : EP K te σ H (· = .none) := ep_is h .non rfl
theorem EP.imp {R S : PyData → Prop} (h : EP K te σ H R) (i : ∀ d, R d → S d) : EP K te σ H S := fun H1 e Q q => h H1 e Q fun v d H2 e2 r D => q v d H2 e2 (i d r) D
theorem EP.mono {R : PyData → Prop} {H' : Hp} (e : Ex H H') (h : EP K te σ H R) : EP K te σ H' R := fun H1 e1 => h H1 (e.trans e1)
theorem epa_nil : EPA K tNil σ H (· = []) := fun H1 _ _ q => q [] [] H1 (Ex.refl H1) rfl .nil
theorem epa_cons {tr : TA} {R : PyData → Prop} {S : List PyData → Prop} (h : EP K te σ H R) (r : EPA K tr σ H S) : EPA K (tCons te tr) σ H (fun ds => ∃ d r, ds = d :: r ∧ R d ∧ S r) := fun H1 e Q q =>
  h H1 e _ fun v d H2 e2 hr hd => r H2 (e.trans e2) _ fun vs ds H3 e3 hs hds => q (v :: vs) (d :: ds) H3 (e2.trans e3) ⟨d, ds, rfl, hr, hs⟩ (.cons (dp_mono e3 hd) hds)
theorem epa_c {tr : TA} {d : PyData} {ds : List PyData} (h : EP K te σ H (· = d)) (r : EPA K tr σ H (· = ds)) : EPA K (tCons te tr) σ H (· = d :: ds) := fun H1 e Q q =>
  h H1 e _ fun v d' H2 e2 hr hd => r H2 (e.trans e2) _ fun vs ds' H3 e3 hs hds => q (v :: vs) (d' :: ds') H3 (e2.trans e3) (by rw [hr, hs]) (.cons (dp_mono e3 hd) hds)
theorem ep_tup {ta : TA} {R : PyData → Prop} {S : List PyData → Prop} (h : EPA K ta σ H S) (i : ∀ ds, S ds → ds.length ≤ 100000 ∧ R (.tuple ds)) : EP K (tTup ta) σ H R := fun H1 e Q q =>
  h H1 e _ fun vs ds H2 e2 hs hds => ⟨sz_of (by rw [dpa_len hds]; exact (i ds hs).1), fun p hp => q _ _ _ (e2.trans (Ex.new hp)) (i ds hs).2 (.tup (st_of upd_same) (dpa_mono (Ex.new hp) hds))⟩
theorem ep_t {ta : TA} {ds : List PyData} (h : EPA K ta σ H (· = ds)) (hl : ds.length ≤ 100000) : EP K (tTup ta) σ H (· = .tuple ds) := ep_tup h fun ds' e => by
  rw [e]
  exact ⟨hl, rfl⟩
theorem epl_lst {ta : TA} {S : List PyData → Prop} (h : EPA K ta σ H S) (i : ∀ ds, S ds → ds.length ≤ 100000) : EPL K (tLst ta) σ H S := fun H1 e Q q =>
  h H1 e _ fun vs ds H2 e2 hs hds => ⟨sz_of (by rw [dpa_len hds]; exact i ds hs), fun p hp => q p vs ds _ (fresh_back e2 hp) (e2.trans (Ex.new hp)) upd_same hs (dpa_mono (Ex.new hp) hds)⟩
theorem EPL.ep {R : PyData → Prop} {S : List PyData → Prop} (h : EPL K te σ H S) (i : ∀ ds, S ds → R (.list ds)) : EP K te σ H R := fun H1 e Q q =>
  h H1 e _ fun p vs ds H2 hp e2 h2 hs hds => q _ _ H2 e2 (i ds hs) (.lst (sq_of h2) hds)
theorem s_retP {D : Ends} {R : PyData → Prop} (h : EP K te σ H R) (k : ∀ v d H1, Ex H H1 → R d → Dp K H1 v d → D.rt v H1) : tRet te D σ H := h H (Ex.refl H) _ k
theorem s_retPL {D : Ends} {S : List PyData → Prop} (h : EPL K te σ H S) (k : ∀ p vs ds H1, H p = none → Ex H H1 → H1 p = some (.lst vs) → S ds → DpAll K H1 vs ds → D.rt (.ref p) H1) : tRet te D σ H := h H (Ex.refl H) _ k
theorem q_asgP {D : Ends} {tz : TS} {i : Nat} {R : PyData → Prop} (h : EP K te σ H R) (k : ∀ v d H1, Ex H H1 → R d → Dp K H1 v d → tz D (σ.set i (some v)) H1) : tSeq (tAsg te (gName i)) tz D σ H := h H (Ex.refl H) _ k
theorem q_asgPL {D : Ends} {tz : TS} {i : Nat} {S : List PyData → Prop} (h : EPL K te σ H S) (k : ∀ p vs ds H1, H p = none → Ex H H1 → H1 p = some (.lst vs) → S ds → DpAll K H1 vs ds → tz D (σ.set i (some (.ref p))) H1) : tSeq (tAsg te (gName i)) tz D σ H := h H (Ex.refl H) _ k
theorem s_retTup {ta : TA} {D : Ends} {S : List PyData → Prop} (h : EPA K ta σ H S) (l : ∀ ds, S ds → ds.length ≤ 100000) (k : ∀ p ds H1, H p = none → Ex H H1 → S ds → Dp K H1 (.ref p) (.tuple ds) → D.rt (.ref p) H1) : tRet (tTup ta) D σ H :=
  h H (Ex.refl H) _ fun vs ds H1 e1 hs hds => ⟨sz_of (by rw [dpa_len hds]; exact l ds hs), fun p hp => k p ds _ (fresh_back e1 hp) (e1.trans (Ex.new hp)) hs (.tup (st_of upd_same) (dpa_mono (Ex.new hp) hds))⟩
/-- == and != of data -/
theorem ev_eqP {x y : V} {d e : PyData} {b : Bool} (ha : Ev ta σ H x) (hb : Ev tb σ H y) (hd : Dp K H x d) (he : Dp K H y e) (sd : SeqAt.shaped d = true) (se : SeqAt.shaped e = true) (hv : PyData.eqv d e = b) : Ev (tOp (rEqD K) ta tb) σ H (.bl b) :=
  ev_op ha hb fun H1 e1 _ q => ⟨d, e, dp_mono e1 hd, dp_mono e1 he, sd, se, by rw [hv]; exact q H1 (Ex.refl H1)⟩
theorem ev_neP {x y : V} {d e : PyData} {b : Bool} (ha : Ev ta σ H x) (hb : Ev tb σ H y) (hd : Dp K H x d) (he : Dp K H y e) (sd : SeqAt.shaped d = true) (se : SeqAt.shaped e = true) (hv : (!PyData.eqv d e) = b) : Ev (tOp (rNeD K) ta tb) σ H (.bl b) :=
  ev_op ha hb fun H1 e1 _ q => ⟨d, e, dp_mono e1 hd, dp_mono e1 he, sd, se, by rw [hv]; exact q H1 (Ex.refl H1)⟩
/-- [f(k) for k in range(n)] -/
theorem epl_mapR {ta : TA} {j : Nat} {vs : List Nat} {n : Nat} {R : Nat → PyData → Prop} (h : EvA ta σ H [.int (n : Int)]) (hz : n ≤ 40000) (hw : ∀ x, wipe ((wipe σ vs).set j (some x)) vs = wipe σ vs) {m : Nat} (hf : ∀ i d, R i d → Fl m d)
    (he : ∀ (i : Nat) H1, i < n → Ex H H1 → EP K te ((wipe σ vs).set j (some (.int (i : Int)))) H1 (R i)) : EPL K (tLc (iRng1 ta) (gName j) tYes te vs) σ H (fun ds => ds.length = n ∧ ∀ i d, ds[i]? = some d → R i d) := by
  intro H0 e Q q
  refine h H0 e _ fun H1 e1 => ⟨(n : Int), rfl, by omega, by omega, fun Dl hD => ?_⟩
  rw [show ((n : Int)).toNat = n by omega]
  refine lc_range (n := n) (fun i H' => H1 Dl = none ∧ Ex H1 H' ∧ ∃ us ds, H' Dl = some (.lst us) ∧ DpAll K H' us ds ∧ ds.length = i ∧ ∀ i d, ds[i]? = some d → R i d) ⟨hD, Ex.new hD, [], [], upd_same, .nil, rfl, fun i d z => nomatch z⟩ (fun i H' hi p => ⟨hw _, ?_⟩) (fun H' p => ?_)
  · obtain ⟨p1, p2, us, ds, p3, p4, p5, p6⟩ := p
    show te ((wipe σ vs).set j (some (.int (0 + (i : Int))))) H' _
    rw [Int.zero_add]
    refine he i H1 hi (e.trans e1) H' p2 _ fun v d H4 e4 hr hd => ⟨us, e4 Dl _ p3, sz_lt (by rw [dpa_len p4, p5]; omega), p1, (p2.trans e4).mut p1, us ++ [v], ds ++ [d], upd_same, ?_, by rw [List.length_append, p5] <;> rfl, fun k x hk => ?_⟩
    · exact dpa_app (dpa_monoN (ExN.upd (e4 Dl _ p3)) (fun x hx => by
        obtain ⟨k, hk⟩ := List.getElem?_of_mem hx
        exact hf k x (p6 k x hk)) (dpa_mono e4 p4)) (.cons (dp_monoN (ExN.upd (e4 Dl _ p3)) (hf i d hr) hd) .nil)
    · by_cases hlt : k < ds.length
      · rw [List.getElem?_append_left hlt] at hk
        exact p6 k x hk
      · rw [List.getElem?_append_right (by omega)] at hk
        have hk0 : k - ds.length = 0 := by
          by_cases z : k - ds.length = 0
          · exact z
          · rw [List.getElem?_eq_none (by simp; omega)] at hk
            cases hk
        rw [hk0] at hk
        have ek : k = i := by omega
        rw [ek, ← Option.some.inj hk]
        exact hr
  · obtain ⟨p1, p2, us, ds, p3, p4, p5, p6⟩ := p
    exact q Dl us ds H' (fresh_back e1 p1) (e1.trans p2) p3 ⟨p5, p6⟩ p4
end
section
variable {K : PySem.W.Frag} {σ : L2.St} {H : Hp} {te tl : TE}
theorem acc_add {K : PySem.W.Frag} {H H4 : Hp} {Dl : Addr} {us : List V} {ds : List PyData} {v : V} {d : PyData} {m : Nat} {R : Nat → PyData → Prop} (hf : ∀ i d, R i d → Fl m d) (e4 : Ex H H4) (p3 : H Dl = some (.lst us)) (p4 : DpAll K H us ds) (p6 : ∀ i d, ds[i]? = some d → R i d) (hr : R ds.length d) (hd : Dp K H4 v d) :
    DpAll K (upd H4 Dl (.lst (us ++ [v]))) (us ++ [v]) (ds ++ [d]) ∧ (ds ++ [d]).length = ds.length + 1 ∧ ∀ i x, (ds ++ [d])[i]? = some x → R i x := by
  refine ⟨dpa_app (dpa_monoN (n := m) (ExN.upd (e4 Dl _ p3)) (fun x hx => ?_) (dpa_mono e4 p4)) (.cons (dp_monoN (ExN.upd (e4 Dl _ p3)) (hf _ d hr) hd) .nil), by simp, fun k x hk => ?_⟩
  · obtain ⟨k, hk⟩ := List.getElem?_of_mem hx
    exact hf k x (p6 k x hk)
  · by_cases hlt : k < ds.length
    · rw [List.getElem?_append_left hlt] at hk
      exact p6 k x hk
    · rw [List.getElem?_append_right (by omega)] at hk
      have hk0 : k - ds.length = 0 := by
        by_cases z : k - ds.length = 0
        · exact z
        · rw [List.getElem?_eq_none (by simp; omega)] at hk
          cases hk
      rw [hk0] at hk
      have ek : k = ds.length := by omega
      rw [ek, ← Option.some.inj hk]
      exact hr
/-- [f(x) for x in a tuple] -/
theorem epl_mapT {j : Nat} {vs : List Nat} {a : Addr} {xs : List V} {R : Nat → PyData → Prop} (h : Ev tl σ H (.ref a)) (hx : SqT K H a xs) (hz : xs.length ≤ 40000) (hw : ∀ x, wipe ((wipe σ vs).set j (some x)) vs = wipe σ vs) {m : Nat} (hf : ∀ i d, R i d → Fl m d)
    (he : ∀ (i : Nat) x H1, xs[i]? = some x → Ex H H1 → EP K te ((wipe σ vs).set j (some x)) H1 (R i)) : EPL K (tLc (iTup K tl) (gName j) tYes te vs) σ H (fun ds => ds.length = xs.length ∧ ∀ i d, ds[i]? = some d → R i d) := by
  intro H0 e Q q
  refine h H0 e _ fun H1 e1 => ⟨a, rfl, ⟨xs, ex_t (e.trans e1) hx⟩, fun Dl hD => ?_⟩
  refine lc_tup (xs := xs) (fun i H' => H1 Dl = none ∧ Ex H1 H' ∧ ∃ us ds, H' Dl = some (.lst us) ∧ DpAll K H' us ds ∧ ds.length = i ∧ ∀ i d, ds[i]? = some d → R i d) ⟨hD, Ex.new hD, [], [], upd_same, .nil, rfl, fun i d z => nomatch z⟩ (fun i H' _ p => ex_t ((e.trans e1).trans p.2.1) hx) (fun i x H' hi p => ⟨hw x, ?_⟩) (fun H' p => ?_)
  · obtain ⟨p1, p2, us, ds, p3, p4, p5, p6⟩ := p
    have hi2 := (List.getElem?_eq_some_iff.mp hi).1
    show te ((wipe σ vs).set j (some x)) H' _
    refine he i x H1 hi (e.trans e1) H' p2 _ fun v d H4 e4 hr hd => ⟨us, e4 Dl _ p3, sz_lt (by rw [dpa_len p4, p5]; omega), p1, (p2.trans e4).mut p1, us ++ [v], ds ++ [d], upd_same, ?_⟩
    rw [← p5] at hr ⊢
    exact acc_add hf e4 p3 p4 p6 hr hd
  · obtain ⟨p1, p2, us, ds, p3, p4, p5, p6⟩ := p
    exact q Dl us ds H' (fresh_back e1 p1) (e1.trans p2) p3 ⟨p5, p6⟩ p4
/-- [f(x) for x in a list] -/
theorem epl_mapL {j : Nat} {vs : List Nat} {a : Addr} {xs : List V} {R : Nat → PyData → Prop} (h : Ev tl σ H (.ref a)) (hx : SqL K H a xs) (hz : xs.length ≤ 40000) (hw : ∀ x, wipe ((wipe σ vs).set j (some x)) vs = wipe σ vs) {m : Nat} (hf : ∀ i d, R i d → Fl m d)
    (he : ∀ (i : Nat) x H1, xs[i]? = some x → Ex H H1 → EP K te ((wipe σ vs).set j (some x)) H1 (R i)) : EPL K (tLc (iList K tl) (gName j) tYes te vs) σ H (fun ds => ds.length = xs.length ∧ ∀ i d, ds[i]? = some d → R i d) := by
  intro H0 e Q q
  refine h H0 e _ fun H1 e1 => ⟨a, rfl, ⟨xs, ex_l (e.trans e1) hx⟩, fun Dl hD => ?_⟩
  refine lc_list (xs := xs) (fun i H' => H1 Dl = none ∧ Ex H1 H' ∧ ∃ us ds, H' Dl = some (.lst us) ∧ DpAll K H' us ds ∧ ds.length = i ∧ ∀ i d, ds[i]? = some d → R i d) ⟨hD, Ex.new hD, [], [], upd_same, .nil, rfl, fun i d z => nomatch z⟩ (fun i H' _ p => ex_l ((e.trans e1).trans p.2.1) hx) (fun i x H' hi p => ⟨hw x, ?_⟩) (fun H' p => ?_)
  · obtain ⟨p1, p2, us, ds, p3, p4, p5, p6⟩ := p
    have hi2 := (List.getElem?_eq_some_iff.mp hi).1
    show te ((wipe σ vs).set j (some x)) H' _
    refine he i x H1 hi (e.trans e1) H' p2 _ fun v d H4 e4 hr hd => ⟨us, e4 Dl _ p3, sz_lt (by rw [dpa_len p4, p5]; omega), p1, (p2.trans e4).mut p1, us ++ [v], ds ++ [d], upd_same, ?_⟩
    rw [← p5] at hr ⊢
    exact acc_add hf e4 p3 p4 p6 hr hd
  · obtain ⟨p1, p2, us, ds, p3, p4, p5, p6⟩ := p
    exact q Dl us ds H' (fresh_back e1 p1) (e1.trans p2) p3 ⟨p5, p6⟩ p4
end
/-- tuple(a new list of data) -/
theorem ep_tupOf {K : PySem.W.Frag} {σ : L2.St} {H : Hp} {te : TE} {R : PyData → Prop} {S : List PyData → Prop} (h : EPL K te σ H S) (i : ∀ ds, S ds → R (.tuple ds)) : EP K (tCB (rTupOf K) (tCons te tNil)) σ H R := fun H1 e Q q =>
  h H1 e _ fun p vs ds H2 _ e2 hp hs hds => ⟨p, vs, rfl, .inl ⟨sq_of hp, fun l hl => q _ _ _ (e2.trans (Ex.new hl)) (i ds hs) (.tup (st_of upd_same) (dpa_mono (Ex.new hl) hds))⟩⟩
theorem list_same {ds es : List PyData} (hl : ds.length = es.length) (h : ∀ (i : Nat) (d : PyData), ds[i]? = some d → es[i]? = some d) : ds = es := by
  refine List.ext_getElem? fun i => ?_
  by_cases hi : i < ds.length
  · rw [List.getElem?_eq_getElem hi]
    exact (h i _ (List.getElem?_eq_getElem hi)).symm
  · rw [List.getElem?_eq_none (by omega), List.getElem?_eq_none (by omega)]
/-- isinstance of data against tuple, list -/
def isTup : PyData → Bool
  | .tuple _ => true
  | _ => false
def isLst : PyData → Bool
  | .list _ => true
  | _ => false
def isStrD : PyData → Bool
  | .str _ => true
  | _ => false
def isIntD : PyData → Bool
  | .int _ => true
  | .bool _ => true
  | _ => false
def isBoolD : PyData → Bool
  | .bool _ => true
  | _ => false
theorem tyx_lst {K : PySem.W.Frag} {H : Hp} {a : Addr} {xs : List V} (h : SqL K H a xs) : TyX K H (.ref a) (.type "list") := by
  rcases h with (h | ⟨o, h⟩) | ⟨o, its, n, h, hc, _⟩
  · exact .base (.lst h)
  · exact .base (.frz h)
  · exact .kList h hc
theorem ev_isT {K : PySem.W.Frag} {σ : L2.St} {H : Hp} {te : TE} {x : V} {d : PyData} (h : Ev te σ H x) (hd : Dp K H x d) : Ev (tCB (rIsi K) (tCons te (tCons (tC (.ty "tuple")) tNil))) σ H (.bl (isTup d)) := by
  cases hd with
  | non => exact ev_isi (a := "NoneType") (r := false) h (fun _ _ => .base .non) (by decide +kernel)
  | bl b => exact ev_isi (a := "bool") (r := false) h (fun _ _ => .base (.bl b)) (by decide +kernel)
  | int i => exact ev_isi (a := "int") (r := false) h (fun _ _ => .base (.int i)) (by decide +kernel)
  | str z => exact ev_isi (a := "str") (r := false) h (fun _ _ => .base (.str z)) (by decide +kernel)
  | lst hs _ => exact ev_isi (a := "list") (r := false) h (fun H2 e2 => tyx_lst (ex_l e2 hs)) (by decide +kernel)
  | tup hs _ => exact ev_isi (a := "tuple") (r := true) h (fun H2 e2 => tyx_tup (ex_t e2 hs)) (by decide +kernel)
theorem ev_isL {K : PySem.W.Frag} {σ : L2.St} {H : Hp} {te : TE} {x : V} {d : PyData} (h : Ev te σ H x) (hd : Dp K H x d) : Ev (tCB (rIsi K) (tCons te (tCons (tC (.ty "list")) tNil))) σ H (.bl (isLst d)) := by
  cases hd with
  | non => exact ev_isi (a := "NoneType") (r := false) h (fun _ _ => .base .non) (by decide +kernel)
  | bl b => exact ev_isi (a := "bool") (r := false) h (fun _ _ => .base (.bl b)) (by decide +kernel)
  | int i => exact ev_isi (a := "int") (r := false) h (fun _ _ => .base (.int i)) (by decide +kernel)
  | str z => exact ev_isi (a := "str") (r := false) h (fun _ _ => .base (.str z)) (by decide +kernel)
  | lst hs _ => exact ev_isi (a := "list") (r := true) h (fun H2 e2 => tyx_lst (ex_l e2 hs)) (by decide +kernel)
  | tup hs _ => exact ev_isi (a := "tuple") (r := false) h (fun H2 e2 => tyx_tup (ex_t e2 hs)) (by decide +kernel)
theorem ev_isS {K : PySem.W.Frag} {σ : L2.St} {H : Hp} {te : TE} {x : V} {d : PyData} (h : Ev te σ H x) (hd : Dp K H x d) : Ev (tCB (rIsi K) (tCons te (tCons (tC (.ty "str")) tNil))) σ H (.bl (isStrD d)) := by
  cases hd with
  | non => exact ev_isi (a := "NoneType") (r := false) h (fun _ _ => .base .non) (by decide +kernel)
  | bl b => exact ev_isi (a := "bool") (r := false) h (fun _ _ => .base (.bl b)) (by decide +kernel)
  | int i => exact ev_isi (a := "int") (r := false) h (fun _ _ => .base (.int i)) (by decide +kernel)
  | str z => exact ev_isi (a := "str") (r := true) h (fun _ _ => .base (.str z)) (by decide +kernel)
  | lst hs _ => exact ev_isi (a := "list") (r := false) h (fun H2 e2 => tyx_lst (ex_l e2 hs)) (by decide +kernel)
  | tup hs _ => exact ev_isi (a := "tuple") (r := false) h (fun H2 e2 => tyx_tup (ex_t e2 hs)) (by decide +kernel)
theorem ev_isNum {K : PySem.W.Frag} {σ : L2.St} {H : Hp} {te : TE} {x : V} {d : PyData} (h : Ev te σ H x) (hd : Dp K H x d) : Ev (tCB (rIsi K) (tCons te (tCons (tC (.ty "int")) tNil))) σ H (.bl (isIntD d)) := by
  cases hd with
  | non => exact ev_isi (a := "NoneType") (r := false) h (fun _ _ => .base .non) (by decide +kernel)
  | bl b => exact ev_isi (a := "bool") (r := true) h (fun _ _ => .base (.bl b)) (by decide +kernel)
  | int i => exact ev_isi (a := "int") (r := true) h (fun _ _ => .base (.int i)) (by decide +kernel)
  | str z => exact ev_isi (a := "str") (r := false) h (fun _ _ => .base (.str z)) (by decide +kernel)
  | lst hs _ => exact ev_isi (a := "list") (r := false) h (fun H2 e2 => tyx_lst (ex_l e2 hs)) (by decide +kernel)
  | tup hs _ => exact ev_isi (a := "tuple") (r := false) h (fun H2 e2 => tyx_tup (ex_t e2 hs)) (by decide +kernel)
theorem ev_isBl {K : PySem.W.Frag} {σ : L2.St} {H : Hp} {te : TE} {x : V} {d : PyData} (h : Ev te σ H x) (hd : Dp K H x d) : Ev (tCB (rIsi K) (tCons te (tCons (tC (.ty "bool")) tNil))) σ H (.bl (isBoolD d)) := by
  cases hd with
  | non => exact ev_isi (a := "NoneType") (r := false) h (fun _ _ => .base .non) (by decide +kernel)
  | bl b => exact ev_isi (a := "bool") (r := true) h (fun _ _ => .base (.bl b)) (by decide +kernel)
  | int i => exact ev_isi (a := "int") (r := false) h (fun _ _ => .base (.int i)) (by decide +kernel)
  | str z => exact ev_isi (a := "str") (r := false) h (fun _ _ => .base (.str z)) (by decide +kernel)
  | lst hs _ => exact ev_isi (a := "list") (r := false) h (fun H2 e2 => tyx_lst (ex_l e2 hs)) (by decide +kernel)
  | tup hs _ => exact ev_isi (a := "tuple") (r := false) h (fun H2 e2 => tyx_tup (ex_t e2 hs)) (by decide +kernel)
/-- an item of a list or a tuple -/
def rIxD (K : PySem.W.Frag) : R2 := fun x y H Q => rIxL K x y H Q ∨ rIxT K x y H Q
theorem ix_any {X : Cx} {r1 r2 : R2} (h1 : IxR X r1) (h2 : IxR X r2) : IxR X (fun x y H Q => r1 x y H Q ∨ r2 x y H Q) := fun value slice pins s σ H x y v u Q I rx ry h hs => h.elim (fun h => h1 value slice pins s σ H x y v u Q I rx ry h hs) (fun h => h2 value slice pins s σ H x y v u Q I rx ry h hs)
theorem op_any {X : Cx} {f : Value → Value → Sem Value} {r1 r2 : R2} (h1 : OpR X f r1) (h2 : OpR X f r2) : OpR X f (fun x y H Q => r1 x y H Q ∨ r2 x y H Q) := fun pins s σ H x y v u Q I rx ry h => h.elim (fun h => h1 pins s σ H x y v u Q I rx ry h) (fun h => h2 pins s σ H x y v u Q I rx ry h)


/-! ### version texts -/
def mkS (l : List Nat) : Str := ⟨l.toArray⟩
theorem mkS_inj {a b : List Nat} (h : mkS a = mkS b) : a = b := by
  have := congrArg (fun z : Str => z.cps.toList) h
  simpa [mkS] using this
theorem mkS_codes (z : Str) : z = mkS z.cps.toList := mk_of rfl
theorem mkS_len (l : List Nat) : (mkS l).length = l.length := by rw [str_len] <;> rfl
def stC (c : Nat) : Bool := decide (c = 126 ∨ c = 94)
theorem tw_lt {p : Nat → Bool} : ∀ {l : List Nat} {i : Nat}, i < (l.takeWhile p).length → ∃ c, l[i]? = some c ∧ p c = true
  | [], i, h => by simp at h
  | a :: l, i, h => by
    by_cases ha : p a = true
    · rw [List.takeWhile_cons_of_pos ha] at h
      cases i with
      | zero => exact ⟨a, rfl, ha⟩
      | succ i =>
        obtain ⟨c, h1, h2⟩ := tw_lt (l := l) (i := i) (by simpa using h)
        exact ⟨c, by simpa using h1, h2⟩
    · rw [List.takeWhile_cons_of_neg ha] at h
      simp at h
theorem tw_eq {p : Nat → Bool} : ∀ {l : List Nat} {c : Nat}, l[(l.takeWhile p).length]? = some c → p c = false
  | [], c, h => by simp at h
  | a :: l, c, h => by
    by_cases ha : p a = true
    · rw [List.takeWhile_cons_of_pos ha] at h
      exact tw_eq (l := l) (by simpa using h)
    · rw [List.takeWhile_cons_of_neg ha] at h
      have e : a = c := by simpa using h
      rw [← e]
      simpa using ha
theorem tw_le (p : Nat → Bool) (l : List Nat) : (l.takeWhile p).length ≤ l.length := by
  induction l with
  | nil => simp
  | cons a l ih =>
    by_cases ha : p a = true
    · rw [List.takeWhile_cons_of_pos ha]; simp; exact ih
    · rw [List.takeWhile_cons_of_neg ha]; simp
/-- the length without the steps at the end -/
def rsz (l : List Nat) : Nat := l.length - (l.reverse.takeWhile stC).length
theorem rsz_le (l : List Nat) : rsz l ≤ l.length := Nat.sub_le _ _
theorem rev_at {l : List Nat} {i : Nat} (h : i < l.length) : l.reverse[i]? = l[l.length - 1 - i]? := by
  rw [List.getElem?_reverse h]
/-- what the law's own loop keeps -/
theorem rsz_step {l : List Nat} {k s : Nat} (hk : k < l.length) (hs : s = max (rsz l) (l.length - k)) : (0 < s → ∃ c, l[s - 1]? = some c ∧ (if stC c = true then s - 1 else s) = max (rsz l) (l.length - (k + 1))) ∧ (s = 0 → s = max (rsz l) (l.length - (k + 1))) := by
  have hw := tw_le stC l.reverse
  rw [List.length_reverse] at hw
  unfold rsz at *
  refine ⟨fun h0 => ?_, fun h0 => by omega⟩
  by_cases hkw : k < (l.reverse.takeWhile stC).length
  · obtain ⟨c, h1, h2⟩ := tw_lt hkw
    rw [rev_at hk] at h1
    have e : s - 1 = l.length - 1 - k := by omega
    refine ⟨c, by rw [e]; exact h1, ?_⟩
    rw [if_pos h2]
    omega
  · have hlt : l.length - (l.reverse.takeWhile stC).length - 1 < l.length := by omega
    have es : s = l.length - (l.reverse.takeWhile stC).length := by omega
    have hp : (l.reverse.takeWhile stC).length < l.length := by omega
    have e2 := rev_at hp
    obtain ⟨c, hc⟩ : ∃ c, l[s - 1]? = some c := ⟨_, List.getElem?_eq_getElem (by omega)⟩
    have e3 : l.reverse[(l.reverse.takeWhile stC).length]? = some c := by
      rw [e2, ← hc]
      congr 1
      omega
    have := tw_eq e3
    refine ⟨c, hc, ?_⟩
    rw [if_neg (by rw [this]; exact Bool.false_ne_true)]
    omega
def digC (c : Nat) : Bool := decide (48 ≤ c ∧ c ≤ 57)
def addrB (b : List Nat) : Bool := decide (1 ≤ b.length ∧ b.length ≤ 18) && (!decide (b.head? = some 48) && b.all digC)
def verD (b : List Nat) (s : Str) : Option PyData :=
  if b = [64] then some (.tuple [.str (Str.ofString "head"), .none, .str s])
  else if nameB (mkS b) = true then some (.tuple [.str (Str.ofString "name"), .str (mkS b), .str s])
  else if b.head? = some 47 ∧ nameB (mkS (b.drop 1)) = true then some (.tuple [.str (Str.ofString "far"), .str (mkS (b.drop 1)), .str s])
  else if b.head? = some 58 ∧ addrB (b.drop 1) = true then some (.tuple [.str (Str.ofString "address"), .int (PySem.NumText.digitsVal (b.drop 1) : Nat), .str s])
  else none
def verO (l : List Nat) : Option PyData := if 60 < l.length then none else verD (l.take (rsz l)) (mkS (l.drop (rsz l)))
theorem at_eq : Str.ofString "@" = mkS [64] := by decide +kernel
theorem rstrip_eq (z : Str) : Txt.rstripChars z (Str.ofString "~^") = mkS (z.cps.toList.take (rsz z.cps.toList)) := by
  have ec : (fun c => (Str.ofString "~^").cps.contains c) = stC := by
    funext c
    have e : (Str.ofString "~^").cps = #[126, 94] := by decide +kernel
    rw [e]
    show (#[126, 94] : Array Nat).contains c = decide (c = 126 ∨ c = 94)
    by_cases h : c = 126
    · subst h; simp
    · by_cases h2 : c = 94
      · subst h2; simp
      · rw [decide_eq_false (by omega)]
        simp [Array.contains, h, h2]
  have e0 : stripLo (fun c => (Str.ofString "~^").cps.contains c) false z = 0 := rfl
  have e1 : stripHi (fun c => (Str.ofString "~^").cps.contains c) true z 0 = rsz z.cps.toList := by
    show z.length - ((z.cps.toList.drop 0).reverse.takeWhile _).length = _
    rw [ec, List.drop_zero, str_len] <;> rfl
  show (if stripSame (fun c => (Str.ofString "~^").cps.contains c) false true z = true then z else stripped (fun c => (Str.ofString "~^").cps.contains c) false true z) = _
  unfold stripSame stripped
  rw [e0, e1]
  split
  · rename_i h
    have h2 : rsz z.cps.toList = z.length := by simpa using h
    rw [h2, str_len, List.take_length]
    exact mkS_codes z
  · refine str_ext ?_
    rw [PySem.StrLaws.strSub_toList, List.drop_zero, Nat.sub_zero] <;> rfl
theorem starts_one (b : List Nat) (c : Nat) : Txt.startswith (mkS b) (mkS [c]) = decide (b.head? = some c) := by
  unfold Txt.startswith
  rw [PySem.StrLaws.subAt_eq, mkS_len, mkS_len]
  show (decide (0 + 1 ≤ b.length) && ((b.drop 0).take 1 == [c])) = _
  cases b with
  | nil => rfl
  | cons a r =>
    show (decide (0 + 1 ≤ r.length + 1) && ([a] == [c])) = decide (some a = some c)
    rw [decide_eq_true (by omega), Bool.true_and]
    by_cases h : a = c
    · subst h; simp
    · simp [h]
theorem cutS_from (b : List Nat) (n : Nat) : cutS (mkS b) (some (n : Int)) none = mkS (b.drop n) := by
  refine str_ext ?_
  show (b.drop (HT.sIx (mkS b).length 0 (some (n : Int)))).take _ = b.drop n
  rw [HT.sIx_nat, mkS_len, HT.sIx_none]
  by_cases h : n ≤ b.length
  · rw [Nat.min_eq_left h, List.take_of_length_le (by rw [List.length_drop]; omega)]
  · rw [Nat.min_eq_right (by omega), List.drop_of_length_le (Nat.le_refl _), List.drop_of_length_le (by omega)] <;> simp
theorem cutS_to (b : List Nat) (n : Nat) : cutS (mkS b) none (some (n : Int)) = mkS (b.take n) := by
  refine str_ext ?_
  show (b.drop (HT.sIx (mkS b).length 0 none)).take (HT.sIx (mkS b).length (mkS b).length (some (n : Int)) - HT.sIx (mkS b).length 0 none) = b.take n
  rw [HT.sIx_nat, mkS_len, HT.sIx_none, List.drop_zero, Nat.sub_zero]
  by_cases h : n ≤ b.length
  · rw [Nat.min_eq_left h]
  · rw [Nat.min_eq_right (by omega), List.take_of_length_le (Nat.le_refl _), List.take_of_length_le (by omega)]
theorem take_len {l : List Nat} {n : Nat} (h : n ≤ l.length) : (l.take n).length = n := by rw [List.length_take]; omega
/-! ### comprehensions with a test over a text -/
theorem given_filter {l : List Nat} (p : Nat → Bool) (g : Nat → V) : given l.length (fun i => p (l.getD i 0)) (fun i => g (l.getD i 0)) = (l.filter p).map g := by
  have e : l = (List.range l.length).map fun i => l.getD i 0 := by
    refine List.ext_getElem? fun i => ?_
    rw [List.getElem?_map]
    by_cases hi : i < l.length
    · rw [List.getElem?_range hi, List.getElem?_eq_getElem hi, Option.map_some, List.getD_eq_getElem?_getD, List.getElem?_eq_getElem hi] <;> rfl
    · rw [List.getElem?_eq_none (by omega), List.getElem?_eq_none (by rw [List.length_range]; omega)] <;> rfl
  unfold given
  conv => rhs; rw [e, List.filter_map, List.map_map]
  rfl
theorem el_flS {σ : L2.St} {H : Hp} {te tl : TE} {tt : TT} {z : Str} {j : Nat} {vs : List Nat} {p : Nat → Bool} (h : Ev te σ H (.str z)) (hz : z.cps.toList.length ≤ 40000) (hw : ∀ x, wipe ((wipe σ vs).set j (some x)) vs = wipe σ vs)
    (ht : ∀ (c : Nat), c ∈ z.cps.toList → ∀ H1, Ex H H1 → EvT tt ((wipe σ vs).set j (some (.str ⟨#[c]⟩))) H1 (p c)) (he : ∀ (c : Nat) H1, Ex H H1 → Ev tl ((wipe σ vs).set j (some (.str ⟨#[c]⟩))) H1 (.str ⟨#[c]⟩)) : EvL (tLc (iStr te) (gName j) tt tl vs) σ H ((z.cps.toList.filter p).map fun c => .str ⟨#[c]⟩) := fun H0 e Q q => h H0 e _ fun H1 e1 => ⟨z, rfl, fun D hD => by
  rw [← given_filter (l := z.cps.toList) p fun c => .str ⟨#[c]⟩] at q
  refine ⟨fun i m H' => m = z.cps.toList.length - i ∧ i ≤ z.cps.toList.length ∧ Cw H1 (fun i => p (z.cps.toList.getD i 0)) (fun i => .str ⟨#[z.cps.toList.getD i 0]⟩) D i H', ⟨_, rfl, Nat.zero_le _, hD, Ex.new hD, upd_same⟩, ?_⟩
  rintro i m H' ⟨rfl, hi, pp⟩
  by_cases hlt : i < z.cps.toList.length
  · refine .inr ⟨(by show i < z.cps.size; simpa using hlt), Cw H1 (fun i => p (z.cps.toList.getD i 0)) (fun i => .str ⟨#[z.cps.toList.getD i 0]⟩) D (i + 1), fun H2 p2 => ⟨_, by omega, rfl, hlt, p2⟩, fun x H2 y => ?_⟩
    obtain ⟨rfl, c, hc, rfl⟩ := y
    have hc' : z.cps.toList[i]? = some c := by simpa using hc
    have ed : z.cps.toList.getD i 0 = c := by rw [List.getD_eq_getElem?_getD, hc'] <;> rfl
    have t1 := ht c (List.mem_of_getElem? hc') H1 (e.trans e1)
    have t2 := he c H1 (e.trans e1)
    refine ⟨hw _, cw_turn pp (by omega) (by rw [ed]; exact t1) fun _ => (by rw [ed]; exact t2)⟩
  · have ei : i = z.cps.toList.length := by omega
    subst ei
    exact .inl ⟨(by show z.cps.size ≤ z.cps.toList.length; simp), q D H' (fresh_back e1 pp.1) (e1.trans pp.2.1) pp.2.2⟩⟩
theorem dpa_strs {K : PySem.W.Frag} {H : Hp} : ∀ zs : List Str, DpAll K H (zs.map V.str) (zs.map PyData.str)
  | [] => .nil
  | z :: zs => .cons (.str z) (dpa_strs zs)
/-- a new list == [] -/
theorem ev_eqNil {K : PySem.W.Frag} {σ : L2.St} {H : Hp} {ta : TE} {zs : List Str} (h : EvL ta σ H (zs.map V.str)) (hz : ∀ z ∈ zs, SeqAt.shaped (.str z) = true) : Ev (tOp (rEqD K) ta (tLst tNil)) σ H (.bl zs.isEmpty) := by
  refine ev_opLL h (el_lst ea_nil (by decide)) fun p q H1 hp hq _ => rv_val fun H2 e2 Q k => ⟨_, _, .lst (sq_of (e2 _ _ hp)) (dpa_strs zs), .lst (sq_of (e2 _ _ hq)) .nil, shaped_lst (n := 0) (fun d hd => ?_) (by decide), by decide, ?_⟩
  · obtain ⟨z, hz', rfl⟩ := List.mem_map.mp hd
    exact .str 0 (hz z hz')
  · have e : PyData.eqv (.list (zs.map PyData.str)) (.list []) = zs.isEmpty := by
      cases zs <;> simp [PyData.eqv, PyData.eqvAll]
    rw [e]
    exact k
/-- [f(k) for k in range(n)], n any int -/
theorem el_mapRI {σ : L2.St} {H : Hp} {ta : TA} {te : TE} {j : Nat} {vs : List Nat} {n : Int} {ys : List V} (h : EvA ta σ H [.int n]) (hz : -100000 ≤ n ∧ n ≤ 40000) (hw : ∀ x, wipe ((wipe σ vs).set j (some x)) vs = wipe σ vs) (hl : ys.length = n.toNat)
    (he : ∀ (i : Nat) (y : V), (i : Int) < n → ys[i]? = some y → ∀ H1, Ex H H1 → Ev te ((wipe σ vs).set j (some (.int (i : Int)))) H1 y) : EvL (tLc (iRng1 ta) (gName j) tYes te vs) σ H ys := by
  intro H0 e Q q
  refine h H0 e _ fun H1 e1 => ⟨n, rfl, by omega, by omega, fun Dl hD => ?_⟩
  refine lc_range (n := n.toNat) (fun i H' => H1 Dl = none ∧ Ex H1 H' ∧ H' Dl = some (.lst (ys.take i))) ⟨hD, Ex.new hD, upd_same⟩ (fun i H' hi p => ⟨hw _, ?_⟩) (fun H' p => ?_)
  · obtain ⟨p1, p2, p3⟩ := p
    have hi2 : i < ys.length := by omega
    have hy : ys[i]? = some ys[i] := List.getElem?_eq_getElem hi2
    show te ((wipe σ vs).set j (some (.int (0 + (i : Int))))) H' _
    rw [Int.zero_add]
    refine he i ys[i] (by omega) hy H1 (e.trans e1) H' p2 _ fun H4 e4 => ⟨ys.take i, e4 Dl _ p3, sz_lt (by rw [List.length_take]; omega), p1, (p2.trans e4).mut p1, ?_⟩
    rw [upd_same, List.take_add_one, hy] <;> rfl
  · obtain ⟨p1, p2, p3⟩ := p
    rw [← hl, List.take_length] at p3
    exact q Dl H' (fresh_back e1 p1) (e1.trans p2) p3
/-- texts that the law makes -/
def TxOk (n : Nat) (z : Str) : Prop := z.length ≤ n ∧ ∀ c ∈ z.cps.toList, c ≤ 1000
theorem TxOk.sh {n : Nat} {z : Str} (h : TxOk n z) : SeqAt.shaped (.str z) = true := by
  unfold SeqAt.shaped
  have e : PyData.strOk z = true := by
    unfold PyData.strOk
    rw [Array.all_eq_true']
    intro c hc
    have := h.2 c (by simpa using hc)
    simp only [decide_eq_true_eq]
    omega
  rw [show (PyData.str z).canLay0 = PyData.strOk z by simp [PyData.canLay0], e] <;> rfl
theorem TxOk.app {n m : Nat} {a b : Str} (h : TxOk n a) (k : TxOk m b) : TxOk (n + m) (a ++ b) := by
  refine ⟨?_, fun c hc => ?_⟩
  · rw [str_len, codes_app rfl rfl, List.length_append, ← str_len, ← str_len]
    have := h.1
    have := k.1
    omega
  · rw [codes_app (x := a.cps.toList) (y := b.cps.toList) rfl rfl] at hc
    rcases List.mem_append.mp hc with z | z
    · exact h.2 c z
    · exact k.2 c z
theorem TxOk.cut {n : Nat} {z : Str} (h : TxOk n z) (lo hi : Option Int) : TxOk n (cutS z lo hi) := by
  refine ⟨Nat.le_trans (cutS_length z lo hi) h.1, fun c hc => h.2 c ?_⟩
  exact List.mem_of_mem_drop (List.mem_of_mem_take (by exact hc))
theorem TxOk.mono {n m : Nat} {z : Str} (h : TxOk n z) (e : n ≤ m) : TxOk m z := ⟨Nat.le_trans h.1 e, h.2⟩
theorem TxOk.one {c : Nat} (h : c ≤ 1000) : TxOk 1 ⟨#[c]⟩ := ⟨Nat.le_refl 1, fun d hd => by
  have : d = c := by simpa using hd
  omega⟩
/-- a join of signs -/
theorem ev_joinS {K : PySem.W.Frag} {σ : L2.St} {H : Hp} {te : TE} {l : List Nat} (h : EvL te σ H (l.map fun c => V.str ⟨#[c]⟩)) (hz : l.length ≤ 100000) :
    Ev (tM1 (fun x xs H Q => ∃ a p, ∃ ys : List Str, x = .str a ∧ xs = [.ref p] ∧ (SqL K H p (ys.map V.str) ∨ SqT K H p (ys.map V.str)) ∧ (ys.map (·.length)).sum + ys.length * a.length ≤ 16777216 ∧ Q (.str (Txt.join a ys)) H) (tC (.str (Str.ofString ""))) te) σ H (.str (mkS l)) := by
  have e : (l.map fun c => V.str ⟨#[c]⟩) = (l.map fun c => (⟨#[c]⟩ : Str)).map V.str := by rw [List.map_map] <;> rfl
  rw [e] at h
  refine ev_is (ev_joinN (K := K) ev_c h ?_) (congrArg V.str (join_signs l))
  rw [sum_ones, List.length_map]
  have : (Str.ofString "").length = 0 := by decide +kernel
  rw [this]
  omega
theorem ev_starts {σ : L2.St} {H : Hp} {to te : TE} {a b : Str} (h0 : Ev to σ H (.str a)) (h : Ev te σ H (.str b)) : Ev (tM1 (fun x xs H Q => ∃ a b, x = V.str a ∧ xs = [V.str b] ∧ Q (.bl (Txt.startswith a b)) H) to te) σ H (.bl (Txt.startswith a b)) := fun H1 e Q q =>
  h0 H1 e _ fun H2 e2 => ⟨⟨a, rfl⟩, h H2 (e.trans e2) _ fun H3 e3 => ⟨a, b, rfl, rfl, q H3 (e2.trans e3)⟩⟩
theorem ev_rstrip {σ : L2.St} {H : Hp} {to te : TE} {a b : Str} (h0 : Ev to σ H (.str a)) (h : Ev te σ H (.str b)) (hz : a.length ≤ 16777216) : Ev (tM1 (fun x xs H Q => ∃ a b, x = V.str a ∧ xs = [V.str b] ∧ a.length ≤ sizeLine ∧ Q (.str (Txt.rstripChars a b)) H) to te) σ H (.str (Txt.rstripChars a b)) := fun H1 e Q q =>
  h0 H1 e _ fun H2 e2 => ⟨⟨a, rfl⟩, h H2 (e.trans e2) _ fun H3 e3 => ⟨a, b, rfl, rfl, sizeOk hz, q H3 (e2.trans e3)⟩⟩
theorem ev_intS {σ : L2.St} {H : Hp} {te : TE} {a : Str} {n : Int} (h : Ev te σ H (.str a)) (hn : PySem.intText? a = some n) (hz : a.length ≤ 640) : Ev (tCB (fun xs H Q => ∃ a n, xs = [V.str a] ∧ PySem.intText? a = some n ∧ a.length ≤ 640 ∧ Q (.int n) H) (tCons te tNil)) σ H (.int n) := fun H1 e Q q =>
  h H1 e _ fun H2 e2 => ⟨a, n, rfl, hn, hz, q H2 e2⟩
theorem addr_int {b : List Nat} (h : addrB b = true) : PySem.intText? (mkS b) = some ((PySem.NumText.digitsVal b : Nat) : Int) ∧ (mkS b).length ≤ 640 := by
  unfold addrB at h
  simp only [Bool.and_eq_true, decide_eq_true_eq, List.all_eq_true] at h
  obtain ⟨h1, _, h2⟩ := h
  refine ⟨intText_digits (x := mkS b) (fun c hc => ?_) (fun z => ?_) (by rw [mkS_len]; omega), by rw [mkS_len]; omega⟩
  · have := h2 c hc
    unfold digC at this
    simpa using this
  · have : b = [] := z
    subst this
    simp at h1
theorem ev_intB {σ : L2.St} {H : Hp} {te : TE} {b : Bool} (h : Ev te σ H (.bl b)) : Ev (tCB (fun xs H Q => (∃ i, xs = [V.int i] ∧ Q (.int i) H) ∨ ∃ k, xs = [V.bl k] ∧ Q (.int (if k = true then 1 else 0)) H) (tCons te tNil)) σ H (.int (if b = true then 1 else 0)) := fun H1 e Q q =>
  h H1 e _ fun H2 e2 => .inr ⟨b, rfl, q H2 e2⟩


/-! ### what evaluates to some text -/
def ES (te : TE) (σ : L2.St) (H : Hp) (R : Str → Prop) : Prop := ∀ H1, Ex H H1 → ∀ Q : VK, (∀ z H2, Ex H1 H2 → R z → Q (.str z) H2) → te σ H1 Q
def ESA (ta : TA) (σ : L2.St) (H : Hp) (R : Str → Prop) (n : Nat) : Prop := ∀ H1, Ex H H1 → ∀ Q : List V → Hp → Prop, (∀ (zs : List Str) H2, Ex H1 H2 → zs.length = n → (∀ z ∈ zs, R z) → Q (zs.map V.str) H2) → ta σ H1 Q
section
variable {K : PySem.W.Frag} {σ : L2.St} {H : Hp} {te ta tb : TE} {R R1 R2 : Str → Prop}
theorem es_ev {z : Str} (h : Ev te σ H (.str z)) (r : R z) : ES te σ H R := fun H1 e Q q => h H1 e _ fun H2 e2 => q z H2 e2 r
theorem ES.imp (h : ES te σ H R1) (i : ∀ z, R1 z → R z) : ES te σ H R := fun H1 e Q q => h H1 e Q fun z H2 e2 r => q z H2 e2 (i z r)
theorem ES.mono {H' : Hp} (e : Ex H H') (h : ES te σ H R) : ES te σ H' R := fun H1 e1 => h H1 (e.trans e1)
theorem es_add (ha : ES ta σ H R1) (hb : ES tb σ H R2) (hR : ∀ a b, R1 a → R2 b → a.length + b.length ≤ 16777216 ∧ R (a ++ b)) : ES (tOp (fun x y H Q => ∃ i j, x = V.str i ∧ y = V.str j ∧ i.length + j.length ≤ sizeLine ∧ Q (.str (i ++ j)) H) ta tb) σ H R := fun H1 e Q q =>
  ha H1 e _ fun a H2 e2 ra => hb H2 (e.trans e2) _ fun b H3 e3 rb => ⟨a, b, rfl, rfl, sizeOk (hR a b ra rb).1, q _ H3 (e2.trans e3) (hR a b ra rb).2⟩
theorem esa_nil : ESA tNil σ H R 0 := fun H1 _ _ q => q [] H1 (Ex.refl H1) rfl fun _ z => nomatch z
theorem esa_cons {tr : TA} {n : Nat} (h : ES te σ H R) (r : ESA tr σ H R n) : ESA (tCons te tr) σ H R (n + 1) := fun H1 e Q q =>
  h H1 e _ fun z H2 e2 rz => r H2 (e.trans e2) _ fun zs H3 e3 hl hz => q (z :: zs) H3 (e2.trans e3) (by rw [List.length_cons, hl]) fun y hy => by
    rcases List.mem_cons.mp hy with h | h
    · rw [h]; exact rz
    · exact hz y h
theorem es_ixN {tr : TA} {n : Nat} {i : Int} (h : ESA tr σ H R n) (hi : ∀ H1, Ex H H1 → Ev tb σ H1 (.int i)) (h0 : 0 ≤ i) (h1 : i < n) (hn : n ≤ 100000) : ES (tOp (rIxL K) (tLst tr) tb) σ H R := fun H1 e Q q =>
  h H1 e _ fun zs H2 e2 hl hz => ⟨sz_of (by rw [List.length_map, hl]; exact hn), fun p hp => hi _ (e.trans (e2.trans (Ex.new hp))) _ (Ex.refl _) _ fun H3 e3 => by
    obtain ⟨z, hzz⟩ : ∃ z, zs[i.toNat]? = some z := ⟨_, List.getElem?_eq_getElem (by omega)⟩
    exact ⟨p, zs.map V.str, i, .str z, rfl, rfl, sq_of (e3 _ _ upd_same), atI_of h0 (by rw [List.getElem?_map, hzz] <;> rfl), q z H3 ((e2.trans (Ex.new hp)).trans e3) (hz z (List.mem_of_getElem? hzz))⟩⟩
theorem q_asgS {D : Ends} {tz : TS} {i : Nat} (h : ES te σ H R) (k : ∀ z H1, Ex H H1 → R z → tz D (σ.set i (some (.str z))) H1) : tSeq (tAsg te (gName i)) tz D σ H := h H (Ex.refl H) _ k
theorem s_asgS {D : Ends} {i : Nat} (h : ES te σ H R) (k : ∀ z H1, Ex H H1 → R z → D.nx (σ.set i (some (.str z))) H1) : tAsg te (gName i) D σ H := h H (Ex.refl H) _ k
theorem s_retS {D : Ends} (h : ES te σ H R) (k : ∀ z H1, Ex H H1 → R z → D.rt (.str z) H1) : tRet te D σ H := h H (Ex.refl H) _ k
end
/-- for x in [a, b, c], texts -/
theorem s_forTx {K : PySem.W.Frag} {σ : L2.St} {H : Hp} {ta : TA} {tu : TS} {D : Ends} {j n : Nat} {R : Str → Prop} (h : ESA ta σ H R n) (hn : n ≤ 100000) (Pv : Hp → L2.St → Hp → Prop) (h0 : ∀ H1, Ex H H1 → Pv H1 σ H1) (he : ∀ H1 σ' H', Pv H1 σ' H' → Ex H1 H')
    (hs : ∀ H1 z σ' H', Ex H H1 → R z → Pv H1 σ' H' → tu { D with nx := Pv H1, ct := Pv H1, bk := D.nx } (σ'.set j (some (.str z))) H') (hd : ∀ H1 σ' H', Ex H H1 → Pv H1 σ' H' → D.nx σ' H') : tFor (iList K (tLst ta)) (gName j) tu D σ H := by
  refine h H (Ex.refl H) _ fun zs H2 e2 hl hz => ⟨sz_of (by rw [List.length_map, hl]; exact hn), fun p hp => ⟨p, rfl, ⟨zs.map V.str, sq_of upd_same⟩, ?_⟩⟩
  have e3 := e2.trans (Ex.new (o := .lst (zs.map V.str)) hp)
  refine for_list (xs := zs.map V.str) (fun i σ' H' => Pv (upd H2 p (.lst (zs.map V.str))) σ' H') (h0 _ e3) (fun i σ' H' _ hP => sq_of (he _ _ _ hP p _ upd_same)) (fun i x σ' H' hi hP => ?_) (fun σ' H' hP => hd _ _ _ e3 hP)
  rw [List.getElem?_map] at hi
  cases e : zs[i]? with
  | none => rw [e] at hi; cases hi
  | some z =>
    rw [e] at hi
    have ex : x = .str z := (Option.some.inj hi).symm
    subst ex
    exact hs _ z σ' H' e3 (hz z (List.mem_of_getElem? e)) hP


/-! ### expressions -/
inductive Bop | add | sub | mul | equal | unequal | less | atmost | more | atleast | and | or
  deriving DecidableEq
def Bop.s : Bop → Str
  | .add => "add"
  | .sub => "sub"
  | .mul => "mul"
  | .equal => "equal"
  | .unequal => "unequal"
  | .less => "less"
  | .atmost => "atmost"
  | .more => "more"
  | .atleast => "atleast"
  | .and => "and"
  | .or => "or"
inductive Tr | int (n : Int) | text (z : Str) | col (z : Str) | neg (a : Tr) | null (a : Tr) | not (a : Tr) | bin (o : Bop) (a b : Tr)
def Tr.d : Tr → PyData
  | .int n => .tuple [.str "int", .int n]
  | .text z => .tuple [.str "text", .str z]
  | .col z => .tuple [.str "column", .str z]
  | .neg a => .tuple [.str "neg", a.d]
  | .null a => .tuple [.str "null", a.d]
  | .not a => .tuple [.str "not", a.d]
  | .bin o a b => .tuple [.str o.s, a.d, b.d]
def Tr.h : Tr → Nat
  | .int _ => 0
  | .text _ => 0
  | .col _ => 0
  | .neg a => a.h + 1
  | .null a => a.h + 1
  | .not a => a.h + 1
  | .bin _ a b => max a.h b.h + 1
inductive Kd | int | text | truth
  deriving DecidableEq
def Kd.s : Kd → Str
  | .int => "int"
  | .text => "text"
  | .truth => "truth"
def Bop.ar (o : Bop) : Bool := o = .add ∨ o = .sub ∨ o = .mul
def Bop.lg (o : Bop) : Bool := o = .and ∨ o = .or
/-- the columns: names and kinds -/
abbrev Cols := List (Str × Kd)
inductive Ty (cs : Cols) : Tr → Kd → Prop
  | int {n : Int} (h : 0 ≤ n ∧ n < 10 ^ 18) : Ty cs (.int n) .int
  | text {z : Str} (h : SeqAt.shaped (.str z) = true) : Ty cs (.text z) .text
  | col {z : Str} {k : Kd} (h : SeqAt.shaped (.str z) = true) (hk : k ≠ .truth) (f : (cs.find? fun c => decide (c.1 = z)).map (·.2) = some k) : Ty cs (.col z) k
  | neg {a : Tr} (h : Ty cs a .int) : Ty cs (.neg a) .int
  | null {a : Tr} {k : Kd} (h : Ty cs a k) (hk : k ≠ .truth) : Ty cs (.null a) .truth
  | not {a : Tr} (h : Ty cs a .truth) : Ty cs (.not a) .truth
  | ar {o : Bop} {a b : Tr} (ho : o.ar = true) (h : Ty cs a .int) (h2 : Ty cs b .int) : Ty cs (.bin o a b) .int
  | cmp {o : Bop} {a b : Tr} {k : Kd} (ho : o.ar = false) (ho2 : o.lg = false) (hk : k ≠ .truth) (h : Ty cs a k) (h2 : Ty cs b k) : Ty cs (.bin o a b) .truth
  | lg {o : Bop} {a b : Tr} (ho : o.lg = true) (h : Ty cs a .truth) (h2 : Ty cs b .truth) : Ty cs (.bin o a b) .truth
theorem Ty.fl {cs : Cols} {t : Tr} {k : Kd} (h : Ty cs t k) : Fl (t.h + 1) t.d := by
  have two : ∀ {n : Nat} {a : String} {d : PyData}, SeqAt.shaped (.str (Str.ofString a)) = true → Fl n d → Fl (n + 1) (.tuple [.str a, d]) := fun hs h => .tup fun x hx => by
    simp only [List.mem_cons, List.not_mem_nil, or_false] at hx
    rcases hx with z | z <;> rw [z]
    · exact .str _ hs
    · exact h
  have s : ∀ o : Bop, SeqAt.shaped (.str o.s) = true := by intro o; cases o <;> decide +kernel
  have three : ∀ {o : Bop} {n m : Nat} {d e : PyData}, Fl n d → Fl m e → Fl (max n m + 1) (.tuple [.str o.s, d, e]) := fun {o n m d e} h1 h2 => .tup fun x hx => by
    simp only [List.mem_cons, List.not_mem_nil, or_false] at hx
    rcases hx with z | z | z <;> rw [z]
    · exact .str _ (s o)
    · exact h1.mono (Nat.le_max_left _ _)
    · exact h2.mono (Nat.le_max_right _ _)
  have mx : ∀ {o : Bop} {a b : Tr}, Fl (a.h + 1) a.d → Fl (b.h + 1) b.d → Fl ((Tr.bin o a b).h + 1) (Tr.bin o a b).d := fun {o a b} h1 h2 => (three (o := o) h1 h2).mono (by show _ ≤ max a.h b.h + 1 + 1; omega)
  induction h with
  | int h => exact two (by decide +kernel) (.int 0 _)
  | text h => exact two (by decide +kernel) (.str 0 h)
  | col h _ _ => exact two (by decide +kernel) (.str 0 h)
  | neg _ ih => exact two (by decide +kernel) ih
  | null _ _ ih => exact two (by decide +kernel) ih
  | not _ ih => exact two (by decide +kernel) ih
  | ar _ _ _ i1 i2 => exact mx i1 i2
  | cmp _ _ _ _ _ i1 i2 => exact mx i1 i2
  | lg _ _ _ i1 i2 => exact mx i1 i2
theorem lg_ar {o : Bop} (h : o.ar = true) (h2 : o.lg = true) : False := by cases o <;> simp [Bop.ar, Bop.lg] at h h2
theorem Ty.kd_u {cs : Cols} {t : Tr} {k k' : Kd} (h : Ty cs t k) (h2 : Ty cs t k') : k = k' := by
  cases h with
  | int _ => cases h2; rfl
  | text _ => cases h2; rfl
  | col _ _ f =>
    cases h2 with
    | col _ _ f2 => exact Option.some.inj (f.symm.trans f2)
  | neg _ => cases h2; rfl
  | null _ _ => cases h2; rfl
  | not _ => cases h2; rfl
  | ar ho _ _ =>
    cases h2 with
    | ar _ _ _ => rfl
    | cmp h _ _ _ _ => exact Bool.noConfusion (ho.symm.trans h)
    | lg h _ _ => exact (lg_ar ho h).elim
  | cmp ho ho2 _ _ _ =>
    cases h2 with
    | ar h _ _ => exact Bool.noConfusion (h.symm.trans ho)
    | cmp _ _ _ _ _ => rfl
    | lg h _ _ => exact Bool.noConfusion (h.symm.trans ho2)
  | lg ho _ _ =>
    cases h2 with
    | ar h _ _ => exact (lg_ar h ho).elim
    | cmp _ h _ _ _ => exact Bool.noConfusion (ho.symm.trans h)
    | lg _ _ _ => rfl
/-! ### values -/
def bndV (n : Int) : V := if n.natAbs < 10 ^ 60 then .int n else .non
def colV : Cols → List V → Str → V
  | (c, _) :: cs, v :: vs, z => if c = z then v else colV cs vs z
  | _, _, _ => .non
def cmpV (o : Bop) (x y : V) : V := match x, y with
  | .int i, .int j => (match o with
    | .add => bndV (i + j)
    | .sub => bndV (i - j)
    | .mul => bndV (i * j)
    | .equal => .bl (decide (i = j))
    | .unequal => .bl (!decide (i = j))
    | .less => .bl (decide (i < j))
    | .atmost => .bl (decide (i ≤ j))
    | .more => .bl (decide (j < i))
    | .atleast => .bl (decide (j ≤ i))
    | _ => .non)
  | .str i, .str j => (match o with
    | .equal => .bl (decide (i = j))
    | .unequal => .bl (!decide (i = j))
    | .less => .bl (decide (i.cps.toList < j.cps.toList))
    | .atmost => .bl (!decide (j.cps.toList < i.cps.toList))
    | .more => .bl (decide (j.cps.toList < i.cps.toList))
    | .atleast => .bl (!decide (i.cps.toList < j.cps.toList))
    | _ => .non)
  | _, _ => .non
def andV (x y : V) : V := if x = .bl false ∨ y = .bl false then .bl false else if x = .non ∨ y = .non then .non else .bl true
def orV (x y : V) : V := if x = .bl true ∨ y = .bl true then .bl true else if x = .non ∨ y = .non then .non else .bl false
def evT (cs : Cols) (row : List V) : Tr → V
  | .int n => .int n
  | .text z => .str z
  | .col z => colV cs row z
  | .neg a => match evT cs row a with
    | .int i => bndV (-i)
    | _ => .non
  | .null a => .bl (decide (evT cs row a = .non))
  | .not a => match evT cs row a with
    | .bl b => .bl (!b)
    | _ => .non
  | .bin o a b => if o = .and then andV (evT cs row a) (evT cs row b) else if o = .or then orV (evT cs row a) (evT cs row b) else cmpV o (evT cs row a) (evT cs row b)
/-- a value of that kind -/
inductive VK' : Kd → V → Prop
  | non (k : Kd) : VK' k .non
  | int {i : Int} (h : i.natAbs < 10 ^ 60) : VK' .int (.int i)
  | str (z : Str) : VK' .text (.str z)
  | bl (b : Bool) : VK' .truth (.bl b)
theorem bnd_ok (i : Int) : VK' .int (bndV i) := by
  unfold bndV
  split
  · rename_i h; exact .int h
  · exact .non _
inductive RowOk : Cols → List V → Prop
  | nil : RowOk [] []
  | cons {c : Str} {k : Kd} {cs : Cols} {v : V} {vs : List V} (h : VK' k v) (r : RowOk cs vs) : RowOk ((c, k) :: cs) (v :: vs)
theorem RowOk.len : ∀ {cs : Cols} {vs : List V}, RowOk cs vs → vs.length = cs.length
  | _, _, .nil => rfl
  | _, _, .cons _ r => congrArg (· + 1) r.len
theorem colV_ok : ∀ {cs : Cols} {vs : List V} {z : Str} {k : Kd}, RowOk cs vs → (cs.find? fun c => decide (c.1 = z)).map (·.2) = some k → VK' k (colV cs vs z)
  | _, _, z, k, .cons (c := c) (k := k') (cs := cs) (v := v) (vs := vs) h r, f => by
    rw [List.find?_cons] at f
    unfold colV
    by_cases e : c = z
    · rw [decide_eq_true (show (c, k').1 = z from e)] at f
      rw [if_pos e, ← Option.some.inj f]
      exact h
    · rw [decide_eq_false (show ¬ (c, k').1 = z from e)] at f
      rw [if_neg e]
      exact colV_ok r f
theorem ev_ok {cs : Cols} {row : List V} (hr : RowOk cs row) {t : Tr} {k : Kd} (h : Ty cs t k) : VK' k (evT cs row t) := by
  induction h with
  | int h => exact .int (by omega)
  | text h => exact .str _
  | col h hk f => exact colV_ok hr f
  | @neg a h ih =>
    unfold evT
    generalize evT cs row a = x at ih
    cases ih with
    | non => exact .non _
    | int _ => exact bnd_ok _
  | null h hk ih => exact .bl _
  | @not a h ih =>
    unfold evT
    generalize evT cs row a = x at ih
    cases ih with
    | non => exact .non _
    | bl b => exact .bl _
  | @ar o a b ho h h2 ih ih2 =>
    unfold evT
    rw [if_neg (by intro z; rw [z] at ho; cases ho), if_neg (by intro z; rw [z] at ho; cases ho)]
    generalize evT cs row a = x at ih
    generalize evT cs row b = y at ih2
    cases ih with
    | non => cases ih2 <;> exact .non _
    | int _ =>
      cases ih2 with
      | non => exact .non _
      | int _ => cases o <;> first | exact bnd_ok _ | cases ho
  | @cmp o a b k ho ho2 hk h h2 ih ih2 =>
    unfold evT
    rw [if_neg (by intro z; rw [z] at ho2; cases ho2), if_neg (by intro z; rw [z] at ho2; cases ho2)]
    generalize evT cs row a = x at ih
    generalize evT cs row b = y at ih2
    cases ih with
    | non => cases ih2 <;> exact .non _
    | int _ =>
      cases ih2 with
      | non => exact .non _
      | int _ => cases o <;> first | exact .bl _ | exact .non _ | cases ho | cases ho2
    | str _ =>
      cases ih2 with
      | non => exact .non _
      | str _ => cases o <;> first | exact .bl _ | exact .non _ | cases ho | cases ho2
    | bl _ => exact absurd rfl hk
  | @lg o a b ho h h2 ih ih2 =>
    unfold evT
    by_cases e : o = .and
    · rw [if_pos e]
      unfold andV
      split
      · exact .bl _
      · split
        · exact .non _
        · exact .bl _
    · rw [if_neg e]
      by_cases e2 : o = .or
      · rw [if_pos e2]
        unfold orV
        split
        · exact .bl _
        · split
          · exact .non _
          · exact .bl _
      · cases o <;> first | exact absurd rfl e | exact absurd rfl e2 | cases ho
theorem VK'.flat {k : Kd} {v : V} (h : VK' k v) : flatV v = true := by cases h <;> rfl
def colsD (cs : Cols) : PyData := .tuple (cs.map fun c => .tuple [.str c.1, .str c.2.s])


/-! ### tuples of two and three; slices of tuples; membership of values -/
theorem dp_two {K : PySem.W.Frag} {H : Hp} {v : V} {a : Str} {d : PyData} (h : Dp K H v (.tuple [.str a, d])) : ∃ p x, v = .ref p ∧ SqT K H p [.str a, x] ∧ Dp K H x d := by
  cases h with
  | tup hs hds =>
    cases hds with
    | cons h1 r =>
      cases r with
      | cons h2 r =>
        cases r
        cases h1
        exact ⟨_, _, rfl, hs, h2⟩
theorem dp_three {K : PySem.W.Frag} {H : Hp} {v : V} {a : Str} {d e : PyData} (h : Dp K H v (.tuple [.str a, d, e])) : ∃ p x y, v = .ref p ∧ SqT K H p [.str a, x, y] ∧ Dp K H x d ∧ Dp K H y e := by
  cases h with
  | tup hs hds =>
    cases hds with
    | cons h1 r =>
      cases r with
      | cons h2 r =>
        cases r with
        | cons h3 r =>
          cases r
          cases h1
          exact ⟨_, _, _, rfl, hs, h2, h3⟩
/-- t[1:] of a tuple -/
theorem eu_sl1 {K : PySem.W.Frag} {σ : L2.St} {H : Hp} {te : TE} {tl th : TO} {a : Addr} {x : V} {xs : List V} (h : Ev te σ H (.ref a)) (h1 : EvO tl σ H (some 1)) (h2 : EvO th σ H none) (hx : SqT K H a (x :: xs)) : EvU (tSl (rSlA K) te tl th) σ H xs := fun H0 e Q q =>
  h H0 e _ fun H2 e2 => h1 H2 (e.trans e2) _ fun H3 e3 => h2 H3 ((e.trans e2).trans e3) _ fun H4 e4 => by
    have z1 : HT.sIx (x :: xs).length 0 (some 1) = 1 := by
      show HT.sIx (xs.length + 1) 0 (some ((1 : Nat) : Int)) = 1
      rw [HT.sIx_nat]
      omega
    refine ⟨a, x :: xs, rfl, ex_t (((e.trans e2).trans e3).trans e4) hx, fun z => ?_, fun _ p hp => ?_⟩
    · have := z.1
      rw [z1] at this
      cases this
    · have ec : cutV (x :: xs) (some 1) none = xs := by
        unfold cutV
        rw [z1, HT.sIx_none]
        show (xs.take (xs.length + 1 - 1)) = xs
        exact List.take_of_length_le (Nat.le_refl _)
      rw [ec]
      exact q p _ (fresh_back ((e2.trans e3).trans e4) hp) (((e2.trans e3).trans e4).trans (Ex.new hp)) upd_same
/-- [f(x) for x in a new tuple] -/
theorem el_mapTN {K : PySem.W.Frag} {σ : L2.St} {H : Hp} {tl te : TE} {j : Nat} {vs : List Nat} {xs ys : List V} (h : EvU tl σ H xs) (hz : xs.length ≤ 40000) (hw : ∀ x, wipe ((wipe σ vs).set j (some x)) vs = wipe σ vs) (hl : ys.length = xs.length)
    (he : ∀ (i : Nat) (x y : V), xs[i]? = some x → ys[i]? = some y → ∀ H1, Ex H H1 → Ev te ((wipe σ vs).set j (some x)) H1 y) : EvL (tLc (iTup K tl) (gName j) tYes te vs) σ H ys := by
  intro H0 e Q q
  refine h H0 e _ fun a H1 _ e1 ha => ⟨a, rfl, ⟨xs, st_of ha⟩, fun Dl hD => ?_⟩
  refine lc_tup (xs := xs) (fun i H' => H1 Dl = none ∧ Ex H1 H' ∧ H' Dl = some (.lst (ys.take i))) ⟨hD, Ex.new hD, upd_same⟩ (fun i H' _ p => ex_t p.2.1 (st_of ha)) (fun i x H' hi p => ⟨hw x, ?_⟩) (fun H' p => ?_)
  · obtain ⟨p1, p2, p3⟩ := p
    have hi2 : i < ys.length := by
      have := (List.getElem?_eq_some_iff.mp hi).1
      omega
    have hy : ys[i]? = some ys[i] := List.getElem?_eq_getElem hi2
    show te ((wipe σ vs).set j (some x)) H' _
    refine he i x ys[i] hi hy H1 (e.trans e1) H' p2 _ fun H4 e4 => ⟨ys.take i, e4 Dl _ p3, sz_lt (by rw [List.length_take]; omega), p1, (p2.trans e4).mut p1, ?_⟩
    rw [upd_same, List.take_add_one, hy] <;> rfl
  · obtain ⟨p1, p2, p3⟩ := p
    rw [← hl, List.take_length] at p3
    exact q Dl H' (fresh_back e1 p1) (e1.trans p2) p3
/-- list.index -/
theorem ev_index {K : PySem.W.Frag} {σ : L2.St} {H : Hp} {to te : TE} {ys : List V} {y z : V} {j : Nat} (h : EvL to σ H ys) (hy : ∀ H1, Ex H H1 → Ev te σ H1 y) (fy : flatV y = true) (fs : ys.all flatV = true) (hj : ys[j]? = some z) (hz : eqV z y = true) (hn : ∀ (m : Nat) (z' : V), m < j → ys[m]? = some z' → eqV z' y = false) :
    Ev (tBM K "list" (rIndex K) to (tCons te tNil)) σ H (.int (j : Int)) := fun H1 e Q q =>
  h H1 e _ fun p H2 _ e2 hp => ⟨.inl ⟨rfl, _, sq_of hp⟩, hy H2 (e.trans e2) _ (Ex.refl H2) _ fun H3 e3 => ⟨p, ys, y, j, z, rfl, rfl, sq_of (e3 _ _ hp), fy, fs, hj, hz, hn, q H3 (e2.trans e3)⟩⟩
theorem ev_abs {σ : L2.St} {H : Hp} {te : TE} {i : Int} (h : Ev te σ H (.int i)) : Ev (tCB (fun xs H Q => ∃ i, xs = [V.int i] ∧ Q (.int (if i < 0 then -i else i)) H) (tCons te tNil)) σ H (.int (i.natAbs : Int)) := fun H1 e Q q =>
  h H1 e _ fun H2 e2 => ⟨i, rfl, by
    have : (if i < 0 then -i else i) = (i.natAbs : Int) := by split <;> omega
    rw [this]
    exact q H2 e2⟩
theorem eqS_refl (z : Str) : eqV (.str z) (.str z) = true := by show (z == z) = true; simp
theorem eqS_ne {a b : Str} (h : a ≠ b) : eqV (.str a) (.str b) = false := by
  show (a == b) = false
  simpa using h
theorem in_non {x y : V} : inV .non [x, y] = decide (x = .non ∨ y = .non) := by
  have e : ∀ v : V, eqV v .non = decide (v = .non) := by intro v; cases v <;> rfl
  unfold inV
  simp only [List.any_cons, List.any_nil, Bool.or_false, e]
  by_cases h : x = .non <;> by_cases h2 : y = .non <;> simp [h, h2]
theorem in_non1 {x : V} : inV .non [x] = decide (x = .non) := by
  have e : ∀ v : V, eqV v .non = decide (v = .non) := by intro v; cases v <;> rfl
  unfold inV
  simp only [List.any_cons, List.any_nil, Bool.or_false, e]
theorem in_bl {x y : V} {b : Bool} (hx : VK' .truth x) (hy : VK' .truth y) : inV (.bl b) [x, y] = decide (x = .bl b ∨ y = .bl b) := by
  have e : ∀ v : V, VK' .truth v → eqV v (.bl b) = decide (v = .bl b) := by
    intro v h
    cases h with
    | non => rfl
    | bl c => cases b <;> cases c <;> rfl
  unfold inV
  simp only [List.any_cons, List.any_nil, Bool.or_false, e x hx, e y hy]
  by_cases h : x = .bl b <;> by_cases h2 : y = .bl b <;> simp [h, h2]
theorem kin_bop (o : Bop) : kIn o.s ["int", "text"] = false ∧ decide (o.s = Str.ofString "column") = false ∧ decide (o.s = Str.ofString "null") = false ∧ kIn o.s ["and", "or"] = o.lg ∧ decide (o.s = Str.ofString "or") = decide (o = .or) ∧ decide (o.s = Str.ofString "and") = decide (o = .and) ∧ decide (o.s = Str.ofString "not") = false ∧ kIn o.s ["neg", "add", "sub", "mul"] = o.ar ∧ decide (o.s = Str.ofString "neg") = false ∧ decide (o.s = Str.ofString "add") = decide (o = .add) ∧ decide (o.s = Str.ofString "sub") = decide (o = .sub) ∧ decide (o.s = Str.ofString "mul") = decide (o = .mul) ∧ decide (o.s = Str.ofString "equal") = decide (o = .equal) ∧ decide (o.s = Str.ofString "unequal") = decide (o = .unequal) ∧ decide (o.s = Str.ofString "less") = decide (o = .less) ∧ decide (o.s = Str.ofString "atmost") = decide (o = .atmost) ∧ decide (o.s = Str.ofString "more") = decide (o = .more) := by
  cases o <;> decide +kernel
def spEv (K : PySem.W.Frag) (n : Nat) : Sp := fun vs H Q _ => ∃ (t : Tr) (k : Kd) (cs : Cols) (row : List V) (vt vc : V) (r : Addr), vs = [vt, vc, .ref r] ∧ Dp K H vt t.d ∧ t.h ≤ n ∧ Ty cs t k ∧ Dp K H vc (colsD cs) ∧ SqT K H r row ∧ RowOk cs row ∧ cs.length ≤ 100 ∧ ∀ H', Ex H H' → Q (evT cs row t) H'
theorem cv_ev {K : PySem.W.Frag} {n : Nat} {t : Tr} {k : Kd} {cs : Cols} {row : List V} {vt vc : V} {r : Addr} {H : Hp} (h1 : Dp K H vt t.d) (h2 : t.h ≤ n) (h3 : Ty cs t k) (h4 : Dp K H vc (colsD cs)) (h5 : SqT K H r row) (h6 : RowOk cs row) (h7 : cs.length ≤ 100) : SpV (spEv K n) [vt, vc, .ref r] H (evT cs row t) := fun H1 e Q q E => ⟨t, k, cs, row, vt, vc, r, rfl, dp_mono e h1, h2, h3, dp_mono e h4, ex_t e h5, h6, h7, fun H2 e2 => q H2 e2⟩
/-- the columns in the heap -/
theorem cols_at {K : PySem.W.Frag} {H : Hp} {vc : V} {cs : Cols} (h : Dp K H vc (colsD cs)) : ∃ (c : Addr) (xs : List V), vc = .ref c ∧ SqT K H c xs ∧ xs.length = cs.length ∧ ∀ (i : Nat) (x : V), xs[i]? = some x → ∃ p c, cs[i]? = some c ∧ x = .ref p ∧ SqT K H p [.str c.1, .str c.2.s] := by
  cases h with
  | tup hs hds =>
    refine ⟨_, _, rfl, hs, by rw [dpa_len hds, List.length_map], fun i x hx => ?_⟩
    obtain ⟨d, h1, h2⟩ := dpa_at hds hx
    rw [List.getElem?_map] at h1
    cases e : cs[i]? with
    | none => rw [e] at h1; cases h1
    | some c =>
      rw [e] at h1
      rw [← Option.some.inj h1] at h2
      obtain ⟨p, y, rfl, h3, h4⟩ := dp_two h2
      cases h4
      exact ⟨p, c, rfl, rfl, h3⟩
def plc : Cols → Str → Nat
  | [], _ => 0
  | (c, _) :: cs, z => if c = z then 0 else plc cs z + 1
theorem plc_spec : ∀ {cs : Cols} {z : Str} {k : Kd} {row : List V}, (cs.find? fun c => decide (c.1 = z)).map (·.2) = some k → row.length = cs.length → (∃ c, cs[plc cs z]? = some c ∧ c.1 = z) ∧ row[plc cs z]? = some (colV cs row z) ∧ ∀ (m : Nat) c, m < plc cs z → cs[m]? = some c → c.1 ≠ z
  | (c, k') :: cs, z, k, v :: row, f, hl => by
    rw [List.find?_cons] at f
    unfold plc colV
    by_cases e : c = z
    · rw [if_pos e, if_pos e]
      exact ⟨⟨_, rfl, e⟩, rfl, fun m c h => by omega⟩
    · rw [decide_eq_false (show ¬ (c, k').1 = z from e)] at f
      rw [if_neg e, if_neg e]
      obtain ⟨⟨d, h1, h2⟩, h3, h4⟩ := plc_spec (cs := cs) (row := row) f (by simpa using hl)
      refine ⟨⟨d, by simpa using h1, h2⟩, by simpa using h3, fun m d' hm hd => ?_⟩
      cases m with
      | zero =>
        have : (c, k') = d' := by simpa using hd
        rw [← this]
        exact e
      | succ m => exact h4 m d' (by omega) (by simpa using hd)
  | (c, k') :: cs, z, k, [], f, hl => by simp at hl
  | [], z, k, row, f, hl => by cases f
/-- two ints or two texts -/
def Two (x y : V) : Prop := (∃ i j, x = .int i ∧ y = .int j) ∨ ∃ a b, x = .str a ∧ y = .str b
def rAny2 (f : Int → Int → Bool) (g : Str → Str → Bool) : R2 := fun x y H Q => (rI0 fun i j => .bl (f i j)) x y H Q ∨ (∃ i j, x = .str i ∧ y = .str j ∧ Q (.bl (g i j)) H)
theorem ev_two {σ : L2.St} {H : Hp} {ta tb : TE} {x y v : V} {f : Int → Int → Bool} {g : Str → Str → Bool} (ha : Ev ta σ H x) (hb : Ev tb σ H y) (h : Two x y) (hi : ∀ i j, x = .int i → y = .int j → v = .bl (f i j)) (hs : ∀ i j, x = .str i → y = .str j → v = .bl (g i j)) : Ev (tOp (rAny2 f g) ta tb) σ H v := by
  rcases h with ⟨i, j, rfl, rfl⟩ | ⟨i, j, rfl, rfl⟩
  · rw [hi i j rfl rfl]
    exact ev_op ha hb fun H1 e1 Q q => .inl ⟨i, j, rfl, rfl, q H1 (Ex.refl H1)⟩
  · rw [hs i j rfl rfl]
    exact ev_op ha hb fun H1 e1 Q q => .inr ⟨i, j, rfl, rfl, q H1 (Ex.refl H1)⟩
theorem ev_lt2 {σ : L2.St} {H : Hp} {ta tb : TE} {x y : V} (ha : Ev ta σ H x) (hb : Ev tb σ H y) (h : Two x y) : Ev (tOp (rAny2 (fun i j => decide (i < j)) (fun i j => decide (i.cps.toList < j.cps.toList))) ta tb) σ H (cmpV .less x y) := ev_two ha hb h (fun i j hx hy => by rw [hx, hy] <;> rfl) (fun i j hx hy => by rw [hx, hy] <;> rfl)
theorem less_bl {x y : V} (h : Two x y) : ∃ b, cmpV .less x y = .bl b ∧ cmpV .atleast x y = .bl (!b) ∧ cmpV .more y x = .bl b ∧ cmpV .atmost y x = .bl (!b) := by
  rcases h with ⟨i, j, rfl, rfl⟩ | ⟨i, j, rfl, rfl⟩
  · refine ⟨decide (i < j), rfl, ?_, rfl, ?_⟩
    · show V.bl (decide (j ≤ i)) = V.bl (!decide (i < j))
      rw [show decide (j ≤ i) = !decide (i < j) by by_cases h : i < j <;> simp [h] <;> omega]
    · show V.bl (decide (j ≤ i)) = V.bl (!decide (i < j))
      rw [show decide (j ≤ i) = !decide (i < j) by by_cases h : i < j <;> simp [h] <;> omega]
  · exact ⟨decide (i.cps.toList < j.cps.toList), rfl, rfl, rfl, rfl⟩
theorem Two.symm {x y : V} (h : Two x y) : Two y x := by
  rcases h with ⟨i, j, rfl, rfl⟩ | ⟨i, j, rfl, rfl⟩
  · exact .inl ⟨j, i, rfl, rfl⟩
  · exact .inr ⟨j, i, rfl, rfl⟩
/-- x is True, x is False, x None or a bool -/
def rIsF : R2 := fun x y H Q => ∃ b, y = .bl b ∧ ((x = .non ∧ Q (.bl false) H) ∨ ∃ a, x = .bl a ∧ Q (.bl (decide (a = b))) H)
theorem op_isF {X : Cx} : OpR X (compareOp .Is) rIsF := by
  intro pins s σ H x y v u Q I rx ry h
  obtain ⟨b, rfl, ⟨rfl, q⟩ | ⟨a, rfl, q⟩⟩ := h
  · cases (show v = Value.none from rx)
    cases (show u = Value.bool b from ry)
    exact wpAny_is_other rfl (fun z => nomatch z) ⟨.bl false, H, I, rfl, q⟩
  · exact op_is_bl pins s σ H (.bl a) (.bl b) v u Q I rx ry ⟨a, b, rfl, rfl, q⟩
theorem ev_isF {σ : L2.St} {H : Hp} {te : TE} {v : V} {b : Bool} (h : Ev te σ H v) (hv : VK' .truth v) : Ev (tOp rIsF te (tC (.bl b))) σ H (.bl (decide (v = .bl b))) := fun H1 e Q q => h H1 e _ fun H2 e2 => by
  cases hv with
  | non => exact ⟨b, rfl, .inl ⟨rfl, q H2 e2⟩⟩
  | bl a =>
    refine ⟨b, rfl, .inr ⟨a, rfl, ?_⟩⟩
    have : decide (V.bl a = V.bl b) = decide (a = b) := dec_bl
    rw [← this]
    exact q H2 e2
/-- [x for x in xs if p(x)] -/
theorem el_flL {K : PySem.W.Frag} {σ : L2.St} {H : Hp} {te tl : TE} {tt : TT} {a : Addr} {xs : List V} {j : Nat} {vs : List Nat} {p : V → Bool} (h : Ev te σ H (.ref a)) (hx : SqL K H a xs) (hz : xs.length ≤ 40000) (hw : ∀ x, wipe ((wipe σ vs).set j (some x)) vs = wipe σ vs)
    (ht : ∀ x, x ∈ xs → ∀ H1, Ex H H1 → EvT tt ((wipe σ vs).set j (some x)) H1 (p x)) (he : ∀ x H1, x ∈ xs → Ex H H1 → Ev tl ((wipe σ vs).set j (some x)) H1 x) : EvL (tLc (iList K te) (gName j) tt tl vs) σ H (xs.filter p) := by
  intro H0 e Q q
  refine h H0 e _ fun H1 e1 => ⟨a, rfl, ⟨xs, ex_l (e.trans e1) hx⟩, fun Dl hD => ?_⟩
  refine lc_list (xs := xs) (fun i H' => H1 Dl = none ∧ Ex H1 H' ∧ H' Dl = some (.lst ((xs.take i).filter p))) ⟨hD, Ex.new hD, upd_same⟩ (fun i H' _ z => ex_l ((e.trans e1).trans z.2.1) hx) (fun i x H' hi z => ⟨hw x, ?_⟩) (fun H' z => ?_)
  · obtain ⟨p1, p2, p3⟩ := z
    have hi2 := (List.getElem?_eq_some_iff.mp hi).1
    have hm := List.mem_of_getElem? hi
    have et : (xs.take (i + 1)).filter p = (xs.take i).filter p ++ (if p x = true then [x] else []) := by
      rw [List.take_add_one, hi, List.filter_append]
      show _ ++ [x].filter p = _
      by_cases hp : p x = true
      · rw [if_pos hp, List.filter_cons_of_pos hp] <;> rfl
      · rw [if_neg hp, List.filter_cons_of_neg hp] <;> rfl
    refine ht x hm H1 (e.trans e1) H' p2 _ fun H3 e3 => ?_
    cases hp : p x with
    | true =>
      show tl _ H3 _
      refine he x H1 hm (e.trans e1) H3 (p2.trans e3) _ fun H4 e4 => ⟨_, e4 Dl _ (e3 Dl _ p3), sz_lt ?_, p1, ((p2.trans e3).trans e4).mut p1, ?_⟩
      · have := List.length_filter_le p (xs.take i)
        rw [List.length_take] at this
        omega
      · rw [upd_same, et, if_pos hp]
    | false =>
      show H1 Dl = none ∧ _
      refine ⟨p1, p2.trans e3, ?_⟩
      rw [et, if_neg (by rw [hp]; exact Bool.false_ne_true), List.append_nil]
      exact e3 Dl _ p3
  · obtain ⟨p1, p2, p3⟩ := z
    rw [List.take_length] at p3
    exact q Dl H' (fresh_back e1 p1) (e1.trans p2) p3
theorem dpa_nons {K : PySem.W.Frag} {H : Hp} : ∀ {ys : List V}, (∀ y ∈ ys, y = .non) → DpAll K H ys (ys.map fun _ => PyData.none)
  | [], _ => .nil
  | y :: ys, h => by
    rw [h y (List.mem_cons_self ..)]
    exact .cons .non (dpa_nons fun z hz => h z (List.mem_cons_of_mem _ hz))
theorem ev_neNil {K : PySem.W.Frag} {σ : L2.St} {H : Hp} {ta : TE} {ys : List V} (h : EvL ta σ H ys) (hz : ∀ y ∈ ys, y = .non) : Ev (tOp (rNeD K) ta (tLst tNil)) σ H (.bl (!ys.isEmpty)) := by
  refine ev_opLL h (el_lst ea_nil (by decide)) fun p q H1 hp hq _ => rv_val fun H2 e2 Q k => ⟨_, _, .lst (sq_of (e2 _ _ hp)) (dpa_nons hz), .lst (sq_of (e2 _ _ hq)) .nil, shaped_lst (n := 0) (fun d hd => ?_) (by decide), by decide, ?_⟩
  · obtain ⟨z, hz', rfl⟩ := List.mem_map.mp hd
    exact .non 0
  · have e : PyData.eqv (.list (ys.map fun _ => PyData.none)) (.list []) = ys.isEmpty := by
      cases ys <;> simp [PyData.eqv, PyData.eqvAll]
    rw [e]
    exact k
theorem given_first {n j : Nat} {f : Nat → Bool} {v : Nat → V} (hj : j < n) (hf : f j = true) (hn : ∀ m, m < j → f m = false) : (given n f v)[0]? = some (v j) := by
  unfold given
  rw [List.getElem?_map]
  have : ((List.range n).filter f)[0]? = some j := by
    rw [← List.head?_eq_getElem?, List.head?_filter, List.find?_range_eq_some]
    exact ⟨hf, List.mem_range.mpr hj, fun m hm => by rw [hn m hm] <;> rfl⟩
  rw [this] <;> rfl
theorem et_andF {t u : TT} {σ : L2.St} {H : Hp} (h : EvT t σ H false) : EvT (tAnd t u) σ H false := et_is (et_and (a := false) (b := false) h fun z => nomatch z) rfl


/-- names of at most b letters -/
def Nm (b : Nat) (z : Str) : Prop := 1 ≤ z.length ∧ z.length ≤ b ∧ ∀ c ∈ z.cps.toList, 97 ≤ c ∧ c ≤ 122
theorem Nm.mono {a b : Nat} {z : Str} (h : Nm a z) (e : a ≤ b) : Nm b z := ⟨h.1, Nat.le_trans h.2.1 e, h.2.2⟩
theorem Nm.tx {b : Nat} {z : Str} (h : Nm b z) : TxOk b z := ⟨h.2.1, fun c hc => by have := h.2.2 c hc; omega⟩
def alphaZ : List Nat := (List.range 26).map (· + 97)
theorem alpha_eq : (Str.ofString "abcdefghijklmnopqrstuvwxyz") = ⟨alphaZ.toArray⟩ := by decide +kernel
theorem alpha_at (i : Int) (h : 0 ≤ i ∧ i < 26) : 97 ≤ alphaZ.getD i.toNat 0 ∧ alphaZ.getD i.toNat 0 ≤ 122 := by
  have : ∀ k : Nat, k < 26 → 97 ≤ alphaZ.getD k 0 ∧ alphaZ.getD k 0 ≤ 122 := by decide
  exact this _ (by omega)
theorem alpha_len : alphaZ.length = 26 := by decide
/-- letters[i] -/
theorem ev_letter {σ : L2.St} {H : Hp} {ta tb : TE} {i : Int} (ha : Ev ta σ H (.str (Str.ofString "abcdefghijklmnopqrstuvwxyz"))) (hb : Ev tb σ H (.int i)) (h : 0 ≤ i ∧ i < 26) : Ev (tOp rIxS ta tb) σ H (.str ⟨#[alphaZ.getD i.toNat 0]⟩) :=
  ev_ixB (z := ⟨alphaZ.toArray⟩) (ev_is ha (congrArg V.str alpha_eq)) hb (by decide +kernel) (at_cps (l := alphaZ) rfl h.1 (by rw [alpha_len]; exact h.2))
theorem Nm.one {i : Int} (h : 0 ≤ i ∧ i < 26) : Nm 1 ⟨#[alphaZ.getD i.toNat 0]⟩ := ⟨Nat.le_refl 1, Nat.le_refl 1, fun c hc => by
  have : c = alphaZ.getD i.toNat 0 := by simpa using hc
  rw [this]
  exact alpha_at i h⟩
theorem Nm.app {a b : Nat} {x y : Str} (h : Nm a x) (k : TxOk b y ∧ ∀ c ∈ y.cps.toList, 97 ≤ c ∧ c ≤ 122) : Nm (a + b) (x ++ y) := by
  have hl : (x ++ y).length = x.length + y.length := by rw [str_len, codes_app rfl rfl, List.length_append, ← str_len, ← str_len]
  refine ⟨by have := h.1; omega, by have := h.2.1; have := k.1.1; omega, fun c hc => ?_⟩
  rw [codes_app (x := x.cps.toList) (y := y.cps.toList) rfl rfl] at hc
  rcases List.mem_append.mp hc with z | z
  · exact h.2.2 c z
  · exact k.2 c z
def spNames (K : PySem.W.Frag) : Sp := fun vs H Q _ => ∃ (p : Addr) (cs : List Int), vs = [.ref p] ∧ SqL K H p (cs.map V.int) ∧ cs.length ≤ 12 ∧ (∀ c ∈ cs, Wd c) ∧ ∀ q' (zs : List Str) H', H q' = none → Ex H H' → H' q' = some (.lst (zs.map V.str)) → zs.length = cs.length → (∀ z ∈ zs, Nm 12 z) → Q (.ref q') H'
theorem Nm.cutTo {z : Str} (p : Nat) : cutS z none (some (p : Int)) = mkS (z.cps.toList.take p) := by
  rw [mkS_codes z]
  exact cutS_to _ p
theorem Nm.cutFrom {z : Str} (p : Nat) : cutS z (some (p : Int)) none = mkS (z.cps.toList.drop p) := by
  rw [mkS_codes z]
  exact cutS_from _ p
/-- one letter put in another's place -/
theorem Nm.spoil {b : Nat} {z c : Str} {p : Nat} (h : Nm b z) (hp : p < z.length) (hc : Nm 1 c) : Nm b (cutS z none (some (p : Int)) ++ c ++ cutS z (some ((p + 1 : Nat) : Int)) none) := by
  rw [Nm.cutTo, Nm.cutFrom]
  obtain ⟨h1, h2, h3⟩ := h
  have hl := str_len z
  have hcl := str_len c
  have e : (mkS (z.cps.toList.take p) ++ c ++ mkS (z.cps.toList.drop (p + 1))).cps.toList = (z.cps.toList.take p ++ c.cps.toList) ++ z.cps.toList.drop (p + 1) := by
    rw [codes_app (x := z.cps.toList.take p ++ c.cps.toList) (y := z.cps.toList.drop (p + 1)) (codes_app rfl rfl) rfl]
  refine ⟨?_, ?_, fun d hd => ?_⟩
  · rw [str_len, e, List.length_append, List.length_append, ← hcl]
    have := hc.1
    omega
  · rw [str_len, e, List.length_append, List.length_append, ← hcl, List.length_take, List.length_drop]
    have := hc.2.1
    omega
  · rw [e] at hd
    rcases List.mem_append.mp hd with k | k
    · rcases List.mem_append.mp k with k | k
      · exact h3 d (List.mem_of_mem_take k)
      · exact hc.2.2 d k
    · exact h3 d (List.mem_of_mem_drop k)
/-- a list as a test -/
theorem et_lst {K : PySem.W.Frag} {σ : L2.St} {H : Hp} {te : TE} {p : Addr} {xs : List V} (h : Ev te σ H (.ref p)) (hS : ∀ H1, Ex H H1 → SqL K H1 p xs) : EvT (fun σ H Q => te σ H fun x H' => ∃ k, TruV K x H' k ∧ Q k H') σ H (!xs.isEmpty) := fun H1 e Q q =>
  h H1 e _ fun H2 e2 => ⟨!xs.isEmpty, .inl ⟨xs, hS H2 (e.trans e2), rfl⟩, q H2 e2⟩
theorem ev_inStrs {K : PySem.W.Frag} {σ : L2.St} {H : Hp} {ta tb : TE} {z : Str} {p : Addr} {zs : List Str} (ha : Ev ta σ H (.str z)) (hb : Ev tb σ H (.ref p)) (h : SqL K H p (zs.map V.str)) : Ev (tOp (rIn K false) ta tb) σ H (.bl (inV (.str z) (zs.map V.str))) := ev_op ha hb (rv_isL h rfl (by rw [List.all_map]; exact List.all_eq_true.mpr fun _ _ => rfl))
theorem inS_mem {z : Str} {zs : List Str} : inV (.str z) (zs.map V.str) = decide (z ∈ zs) := by
  have e : ∀ a b : Str, eqV (.str a) (.str b) = decide (a = b) := fun a b => by
    by_cases h : a = b
    · rw [h, eqS_refl, decide_eq_true rfl]
    · rw [eqS_ne h, decide_eq_false h]
  unfold inV
  rw [List.any_map]
  induction zs with
  | nil => rfl
  | cons y ys ih =>
    rw [List.any_cons, ih]
    simp only [Function.comp_apply, e]
    by_cases h1 : z = y
    · subst h1
      simp
    · by_cases h2 : z ∈ ys
      · simp [h2]
      · have h3 : ¬ y = z := fun k => h1 k.symm
        simp [h1, h2, h3]
theorem pigeon {f : Nat → Str} : ∀ (n : Nat) (l : List Str), (∀ j, j < n → f j ∈ l) → (∀ j k, j < n → k < n → f j = f k → j = k) → n ≤ l.length
  | 0, _, _, _ => Nat.zero_le _
  | n + 1, l, h, inj => by
    have hm := h n (Nat.lt_succ_self n)
    have hl := List.length_pos_of_mem hm
    have := pigeon n (l.erase (f n)) (fun j hj => (List.mem_erase_of_ne fun e => by
      have := inj j n (by omega) (by omega) e
      omega).mpr (h j (by omega))) fun j k hj hk => inj j k (by omega) (by omega)
    rw [List.length_erase_of_mem hm] at this
    omega
def candZ (k : Nat) : Str := Str.ofString "z" ++ (⟨#[alphaZ.getD ((k : Int) / 26).toNat 0]⟩ : Str) ++ (⟨#[alphaZ.getD ((k : Int) % 26).toNat 0]⟩ : Str)
theorem cand_inj : ∀ j, j < 13 → ∀ k, k < 13 → candZ j = candZ k → j = k := by decide +kernel


/-- the law's signs -/
def signsZ : List Nat := [32, 33, 34, 35, 36] ++ (List.range 89).map (· + 38)
theorem signs_len : signsZ.length = 94 := by decide +kernel
theorem signs_ok : ∀ c ∈ signsZ, 32 ≤ c ∧ c ≤ 126 ∧ c ≠ 37 := by decide +kernel
theorem signs_eq : (Str.ofString " !\"#$&'()*+,-./0123456789:;<=>?@ABCDEFGHIJKLMNOPQRSTUVWXYZ[\\]^_`" ++ Str.ofString "abcdefghijklmnopqrstuvwxyz{|}~" : Str) = ⟨signsZ.toArray⟩ := by decide +kernel
theorem shaped_signs {z : Str} (h : ∀ c ∈ z.cps.toList, c ∈ signsZ) : SeqAt.shaped (.str z) = true := by
  unfold SeqAt.shaped
  have e : PyData.strOk z = true := by
    unfold PyData.strOk
    rw [Array.all_eq_true']
    intro c hc
    have := signs_ok c (h c (by simpa using hc))
    simp only [decide_eq_true_eq]
    omega
  rw [show (PyData.str z).canLay0 = PyData.strOk z by simp [PyData.canLay0], e] <;> rfl


/-! ### a lambda as the key of sorted -/
section
open LamX
/-- the function object of a lambda that captures nothing -/
def LamO (f c' : Addr) (q : Str) (params : Arguments) (body : Expr) (scope : Scope) : HO := .ext fun h => ∃ pm ctv, h.get? f = some (PySem.W.kla_obj "<lambda>" q params body scope [] pm c' ctv)
/-- the table of a def with one lambda, once that is made -/
def tabOf (pos : Pos) (c' : Addr) : Array Value := #[rawInt pos.line, rawInt pos.col, .ref c']
/-- the lambda's code object is there -/
def LamTab (H : Hp) (P : Addr) (pos : Pos) (q : Str) : Prop := ∃ c', H P = some (.tbl (tabOf pos c')) ∧ H c' = some (CodeO c' q)
def tLam (P : Addr) (q : Str) (params : Arguments) (body : Expr) (scope : Scope) (pos : Pos) : TE := fun _ H Q =>
  (H P = some (.tbl #[]) ∧ ∀ c' f, H c' = none → H f = none → c' ≠ f → Q (.ref f) (upd (upd (upd H P (.tbl (tabOf pos c'))) c' (CodeO c' q)) f (LamO f c' q params body scope))) ∨
  (∃ c', H P = some (.tbl (tabOf pos c')) ∧ H c' = some (CodeO c' q) ∧ ∀ f, H f = none → Q (.ref f) (upd H f (LamO f c' q params body scope)))
theorem lamO_ok {P : Program} {w : World} {H : Hp} {h : Heap} {f c' : Addr} {q : Str} {params : Arguments} {body : Expr} {scope : Scope} {pm ctv : Value} (e : h.get? f = some (PySem.W.kla_obj "<lambda>" q params body scope [] pm c' ctv)) :
    ObjOk P w (upd H f (LamO f c' q params body scope)) h f (LamO f c' q params body scope) :=
  ⟨⟨pm, ctv, e⟩, ⟨_, e⟩, fun _ _ ⟨a, b, z⟩ st => ⟨a, b, st _ z⟩⟩
theorem among_one {pos : Pos} {c' : Addr} : codeAmong pos (tabOf pos c').toList = some (.ref c') := by
  unfold tabOf rawInt codeAmong
  simp
theorem pe_lam {X : Cx} {params : Arguments} {body : Expr} {scope : Scope} {pos : Pos} {c P : Addr} (TB : TabB X.base X.mg c P) (hcode : X.env.code = .ref c) (hdef : defaultsOf params X.env = ([], []) := by rfl)
    (hfree : ∀ y ∈ scope.names, y.2 = .free → ∃ c, X.env.cells.lookup y.1 = some c) (hclo : cloFrom X.env.cells scope.names [] = []) : PE X (.Lambda params body scope pos) (tLam P (X.env.qual ++ "<lambda>") params body scope pos) := by
  refine ⟨fun pins s σ H Q I h => ?_⟩
  have bP : s.heap.BuiltinsAt X.mg P := TB.bm.keeps I.bk
  refine PySem.W.kla_eval hdef ?_
  rcases h with ⟨hP, h⟩ | ⟨c', hP, hc', h⟩
  · have hP' : s.heap.get? P = some { cls := .none, data := .fields #[] } := I.hok P _ hP
    refine PySem.W.kla_makeFunction (mg := X.mg) (c := c) (P := P) (ps := #[]) (closure_ok hfree) I.ok.glob (I.mod.glob.keeps I.bk) hcode (TB.code.keeps I.bk) hP' trivial rfl TB.gP bP fun c' ctv h' tk hx hge hlt hrec htb => ?_
    obtain ⟨c2, oc, vs, t, e2, hoc, hd, hv⟩ := hrec
    cases e2
    have hsz : s.heap.objs.size ≤ h'.objs.size := Nat.le_trans hge (Nat.le_of_lt hlt)
    have I0 := inv_table (t' := tk) (more := #[rawInt pos.line, rawInt pos.col, .ref c']) (h' := h') I hP (fun b o hb e => hx b o hb e) htb hge ⟨oc, vs, t, hoc, hd, hv⟩
    rw [hclo]
    have hf : (h'.push (PySem.W.kla_obj "<lambda>" (X.env.qual ++ "<lambda>") params body scope [] ((X.mg "__name__").getD .none) c' ctv)).get? h'.objs.size = some _ := Heap.get?_push_size _ rfl
    have I1 := I0.laid (t' := tk) (a := h'.objs.size) (o := LamO h'.objs.size c' (X.env.qual ++ "<lambda>") params body scope) (fun b o e => Heap.get?_push_of_some _ e) (Nat.le_refl _) (lamO_ok hf)
    refine ⟨.ref h'.objs.size, _, I1, rfl, ?_⟩
    have z : (#[] : Array Value) ++ #[rawInt pos.line, rawInt pos.col, Value.ref c'] = tabOf pos c' := by
      unfold tabOf
      simp
    rw [z]
    exact h c' h'.objs.size (I.hok.fresh hge) (I.hok.fresh hsz) (Nat.ne_of_lt hlt)
  · have hP' : s.heap.get? P = some { cls := .none, data := .fields (tabOf pos c') } := I.hok P _ hP
    refine PySem.W.kla_makeFunctionHit (mg := X.mg) (c := c) (P := P) (ps := tabOf pos c') (closure_ok hfree) I.ok.glob (I.mod.glob.keeps I.bk) hcode (TB.code.keeps I.bk) hP' ?ht among_one bP fun ctv h' tk hx hsz => ?_
    case ht =>
      unfold tabOf rawInt
      trivial
    have I0 : Inv X pins σ H { s with heap := h', toks := tk } := I.kept hx
    rw [hclo]
    have hf : (h'.push (PySem.W.kla_obj "<lambda>" (X.env.qual ++ "<lambda>") params body scope [] ((X.mg "__name__").getD .none) c' ctv)).get? h'.objs.size = some _ := Heap.get?_push_size _ rfl
    have I1 := I0.laid (t' := tk) (a := h'.objs.size) (o := LamO h'.objs.size c' (X.env.qual ++ "<lambda>") params body scope) (fun b o e => Heap.get?_push_of_some _ e) (Nat.le_refl _) (lamO_ok hf)
    exact ⟨.ref h'.objs.size, _, I1, rfl, h _ (I.hok.fresh hsz)⟩
end
section
open LamX
/-- x[0] -/
abbrev lamBody (x : Str) (p1 p2 p3 : Pos) (j : Nat) : Expr := .Subscript (.Name x p1) (.Constant (.int 0) j p2) p3
/-- the lambda is called: the first item of a tuple, a text -/
theorem lam_turn {prog : Program} {w : World} {A : Around} {s : Shared} {f c' t : Addr} {q x : Str} {params : Arguments} {scope : Scope} {pm ctv : Value} {p1 p2 p3 : Pos} {j : Nat} {its : List Value} {k : Str} {tk : Tok}
    (hf : s.heap.get? f = some (PySem.W.kla_obj "<lambda>" q params (lamBody x p1 p2 p3 j) scope [] pm c' ctv)) (hc : s.heap.CodeRec (.ref c') q) (ht : IsTup s.heap t its.toArray) (h0 : its[0]? = some (.str k tk))
    (hd : A.depth < recursionLimit) (hlim : s.heap.NoLimit) (hb : bindArgs (PySem.W.kla_fn "<lambda>" q params (lamBody x p1 p2 p3 j) scope [] pm (.ref c') ctv) ⟨[.ref t], []⟩ = pure [(x, .ref t)])
    (hl : scope.names.lookup x = some .local) (hk : scope.kind = .function) (hco : scope.isCoroutine = false) (hgen : scope.isGenerator = false) (hcell : ∀ y ∈ scope.names, y.2 ≠ .cell) (hx : (x == ("__debug__" : Str)) = false) :
    wpAny (model prog w) A (call (.ref f) [.ref t]) (PySem.W.KeyPure (.str k) s) (fun _ _ => False) s := by
  refine wpAny_call (PySem.W.kla_callFunE hd hf rfl hco hgen rfl hc ?_)
  rw [hb]
  refine wpAny_pure (wpAny_newFunctionEnv hcell (fun y hy => by
    rcases List.mem_singleton.mp hy with rfl
    exact hl) (fun h₁ hns hsb => ⟨hlim.fresh _ hsb, ?_⟩) hk)
  have kp : ∀ b o, s.heap.get? b = some o → h₁.get? b = some o := fun b o e => hsb.extBut b o (Nat.ne_of_lt (Heap.lt_size e)) (Heap.get?_push_of_some _ e)
  have ht' : IsTup h₁ t its.toArray := by
    obtain ⟨o, e, r⟩ := ht
    exact ⟨o, kp _ _ e, r⟩
  refine PySem.W.kla_codeExpr (Subscript_ (wpAny_Name (wpAny_loadName_local (m := fun y => [(x, Value.ref t)].reverse.lookup y) (v := .ref t) hk ?_ hns ?_ (wpAny_Constant_int ?_)) hx))
  · exact hl
  · show List.lookup x [(x, Value.ref t)] = some (Value.ref t)
    rw [List.lookup_cons_self]
  · refine item_tupleL (l := its) (j := 0) (x := .str k tk) ht' (by decide) (by decide) ?_ h0 ?_
    · exact seqIndex_of (by decide) (by
        have := (List.getElem?_eq_some_iff.mp h0).1
        show (0 : Int) < _
        omega)
    · exact ⟨h₁, _, rfl, kp, .str k tk⟩
end
/-- a tuple whose first item is a text -/
def KeyAt (K : PySem.W.Frag) (H : Hp) (x : V) (k : Str) : Prop := ∃ (t : Addr) (ys : List V), x = .ref t ∧ SqT K H t (.str k :: ys)
def leK (a b : V × Str) : Bool := decide (a.2.cps.toList ≤ b.2.cps.toList)
section
open LamX
def rSortLam (K : PySem.W.Frag) (q x : Str) (params : Arguments) (scope : Scope) (p1 p2 p3 : Pos) (j : Nat) : List V → List V → Hp → VK → Prop := fun vs zs H Q => ∃ (a f c' : Addr) (zk : List (V × Str)), vs = [V.ref a] ∧ zs = [V.ref f] ∧ SqL K H a (zk.map (·.1)) ∧ (∀ p ∈ zk, KeyAt K H p.1 p.2) ∧
  H f = some (LamO f c' q params (lamBody x p1 p2 p3 j) scope) ∧ H c' = some (CodeO c' q) ∧ ∀ l, H l = none → Q (.ref l) (upd H l (.lst ((zk.mergeSort leK).map (·.1))))
theorem each_vals : ∀ {zk : List (V × Str)} {its : List Value}, Vals (zk.map (·.1)) its → PySem.W.EachIs (fun v (p : V × Str) => RelV p.1 v) its zk
  | [], _, h => by
    cases h
    exact .nil
  | p :: r, _, h => by
    cases h with
    | cons h1 h2 => exact .cons h1 (each_vals h2)
theorem vals_each : ∀ {zk : List (V × Str)} {its : List Value}, PySem.W.EachIs (fun v (p : V × Str) => RelV p.1 v) its zk → Vals (zk.map (·.1)) its
  | [], _, h => by
    cases h
    exact .nil
  | p :: r, _, h => by
    cases h with
    | cons h1 h2 => exact .cons h1 (vals_each h2)
theorem cr_sortLam {X : Cx} {q x : Str} {params : Arguments} {scope : Scope} {p1 p2 p3 : Pos} {j : Nat} (hr : Room 2 X.A)
    (hb : ∀ (pm cv ctv : Value) (v : Value), bindArgs (PySem.W.kla_fn "<lambda>" q params (lamBody x p1 p2 p3 j) scope [] pm cv ctv) ⟨[v], []⟩ = pure [(x, v)])
    (hl : scope.names.lookup x = some .local) (hk : scope.kind = .function) (hco : scope.isCoroutine = false) (hgen : scope.isGenerator = false) (hcell : ∀ y ∈ scope.names, y.2 ≠ .cell) (hx : (x == ("__debug__" : Str)) = false) :
    CallRK X (.builtin "sorted") [Str.ofString "key"] (rSortLam X.K q x params scope p1 p2 p3 j) := by
  intro pins s σ H vs zs us ws Q I r rz h
  obtain ⟨a, f, c', zk, rfl, rfl, hs, hkey, hf, hc, hq⟩ := h
  obtain rfl := Vals.ref1 r
  obtain ⟨w1, rfl, e1⟩ := vals1 rz
  obtain rfl : w1 = Value.ref f := e1
  obtain ⟨its, rv, pl, hz⟩ := I.list hs
  rw [List.length_map] at hz
  obtain ⟨pm, ctv, hfo⟩ := (I.hok f _ hf).1
  obtain ⟨oc, cvs, ct, hco1, hco2, hco3⟩ := (I.hok c' _ hc).1
  have dp := hr.dp
  have un := hr.un
  refine PySem.W.sorted_key_data (β := V × Str) (R := fun v p => RelV p.1 v) (bs := zk) (vs := its) (b := false) (fun p => PyData.str p.2) pl.isList (each_vals rv) (PySem.W.AllAlike.of fun _ _ => rfl) (PySem.W.Sortable.others fun _ => ⟨fun z => (nomatch z), fun _ z => (nomatch z)⟩) hz
    (fun p _ => ?_) (PyProof.Rows.ksk_s1 _ _) (fun _ => PyProof.Rows.ksk_l1 _ _) (fun l => PyProof.Rows.ksk_t1 f l) (fun v p hv hp h tk kp => ?_) (fun out c h' tk kp hn hat hlen he => ?_)
  · show X.A.units + 2 + 0 < cLine
    omega
  · obtain ⟨t, ys, ep, hT⟩ := hkey p hp
    rw [ep] at hv
    obtain rfl : v = Value.ref t := hv
    obtain ⟨its', rv', ht, _⟩ := I.tuple hT
    cases rv' with
    | @cons _ _ _ ir h1 h2 =>
      obtain ⟨tk', rfl⟩ := h1
      have ht' : IsTup h t (Value.str p.2 tk' :: ir).toArray := by
        obtain ⟨o, e, z⟩ := ht
        exact ⟨o, kp _ _ e, z⟩
      refine lam_turn (s := { s with heap := h, toks := tk }) (kp _ _ hfo) ⟨c', oc, cvs, ct, rfl, kp _ _ hco1, hco2, hco3⟩ ht' rfl ?_ (I.nolimit.keeps kp) (hb _ _ _ _) hl hk hco hgen hcell hx
      · show X.A.depth + 0 < recursionLimit
        omega
  · have e0 : PySem.W.dataLe false (fun p : V × Str => PyData.str p.2) = leK := PySem.W.dataLe_str fun p : V × Str => p.2
    rw [e0] at he
    refine ⟨.ref _, _, I.laid (o := .lst ((zk.mergeSort leK).map (·.1))) kp (Nat.le_succ _) ⟨?_, out, c, vals_each he, hat⟩, rfl, hq _ (I.hok.fresh (Nat.le_succ _))⟩
    rw [List.length_map, List.length_mergeSort]
    exact hz
end
section
open LamX
/-- sorted(e, key=lambda x: x[0]) -/
theorem pe_sortLam {X : Cx} {e : Expr} {te : TE} {x : Str} {params : Arguments} {scope : Scope} {p pos kpos lpos p1 p2 p3 : Pos} {j : Nat} {c P : Addr} (hr : Room 2 X.A) (TB : TabB X.base X.mg c P) (hcode : X.env.code = .ref c) (ha : PA X [e] (tCons te tNil)) (hg : Gl X "sorted") (hm : X.mg "sorted" = none)
    (hn : ∀ y ∈ scope.names, y.2 = .local := by decide) (hl : scope.names.lookup x = some .local := by rfl) (hk : scope.kind = .function := by rfl) (hco : scope.isCoroutine = false := by rfl) (hgen : scope.isGenerator = false := by rfl) (hx : (x == ("__debug__" : Str)) = false := by decide)
    (hdef : defaultsOf params X.env = ([], []) := by rfl) (hclo : cloFrom X.env.cells scope.names [] = [] := by rfl)
    (hb : ∀ (q : Str) (pm cv ctv : Value) (v : Value), bindArgs (PySem.W.kla_fn "<lambda>" q params (lamBody x p1 p2 p3 j) scope [] pm cv ctv) ⟨[v], []⟩ = pure [(x, v)] := by intros; rfl)
    (h1 : backTo pos (starEach [e] X.env) = (false, eval e X.env) :: backTo pos (starEach [] X.env) := by rfl) (h2 : (backTo pos (starEach [e] X.env)).any (·.1) = false := by rfl)
    (h3 : (backToKw pos (keywordEach [⟨some (Str.ofString "key"), .Lambda params (lamBody x p1 p2 p3 j) scope lpos, kpos⟩] X.env)).all (·.1.isSome) = true := by rfl) (h4 : (backToKw pos (keywordEach [⟨some (Str.ofString "key"), .Lambda params (lamBody x p1 p2 p3 j) scope lpos, kpos⟩] X.env)).any (·.1.isNone) = false := by rfl)
    (h5 : (backToKw pos (keywordEach [⟨some (Str.ofString "key"), .Lambda params (lamBody x p1 p2 p3 j) scope lpos, kpos⟩] X.env)).filterMap (·.1) = [Str.ofString "key"] := by rfl) :
    PE X (.Call (.Name "sorted" p) [e] [⟨some (Str.ofString "key"), .Lambda params (lamBody x p1 p2 p3 j) scope lpos, kpos⟩] pos)
      (tCKw (rSortLam X.K (X.env.qual ++ "<lambda>") x params scope p1 p2 p3 j) (tCons te tNil) (tCons (tLam P (X.env.qual ++ "<lambda>") params (lamBody x p1 p2 p3 j) scope lpos) tNil)) :=
  pe_callBK (cr_sortLam hr (hb _) hl hk hco hgen (fun y hy z => by rw [hn y hy] at z; cases z) hx) hg hm (by decide +kernel) ha (pk_cons (pe_lam TB hcode hdef (fun y hy z => by rw [hn y hy] at z; cases z) hclo) pk_nil) (by decide) (by decide) h1 h2 h3 h4 h5
end


/-! ### all but tables of code objects stay -/
theorem Ex.xn {H H' : Hp} (e : Ex H H') : LamX.ExtN H H' := fun b o h _ => e b o h
theorem xn_rd {H H' : Hp} {a : Addr} {u : HO} (e : LamX.ExtN H H') (n : ∀ ps, u ≠ .tbl ps) (h : Rd H a u) : Rd H' a u := by
  rcases h with h | ⟨o, h⟩
  · exact .inl (e _ _ h n)
  · exact .inr ⟨o, e _ _ h fun ps z => by cases z⟩
theorem xn_l {K : PySem.W.Frag} {H H' : Hp} {a : Addr} {xs : List V} (e : LamX.ExtN H H') (h : SqL K H a xs) : SqL K H' a xs := by
  rcases h with h | h
  · exact .inl (xn_rd e (fun ps z => by cases z) h)
  · exact .inr h
theorem xn_t {K : PySem.W.Frag} {H H' : Hp} {a : Addr} {xs : List V} (e : LamX.ExtN H H') (h : SqT K H a xs) : SqT K H' a xs := by
  rcases h with h | h
  · exact .inl (xn_rd e (fun ps z => by cases z) h)
  · exact .inr h
mutual
theorem dp_monoX {K : PySem.W.Frag} {H H' : Hp} (e : LamX.ExtN H H') : ∀ {v : V} {d : PyData}, Dp K H v d → Dp K H' v d
  | _, _, .non => .non
  | _, _, .bl b => .bl b
  | _, _, .int i => .int i
  | _, _, .str z => .str z
  | _, _, .lst h r => .lst (xn_l e h) (dpa_monoX e r)
  | _, _, .tup h r => .tup (xn_t e h) (dpa_monoX e r)
theorem dpa_monoX {K : PySem.W.Frag} {H H' : Hp} (e : LamX.ExtN H H') : ∀ {vs : List V} {ds : List PyData}, DpAll K H vs ds → DpAll K H' vs ds
  | _, _, .nil => .nil
  | _, _, .cons h r => .cons (dp_monoX e h) (dpa_monoX e r)
end
/-! ### columns and forms -/
inductive Kn | int | intq | text | textq
  deriving DecidableEq
def Kn.s : Kn → Str
  | .int => "int"
  | .intq => "int?"
  | .text => "text"
  | .textq => "text?"
def Kn.tx : Kn → Bool
  | .int => false
  | .intq => false
  | .text => true
  | .textq => true
def Kn.q : Kn → Bool
  | .int => false
  | .intq => true
  | .text => false
  | .textq => true
theorem kn_last (k : Kn) : atI k.s.cps.toList (-1) = some (if k.q = true then 63 else 116) := by cases k <;> decide +kernel
theorem kn_last_eq (k : Kn) : decide ((⟨#[if k.q = true then 63 else 116]⟩ : Str) = Str.ofString "?") = k.q := by cases k <;> decide +kernel
/-- None, an int, a text -/
inductive ScV : V → PyData → Prop
  | non : ScV .non .none
  | int (i : Int) : ScV (.int i) (.int i)
  | str (z : Str) : ScV (.str z) (.str z)
theorem ScV.dp {K : PySem.W.Frag} {H : Hp} {v : V} {d : PyData} (h : ScV v d) : Dp K H v d := by
  cases h with
  | non => exact .non
  | int i => exact .int i
  | str z => exact .str z
/-- what a kind accepts -/
inductive ValOf (k : Kn) : PyData → Prop
  | non (h : k.q = true) : ValOf k .none
  | int (i : Int) (h : k.tx = false) : ValOf k (.int i)
  | str {z : Str} (h : k.tx = true) (s : SeqAt.shaped (.str z) = true) : ValOf k (.str z)
theorem ValOf.fl {k : Kn} {d : PyData} (h : ValOf k d) : Fl 0 d := by
  cases h with
  | non _ => exact .non 0
  | int i _ => exact .int 0 i
  | str _ s => exact .str 0 s
theorem kn_base (k : Kn) : baseT k.s = if k.tx = true then Str.ofString "text" else Str.ofString "int" := by cases k <;> decide +kernel
theorem kn_cut (k : Kn) : cutS k.s none (some 3) = if k.tx = true then Str.ofString "tex" else Str.ofString "int" := by cases k <;> decide +kernel
theorem kn_sh (k : Kn) : SeqAt.shaped (.str k.s) = true := by cases k <;> decide +kernel
theorem kn_len (k : Kn) : k.s.length ≤ 100000 := by cases k <;> decide +kernel
structure Co where
  nm : Str
  kd : Kn
  df : PyData
  un : Int
  lk : Str
def Co.d (c : Co) : PyData := .tuple [.str c.nm, .str c.kd.s, c.df, .int c.un, .str c.lk]
structure Co.ok (c : Co) : Prop where
  nm : SeqAt.shaped (.str c.nm) = true
  df : Fl 0 c.df
  lk : SeqAt.shaped (.str c.lk) = true
theorem Co.ok.fl {c : Co} (h : c.ok) : Fl 1 c.d := .tup fun x hx => by
  simp only [List.mem_cons, List.not_mem_nil, or_false] at hx
  rcases hx with z | z | z | z | z <;> rw [z]
  · exact .str _ h.nm
  · exact .str _ (kn_sh _)
  · exact h.df
  · exact .int _ _
  · exact .str _ h.lk
theorem Co.ok.sh {c : Co} (h : c.ok) : SeqAt.shaped c.d = true := shaped_fl h.fl (by decide)
theorem co_at {K : PySem.W.Frag} {H : Hp} {v : V} {c : Co} (h : Dp K H v c.d) : ∃ p x, v = .ref p ∧ SqT K H p [.str c.nm, .str c.kd.s, x, .int c.un, .str c.lk] ∧ Dp K H x c.df := by
  cases h with
  | tup hs hds =>
    cases hds with
    | cons h1 r =>
      cases r with
      | cons h2 r =>
        cases r with
        | cons h3 r =>
          cases r with
          | cons h4 r =>
            cases r with
            | cons h5 r =>
              cases r
              cases h1
              cases h2
              cases h4
              cases h5
              exact ⟨_, _, rfl, hs, h3⟩
theorem co_get {K : PySem.W.Frag} {H : Hp} {xs : List V} {cs : List Co} {i : Nat} {x : V} (h : DpAll K H xs (cs.map Co.d)) (hx : xs[i]? = some x) : ∃ c, cs[i]? = some c ∧ Dp K H x c.d := by
  obtain ⟨d, h1, h2⟩ := dpa_at h hx
  rw [List.getElem?_map] at h1
  cases e : cs[i]? with
  | none => rw [e] at h1; cases h1
  | some c =>
    rw [e] at h1
    rw [← Option.some.inj h1] at h2
    exact ⟨c, rfl, h2⟩
theorem co_len {K : PySem.W.Frag} {H : Hp} {xs : List V} {cs : List Co} (h : DpAll K H xs (cs.map Co.d)) : xs.length = cs.length := by rw [dpa_len h, List.length_map]
theorem co_fl {cs : List Co} (h : ∀ c ∈ cs, c.ok) : ∀ d ∈ cs.map Co.d, Fl 1 d := fun d hd => by
  obtain ⟨c, hc, rfl⟩ := List.mem_map.mp hd
  exact (h c hc).fl
def leC (a b : Co) : Bool := decide (a.nm.cps.toList ≤ b.nm.cps.toList)
structure Fm where
  cs : List Co
  ks : List Str
def Fm.d (f : Fm) : PyData := .tuple [.tuple (f.cs.map Co.d), .tuple (f.ks.map PyData.str)]
structure Fm.ok (f : Fm) : Prop where
  cs : ∀ c ∈ f.cs, c.ok
  ln : f.cs.length ≤ 12
  kl : f.ks.length ≤ 2
  ki : ∀ z ∈ f.ks, (z = Str.ofString "id" ∨ z = Str.ofString "key") ∧ ∃ c ∈ f.cs, c.nm = z
  nd : (f.cs.map Co.nm).Nodup
  so : f.cs.Pairwise fun a b => leC a b = true
theorem dpa_strs_eq {K : PySem.W.Frag} {H : Hp} : ∀ {ks : List Str} {ys : List V}, DpAll K H ys (ks.map PyData.str) → ys = ks.map V.str
  | [], _, h => by
    cases h
    rfl
  | k :: r, _, h => by
    cases h with
    | cons h1 h2 =>
      cases h1
      rw [dpa_strs_eq h2] <;> rfl
theorem fm_at {K : PySem.W.Frag} {H : Hp} {v : V} {f : Fm} (h : Dp K H v f.d) : ∃ p a b xs, v = .ref p ∧ SqT K H p [.ref a, .ref b] ∧ SqT K H a xs ∧ DpAll K H xs (f.cs.map Co.d) ∧ SqT K H b (f.ks.map V.str) := by
  cases h with
  | tup hs hds =>
    cases hds with
    | cons h1 r =>
      cases r with
      | cons h2 r =>
        cases r
        cases h1 with
        | tup ha da =>
          cases h2 with
          | tup hb db =>
            rw [dpa_strs_eq db] at hb
            exact ⟨_, _, _, _, rfl, hs, ha, da, hb⟩
theorem fm_mk {K : PySem.W.Frag} {H : Hp} {p : Addr} {va vb : V} {cs : List Co} {ks : List Str} (h : SqT K H p [va, vb]) (ha : Dp K H va (.tuple (cs.map Co.d))) (hb : Dp K H vb (.tuple (ks.map PyData.str))) : Dp K H (.ref p) (Fm.mk cs ks).d := .tup h (.cons ha (.cons hb .nil))
def findC (cs : List Co) (z : Str) : Option Co := cs.find? fun c => decide (c.nm = z)
theorem find_first : ∀ {cs : List Co} {i : Nat} {c : Co} {z : Str}, cs[i]? = some c → c.nm = z → (∀ (k : Nat) d, k < i → cs[k]? = some d → d.nm ≠ z) → findC cs z = some c
  | [], _, _, _, h, _, _ => by cases h
  | d :: cs, 0, c, z, h, e, _ => by
    cases Option.some.inj h
    unfold findC
    rw [List.find?_cons, decide_eq_true e]
  | d :: cs, i + 1, c, z, h, e, n => by
    have h0 := n 0 d (by omega) rfl
    unfold findC
    rw [List.find?_cons, decide_eq_false h0]
    exact find_first (i := i) (by simpa using h) e fun k d' hk hd => n (k + 1) d' (by omega) (by simpa using hd)
theorem find_no {cs : List Co} {z : Str} (h : ∀ c ∈ cs, c.nm ≠ z) : findC cs z = none := List.find?_eq_none.mpr fun c hc => by simpa using h c hc
theorem find_place : ∀ {cs : List Co} {c : Co} {z : Str}, findC cs z = some c → ∃ i : Nat, cs[i]? = some c ∧ c.nm = z ∧ ∀ (k : Nat) d, k < i → cs[k]? = some d → d.nm ≠ z
  | [], _, _, h => by cases h
  | d :: cs, c, z, h => by
    unfold findC at h
    rw [List.find?_cons] at h
    by_cases e : d.nm = z
    · rw [decide_eq_true e] at h
      cases Option.some.inj h
      exact ⟨0, rfl, e, fun k d hk => by omega⟩
    · rw [decide_eq_false e] at h
      obtain ⟨i, h1, h2, h3⟩ := find_place (cs := cs) h
      refine ⟨i + 1, by simpa using h1, h2, fun k d' hk hd => ?_⟩
      cases k with
      | zero =>
        cases Option.some.inj hd
        exact e
      | succ k => exact h3 k d' (by omega) (by simpa using hd)
theorem find_mem {cs : List Co} {c : Co} {z : Str} (h : findC cs z = some c) : c ∈ cs ∧ c.nm = z := by
  obtain ⟨i, h1, h2, _⟩ := find_place h
  exact ⟨List.mem_of_getElem? h1, h2⟩
def optD : Option Co → PyData
  | none => .none
  | some c => c.d
def sortC (cs : List Co) : List Co := cs.mergeSort leC
theorem sortC_mem {cs : List Co} {c : Co} : c ∈ sortC cs ↔ c ∈ cs := List.mem_mergeSort
theorem leC_trans (a b c : Co) (h : leC a b = true) (k : leC b c = true) : leC a c = true := by
  unfold leC at *
  rw [decide_eq_true_eq] at *
  exact List.le_trans h k
theorem leC_total (a b : Co) : (leC a b || leC b a) = true := by
  unfold leC
  rw [Bool.or_eq_true, decide_eq_true_eq, decide_eq_true_eq]
  exact List.le_total _ _
theorem sortC_so (cs : List Co) : (sortC cs).Pairwise fun a b => leC a b = true := List.pairwise_mergeSort leC_trans leC_total cs
theorem sortC_len (cs : List Co) : (sortC cs).length = cs.length := List.length_mergeSort _
theorem sortC_nd {cs : List Co} (h : (cs.map Co.nm).Nodup) : ((sortC cs).map Co.nm).Nodup := ((List.mergeSort_perm cs leC).map Co.nm).nodup_iff.mpr h
theorem nd_inj : ∀ {cs : List Co} {c d : Co}, (cs.map Co.nm).Nodup → c ∈ cs → d ∈ cs → c.nm = d.nm → c = d
  | [], _, _, _, h, _, _ => by cases h
  | e :: cs, c, d, hn, hc, hd, h => by
    rw [List.map_cons, List.nodup_cons] at hn
    rcases List.mem_cons.mp hc with rfl | hc
    · rcases List.mem_cons.mp hd with rfl | hd
      · rfl
      · exact absurd (List.mem_map.mpr ⟨d, hd, h.symm⟩) hn.1
    · rcases List.mem_cons.mp hd with e | hd
      · rw [e] at h
        exact absurd (List.mem_map.mpr ⟨c, hc, h⟩) hn.1
      · exact nd_inj hn.2 hc hd h
theorem nd_fl {cs : List Co} {p : Co → Bool} {d : Co} (h : (cs.map Co.nm).Nodup) (hd : ∀ c ∈ cs, p c = true → c.nm ≠ d.nm) : ((cs.filter p ++ [d]).map Co.nm).Nodup := by
  rw [List.map_append, List.nodup_append]
  refine ⟨h.sublist (List.filter_sublist.map _), by simp, fun x hx y hy => ?_⟩
  obtain ⟨c, hc, rfl⟩ := List.mem_map.mp hx
  rw [List.map_cons, List.map_nil, List.mem_singleton] at hy
  rw [hy]
  exact hd c (List.mem_filter.mp hc).1 (List.mem_filter.mp hc).2
theorem nd_fl0 {cs : List Co} {p : Co → Bool} (h : (cs.map Co.nm).Nodup) : ((cs.filter p).map Co.nm).Nodup := h.sublist (List.filter_sublist.map _)
theorem find_nd2 {cs : List Co} {c : Co} (h : (cs.map Co.nm).Nodup) (hc : c ∈ cs) : findC cs c.nm = some c := by
  cases e : findC cs c.nm with
  | none =>
    have := List.find?_eq_none.mp e c hc
    simp at this
  | some d =>
    obtain ⟨h1, h2⟩ := find_mem e
    rw [nd_inj h h1 hc h2]
/-! ### lists of columns -/
/-- a new list of just these columns -/
def ECL (K : PySem.W.Frag) (te : TE) (σ : L2.St) (H : Hp) (cs : List Co) : Prop := ∀ H1, Ex H H1 → ∀ Q : VK, (∀ p vs H2, H1 p = none → Ex H1 H2 → H2 p = some (.lst vs) → DpAll K H2 vs (cs.map Co.d) → Q (.ref p) H2) → te σ H1 Q
section
variable {K : PySem.W.Frag} {σ : L2.St} {H : Hp} {te ta tb tl : TE} {tt : TT}
/-- [x for x in xs if p(x)] -/
theorem ecl_flL {a : Addr} {xs : List V} {cs : List Co} {j : Nat} {vs : List Nat} {p : Co → Bool} (h : Ev te σ H (.ref a)) (hx : SqL K H a xs) (hd : DpAll K H xs (cs.map Co.d)) (hok : ∀ c ∈ cs, c.ok) (hz : xs.length ≤ 40000) (hw : ∀ x, wipe ((wipe σ vs).set j (some x)) vs = wipe σ vs)
    (ht : ∀ x c, c ∈ cs → ∀ H1, Ex H H1 → Dp K H1 x c.d → EvT tt ((wipe σ vs).set j (some x)) H1 (p c)) (he : ∀ x H1, Ev tl ((wipe σ vs).set j (some x)) H1 x) : ECL K (tLc (iList K te) (gName j) tt tl vs) σ H (cs.filter p) := by
  intro H0 e Q q
  have hl := co_len hd
  refine h H0 e _ fun H1 e1 => ⟨a, rfl, ⟨xs, ex_l (e.trans e1) hx⟩, fun Dl hD => ?_⟩
  refine lc_list (xs := xs) (fun i H' => H1 Dl = none ∧ Ex H1 H' ∧ ∃ us, H' Dl = some (.lst us) ∧ us.length ≤ i ∧ DpAll K H' us (((cs.take i).filter p).map Co.d)) ⟨hD, Ex.new hD, [], upd_same, Nat.le_refl 0, .nil⟩ (fun i H' _ z => ex_l ((e.trans e1).trans z.2.1) hx) (fun i x H' hi z => ⟨hw x, ?_⟩) (fun H' z => ?_)
  · obtain ⟨p1, p2, us, p3, p4, p5⟩ := z
    have hi2 := (List.getElem?_eq_some_iff.mp hi).1
    obtain ⟨c, hc, hdx⟩ := co_get hd hi
    have hm := List.mem_of_getElem? hc
    have et : (cs.take (i + 1)).filter p = (cs.take i).filter p ++ (if p c = true then [c] else []) := by
      rw [List.take_add_one, hc, List.filter_append]
      show _ ++ [c].filter p = _
      by_cases hp : p c = true
      · rw [if_pos hp, List.filter_cons_of_pos hp] <;> rfl
      · rw [if_neg hp, List.filter_cons_of_neg hp] <;> rfl
    refine ht x c hm H' ((e.trans e1).trans p2) (dp_mono ((e.trans e1).trans p2) hdx) H' (Ex.refl H') _ fun H3 e3 => ?_
    cases hp : p c with
    | true =>
      show tl _ H3 _
      refine he x H3 H3 (Ex.refl H3) _ fun H4 e4 => ⟨us, e4 Dl _ (e3 Dl _ p3), sz_lt (by omega), p1, ((p2.trans e3).trans e4).mut p1, us ++ [x], upd_same, by rw [List.length_append]; show us.length + 1 ≤ i + 1; omega, ?_⟩
      rw [et, if_pos hp, List.map_append]
      have E4 := e3.trans e4
      refine dpa_app (dpa_monoN (n := 1) (ExN.upd (E4 Dl _ p3)) (fun d hd' => ?_) (dpa_mono E4 p5)) (.cons (dp_monoN (ExN.upd (E4 Dl _ p3)) (hok c hm).fl (dp_mono (((e.trans e1).trans p2).trans E4) hdx)) .nil)
      obtain ⟨c', hc', rfl⟩ := List.mem_map.mp hd'
      exact (hok c' (List.mem_of_mem_take (List.mem_filter.mp hc').1)).fl
    | false =>
      show H1 Dl = none ∧ _
      refine ⟨p1, p2.trans e3, us, e3 Dl _ p3, by omega, ?_⟩
      rw [et, if_neg (by rw [hp]; exact Bool.false_ne_true), List.append_nil]
      exact dpa_mono e3 p5
  · obtain ⟨p1, p2, us, p3, p4, p5⟩ := z
    rw [hl, List.take_length] at p5
    exact q Dl us H' (fresh_back e1 p1) (e1.trans p2) p3 p5
/-- a + b of new lists -/
theorem ecl_cat {cs ds : List Co} (ha : ECL K ta σ H cs) (hb : ECL K tb σ H ds) (hc : ∀ c ∈ cs, c.ok) (hd : ∀ c ∈ ds, c.ok) (hz : cs.length + ds.length ≤ 100000) : ECL K (tOp rCat ta tb) σ H (cs ++ ds) := fun H1 e Q q =>
  ha H1 e _ fun p vs H2 hp e2 h2 d2 => hb H2 (e.trans e2) _ fun p' us H3 hp' e3 h3 d3 => ⟨p, p', vs, us, rfl, rfl, e3 _ _ h2, h3, sz_of (by rw [co_len d2, co_len d3]; exact hz), fun r hr => q r (vs ++ us) _ (fresh_back (e2.trans e3) hr) ((e2.trans e3).trans (Ex.new hr)) upd_same (by
    rw [List.map_append]
    exact dpa_mono (Ex.new hr) (dpa_app (dpa_mono e3 d2) d3))⟩
/-- [x], a new list of one column -/
theorem ecl_one {c : Co} (h : EP K te σ H (· = c.d)) : ECL K (tLst (tCons te tNil)) σ H [c] := fun H1 e Q q =>
  h H1 e _ fun v d H2 e2 hd hD => ⟨(by show 1 ≤ sizeLine; decide), fun p hp => q p [v] _ (fresh_back e2 hp) (e2.trans (Ex.new hp)) upd_same (.cons (dp_mono (Ex.new hp) (by
    rw [← show d = c.d from hd]
    exact hD)) .nil)⟩
theorem q_asgCL {D : Ends} {tz : TS} {i : Nat} {cs : List Co} (h : ECL K te σ H cs) (k : ∀ p vs H1, H p = none → Ex H H1 → H1 p = some (.lst vs) → DpAll K H1 vs (cs.map Co.d) → tz D (σ.set i (some (.ref p))) H1) : tSeq (tAsg te (gName i)) tz D σ H := h H (Ex.refl H) _ k
theorem s_asgCL {D : Ends} {i : Nat} {cs : List Co} (h : ECL K te σ H cs) (k : ∀ p vs H1, H p = none → Ex H H1 → H1 p = some (.lst vs) → DpAll K H1 vs (cs.map Co.d) → D.nx (σ.set i (some (.ref p))) H1) : tAsg te (gName i) D σ H := h H (Ex.refl H) _ k
/-- list(t) of a tuple -/
theorem el_listT {p : Addr} {xs : List V} (ha : Ev ta σ H (.ref p)) (h : SqT K H p xs) : EvL (tCB (rListS K) (tCons ta tNil)) σ H xs := fun H1 e Q q =>
  ha H1 e _ fun H2 e2 => ⟨p, xs, rfl, .inr (ex_t (e.trans e2) h), fun l hl => q l _ (fresh_back e2 hl) (e2.trans (Ex.new hl)) upd_same⟩
/-- [f(x) for x in a tuple if p(x)], by places -/
theorem el_lcT {a : Addr} {xs : List V} {j : Nat} {vs : List Nat} {f : Nat → Bool} {v : Nat → V} (h : Ev te σ H (.ref a)) (hx : SqT K H a xs) (hz : xs.length ≤ 40000) (hw : ∀ x, wipe ((wipe σ vs).set j (some x)) vs = wipe σ vs)
    (ht : ∀ i x H1, xs[i]? = some x → Ex H H1 → EvT tt ((wipe σ vs).set j (some x)) H1 (f i)) (he : ∀ i x H1, xs[i]? = some x → f i = true → Ex H H1 → Ev tl ((wipe σ vs).set j (some x)) H1 (v i)) : EvL (tLc (iTup K te) (gName j) tt tl vs) σ H (given xs.length f v) := by
  intro H0 e Q q
  refine h H0 e _ fun H1 e1 => ⟨a, rfl, ⟨xs, ex_t (e.trans e1) hx⟩, fun Dl hD => ?_⟩
  refine lc_tup (xs := xs) (fun i H' => H1 Dl = none ∧ Ex H1 H' ∧ H' Dl = some (.lst (given i f v))) ⟨hD, Ex.new hD, upd_same⟩ (fun i H' _ z => ex_t ((e.trans e1).trans z.2.1) hx) (fun i x H' hi z => ⟨hw x, ?_⟩) (fun H' z => ?_)
  · obtain ⟨p1, p2, p3⟩ := z
    have hi2 := (List.getElem?_eq_some_iff.mp hi).1
    refine ht i x H' hi ((e.trans e1).trans p2) H' (Ex.refl H') _ fun H3 e3 => ?_
    cases hp : f i with
    | true =>
      show tl _ H3 _
      refine he i x H3 hi hp (((e.trans e1).trans p2).trans e3) H3 (Ex.refl H3) _ fun H4 e4 => ⟨_, e4 Dl _ (e3 Dl _ p3), sz_lt ?_, p1, ((p2.trans e3).trans e4).mut p1, ?_⟩
      · have := given_len i f v
        omega
      · rw [upd_same, given_yes hp]
    | false =>
      show H1 Dl = none ∧ _
      refine ⟨p1, p2.trans e3, ?_⟩
      rw [given_no hp]
      exact e3 Dl _ p3
  · obtain ⟨p1, p2, p3⟩ := z
    exact q Dl H' (fresh_back e1 p1) (e1.trans p2) p3
/-- a tuple of data as a value -/
theorem ep_var {i : Nat} {x : V} {d : PyData} (h : σ[i]? = some (some x)) (hd : Dp K H x d) : EP K (tVar i) σ H (· = d) := ep_is (ev_var h) hd rfl
end
theorem el_catN {σ : L2.St} {H : Hp} {ta tb : TE} {xs ys : List V} (ha : EvL ta σ H xs) (hb : EvL tb σ H ys) (hz : xs.length + ys.length ≤ 100000) : EvL (tOp rCat ta tb) σ H (xs ++ ys) := fun H1 e Q q =>
  ha H1 e _ fun p H2 hp e2 h2 => hb H2 (e.trans e2) _ fun p' H3 hp' e3 h3 => ⟨p, p', xs, ys, rfl, rfl, e3 _ _ h2, h3, sz_of hz, fun r hr => q r _ (fresh_back (e2.trans e3) hr) ((e2.trans e3).trans (Ex.new hr)) upd_same⟩
/-- xs.append(x), x data -/
theorem s_appP {K : PySem.W.Frag} {σ : L2.St} {H : Hp} {te : TE} {D : Ends} {j : Nat} {l : Addr} {xs : List V} {R : PyData → Prop} (hl : H l = some (.lst xs)) (ha : σ[j]? = some (some (V.ref l))) (h : EP K te σ H R) (hz : xs.length < 100000) (k : ∀ v d H1, Ex H H1 → R d → Dp K H1 v d → D.nx σ (upd H1 l (.lst (xs ++ [v])))) :
    tDrop (tBM K "list" rAppend (tVar j) (tCons te tNil)) D σ H :=
  ⟨_, ha, .inl ⟨rfl, _, sq_of hl⟩, h H (Ex.refl H) _ fun v d H1 e1 hr hd => ⟨l, xs, v, rfl, rfl, e1 _ _ hl, sz_lt hz, k v d H1 e1 hr hd⟩⟩
theorem q_appP {K : PySem.W.Frag} {σ : L2.St} {H : Hp} {te : TE} {tz : TS} {D : Ends} {j : Nat} {l : Addr} {xs : List V} {R : PyData → Prop} (hl : H l = some (.lst xs)) (ha : σ[j]? = some (some (V.ref l))) (h : EP K te σ H R) (hz : xs.length < 100000) (k : ∀ v d H1, Ex H H1 → R d → Dp K H1 v d → tz D σ (upd H1 l (.lst (xs ++ [v])))) :
    tSeq (tDrop (tBM K "list" rAppend (tVar j) (tCons te tNil))) tz D σ H := s_appP (D := { D with nx := tz D }) hl ha h hz k
theorem col_app {K : PySem.W.Frag} {H : Hp} {l : Addr} {xs : List V} {v : V} {cs : List Co} {c : Co} (hl : H l = some (.lst xs)) (hd : DpAll K H xs (cs.map Co.d)) (hok : ∀ c ∈ cs, c.ok) (hv : Dp K H v c.d) (hc : c.ok) :
    DpAll K (upd H l (.lst (xs ++ [v]))) (xs ++ [v]) ((cs ++ [c]).map Co.d) ∧ ∀ x ∈ cs ++ [c], x.ok := by
  refine ⟨?_, fun x hx => ?_⟩
  · rw [List.map_append]
    exact dpa_app (dpa_monoN (n := 1) (ExN.upd hl) (co_fl hok) hd) (.cons (dp_monoN (ExN.upd hl) hc.fl hv) .nil)
  · rcases List.mem_append.mp hx with z | z
    · exact hok x z
    · rw [List.mem_singleton.mp z]
      exact hc
/-- a value of a column -/
theorem ev_co {K : PySem.W.Frag} {σ : L2.St} {H : Hp} {te : TE} {x : V} {c : Co} (h : Ev te σ H x) (hd : Dp K H x c.d) : Ev (tOp (rIxT K) te (tC (.int 0))) σ H (.str c.nm) ∧ Ev (tOp (rIxT K) te (tC (.int 1))) σ H (.str c.kd.s) ∧ Ev (tOp (rIxT K) te (tC (.int 3))) σ H (.int c.un) ∧ Ev (tOp (rIxT K) te (tC (.int 4))) σ H (.str c.lk) := by
  obtain ⟨p, y, rfl, hs, _⟩ := co_at hd
  exact ⟨ev_ixT h ev_c hs (at_nat (j := 0) rfl), ev_ixT h ev_c hs (at_nat (j := 1) rfl), ev_ixT h ev_c hs (at_nat (j := 3) rfl), ev_ixT h ev_c hs (at_nat (j := 4) rfl)⟩
theorem eu_run {te : TE} {σ : L2.St} {H : Hp} {xs : List V} {Q : VK} (h : EvU te σ H xs) (q : ∀ p H2, H p = none → Ex H H2 → H2 p = some (.tup xs) → Q (.ref p) H2) : te σ H Q := h H (Ex.refl H) Q q
theorem cat_run {H : Hp} {p p' : Addr} {vs us : List V} {Q : VK} (h1 : H p = some (.lst vs)) (h2 : H p' = some (.lst us)) (hz : vs.length + us.length ≤ 100000) (q : ∀ r, H r = none → Q (.ref r) (upd H r (.lst (vs ++ us)))) : rCat (.ref p) (.ref p') H Q := ⟨p, p', vs, us, rfl, rfl, h1, h2, sz_of hz, q⟩
theorem ecl_run {K : PySem.W.Frag} {te : TE} {σ : L2.St} {H : Hp} {cs : List Co} {Q : VK} (h : ECL K te σ H cs) (q : ∀ p vs H1, H p = none → Ex H H1 → H1 p = some (.lst vs) → DpAll K H1 vs (cs.map Co.d) → Q (.ref p) H1) : te σ H Q := h H (Ex.refl H) Q q
/-- x is not None -/
theorem ev_isnt {σ : L2.St} {H : Hp} {te : TE} {v : V} (h : Ev te σ H v) : Ev (tOp (fun x y H Q => y = .non ∧ Q (.bl (!decide (x = .non))) H) te (tC .non)) σ H (.bl (!decide (v = .non))) := fun H1 e Q q => h H1 e _ fun H2 e2 => ⟨rfl, q H2 e2⟩
/-- t[:3] of a tuple of five -/
theorem eu_sl3 {K : PySem.W.Frag} {σ : L2.St} {H : Hp} {te : TE} {p : Addr} {a b c d e : V} (h : Ev te σ H (.ref p)) (hx : SqT K H p [a, b, c, d, e]) : EvU (tSl (rSlA K) te tNoPart (tPart (tC (.int 3)))) σ H [a, b, c] := fun H0 e0 Q q =>
  h H0 e0 _ fun H2 e2 => ⟨3, rfl, p, [a, b, c, d, e], rfl, ex_t (e0.trans e2) hx, (fun z => by
    have := z.2
    exact absurd (show HT.sIx 5 5 (some 3) = 5 from this) (by decide)), fun _ r hr => q r _ (fresh_back e2 hr) (e2.trans (Ex.new hr)) upd_same⟩
def spFind (K : PySem.W.Frag) : Sp := fun vs H Q _ => ∃ (f : Fm) (vf : V) (z : Str), vs = [vf, .str z] ∧ Dp K H vf f.d ∧ f.cs.length ≤ 1000 ∧ ∀ v H', Ex H H' → Dp K H' v (optD (findC f.cs z)) → Q v H'
theorem cv_dummy : True := trivial
theorem op_run {r : R2} {ta tb : TE} {σ : L2.St} {H : Hp} {Q : VK} (k : ta σ H fun x H1 => tb σ H1 fun y H2 => r x y H2 Q) : tOp r ta tb σ H Q := k
theorem lst_run {ta : TA} {σ : L2.St} {H : Hp} {Q : VK} (k : ta σ H fun vs H1 => vs.length ≤ sizeLine ∧ ∀ p, H1 p = none → Q (.ref p) (upd H1 p (.lst vs))) : tLst ta σ H Q := k
theorem tup_run {ta : TA} {σ : L2.St} {H : Hp} {Q : VK} (k : ta σ H fun vs H1 => vs.length ≤ sizeLine ∧ ∀ p, H1 p = none → Q (.ref p) (upd H1 p (.tup vs))) : tTup ta σ H Q := k
theorem cons_run {te : TE} {tr : TA} {σ : L2.St} {H : Hp} {Q : List V → Hp → Prop} (k : te σ H fun v H1 => tr σ H1 fun vs H2 => Q (v :: vs) H2) : tCons te tr σ H Q := k
theorem call_run {sp : Sp} {dvs : List V} {E : XK} {ta : TA} {σ : L2.St} {H : Hp} {Q : VK} (k : ta σ H fun vs H1 => sp (vs ++ dvs) H1 Q E) : tCall sp dvs E ta σ H Q := k
theorem asg_run {te : TE} {σ : L2.St} {H : Hp} {D : Ends} {i : Nat} (k : te σ H fun v H1 => D.nx (σ.set i (some v)) H1) : tAsg te (gName i) D σ H := k
theorem ret_run {te : TE} {σ : L2.St} {H : Hp} {D : Ends} (k : te σ H D.rt) : tRet te D σ H := k
theorem c_run {σ : L2.St} {H : Hp} {Q : VK} {v : V} (q : Q v H) : tC v σ H Q := q
theorem if_run {t : TT} {ta tb : TE} {σ : L2.St} {H : Hp} {b : Bool} {Q : VK} (h : EvT t σ H b) (h1 : b = true → ∀ H1, Ex H H1 → ta σ H1 Q) (h2 : b = false → ∀ H1, Ex H H1 → tb σ H1 Q) : tIf t ta tb σ H Q := h H (Ex.refl H) _ fun H1 e => by
  cases b with
  | true => exact h1 rfl H1 e
  | false => exact h2 rfl H1 e
theorem var_run {i : Nat} {σ : L2.St} {H : Hp} {Q : VK} {v : V} (h : σ[i]? = some (some v)) (q : Q v H) : tVar i σ H Q := ⟨v, h, q⟩
/-- an expression read where a bare goal goes on -/
theorem ev_run {te : TE} {σ : L2.St} {H : Hp} {v : V} {Q : VK} (h : Ev te σ H v) (q : ∀ H2, Ex H H2 → Q v H2) : te σ H Q := h H (Ex.refl H) Q q
theorem el_run {te : TE} {σ : L2.St} {H : Hp} {xs : List V} {Q : VK} (h : EvL te σ H xs) (q : ∀ p H2, H p = none → Ex H H2 → H2 p = some (.lst xs) → Q (.ref p) H2) : te σ H Q := h H (Ex.refl H) Q q
/-! ### the lambda's def -/
def lamQ : Str := ((Str.ofString "_law_in_columns") ++ (Str.ofString ".<locals>.")) ++ Str.ofString "<lambda>"
/-- its table: made, or empty -/
def spInCols (K : PySem.W.Frag) (P : Addr) (pos : Pos) : Sp := fun vs H Q _ => ∃ (a : Addr) (xs : List V) (cs : List Co), vs = [.ref a] ∧ SqL K H a xs ∧ DpAll K H xs (cs.map Co.d) ∧ cs.length ≤ 1000 ∧
  ((LamTab H P pos lamQ ∧ ∀ v H', Ex H H' → Dp K H' v (.tuple ((sortC cs).map Co.d)) → Q v H') ∨ (H P = some (.tbl #[]) ∧ ∀ v H', LamX.ExtN H H' → LamTab H' P pos lamQ → Dp K H' v (.tuple ((sortC cs).map Co.d)) → Q v H'))
theorem LamTab.mono {H H' : Hp} {P : Addr} {pos : Pos} {q : Str} (e : Ex H H') (h : LamTab H P pos q) : LamTab H' P pos q := by
  obtain ⟨c, h1, h2⟩ := h
  exact ⟨c, e _ _ h1, e _ _ h2⟩
/-- the code of a def, told -/
theorem fun_code {P : Program} {w : World} {K : PySem.W.Frag} {mg : Str → Option Value} {base : Heap} {x qual : Str} {st : Stmt} {f c : Addr} {fd : FuncData} {N ps : List Str} {k : Nat} {sp : Sp} (F : L2.Fun K x qual st f fd) (hc : fd.code = .ref c)
    (S : FnScope N ps (defScope st)) (ln : ∀ vs H Q E, sp vs H Q E → vs.length = ps.length)
    (hb : ∀ (A : Around) (outer : List Env) (s : Shared) (H : Hp) (vs : List V) (Q : VK) (E : XK), Room k (A.deeper (envOfC qual (defScope st) s.heap.objs.size f (.ref c))) → sp vs H Q E →
      ∃ t, PSs (cxOf CX0 P w K mg base N qual (defScope st) f (.ref c) A outer s H E).nox (defBody st) t ∧ t { nx := fun _ H' => Q .non H', rt := Q } (start N vs) H) :
    FnOk P w K mg base CX0 (k + 1) f fd ps sp := by
  obtain ⟨oc, od, kV, doc, pm, an, cv, ct, osl, e, lk, hcd⟩ := F.ex
  subst e
  have e2 : cv = .ref c := hc
  subst e2
  refine fn_of lk hcd S ln fun A outer s H vs Q E hr h => ?_
  obtain ⟨t, h1, h2⟩ := hb A outer s H vs Q E hr h
  exact ⟨t, h1.nox, h2⟩


/-- two things and what they are -/
structure Th (K : PySem.W.Frag) (H : Hp) (v : V) (d : PyData) : Prop where
  dp : Dp K H v d
  sh : SeqAt.shaped d = true
  pl : Pl d
theorem Th.mono {K : PySem.W.Frag} {H H' : Hp} {v : V} {d : PyData} (e : Ex H H') (h : Th K H v d) : Th K H' v d := ⟨dp_mono e h.dp, h.sh, h.pl⟩
/-- a thing: flat, or a list of flat data -/
def Thg (K : PySem.W.Frag) (H : Hp) (v : V) (d : PyData) : Prop := (Fl 2 d ∧ Dp K H v d) ∨ ∃ p xs ds, v = .ref p ∧ d = .list ds ∧ H p = some (.lst xs) ∧ DpAll K H xs ds ∧ (∀ x ∈ ds, Fl 2 x) ∧ ds.length ≤ 10
theorem Thg.dp {K : PySem.W.Frag} {H : Hp} {v : V} {d : PyData} (h : Thg K H v d) : Dp K H v d := by
  rcases h with ⟨_, h⟩ | ⟨p, xs, ds, rfl, rfl, h1, h2, _⟩
  · exact h
  · exact .lst (sq_of h1) h2
theorem Thg.th {K : PySem.W.Frag} {H : Hp} {v : V} {d : PyData} (h : Thg K H v d) : Th K H v d := by
  refine ⟨h.dp, ?_, ?_⟩
  · rcases h with ⟨h, _⟩ | ⟨p, xs, ds, rfl, rfl, _, _, h, _⟩
    · exact shaped_fl h (by decide)
    · exact shaped_lst h (by decide)
  · rcases h with ⟨h, _⟩ | ⟨p, xs, ds, rfl, rfl, _, _, h, _⟩
    · exact h.pl
    · exact .lst fun d hd => (h d hd).pl
theorem Thg.mono {K : PySem.W.Frag} {H H' : Hp} {v : V} {d : PyData} (e : Ex H H') (h : Thg K H v d) : Thg K H' v d := by
  rcases h with ⟨h1, h2⟩ | ⟨p, xs, ds, h1, h2, h3, h4, h5⟩
  · exact .inl ⟨h1, dp_mono e h2⟩
  · exact .inr ⟨p, xs, ds, h1, h2, e _ _ h3, dpa_mono e h4, h5⟩
/-- a list elsewhere changes -/
theorem Thg.upd {K : PySem.W.Frag} {H : Hp} {v : V} {d : PyData} {q : Addr} {ys : List V} {o : HO} (h : Thg K H v d) (hq : H q = some (.lst ys)) (hn : isLst d = true → v ≠ .ref q) : Thg K (upd H q o) v d := by
  rcases h with ⟨h1, h2⟩ | ⟨p, xs, ds, rfl, h2, h3, h4, h5, h6⟩
  · exact .inl ⟨h1, dp_monoN (ExN.upd hq) h1 h2⟩
  · exact .inr ⟨p, xs, ds, rfl, h2, by rw [upd_ne (fun z => hn (by rw [h2] <;> rfl) (by rw [z]))]; exact h3, dpa_monoN (ExN.upd hq) h5 h4, h5, h6⟩
def NewV (H : Hp) (v : V) : Prop := ∀ p, v = .ref p → H p = none
def clashB (a b c : PyData) : Bool := !PyData.eqv b a && (!PyData.eqv c a && !PyData.eqv c b)
theorem eqv_sym {x y : PyData} (hx : Pl x) (hy : Pl y) : PyData.eqv x y = PyData.eqv y x := by
  cases h : PyData.eqv y x with
  | true => exact (eqv_iff x y hx hy).mpr ((eqv_iff y x hy hx).mp h).symm
  | false =>
    cases h2 : PyData.eqv x y with
    | false => rfl
    | true => rw [(eqv_iff y x hy hx).mpr ((eqv_iff x y hx hy).mp h2).symm] at h; cases h
theorem clash_sym {a x y : PyData} (hx : Pl x) (hy : Pl y) : clashB a x y = clashB a y x := by
  unfold clashB
  rw [eqv_sym hx hy]
  cases PyData.eqv x a <;> cases PyData.eqv y a <;> rfl


/-! ### enumerate of a tuple -/
set_option maxHeartbeats 1000000 in
theorem enum_new1 {v : Value} {o : Obj} {H : Heap → Prop} (B : Begins v o H) :
    Meets (Builtin.«enumerate.__new__» ⟨[.type "enumerate", v], []⟩) (fun _ R s => H s.heap ∧
      R (.ok (.ret (.ref (s.heap.push o).objs.size))) { s with heap := (s.heap.push o).push { cls := .type "enumerate", data := .fields #[.none, .bool false, .ref s.heap.objs.size, rawInt 0, .none, .none] } }) := by
  refine .of_wp fun prog w A R s hR => ?_
  obtain ⟨hp, g, d, tk, os⟩ := s
  obtain ⟨hv, hR⟩ := hR
  have hsub := sub_enumerate
  have it : ∀ {A' : Around} {E Q : Value → Shared → Prop}, Q (.ref hp.objs.size) ⟨hp.push o, g, d, tk, os⟩ → wpAny (model prog w) A' (pyIter v) Q E ⟨hp, g, d, tk, os⟩ := fun q => B.iter prog w _ _ ⟨hp, g, d, tk, os⟩ _ hv q
  wp_walk using it
  refine wpAny_stack_any fun st => wpAny_pure ?_
  split
  · rename_i c _ _ _ _ _
    cases (c == Value.type "enumerate") <;> (wp_walk using it; exact ⟨_, rfl, hR⟩)
  · wp_walk using it
    exact ⟨_, rfl, hR⟩
theorem enum_call1 {prog : Program} {w : World} {A : Around} {E : Value → Shared → Prop} {s : Shared} {v : Value} {o : Obj} {H : Heap → Prop} {Q : Value → Shared → Prop} (B : Begins v o H) (hv : H s.heap)
    (q : ∀ h', IsEnum h' (s.heap.objs.size + 1) s.heap.objs.size 0 .none → h'.get? s.heap.objs.size = some o → (∀ b u, s.heap.get? b = some u → h'.get? b = some u) → Q (.ref (s.heap.objs.size + 1)) { s with heap := h' }) :
    wpAny (model prog w) A (call (.type "enumerate") [v]) Q E s := by
  refine callType_new F.called_enumerate (by decide) (F.typeCall_enumerate_1 _) (F.newCall_enumerate_1 _) (fun obj => F.args_object_init_2 obj _) F.entry_enumerate_new (enum_new1 B) ⟨hv, ?_⟩
  have hz : (s.heap.push o).objs.size = s.heap.objs.size + 1 := Heap.size_push ..
  show _ ∧ _
  rw [hz]
  have he : IsEnum ((s.heap.push o).push { cls := .type "enumerate", data := .fields #[.none, .bool false, .ref s.heap.objs.size, rawInt 0, .none, .none] }) (s.heap.objs.size + 1) s.heap.objs.size 0 .none := by
    have z := Heap.get?_push_size (s.heap.push o) (o := { cls := .type "enumerate", data := .fields #[.none, .bool false, .ref s.heap.objs.size, rawInt 0, .none, .none] }) rfl
    rw [hz] at z
    exact z
  exact ⟨⟨_, he, rfl⟩, q _ he (Heap.get?_push_of_some _ (Heap.get?_push_size _ B.free)) fun b u e => Heap.get?_push_of_some _ (Heap.get?_push_of_some _ e)⟩
/-- an iterator of a tuple that stands at its end -/
theorem draws_end {prog : Program} {w : World} {A : Around} (hh : A.handled = none) {it t : Addr} {items : Array Value} {i : Nat} (hi : items.size ≤ i) :
    Draws prog w A it [it, t] i (fun _ _ => True) (fun j h => j = i ∧ h.IsTupleIter it t j ∧ h.IsTuple t items) where
  live := fun _ _ st => let ⟨o, ho, _⟩ := st.2.1; ⟨o, ho⟩
  frame := fun _ _ _ st hk => ⟨st.1, st.2.1.at fun o e => hk it (by simp) o e, st.2.2.at fun o e => hk t (by simp) o e⟩
  item := fun j s Q E hj st _ => absurd st.1 (Nat.ne_of_lt hj)
  done := fun s Q E st hE => wpAny_nextOf_tuple_end hh st.2.1 st.2.2 (by simpa using hi) hE
/-- the tuple at a, each item in a new pair behind its number -/
def ItEnT (K : PySem.W.Frag) (a : Addr) : L2.It :=
  ⟨fun i H => ∃ (xs : List V) (x : V), SqT K H a xs ∧ xs[i]? = some x, fun i H v H' => ∃ T x, v = .ref T ∧ H T = none ∧ H' = upd H T (.tup [.int (i : Nat), x]) ∧ ∀ xs, SqT K H a xs → xs[i]? = some x, fun i H => ∃ xs : List V, SqT K H a xs ∧ xs.length ≤ i⟩
theorem turn_enT {P : Program} {w : World} {K : PySem.W.Frag} {elts : List Expr} {kk : Nat} {tpos : Pos} {a e it : Addr} (hae : a ≠ e) (hai : a ≠ it) :
    Turn P w K (.Tuple elts kk tpos) (ItEnT K a) [e, it] e (fun i h => (∃ old, IsEnum h e it ((i : Nat) : Int) old) ∧ h.IsTupleIter it a i ∧ e ≠ it) where
  mem := by simp
  obj := fun i h st b hb => by
    obtain ⟨⟨old, he⟩, ⟨o, ho, hc, hd⟩, _⟩ := st
    simp only [List.mem_cons, List.not_mem_nil, or_false] at hb
    rcases hb with rfl | rfl
    · exact ⟨_, he, fun v q => nomatch q⟩
    · exact ⟨o, ho, fun v q => by rw [hd] at q; cases q⟩
  keep := fun i h h' st k => by
    obtain ⟨⟨old, he⟩, hi, hne⟩ := st
    exact ⟨⟨old, k e (by simp) _ he⟩, hi.at fun o q => k it (by simp) o q, hne⟩
  item := by
    intro X hP hw hK hc i pins s σ H E I hf st hg
    subst hP hw hK
    obtain ⟨⟨old, he⟩, hit, hne⟩ := st
    obtain ⟨xs, x, hq, hx⟩ := hg
    obtain ⟨its, rv, p, hz⟩ := I.tuple hq
    obtain ⟨u, hu, ru⟩ := rv.get hx
    have p' : s.heap.IsTuple a its.toArray := p
    have hlt : i < its.toArray.size := by
      have := (List.getElem?_eq_some_iff.mp hu).1
      simpa using this
    have D := Draws.tuple (prog := X.prog) (w := X.w) (A := X.A.in1) (show X.A.in1.handled = none from I.ok.hd hc) it a hai its.toArray
    refine wpAny_pyNext_enum_itemC D he ⟨hit, p'⟩ hlt hne (by simp [hne, Ne.symm hae]) fun y h' tk hy ho hs' hT hsz hk => ?_
    have hy' : y = u := by
      have : its.toArray[i]? = some u := by simpa using hu
      exact Option.some.inj (hy.symm.trans this)
    rw [hy'] at ho hT
    have hel : e < s.heap.objs.size := Heap.lt_size he
    have hil : it < s.heap.objs.size := by
      obtain ⟨_, q, _⟩ := hit
      exact Heap.lt_size q
    refine ⟨_, rfl, wpAny_letOwnedTupleGo_enum (s := { s with heap := h', toks := tk + 1 }) ho fun h'' he' sb => ?_⟩
    have hT2 : h''.get? s.heap.objs.size = some { cls := .type "tuple", data := .seq #[.int i tk, u] } := (sb.2 _ (Nat.ne_of_gt hel)).trans hT
    have I1 : Inv X pins σ (upd H s.heap.objs.size (.tup [.int (i : Nat), x])) { s with heap := h'', toks := tk + 1 } :=
      I.turnedNew (t' := tk + 1) (ch := [e, it]) (ob := .tup [.int (i : Nat), x]) (fun b ob hb q => (sb.2 b (fun z => hb (by simp [z]))).trans (hk b ob (fun z => hb (by simp [z])) (fun z => hb (by simp [z])) q)) hf (Nat.le_refl _)
        ⟨by show 2 ≤ sizeLine; decide, [.int i tk, u], .cons ⟨_, rfl⟩ (.cons ru .nil), ⟨_, hT2, rfl, _, rfl⟩⟩
    refine ⟨.ref s.heap.objs.size, _, I1, rfl, ⟨_, x, rfl, I.hok.fresh (Nat.le_refl _), rfl, fun ys hy => by rw [I.tuple_inj hy hq]; exact hx⟩, ⟨⟨u, ?_⟩, hs'.1.at fun o q => (sb.2 it (Ne.symm hne)).trans q, hne⟩, fun b hb => ?_⟩
    · rw [show ((i + 1 : Nat) : Int) = (i : Int) + 1 by omega]
      exact he'
    · have hb' : b < s.heap.objs.size := by
        simp only [List.mem_cons, List.not_mem_nil, or_false] at hb
        rcases hb with z | z <;> rw [z]
        · exact hel
        · exact hil
      rw [upd_ne (Nat.ne_of_lt hb')]
      exact (hf b hb).1
  done := by
    intro X hP hw hK hc i pins s σ H E I hf st hg
    subst hP hw hK
    obtain ⟨⟨old, he⟩, hit, hne⟩ := st
    obtain ⟨xs, hq, hx⟩ := hg
    obtain ⟨its, rv, p, hz⟩ := I.tuple hq
    obtain ⟨f0, f1, f2, f3, f4, f5⟩ := hf it (by simp)
    have hl := rv.length
    exact wpAny_pyNext_enum_endD (draws_end (A := X.A.in1) (show X.A.in1.handled = none from I.ok.hd hc) (items := its.toArray) (i := i) (by simp; omega)) he ⟨rfl, hit, p⟩ fun h' eb => ⟨rfl, I.turned (t' := s.toks) (fun b o hb q => eb b o hb q) f0 f1 f3 f4 f5⟩
  self := fun A i s Q E st h => by
    obtain ⟨⟨_, he⟩, _⟩ := st
    exact wpAny_pyIter_enum he h
def iEnT (K : PySem.W.Frag) (ta : TA) : TI := fun σ H R => ta σ H fun vs H1 => ∃ a xs, vs = [.ref a] ∧ SqT K H1 a xs ∧ R (ItEnT K a) H1
theorem pi_enT {X : Cx} {e : Expr} {ta : TA} {p pos tpos : Pos} {elts : List Expr} {kk : Nat} (hg : Gl X "enumerate") (hm : X.mg "enumerate" = none) (ha : PA X [e] ta) (hs : starEach [e] X.env = [(false, eval e X.env)] := by rfl) :
    PI X (.Tuple elts kk tpos) (.Call (.Name "enumerate" p) [e] [] pos) (iEnT X.K ta) := by
  refine ⟨fun pins s σ H R I h => Call_ (ld_blt I hg hm boot_enumerate (PyProof.Rows.callWith_type1 (thn (ha.run pos pins s σ H _ I h) fun us s1 z => ?_) hs rfl))⟩
  obtain ⟨vs, H1, I1, r1, a, xs, rfl, hq, q⟩ := z
  cases r1 with
  | cons r rr =>
    cases rr
    cases r
    obtain ⟨its, rv, p', hz⟩ := I1.tuple hq
    have pt : s1.heap.IsTuple a its.toArray := p'
    have hal : a < s1.heap.objs.size := by
      obtain ⟨o, ho, _⟩ := pt
      exact Heap.lt_size ho
    refine enum_call1 (begins_tuple a its.toArray) pt fun h' he ho hk => wpAny_pyIter_enum he ?_
    have I2 : Inv X pins σ H1 { s1 with heap := h' } := I1.kept (t' := s1.toks) hk
    refine ⟨s1.heap.objs.size + 1, [s1.heap.objs.size + 1, s1.heap.objs.size], _, _, H1, rfl, I2, turn_enT (a := a) (Nat.ne_of_lt (Nat.lt_succ_of_lt hal)) (Nat.ne_of_lt hal), ⟨⟨.none, he⟩, ⟨_, ho, rfl, rfl⟩, Nat.succ_ne_self _⟩, fun b hb => ?_, q⟩
    have hle : s1.heap.objs.size ≤ b := by
      simp only [List.mem_cons, List.not_mem_nil, or_false] at hb
      rcases hb with z | z <;> rw [z]
      · exact Nat.le_add_right _ _
      · exact Nat.le_refl _
    exact I1.fpOk hle (I1.hok.fresh hle)
/-- for i, x in enumerate(a new tuple) -/
theorem s_forEU {K : PySem.W.Frag} {σ : L2.St} {H : Hp} {te : TE} {g : TG} {tu : TS} {D : Ends} {xs : List V} (h : EvU te σ H xs) (Pv : Addr → Nat → L2.St → Hp → Prop) (h0 : ∀ p H1, H p = none → Ex H H1 → H1 p = some (.tup xs) → Pv p 0 σ H1) (hl : ∀ p i σ' H', i ≤ xs.length → Pv p i σ' H' → SqT K H' p xs)
    (hs : ∀ p i x T σ' H', xs[i]? = some x → Pv p i σ' H' → H' T = none → g (.ref T) σ' (upd H' T (.tup [.int (i : Nat), x])) fun σ2 H2 => tu { D with nx := Pv p (i + 1), ct := Pv p (i + 1), bk := D.nx } σ2 H2) (hd : ∀ p σ' H', Pv p xs.length σ' H' → D.nx σ' H') : tFor (iEnT K (tCons te tNil)) g tu D σ H := by
  refine h H (Ex.refl H) _ fun p H1 hp e1 h1 => ⟨p, xs, rfl, st_of h1, fun i m σ' H' => m = xs.length - i ∧ i ≤ xs.length ∧ Pv p i σ' H', ⟨_, rfl, Nat.zero_le _, h0 p H1 hp e1 h1⟩, ?_⟩
  rintro i m σ' H' ⟨rfl, hi, hP⟩
  have hq := hl p i σ' H' hi hP
  by_cases hlt : i < xs.length
  · refine .inr ⟨⟨xs, xs[i], hq, List.getElem?_eq_getElem hlt⟩, Pv p (i + 1), fun σ2 H2 p2 => ⟨_, by omega, rfl, hlt, p2⟩, fun v H2 y => ?_⟩
    obtain ⟨T, x, rfl, hT, rfl, hx⟩ := y
    exact hs p i x T σ' H' (hx xs hq) hP hT
  · have ei : i = xs.length := by omega
    subst ei
    exact .inl ⟨⟨xs, hq, Nat.le_refl _⟩, hd p σ' H' hP⟩
theorem q_forEU {K : PySem.W.Frag} {σ : L2.St} {H : Hp} {te : TE} {g : TG} {tu tz : TS} {D : Ends} {xs : List V} (h : EvU te σ H xs) (Pv : Addr → Nat → L2.St → Hp → Prop) (h0 : ∀ p H1, H p = none → Ex H H1 → H1 p = some (.tup xs) → Pv p 0 σ H1) (hl : ∀ p i σ' H', i ≤ xs.length → Pv p i σ' H' → SqT K H' p xs)
    (hs : ∀ p i x T σ' H', xs[i]? = some x → Pv p i σ' H' → H' T = none → g (.ref T) σ' (upd H' T (.tup [.int (i : Nat), x])) fun σ2 H2 => tu { D with nx := Pv p (i + 1), ct := Pv p (i + 1), bk := tz D } σ2 H2) (hd : ∀ p σ' H', Pv p xs.length σ' H' → tz D σ' H') : tSeq (tFor (iEnT K (tCons te tNil)) g tu) tz D σ H :=
  s_forEU (D := { D with nx := tz D }) h Pv h0 hl hs hd


/-! ### sets of texts: set(xs), sorted(set(xs)) -/
section
open PySem.Froz PySem PySem.Spec PyProof.Rows
/-- the payload holds the texts l, and its walk is known to the model -/
structure TsOk (P : Program) (w : World) (D : SD) (l : List Str) : Prop where
  tx : PySem.Froz.TxOk P w D l
  nd : l.Nodup
  ris : L2.Ris D.2.2.place.toList
  led : w.params.followText "set-order" = true ∨ D.2.2.led = true
theorem ris_tailTx {ep : Nat} {es : Array (Int × Value)} {t : SetTable} {b : Bool} (h : L2.Ris t.place.toList) : L2.Ris (tailTx ep es t b).2.2.place.toList := by
  unfold tailTx
  split
  · exact L2.relayAll_ris _ _ _
  · exact h
theorem led_tailTx {ep : Nat} {es : Array (Int × Value)} {t : SetTable} {b : Bool} : (tailTx ep es t b).2.2.led = t.led := by
  unfold tailTx
  split
  · exact L2.relayAll_led _ _ _
  · rfl
theorem ris_addTx {h : Int} {v : Value} {D : SD} (r : L2.Ris D.2.2.place.toList) : L2.Ris (addTx h v D).2.2.place.toList := by
  unfold addTx
  refine ris_tailTx ?_
  split <;> exact L2.layNew_ris _ _ _ _ r
theorem led_addTx {h : Int} {v : Value} {D : SD} : (addTx h v D).2.2.led = D.2.2.led := by
  unfold addTx
  rw [led_tailTx]
  split <;> exact L2.layNew_led _ _ _ _
/-- the set at S holds the texts zs -/
def SetTx (P : Program) (w : World) (h : Heap) (S : Addr) (zs : List Str) : Prop := ∃ D l, h.get? S = some (sObj "set" D) ∧ TsOk P w D l ∧ (∀ z, z ∈ l ↔ z ∈ zs) ∧ l.length ≤ zs.length
section
variable {P : Program} {w : World} {A : Around} {E : Value → Shared → Prop} {s : Shared}
theorem dup_x {a : Addr} {T : String} {D : SD} {l : List Str} {k : Str} {u : Tok} {Q : Bool → Shared → Prop} (ho : s.heap.get? a = some (sObj T D)) (F : PySem.Froz.TxOk P w D l) (hk : k ∈ l) (hb : l.length < scanBound)
    (h : Q false s) : wpAny (model P w) A (setAddHashed a (.str k u) (hashStr w k)) Q E s := by
  obtain ⟨es, ep, t⟩ := D
  have hsz : es.size = l.length := F.sz
  have hb0 : es.size < scanBound := by omega
  obtain ⟨e, he, hi⟩ := (F.mem k).mp hk
  obtain ⟨j, hj⟩ : ∃ j, List.findIdx? (fun e => (strKind P w).is k e.2) es.toList = some j := by
    cases hf : List.findIdx? (fun e => (strKind P w).is k e.2) es.toList with
    | some j => exact ⟨j, rfl⟩
    | none =>
      have := List.findIdx?_eq_none_iff.mp hf e he
      rw [hi] at this
      cases this
  unfold setAddHashed setAddHashedIn
  refine wpAny_holding (wpAny_bind (wpAny_setState_of ho rfl F.fit ?_))
  dsimp only
  rw [byScan_of rfl hb0 F.el]
  simp only [↓reduceIte]
  unfold setAddByScan
  refine wpAny_bind (wpAny_bind (wpAny_rule (wpAny_bind (wpAny_setScan_of (knd := strKind P w) (k := k) (is_str k u) ho rfl F.fit F.el ?_))))
  rw [hj]
  exact wpAny_pure (wpAny_pure h)
theorem SetTx.add {S : Addr} {zs : List Str} {k : Str} {u : Tok} {Q : Bool → Shared → Prop} (h : SetTx P w s.heap S zs) (hb : zs.length + 1 < scanBound)
    (q : ∀ b h', Heap.SameBut S s.heap h' → SetTx P w h' S (zs ++ [k]) → Q b { s with heap := h' }) : wpAny (model P w) A (setAddHashed S (.str k u) (hashStr w k)) Q E s := by
  obtain ⟨D, l, ho, F, hm, hl⟩ := h
  by_cases hk : k ∈ l
  · refine dup_x ho F.tx hk (by omega) (q false s.heap (Heap.SameBut.refl S s.heap) ⟨D, l, ho, F, fun z => ?_, by rw [List.length_append]; omega⟩)
    rw [hm z, List.mem_append, List.mem_singleton]
    exact ⟨.inl, fun z => z.elim id fun e => e ▸ (hm k).mp hk⟩
  · refine add_x ho F.tx hk (by omega) (q true _ (Heap.SameBut.update s.heap S _) ⟨_, k :: l, get_upd _ ho rfl, ⟨add_ok u F.tx, List.nodup_cons.mpr ⟨hk, F.nd⟩, ris_addTx F.ris, ?_⟩, fun z => ?_, by rw [List.length_append]; show l.length + 1 ≤ zs.length + 1; omega⟩)
    · rw [led_addTx]
      exact F.led
    · rw [List.mem_append, List.mem_singleton, List.mem_cons, hm z]
      exact Or.comm
theorem SetTx.at {h h' : Heap} {S : Addr} {zs : List Str} (x : SetTx P w h S zs) (k : ∀ o, h.get? S = some o → h'.get? S = some o) : SetTx P w h' S zs := by
  obtain ⟨D, l, ho, r⟩ := x
  exact ⟨D, l, k _ ho, r⟩
end
section
variable {P : Program} {w : World} {A : Around} {R : Result → Shared → Prop} {I : Addr} {fp wr : List Addr} {G : Array GenState → Array GenState → Prop} {n : Nat} {Pv : Nat → Value → Prop} {St : Nat → Shared → Prop}
theorem loop_setTx (W : WalksS P w A.in1 I fp wr G n Pv St) (S : Addr) (hS : S ∉ fp) (xs : List Str) (hn : xs.length = n) (hb : n + 1 < scanBound) (hv : ∀ i v, Pv i v → ∃ z u, xs[i]? = some z ∧ v = .str z u) :
    ∀ (k i : Nat) (s : Shared), n - i = k → i ≤ n → St i s → SetTx P w s.heap S (xs.take i) → (∀ s', Moved (S :: wr) G s s' → SetTx P w s'.heap S xs → R (.ok (.ret .none)) s') →
      codeAny (model P w) A (.builtin "set.update.loop" ⟨[.ref S, .ref I], []⟩) R s := by
  have hw : S ∉ wr := fun z => hS (W.sub _ z)
  have up : ∀ b ∈ wr, b ∈ S :: wr := fun b z => List.mem_cons_of_mem _ z
  intro k
  induction k with
  | zero =>
    intro i s hk hi hst hx hR
    obtain rfl : i = n := by omega
    refine codeAny_builtin F.entry_set_update_loop ?_
    rw [Around.under_plainId F.plain_set_update_loop _]
    refine wpAny_bind (m := pyNext (.ref I)) (W.done s _ _ hst fun s' hm => wpAny_pure (hR s' (hm.mono up) ?_))
    have := hx.at fun o e => hm.heap S o hw e
    rw [List.take_of_length_le (by omega)] at this
    exact this
  | succ k ih =>
    intro i s hk hi hst hx hR
    refine codeAny_builtin F.entry_set_update_loop ?_
    rw [Around.under_plainId F.plain_set_update_loop _]
    refine wpAny_bind (m := pyNext (.ref I)) (W.item i s _ _ (by omega) hst fun v s' hp hst' hm => ?_)
    obtain ⟨z, u, hz, rfl⟩ := hv i v hp
    show wpAny _ A.in1 (holding [Value.str z u] (setAdd S (.str z u)) >>= _) _ _ s'
    refine wpAny_bind (wpAny_holding ?_)
    unfold setAdd
    refine wpAny_holding (wpAny_bind ((strKind P w).pyHash (k := z) (is_str z u) ?_))
    refine SetTx.add (s := { s' with toks := s'.toks + 1 }) (hx.at fun o e => hm.heap S o hw e) (by rw [List.length_take]; omega) fun b h' sb hx' => ?_
    have ht : xs.take i ++ [z] = xs.take (i + 1) := by rw [List.take_add_one, hz] <;> rfl
    rw [ht] at hx'
    refine wpAny_pure ⟨plainId_quiet F.plain_set_update_loop _, ih (i + 1) _ (by omega) (by omega) (W.frame _ s' _ _ hst' (Nat.le_succ _) fun b hb o e => ?_) hx' fun s2 hm2 hx2 => hR s2 (Moved.trans W.gtrans ((hm.mono up).then_heap (Nat.le_succ _) fun b o hb e => ?_) hm2) hx2⟩
    · rw [sb.2 b fun z => hS (z ▸ hb)]
      exact e
    · rw [sb.2 b fun z => hb (z ▸ List.mem_cons_self)]
      exact e
end
section
variable {P : Program} {w : World} {A : Around} {E : Value → Shared → Prop} {s : Shared}
/-- the object of a new set -/
def setO (w : World) : Obj := { cls := .type "set", dict := none, data := .set #[] 0 (.fresh 0 0 (!w.params.followText "set-order")) }
theorem code_new (a : Value) {Q : Value → Shared → Prop} (h : Q (.ref s.heap.objs.size) { s with heap := s.heap.push (setO w) }) :
    codeAny (model P w) A (.call (.builtin "set.__new__") ⟨[.type "set", a], []⟩) (wants Q E) s := by
  refine codeAny_of_tree ?_
  show wpAny _ A.in1 (do checkBuiltinCall "set.__new__" ⟨[.type "set", a], []⟩; again (.builtin "set.__new__" ⟨[.type "set", a], []⟩)) _ _ s
  refine wpAny_bind (wpAny_of_eq (PySem.F.newCall_set_1 a) (wpAny_pure ⟨plainId_quiet F.plain_set_new _, codeAny_builtin F.entry_set_new ?_⟩))
  rw [Around.under_plainId F.plain_set_new _]
  unfold Builtin.«set.__new__» Builtin.Frozenset.newClass
  have hsub := sub_set_self
  obtain ⟨hp, g, d, tk, os⟩ := s
  dsimp only
  wp_walk
  refine wpAny_askSetting (wpAny_pure ?_)
  dsimp only
  simp only [newObj]
  exact wpAny_bind (wpAny_alloc (wpAny_pure (wpAny_pure h)))
theorem setTx_new {h : Heap} : SetTx P w (h.push (setO w)) h.objs.size [] :=
  ⟨(#[], 0, .fresh 0 0 (!w.params.followText "set-order")), [], Heap.get?_push_size _ rfl, ⟨PySem.Froz.TxOk.nil (by rfl), List.nodup_nil, List.Pairwise.nil, by
    show _ ∨ (!w.params.followText "set-order") = true
    cases w.params.followText "set-order" <;> simp⟩, fun z => Iff.rfl, Nat.le_refl _⟩
set_option maxHeartbeats 3200000 in
/-- set(xs), xs a list of texts -/
theorem call_setTx {l : Addr} {its : Array Value} {xs : List Str} {Q : Value → Shared → Prop} (hh : A.handled = none) (hl : s.heap.IsList l its) (hv : ∀ (i : Nat) v, its[i]? = some v → ∃ z u, xs[i]? = some z ∧ v = .str z u) (hz : xs.length = its.size) (hb : xs.length + 1 < scanBound)
    (q : ∀ (h' : Heap) (tk : Nat), SetTx P w h' s.heap.objs.size xs → (∀ b o, s.heap.get? b = some o → h'.get? b = some o) → Q (.ref s.heap.objs.size) { s with heap := h', toks := tk }) :
    wpAny (model P w) A (call (.type "set") [.ref l]) Q E s := by
  obtain ⟨c, tl, hmro⟩ := PySem.F.called_set.mro
  have hmade := PySem.F.called_set.made
  have hsub := PySem.F.called_set.sub
  refine wpAny_call (codeAny_of_tree ?_)
  show wpAny _ _ (callAny (.type "set") _) _ _ _
  refine wpAny_pure ⟨Code.quiet_builtin _ (by decide +kernel), codeAny_builtin PySem.F.entry_type_call ?_⟩
  rw [Around.under_plain (weight_type_call_type "set" [.ref l] []) rfl]
  have h1 := PySem.F.called_set.notType
  have h2 := PySem.F.called_set.canCreate
  have hct := PySem.F.typeCall_set_1 (.ref l)
  repeat (any_goals (first | assumption | wp_step))
  refine codeAny_mono (code_new (.ref l) (E := E) (Q := fun v s1 => v = .ref s.heap.objs.size ∧ s1 = { s with heap := s.heap.push (setO w) }) ⟨rfl, rfl⟩) fun r s1 hr => ?_
  match r, hr with
  | .error e, hr => exact hr
  | .ok (.ret v), hr =>
    obtain ⟨rfl, rfl⟩ := hr
    have hS : (s.heap.push (setO w)).get? s.heap.objs.size = some (setO w) := Heap.get?_push_size _ rfl
    have hT : Shared.TypeIs { s with heap := s.heap.push (setO w) } (.ref s.heap.objs.size) "set" := ⟨_, hS, rfl⟩
    have hli := PySem.F.called_set.init.lookup
    have hbi := PySem.F.called_set.init.bind (.ref s.heap.objs.size)
    repeat (any_goals (first | assumption | wp_step))
    refine codeAny_mono (codeAny_call_builtin (R := wants (fun r s2 => r = .none ∧ ∃ h' tk, s2 = { s with heap := h', toks := tk } ∧ SetTx P w h' s.heap.objs.size xs ∧ ∀ b o, s.heap.get? b = some o → h'.get? b = some o) E) PySem.F.called_set.init.plain PySem.F.entry_set_init (check_set_init_1 hT ?_)) fun r2 s2 hr2 => ?_
    · obtain ⟨⟨ocls, odict, odata, oslots⟩, hol, hcl, nl, hdl⟩ := id hl
      simp only at hcl hdl
      subst hcl; subst hdl
      have hol' : (s.heap.push (setO w)).get? l = some { cls := .type "list", dict := odict, data := .seq its nl, slots := oslots } := Heap.get?_push_of_some _ hol
      have hsls := PySem.F.sub_list_set
      have hslf := PySem.F.sub_list_frozenset
      have hne : (Value.type "list" == Value.type "dict") = false := by decide
      have hl1 : (s.heap.push (setO w)).IsList l its := ⟨_, hol', rfl, nl, rfl⟩
      unfold Builtin.«set.__init__» noKeywords Builtin.Frozenset.updateFrom
      generalize hPI : pyIter = PI
      wp_walk
      subst hPI
      refine wpAny_pyIter_list hl1 (wpAny_bind (wpAny_runValue ?_))
      have hlS : l < s.heap.objs.size := Heap.lt_size hol
      have hh3 : A.in1.in1.in1.handled = none := by simp [hh]
      have hsz : (s.heap.push (setO w)).objs.size = s.heap.objs.size + 1 := size_push' _ _
      have hneI : l ≠ (s.heap.push (setO w)).objs.size := by rw [hsz]; exact Nat.ne_of_lt (Nat.lt_succ_of_lt hlS)
      have hSf : s.heap.objs.size ∉ [(s.heap.push (setO w)).objs.size, l] := by
        rw [hsz]
        simp only [List.mem_cons, List.not_mem_nil, or_false, not_or]
        exact ⟨Nat.ne_of_lt (Nat.lt_succ_self _), Nat.ne_of_gt hlS⟩
      refine loop_setTx ((Walks.list hh3 _ l hneI its).toS) s.heap.objs.size hSf xs hz (by rw [← hz]; exact hb) hv (its.size - 0) 0 _ (by omega) (Nat.zero_le _) ⟨⟨_, Heap.get?_push_size _ rfl, rfl, rfl⟩, hl1.push _⟩ ?hS0 ?hR
      case hS0 => exact setTx_new.at fun o e => Heap.get?_push_of_some _ e
      case hR =>
        intro s' hm hS'
        obtain ⟨h', g', d', tk', os'⟩ := s'
        obtain rfl : g' = s.gens := hm.gens
        obtain rfl : d' = s.drawn := hm.drawn
        obtain rfl : os' = s.os := hm.os
        refine wpAny_pure (wpAny_pure ⟨rfl, h', tk', rfl, hS', fun b o e => hm.heap b o ?_ (Heap.get?_push_of_some _ (Heap.get?_push_of_some _ e))⟩)
        have hb := Heap.lt_size e
        simp only [List.mem_cons, List.not_mem_nil, or_false, not_or]
        exact ⟨Nat.ne_of_lt hb, by rw [hsz]; exact Nat.ne_of_lt (Nat.lt_succ_of_lt hb)⟩
    · match r2, hr2 with
      | .error e, hr2 => exact hr2
      | .ok (.ret r), hr2 =>
        obtain ⟨rfl, h', tk, rfl, hS', hk'⟩ := hr2
        repeat (any_goals (first | assumption | wp_step))
        exact q _ _ hS' hk'
set_option maxHeartbeats 3200000 in
/-- set(xs), xs a tuple of texts -/
theorem call_setTxT {l : Addr} {its : Array Value} {xs : List Str} {Q : Value → Shared → Prop} (hh : A.handled = none) (hl : s.heap.IsTuple l its) (hv : ∀ (i : Nat) v, its[i]? = some v → ∃ z u, xs[i]? = some z ∧ v = .str z u) (hz : xs.length = its.size) (hb : xs.length + 1 < scanBound)
    (q : ∀ (h' : Heap) (tk : Nat), SetTx P w h' s.heap.objs.size xs → (∀ b o, s.heap.get? b = some o → h'.get? b = some o) → Q (.ref s.heap.objs.size) { s with heap := h', toks := tk }) :
    wpAny (model P w) A (call (.type "set") [.ref l]) Q E s := by
  obtain ⟨c, tl, hmro⟩ := PySem.F.called_set.mro
  have hmade := PySem.F.called_set.made
  have hsub := PySem.F.called_set.sub
  refine wpAny_call (codeAny_of_tree ?_)
  show wpAny _ _ (callAny (.type "set") _) _ _ _
  refine wpAny_pure ⟨Code.quiet_builtin _ (by decide +kernel), codeAny_builtin PySem.F.entry_type_call ?_⟩
  rw [Around.under_plain (weight_type_call_type "set" [.ref l] []) rfl]
  have h1 := PySem.F.called_set.notType
  have h2 := PySem.F.called_set.canCreate
  have hct := PySem.F.typeCall_set_1 (.ref l)
  repeat (any_goals (first | assumption | wp_step))
  refine codeAny_mono (code_new (.ref l) (E := E) (Q := fun v s1 => v = .ref s.heap.objs.size ∧ s1 = { s with heap := s.heap.push (setO w) }) ⟨rfl, rfl⟩) fun r s1 hr => ?_
  match r, hr with
  | .error e, hr => exact hr
  | .ok (.ret v), hr =>
    obtain ⟨rfl, rfl⟩ := hr
    have hS : (s.heap.push (setO w)).get? s.heap.objs.size = some (setO w) := Heap.get?_push_size _ rfl
    have hT : Shared.TypeIs { s with heap := s.heap.push (setO w) } (.ref s.heap.objs.size) "set" := ⟨_, hS, rfl⟩
    have hli := PySem.F.called_set.init.lookup
    have hbi := PySem.F.called_set.init.bind (.ref s.heap.objs.size)
    repeat (any_goals (first | assumption | wp_step))
    refine codeAny_mono (codeAny_call_builtin (R := wants (fun r s2 => r = .none ∧ ∃ h' tk, s2 = { s with heap := h', toks := tk } ∧ SetTx P w h' s.heap.objs.size xs ∧ ∀ b o, s.heap.get? b = some o → h'.get? b = some o) E) PySem.F.called_set.init.plain PySem.F.entry_set_init (check_set_init_1 hT ?_)) fun r2 s2 hr2 => ?_
    · obtain ⟨⟨ocls, odict, odata, oslots⟩, hol, hcl, nl, hdl⟩ := id hl
      simp only at hcl hdl
      subst hcl; subst hdl
      have hol' : (s.heap.push (setO w)).get? l = some { cls := .type "tuple", dict := odict, data := .seq its nl, slots := oslots } := Heap.get?_push_of_some _ hol
      have hsls := PySem.F.sub_tuple_set
      have hslf := PySem.F.sub_tuple_frozenset
      have hne : (Value.type "tuple" == Value.type "dict") = false := by decide
      have hl1 : (s.heap.push (setO w)).IsTuple l its := ⟨_, hol', rfl, nl, rfl⟩
      unfold Builtin.«set.__init__» noKeywords Builtin.Frozenset.updateFrom
      generalize hPI : pyIter = PI
      wp_walk
      subst hPI
      refine wpAny_pyIter_tuple hl1 (wpAny_bind (wpAny_runValue ?_))
      have hlS : l < s.heap.objs.size := Heap.lt_size hol
      have hh3 : A.in1.in1.in1.handled = none := by simp [hh]
      have hsz : (s.heap.push (setO w)).objs.size = s.heap.objs.size + 1 := size_push' _ _
      have hneI : l ≠ (s.heap.push (setO w)).objs.size := by rw [hsz]; exact Nat.ne_of_lt (Nat.lt_succ_of_lt hlS)
      have hSf : s.heap.objs.size ∉ [(s.heap.push (setO w)).objs.size, l] := by
        rw [hsz]
        simp only [List.mem_cons, List.not_mem_nil, or_false, not_or]
        exact ⟨Nat.ne_of_lt (Nat.lt_succ_self _), Nat.ne_of_gt hlS⟩
      refine loop_setTx ((Walks.tuple hh3 _ l hneI its).toS) s.heap.objs.size hSf xs hz (by rw [← hz]; exact hb) hv (its.size - 0) 0 _ (by omega) (Nat.zero_le _) ⟨⟨_, Heap.get?_push_size _ rfl, rfl, rfl⟩, hl1.push _⟩ ?hS0 ?hR
      case hS0 => exact setTx_new.at fun o e => Heap.get?_push_of_some _ e
      case hR =>
        intro s' hm hS'
        obtain ⟨h', g', d', tk', os'⟩ := s'
        obtain rfl : g' = s.gens := hm.gens
        obtain rfl : d' = s.drawn := hm.drawn
        obtain rfl : os' = s.os := hm.os
        refine wpAny_pure (wpAny_pure ⟨rfl, h', tk', rfl, hS', fun b o e => hm.heap b o ?_ (Heap.get?_push_of_some _ (Heap.get?_push_of_some _ e))⟩)
        have hb := Heap.lt_size e
        simp only [List.mem_cons, List.not_mem_nil, or_false, not_or]
        exact ⟨Nat.ne_of_lt hb, by rw [hsz]; exact Nat.ne_of_lt (Nat.lt_succ_of_lt hb)⟩
    · match r2, hr2 with
      | .error e, hr2 => exact hr2
      | .ok (.ret r), hr2 =>
        obtain ⟨rfl, h', tk, rfl, hS', hk'⟩ := hr2
        repeat (any_goals (first | assumption | wp_step))
        exact q _ _ hS' hk'
theorem perm_of_sub : ∀ (l K : List Str), l.Nodup → (∀ z ∈ l, z ∈ K) → K.length ≤ l.length → l.Perm K
  | [], K, _, _, h => by
    rw [List.eq_nil_of_length_eq_zero (Nat.le_zero.mp h)]
  | x :: r, K, hn, hs, h => by
    obtain ⟨hx, hr⟩ := List.nodup_cons.mp hn
    have hk := hs x List.mem_cons_self
    have hlen : (K.erase x).length ≤ r.length := by
      rw [List.length_erase_of_mem hk]
      have : K.length ≤ r.length + 1 := h
      omega
    exact ((perm_of_sub r (K.erase x) hr (fun z hz => (List.mem_erase_of_ne fun (e : z = x) => hx (e ▸ hz)).mpr (hs z (List.mem_cons_of_mem _ hz))) hlen).cons x).trans (List.perm_cons_erase hk).symm
theorem nodup_sub_len : ∀ (l K : List Str), l.Nodup → (∀ z ∈ l, z ∈ K) → l.length ≤ K.length
  | [], K, _, _ => Nat.zero_le _
  | x :: r, K, hn, hs => by
    obtain ⟨hx, hr⟩ := List.nodup_cons.mp hn
    have hk := hs x List.mem_cons_self
    have ih := nodup_sub_len r (K.erase x) hr fun z hz => (List.mem_erase_of_ne fun (e : z = x) => hx (e ▸ hz)).mpr (hs z (List.mem_cons_of_mem _ hz))
    rw [List.length_erase_of_mem hk] at ih
    have := List.length_pos_of_mem hk
    show r.length + 1 ≤ K.length
    omega
theorem nodup_ed : ∀ (n : Nat) (zs : List Str), zs.length ≤ n → zs.eraseDups.Nodup
  | _, [], _ => by simp
  | 0, x :: r, h => absurd h (by simp)
  | n + 1, x :: r, h => by
    rw [List.eraseDups_cons]
    have hl : (r.filter fun y => !y == x).length ≤ n := Nat.le_trans (List.length_filter_le _ _) (by have : r.length + 1 ≤ n + 1 := h; omega)
    refine List.nodup_cons.mpr ⟨fun z => ?_, nodup_ed n _ hl⟩
    have := (List.mem_filter.mp (List.mem_eraseDups.mp z)).2
    simp at this
/-- sorted(S), S a set of texts -/
theorem sorted_setTx {a : Addr} {zs : List Str} {Q : Value → Shared → Prop} (R : SetTx P w s.heap a zs) (hh : A.handled = none) (h64 : zs.length < 64)
    (q : ∀ s' p (out : Array Value) (c : Nat) (ks : List Str), (∀ b o, s.heap.get? b = some o → s'.heap.get? b = some o) → s'.gens = s.gens → s'.os = s.os → s.heap.objs.size ≤ p → s'.heap.get? p = some (seqObj "list" out c) →
      StrsAre out.toList ks → sortedS ks = true → ks.Nodup → (∀ z, z ∈ ks ↔ z ∈ zs) → ks.length ≤ zs.length → Q (.ref p) s') :
    wpAny (model P w) A (call (.builtin "sorted") [.ref a]) Q E s := by
  obtain ⟨⟨es, ep, t⟩, l, ho, F, hm, hl⟩ := R
  have hsz : es.size = l.length := F.tx.sz
  have hb : es.size < scanBound := by unfold scanBound; omega
  refine Calls.call_function_entry kind_sorted plain_sorted entry_sorted (args_sorted1 _) ?_
  unfold Builtin.«sorted»
  refine wpAny_bind (m := checkCount "sorted" 1 1 _) (wpAny_pure ?_)
  refine wpAny_bind (L2.collect_set (A := A.in1) hh ⟨_, ho, rfl, rfl⟩ F.tx.fit hb F.ris F.led fun s1 vs k1 hz g1 o1 pm => ?_)
  have hstr : ∀ v ∈ es.toList.map (·.2), ∃ x u, v = .str x u := fun v hv => by
    obtain ⟨e, he, rfl⟩ := List.mem_map.mp hv
    obtain ⟨⟨k, hk, _⟩, _⟩ := F.tx.el e he
    obtain ⟨u, hu⟩ := Value.isStrOf_shape hk
    exact ⟨k, u, hu⟩
  have hS : StrsAre vs (vs.map strOf) := strsAre_map vs fun v hv => hstr v (pm.mem_iff.mp hv)
  have hvl : vs.length = l.length := by rw [pm.length_eq, List.length_map, Array.length_toList, hsz]
  have hsub : ∀ z ∈ l, z ∈ vs.map strOf := fun z hz => by
    obtain ⟨e, he, hi⟩ := (F.tx.mem z).mp hz
    obtain ⟨u, hu⟩ := Value.isStrOf_shape hi
    exact List.mem_map.mpr ⟨e.2, pm.mem_iff.mpr (List.mem_map.mpr ⟨e, he, rfl⟩), by rw [hu] <;> rfl⟩
  have pl : l.Perm (vs.map strOf) := perm_of_sub l _ F.nd hsub (by rw [List.length_map, hvl]; exact Nat.le_refl _)
  refine wpAny_bind (wpAny_newList ?_ (by rw [hvl, sizeLine_eq]; omega))
  have hoL : (s1.heap.push (seqObj "list" vs.toArray 0)).get? s1.heap.objs.size = some (seqObj "list" vs.toArray 0) := Heap.get?_push_size _ rfl
  refine wpAny_bind (wpAny_holding (wpAny_call_entry slot_list_sort ⟨_, hoL, rfl⟩ entry_list_sort (list_sort_treeK strKind_oneLt hoL hS.keysOf (fun v₁ v₂ rest e => keyKind_strs (by rw [← e]; exact hS)) (by omega) fun st' a1 a2 => ⟨_, rfl, ?_⟩) (args_list_sort _)))
  obtain ⟨ks, b1, b2, b3⟩ := sorted_out_str hS a1 a2
  obtain ⟨c, hc⟩ := sortedHeap_at (vs := vs) (out := (arrOf st').map (·.2)) hoL
  have pk : ks.Perm l := b2.trans pl.symm
  refine wpAny_pure ⟨_, rfl, q _ s1.heap.objs.size _ c ks (fun b u e => ?_) g1 o1 hz hc b1 b3 (pk.nodup_iff.mpr F.nd) (fun z => (pk.mem_iff).trans (hm z)) (by rw [pk.length_eq]; exact hl)⟩
  have e1 := k1 b u e
  have hlt := Heap.lt_size e1
  show (sortedHeap (s1.heap.push (seqObj "list" vs.toArray 0)) s1.heap.objs.size vs _).get? b = some u
  rw [sortedHeap_old (Nat.ne_of_lt hlt) (by rw [size_push']; exact Nat.lt_succ_of_lt hlt)]
  exact Heap.get?_push_of_some _ e1
end
/-! the one list -/
def leS (a b : Str) : Bool := decide (a.cps.toList ≤ b.cps.toList)
theorem leS_trans (a b c : Str) (h : leS a b = true) (k : leS b c = true) : leS a c = true := by
  unfold leS at *
  rw [decide_eq_true_eq] at *
  exact List.le_trans h k
theorem leS_total (a b : Str) : (leS a b || leS b a) = true := by
  unfold leS
  rw [Bool.or_eq_true, decide_eq_true_eq, decide_eq_true_eq]
  exact List.le_total _ _
theorem leS_anti {a b : Str} (h : leS a b = true) (k : leS b a = true) : a = b := by
  unfold leS at *
  rw [decide_eq_true_eq] at *
  have := List.le_antisymm h k
  obtain ⟨⟨x⟩⟩ := a
  obtain ⟨⟨y⟩⟩ := b
  have e : x = y := this
  rw [e]
theorem srt_uniq : ∀ {l m : List Str}, l.Perm m → l.Pairwise (fun a b => leS a b = true) → m.Pairwise (fun a b => leS a b = true) → l = m
  | [], m, p, _, _ => (List.nil_perm.mp p).symm
  | a :: l, [], p, _, _ => absurd p.symm (by simp)
  | a :: l, b :: m, p, h, k => by
    obtain ⟨h1, h2⟩ := List.pairwise_cons.mp h
    obtain ⟨k1, k2⟩ := List.pairwise_cons.mp k
    have e : a = b := by
      rcases List.mem_cons.mp (p.mem_iff.mp (List.mem_cons_self : a ∈ a :: l)) with z | z
      · exact z
      · rcases List.mem_cons.mp (p.mem_iff.mpr (List.mem_cons_self : b ∈ b :: m)) with y | y
        · exact y.symm
        · exact leS_anti (h1 b y) (k1 a z)
    subst e
    rw [srt_uniq ((List.perm_cons a).mp p) h2 k2]
theorem rising_pw : ∀ (p : Str) (l : List Str), risingS p l = true → (p :: l).Pairwise (fun a b => leS a b = true)
  | p, [], _ => List.pairwise_singleton _ _
  | p, x :: r, h => by
    have h' : (!ltCps x.cps.toList p.cps.toList && risingS x r) = true := h
    rw [Bool.and_eq_true] at h'
    have ih := rising_pw x r h'.2
    have hx : leS p x = true := by
      have := h'.1
      rw [ltCps_eq] at this
      unfold leS
      rw [decide_eq_true_eq]
      exact List.not_lt.mp (by simpa using this)
    refine List.pairwise_cons.mpr ⟨fun y hy => ?_, ih⟩
    rcases List.mem_cons.mp hy with z | z
    · rw [z]
      exact hx
    · exact leS_trans _ _ _ hx ((List.pairwise_cons.mp ih).1 y z)
theorem sorted_pw : ∀ (l : List Str), sortedS l = true → l.Pairwise (fun a b => leS a b = true)
  | [], _ => .nil
  | x :: r, h => rising_pw x r h
/-- the texts once each, in order -/
def srtU (zs : List Str) : List Str := zs.eraseDups.mergeSort leS
theorem srtU_eq {ks zs : List Str} (h : sortedS ks = true) (hn : ks.Nodup) (hm : ∀ z, z ∈ ks ↔ z ∈ zs) : ks = srtU zs := by
  refine srt_uniq ?_ (sorted_pw ks h) (List.pairwise_mergeSort leS_trans leS_total _)
  refine List.Perm.trans ?_ (List.mergeSort_perm _ _).symm
  refine perm_of_sub ks _ hn (fun z hz => List.mem_eraseDups.mpr ((hm z).mp hz)) ?_
  have hd : zs.eraseDups.Nodup := nodup_ed zs.length zs (Nat.le_refl _)
  exact nodup_sub_len _ _ hd fun z hz => (hm z).mpr (List.mem_eraseDups.mp hz)
theorem srtU_congr {xs ys : List Str} (h : ∀ z, z ∈ xs ↔ z ∈ ys) : srtU xs = srtU ys := by
  refine srt_uniq ?_ (List.pairwise_mergeSort leS_trans leS_total _) (List.pairwise_mergeSort leS_trans leS_total _)
  refine ((List.mergeSort_perm _ _).trans ?_).trans (List.mergeSort_perm _ _).symm
  have hx : xs.eraseDups.Nodup := nodup_ed xs.length xs (Nat.le_refl _)
  have hy : ys.eraseDups.Nodup := nodup_ed ys.length ys (Nat.le_refl _)
  exact perm_of_sub _ _ hx (fun z hz => List.mem_eraseDups.mpr ((h z).mp (List.mem_eraseDups.mp hz))) (nodup_sub_len _ _ hy fun z hz => List.mem_eraseDups.mpr ((h z).mpr (List.mem_eraseDups.mp hz)))
theorem srtU_mem {zs : List Str} {z : Str} : z ∈ srtU zs ↔ z ∈ zs := by
  unfold srtU
  rw [List.mem_mergeSort, List.mem_eraseDups]
theorem srtU_nodup (zs : List Str) : (srtU zs).Nodup := ((List.mergeSort_perm _ leS).nodup_iff).mpr (nodup_ed zs.length zs (Nat.le_refl _))
theorem srtU_pw (zs : List Str) : (srtU zs).Pairwise (fun a b => leS a b = true) := List.pairwise_mergeSort leS_trans leS_total _
theorem srtU_len (zs : List Str) : (srtU zs).length ≤ zs.length := nodup_sub_len _ _ (srtU_nodup zs) fun z hz => srtU_mem.mp hz
end
/-! the rule -/
section
variable {X : Cx}
open PySem PySem.Spec PyProof.Rows L2
/-- sorted(set(xs)), xs a list or a tuple of texts -/
def tSortSet (K : PySem.W.Frag) (ta : TE) : TE := fun σ H Q => ta σ H fun x H1 => ∃ (l : Addr) (zs : List Str), x = .ref l ∧ (SqL K H1 l (zs.map V.str) ∨ SqT K H1 l (zs.map V.str)) ∧ zs.length < 64 ∧ ∀ p, H1 p = none → Q (.ref p) (upd H1 p (.lst ((srtU zs).map V.str)))
theorem pe_sortSet {a : Expr} {ta : TE} {p p2 q pos : Pos} (hc : X.calm = true) (hg : Gl X "sorted") (hm : X.mg "sorted" = none) (hg2 : Gl X "set") (hm2 : X.mg "set" = none) (ha : PE X a ta)
    (na : starEach [a] X.env = (false, eval a X.env) :: starEach [] X.env := by rfl) : PE X (.Call (.Name "sorted" p) [.Call (.Name "set" p2) [a] [] q] [] pos) (tSortSet X.K ta) := by
  refine ⟨fun pins s σ H Q I h => ?_⟩
  refine Call_ (ld_blt I hg hm (by decide +kernel : bootBuiltins "sorted" = some (.builtin "sorted")) ?_)
  refine PyProof.Rows.callWith_builtin1 (PyProof.Rows.args_cons ?_ rfl) rfl rfl
  refine Call_ (ld_blt I hg2 hm2 boot_set ?_)
  refine PyProof.Rows.callWith_type1 (PyProof.Rows.args_cons (thn (ha.run pins s σ H _ I h) fun v s1 ⟨x, H1, I1, r1, q1⟩ => PyProof.Rows.args_nil ?_) na) na rfl
  obtain ⟨l, zs, rfl, hq, h64, q1⟩ := q1
  cases r1
  have fin : ∀ (h' : Heap) (tk : Nat), SetTx X.prog X.w h' s1.heap.objs.size zs → (∀ b o, s1.heap.get? b = some o → h'.get? b = some o) →
      wpAny (model X.prog X.w) X.A (spliced (backTo pos (starEach [] X.env))) (fun vs s₂ => wpAny (model X.prog X.w) X.A (call (.builtin "sorted") (Value.ref s1.heap.objs.size :: vs)) (L2.EP X pins σ Q) X.xe s₂) X.xe { s1 with heap := h', toks := tk } := fun h' tk hS hk => by
    refine PyProof.Rows.args_nil ?_
    have I2 : Inv X pins σ H1 { s1 with heap := h', toks := tk } := I1.kept hk
    refine sorted_setTx (s := { s1 with heap := h', toks := tk }) hS (I1.ok.hd hc) h64 fun s' p out c ks k g o hp hgt b1 b2 b3 b4 b5 => ?_
    have e : ks = srtU zs := srtU_eq b2 b3 b4
    subst e
    have hn : H1 p = none := I2.hok.fresh hp
    have hl : ((srtU zs).map V.str).length ≤ sizeLine := by
      rw [List.length_map]
      have := srtU_len zs
      rw [sizeLine_eq]
      omega
    have J := I2.call' (s' := s') (ch := []) o (Un.laid k hp hn) (I2.hok.laid (o := .lst ((srtU zs).map V.str)) k hp ⟨hl, out.toList, c, vals_of_strs b1, hgt⟩) (by rw [g]; exact I2.bare) (fun _ z => nomatch z)
    exact ⟨.ref p, _, J, rfl, q1 p hn⟩
  have vals : ∀ {its : List Value}, Vals (zs.map V.str) its → ∀ (i : Nat) v, its.toArray[i]? = some v → ∃ z u, zs[i]? = some z ∧ v = .str z u := fun {its} r i v hv => by
    have hlen : its.length = zs.length := by rw [← r.length, List.length_map]
    rw [List.getElem?_toArray] at hv
    obtain ⟨u, e⟩ := SS.strs_at (strsAre_of r) i v hv
    have hi := (List.getElem?_eq_some_iff.mp hv).1
    exact ⟨_, u, by rw [List.getElem?_eq_getElem (by omega), List.getD_eq_getElem?_getD, List.getElem?_eq_getElem (by omega)] <;> rfl, e⟩
  rcases hq with hq | hq
  · obtain ⟨its, r, pl, _⟩ := I1.list hq
    have hlen : its.length = zs.length := by rw [← r.length, List.length_map]
    exact call_setTx (xs := zs) (I1.ok.hd hc) pl.isList (vals r) (by rw [List.size_toArray, hlen]) (by unfold scanBound; omega) fin
  · obtain ⟨its, r, pl, _⟩ := I1.tuple hq
    have hlen : its.length = zs.length := by rw [← r.length, List.length_map]
    exact call_setTxT (xs := zs) (I1.ok.hd hc) pl (vals r) (by rw [List.size_toArray, hlen]) (by unfold scanBound; omega) fin
end
theorem el_sortSet {K : PySem.W.Frag} {ta : TE} {σ : L2.St} {H : Hp} {zs : List Str} (h : EvL ta σ H (zs.map V.str)) (hz : zs.length < 64) : EvL (tSortSet K ta) σ H ((srtU zs).map V.str) := fun H1 e Q q => h H1 e _ fun p H2 hp e2 hl => ⟨p, zs, rfl, .inl (sq_of hl), hz, fun r hr => q r _ (fresh_back e2 hr) (e2.trans (Ex.new hr)) upd_same⟩
theorem el_sortSetU {K : PySem.W.Frag} {ta : TE} {σ : L2.St} {H : Hp} {zs : List Str} (h : EvU ta σ H (zs.map V.str)) (hz : zs.length < 64) : EvL (tSortSet K ta) σ H ((srtU zs).map V.str) := fun H1 e Q q => h H1 e _ fun p H2 hp e2 hl => ⟨p, zs, rfl, .inr (st_of hl), hz, fun r hr => q r _ (fresh_back e2 hr) (e2.trans (Ex.new hr)) upd_same⟩


/-! ### merges of forms -/
def kdF (f : Fm) (z : Str) : Str := match findC f.cs z with
  | some c => c.kd.s
  | none => ""
def sigs (f : Fm) : List (Str × Str) := f.ks.map fun z => (z, kdF f z)
def pairD (p : Str × Str) : PyData := .tuple [.str p.1, .str p.2]
/-- forms that may have a column more -/
structure Fm.okW (f : Fm) : Prop where
  cs : ∀ c ∈ f.cs, c.ok
  ln : f.cs.length ≤ 13
  kl : f.ks.length ≤ 2
  ki : ∀ z ∈ f.ks, (z = Str.ofString "id" ∨ z = Str.ofString "key") ∧ ∃ c ∈ f.cs, c.nm = z
theorem Fm.ok.w {f : Fm} (h : f.ok) : f.okW := ⟨h.cs, Nat.le_trans h.ln (by decide), h.kl, h.ki⟩
theorem idkey_sh : SeqAt.shaped (.str (Str.ofString "id")) = true ∧ SeqAt.shaped (.str (Str.ofString "key")) = true := by decide +kernel
theorem Fm.okW.ksh {f : Fm} (h : f.okW) : ∀ z ∈ f.ks, SeqAt.shaped (.str z) = true := fun z hz => by
  rcases (h.ki z hz).1 with e | e <;> rw [e]
  · exact idkey_sh.1
  · exact idkey_sh.2
def nmsC (f : Fm) : List Str := f.cs.map Co.nm
def chO (x y w : Option Co) : Option Co := if PyData.eqv (optD y) (optD x) = true then w else y
def clO (x y w : Option Co) : Bool := clashB (optD x) (optD y) (optD w)
def uniF (b o t : Fm) : List Str := srtU (nmsC b ++ nmsC o ++ nmsC t)
def chZ (b o t : Fm) (z : Str) : Option Co := chO (findC b.cs z) (findC o.cs z) (findC t.cs z)
def clZ (b o t : Fm) (z : Str) : Bool := clO (findC b.cs z) (findC o.cs z) (findC t.cs z)
def colsZ (b o t : Fm) (zs : List Str) : List Co := zs.filterMap (chZ b o t)
def mrgF (b o t : Fm) : Option Fm :=
  if sigs b = sigs o ∧ sigs b = sigs t then
    if (uniF b o t).any (clZ b o t) = true then none
    else if 12 < (colsZ b o t (uniF b o t)).length then none else some ⟨colsZ b o t (uniF b o t), o.ks⟩
  else none
def optF : Option Fm → PyData
  | none => .none
  | some f => f.d
theorem optD_fl {x : Option Co} (h : ∀ c, x = some c → c.ok) : Fl 1 (optD x) := by
  cases x with
  | none => exact .non 1
  | some c => exact (h c rfl).fl
theorem find_ok {f : Fm} (h : f.okW) {z : Str} : ∀ c, findC f.cs z = some c → c.ok := fun c hc => h.cs c (find_mem hc).1
theorem opt_fl {f : Fm} (h : f.okW) (z : Str) : Fl 1 (optD (findC f.cs z)) := optD_fl (find_ok h)
theorem colsZ_ok {b o t : Fm} (hb : b.okW) (ho : o.okW) (ht : t.okW) {zs : List Str} : ∀ c ∈ colsZ b o t zs, c.ok := fun c hc => by
  unfold colsZ at hc
  obtain ⟨z, _, hz⟩ := List.mem_filterMap.mp hc
  unfold chZ chO at hz
  split at hz
  · exact find_ok ht c hz
  · exact find_ok ho c hz
theorem uniF_len (b o t : Fm) : (uniF b o t).length ≤ b.cs.length + o.cs.length + t.cs.length := by
  refine Nat.le_trans (srtU_len _) ?_
  unfold nmsC
  rw [List.length_append, List.length_append, List.length_map, List.length_map, List.length_map]
  exact Nat.le_refl _
theorem colsZ_len (b o t : Fm) (zs : List Str) : (colsZ b o t zs).length ≤ zs.length := List.length_filterMap_le _ _
theorem colsZ_succ {b o t : Fm} {zs : List Str} {k : Nat} {z : Str} (h : zs[k]? = some z) : colsZ b o t (zs.take (k + 1)) = colsZ b o t (zs.take k) ++ (chZ b o t z).toList := by
  unfold colsZ
  rw [List.take_add_one, h, List.filterMap_append]
  congr 1
/-! the merge, both ways -/
theorem opt_sym {x y w : Option Co} (hx : Pl (optD x)) (hy : Pl (optD y)) (hw : Pl (optD w)) (h : clO x y w = false) : optD (chO x y w) = optD (chO x w y) := by
  unfold chO
  unfold clO clashB at h
  by_cases h1 : PyData.eqv (optD y) (optD x) = true
  · rw [if_pos h1]
    by_cases h2 : PyData.eqv (optD w) (optD x) = true
    · rw [if_pos h2, (eqv_iff _ _ hy hx).mp h1, (eqv_iff _ _ hw hx).mp h2]
    · rw [if_neg h2]
  · rw [if_neg h1]
    by_cases h2 : PyData.eqv (optD w) (optD x) = true
    · rw [if_pos h2]
    · rw [if_neg h2]
      have h3 : PyData.eqv (optD w) (optD y) = true := by
        rw [Bool.not_eq_true] at h1 h2
        rw [h1, h2] at h
        simpa using h
      exact ((eqv_iff _ _ hw hy).mp h3).symm
theorem co_d_ne (c : Co) : c.d ≠ .none := fun h => by
  unfold Co.d at h
  cases h
theorem fmap_congr {f g : Str → Option Co} : ∀ {zs : List Str}, (∀ z ∈ zs, optD (f z) = optD (g z)) → (zs.filterMap f).map Co.d = (zs.filterMap g).map Co.d
  | [], _ => rfl
  | z :: zs, h => by
    have ih := fmap_congr (zs := zs) fun y hy => h y (List.mem_cons_of_mem _ hy)
    have hz := h z List.mem_cons_self
    cases hf : f z with
    | none =>
      cases hg : g z with
      | none => rw [List.filterMap_cons_none hf, List.filterMap_cons_none hg, ih]
      | some d =>
        rw [hf, hg] at hz
        exact absurd hz.symm (co_d_ne d)
    | some c =>
      cases hg : g z with
      | none =>
        rw [hf, hg] at hz
        exact absurd hz (co_d_ne c)
      | some d =>
        rw [hf, hg] at hz
        have hz2 : c.d = d.d := hz
        rw [List.filterMap_cons_some hf, List.filterMap_cons_some hg, List.map_cons, List.map_cons, ih, hz2]
theorem sigs_ks {f g : Fm} (h : sigs f = sigs g) : f.ks = g.ks := by
  have := congrArg (List.map Prod.fst) h
  unfold sigs at this
  rw [List.map_map, List.map_map] at this
  have e : ∀ l : List Str, ∀ k : Str → Str, l.map (Prod.fst ∘ fun z => (z, k z)) = l := fun l k => by
    rw [show (Prod.fst ∘ fun z => (z, k z)) = id from rfl, List.map_id]
  rw [e, e] at this
  exact this
theorem mrgF_sym {b o t : Fm} (hb : b.okW) (ho : o.okW) (ht : t.okW) : optF (mrgF b t o) = optF (mrgF b o t) := by
  have hu : uniF b t o = uniF b o t := by
    unfold uniF
    refine srtU_congr fun z => ?_
    simp only [List.mem_append]
    exact ⟨fun h => h.elim (fun h => h.elim (fun x => .inl (.inl x)) .inr) fun x => .inl (.inr x), fun h => h.elim (fun h => h.elim (fun x => .inl (.inl x)) .inr) fun x => .inl (.inr x)⟩
  have hc : clZ b t o = clZ b o t := funext fun z => by
    unfold clZ clO
    exact clash_sym (opt_fl ht z).pl (opt_fl ho z).pl
  unfold mrgF
  rw [hu, hc]
  by_cases h1 : sigs b = sigs o ∧ sigs b = sigs t
  · rw [if_pos h1, if_pos ⟨h1.2, h1.1⟩]
    by_cases h2 : (uniF b o t).any (clZ b o t) = true
    · rw [if_pos h2, if_pos h2]
    · rw [if_neg h2, if_neg h2]
      have hz : (colsZ b t o (uniF b o t)).map Co.d = (colsZ b o t (uniF b o t)).map Co.d := by
        unfold colsZ
        refine fmap_congr fun z hz => ?_
        have hcl : clZ b o t z = false := by
          cases e : clZ b o t z with
          | false => rfl
          | true => exact absurd (List.any_eq_true.mpr ⟨z, hz, e⟩) h2
        exact (opt_sym (opt_fl hb z).pl (opt_fl ho z).pl (opt_fl ht z).pl hcl).symm
      have hl : (colsZ b t o (uniF b o t)).length = (colsZ b o t (uniF b o t)).length := by
        have := congrArg List.length hz
        rw [List.length_map, List.length_map] at this
        exact this
      rw [hl]
      split
      · rfl
      · show Fm.d _ = Fm.d _
        unfold Fm.d
        show PyData.tuple [.tuple ((colsZ b t o (uniF b o t)).map Co.d), .tuple (t.ks.map PyData.str)] = PyData.tuple [.tuple ((colsZ b o t (uniF b o t)).map Co.d), .tuple (o.ks.map PyData.str)]
        rw [hz, ← sigs_ks h1.2, ← sigs_ks h1.1]
  · rw [if_neg h1, if_neg fun h => h1 ⟨h.2, h.1⟩]
theorem nm_uniq {cs : List Co} (hn : (cs.map Co.nm).Nodup) : ∀ {xs ys : List Co}, (∀ c ∈ xs, c ∈ cs) → (∀ c ∈ ys, c ∈ cs) → xs.map Co.nm = ys.map Co.nm → xs = ys
  | [], [], _, _, _ => rfl
  | [], y :: ys, _, _, h => by cases h
  | x :: xs, [], _, _, h => by cases h
  | x :: xs, y :: ys, hx, hy, h => by
    rw [List.map_cons, List.map_cons] at h
    injection h with h1 h2
    rw [nd_inj hn (hx x List.mem_cons_self) (hy y List.mem_cons_self) h1, nm_uniq hn (fun c hc => hx c (List.mem_cons_of_mem _ hc)) (fun c hc => hy c (List.mem_cons_of_mem _ hc)) h2]
/-- one side alone -/
theorem mrgF_one {b o : Fm} (hb : b.ok) (ho : o.ok) (hk : o.ks = b.ks) (hkc : ∀ c ∈ b.cs, c.nm ∈ b.ks → c ∈ o.cs) : optF (mrgF b b o) = o.d := by
  have hs : sigs b = sigs o := by
    unfold sigs
    rw [hk]
    refine List.map_congr_left fun z hz => ?_
    obtain ⟨_, c, hc, hn⟩ := hb.ki z hz
    have h1 := find_nd2 hb.nd hc
    have h2 := find_nd2 ho.nd (hkc c hc (by rw [hn]; exact hz))
    rw [hn] at h1 h2
    unfold kdF
    rw [h1, h2]
  have rf : ∀ z, PyData.eqv (optD (findC b.cs z)) (optD (findC b.cs z)) = true := fun z => (eqv_iff _ _ (opt_fl hb.w z).pl (opt_fl hb.w z).pl).mpr rfl
  have hcl : ∀ z, clZ b b o z = false := fun z => by
    unfold clZ clO clashB
    rw [rf z] <;> rfl
  have hch : ∀ z, chZ b b o z = findC o.cs z := fun z => by
    unfold chZ chO
    rw [if_pos (rf z)]
  have hco : colsZ b b o (uniF b b o) = o.cs := by
    unfold colsZ
    rw [show chZ b b o = fun z => findC o.cs z from funext hch]
    refine nm_uniq ho.nd (fun c hc => ?_) (fun c hc => hc) ?_
    · obtain ⟨z, _, hz⟩ := List.mem_filterMap.mp hc
      exact (find_mem hz).1
    · have e : ((uniF b b o).filterMap fun z => findC o.cs z).map Co.nm = (uniF b b o).filter fun z => (findC o.cs z).isSome := by
        generalize uniF b b o = L
        induction L with
        | nil => rfl
        | cons z L ih =>
          cases hf : findC o.cs z with
          | none => rw [List.filterMap_cons_none hf, List.filter_cons_of_neg (by rw [hf]; decide), ih]
          | some c => rw [List.filterMap_cons_some hf, List.filter_cons_of_pos (by rw [hf] <;> rfl), List.map_cons, ih, (find_mem hf).2]
      rw [e]
      refine srt_uniq ?_ ((srtU_pw _).sublist List.filter_sublist) (List.pairwise_map.mpr ho.so)
      refine perm_of_sub _ _ ((srtU_nodup _).sublist List.filter_sublist) (fun z hz => ?_) (nodup_sub_len _ _ ho.nd fun z hz => ?_)
      · obtain ⟨c, hc⟩ := Option.isSome_iff_exists.mp (List.mem_filter.mp hz).2
        exact List.mem_map.mpr ⟨c, (find_mem hc).1, (find_mem hc).2⟩
      · obtain ⟨c, hc, rfl⟩ := List.mem_map.mp hz
        refine List.mem_filter.mpr ⟨srtU_mem.mpr (List.mem_append_right _ (List.mem_map.mpr ⟨c, hc, rfl⟩)), ?_⟩
        rw [find_nd2 ho.nd hc] <;> rfl
  unfold mrgF
  rw [if_pos ⟨rfl, hs⟩, if_neg, hco, if_neg (by have := ho.ln; omega)]
  · show Fm.d ⟨o.cs, b.ks⟩ = Fm.d o
    unfold Fm.d
    show PyData.tuple [.tuple (o.cs.map Co.d), .tuple (b.ks.map PyData.str)] = _
    rw [hk]
  · intro h
    obtain ⟨z, _, hz⟩ := List.any_eq_true.mp h
    rw [hcl z] at hz
    cases hz
/-! #### new lists of data -/
def EDL (K : PySem.W.Frag) (te : TE) (σ : L2.St) (H : Hp) (ds : List PyData) : Prop := ∀ H1, Ex H H1 → ∀ Q : VK, (∀ p vs H2, H1 p = none → Ex H1 H2 → H2 p = some (.lst vs) → DpAll K H2 vs ds → Q (.ref p) H2) → te σ H1 Q
/-- a tuple of these values -/
def ETu (K : PySem.W.Frag) (te : TE) (σ : L2.St) (H : Hp) (xs : List V) : Prop := ∀ H1, Ex H H1 → ∀ Q : VK, (∀ a H2, Ex H1 H2 → SqT K H2 a xs → Q (.ref a) H2) → te σ H1 Q
theorem etu_ev {K : PySem.W.Frag} {te : TE} {σ : L2.St} {H : Hp} {a : Addr} {xs : List V} (h : Ev te σ H (.ref a)) (hx : SqT K H a xs) : ETu K te σ H xs := fun H1 e Q q => h H1 e _ fun H2 e2 => q a H2 e2 (ex_t (e.trans e2) hx)
theorem etu_u {K : PySem.W.Frag} {te : TE} {σ : L2.St} {H : Hp} {xs : List V} (h : EvU te σ H xs) : ETu K te σ H xs := fun H1 e Q q => h H1 e _ fun p H2 _ e2 hp => q p H2 e2 (st_of hp)
theorem dpa_take {K : PySem.W.Frag} {H : Hp} {us : List V} {ds : List PyData} {i : Nat} {d : PyData} {v : V} (h : DpAll K H us (ds.take i)) (hd : ds[i]? = some d) (hv : Dp K H v d) : DpAll K H (us ++ [v]) (ds.take (i + 1)) := by
  rw [List.take_add_one, hd]
  exact dpa_app h (.cons hv .nil)
section
variable {K : PySem.W.Frag} {σ : L2.St} {H : Hp} {te tl : TE} {j n : Nat} {vs : List Nat} {xs : List V} {ds : List PyData}
theorem edl_T (h : ETu K te σ H xs) (hn : xs.length = ds.length) (hf : ∀ d ∈ ds, Fl n d) (hz : ds.length ≤ 40000) (hw : ∀ x, wipe ((wipe σ vs).set j (some x)) vs = wipe σ vs)
    (he : ∀ (i : Nat) x d H1, xs[i]? = some x → ds[i]? = some d → Ex H H1 → EP K tl ((wipe σ vs).set j (some x)) H1 (· = d)) : EDL K (tLc (iTup K te) (gName j) tYes tl vs) σ H ds := by
  intro H0 e Q q
  refine h H0 e _ fun a H1 e1 ha => ⟨a, rfl, ⟨xs, ha⟩, fun Dl hD => ?_⟩
  refine lc_tup (xs := xs) (fun i H' => H1 Dl = none ∧ Ex H1 H' ∧ ∃ us, H' Dl = some (.lst us) ∧ us.length = i ∧ DpAll K H' us (ds.take i)) ⟨hD, Ex.new hD, [], upd_same, rfl, .nil⟩ (fun i H' _ z => ex_t z.2.1 ha) (fun i x H' hi z => ⟨hw x, ?_⟩) (fun H' z => ?_)
  · obtain ⟨p1, p2, us, p3, p4, p5⟩ := z
    have hi2 := (List.getElem?_eq_some_iff.mp hi).1
    have hd : ds[i]? = some (ds[i]'(by omega)) := List.getElem?_eq_getElem (by omega)
    refine he i x _ H' hi hd ((e.trans e1).trans p2) H' (Ex.refl H') _ fun v d H4 e4 hdd hv => ⟨us, e4 Dl _ p3, sz_lt (by omega), p1, (p2.trans e4).mut p1, us ++ [v], upd_same, by rw [List.length_append, p4] <;> rfl, ?_⟩
    have hv2 : Dp K H4 v (ds[i]'(by omega)) := by rw [← show d = _ from hdd]; exact hv
    exact dpa_take (dpa_monoN (n := n) (ExN.upd (e4 Dl _ p3)) (fun d hd' => hf d (List.mem_of_mem_take hd')) (dpa_mono e4 p5)) hd (dp_monoN (ExN.upd (e4 Dl _ p3)) (hf _ (List.getElem_mem _)) hv2)
  · obtain ⟨p1, p2, us, p3, p4, p5⟩ := z
    rw [List.take_of_length_le (by omega)] at p5
    exact q Dl us H' (fresh_back e1 p1) (e1.trans p2) p3 p5
theorem edl_L (h : EvL te σ H xs) (hn : xs.length = ds.length) (hf : ∀ d ∈ ds, Fl n d) (hz : ds.length ≤ 40000) (hw : ∀ x, wipe ((wipe σ vs).set j (some x)) vs = wipe σ vs)
    (he : ∀ (i : Nat) x d H1, xs[i]? = some x → ds[i]? = some d → Ex H H1 → EP K tl ((wipe σ vs).set j (some x)) H1 (· = d)) : EDL K (tLc (iList K te) (gName j) tYes tl vs) σ H ds := by
  intro H0 e Q q
  refine h H0 e _ fun a H1 _ e1 ha => ⟨a, rfl, ⟨xs, sq_of ha⟩, fun Dl hD => ?_⟩
  refine lc_list (xs := xs) (fun i H' => H1 Dl = none ∧ Ex H1 H' ∧ ∃ us, H' Dl = some (.lst us) ∧ us.length = i ∧ DpAll K H' us (ds.take i)) ⟨hD, Ex.new hD, [], upd_same, rfl, .nil⟩ (fun i H' _ z => sq_of (z.2.1 _ _ ha)) (fun i x H' hi z => ⟨hw x, ?_⟩) (fun H' z => ?_)
  · obtain ⟨p1, p2, us, p3, p4, p5⟩ := z
    have hi2 := (List.getElem?_eq_some_iff.mp hi).1
    have hd : ds[i]? = some (ds[i]'(by omega)) := List.getElem?_eq_getElem (by omega)
    refine he i x _ H' hi hd ((e.trans e1).trans p2) H' (Ex.refl H') _ fun v d H4 e4 hdd hv => ⟨us, e4 Dl _ p3, sz_lt (by omega), p1, (p2.trans e4).mut p1, us ++ [v], upd_same, by rw [List.length_append, p4] <;> rfl, ?_⟩
    have hv2 : Dp K H4 v (ds[i]'(by omega)) := by rw [← show d = _ from hdd]; exact hv
    exact dpa_take (dpa_monoN (n := n) (ExN.upd (e4 Dl _ p3)) (fun d hd' => hf d (List.mem_of_mem_take hd')) (dpa_mono e4 p5)) hd (dp_monoN (ExN.upd (e4 Dl _ p3)) (hf _ (List.getElem_mem _)) hv2)
  · obtain ⟨p1, p2, us, p3, p4, p5⟩ := z
    rw [List.take_of_length_le (by omega)] at p5
    exact q Dl us H' (fresh_back e1 p1) (e1.trans p2) p3 p5
/-- a list of data -/
def LsAt (K : PySem.W.Frag) (H : Hp) (u : V) (ds : List PyData) : Prop := ∃ p xs, u = .ref p ∧ H p = some (.lst xs) ∧ DpAll K H xs ds
theorem LsAt.mono {H H' : Hp} {u : V} (e : Ex H H') (h : LsAt K H u ds) : LsAt K H' u ds := by
  obtain ⟨p, ys, h1, h2, h3⟩ := h
  exact ⟨p, ys, h1, e _ _ h2, dpa_mono e h3⟩
/-- [[f(y) for y in g(x)] for x in a new list] -/
theorem edl_LL {dss : List (List PyData)} (h : EvL te σ H xs) (hn : xs.length = dss.length) (hf : ∀ ds ∈ dss, ∀ d ∈ ds, Fl n d) (hz : dss.length ≤ 40000) (hw : ∀ x, wipe ((wipe σ vs).set j (some x)) vs = wipe σ vs)
    (he : ∀ (i : Nat) x ds H1, xs[i]? = some x → dss[i]? = some ds → Ex H H1 → EDL K tl ((wipe σ vs).set j (some x)) H1 ds) (Q : VK) (q : ∀ p us H2, H p = none → Ex H H2 → H2 p = some (.lst us) → us.length = dss.length → (∀ (i : Nat) u ds, us[i]? = some u → dss[i]? = some ds → LsAt K H2 u ds) → Q (.ref p) H2) :
    tLc (iList K te) (gName j) tYes tl vs σ H Q := by
  refine h H (Ex.refl H) _ fun a H1 _ e1 ha => ⟨a, rfl, ⟨xs, sq_of ha⟩, fun Dl hD => ?_⟩
  refine lc_list (xs := xs) (fun i H' => H1 Dl = none ∧ Ex H1 H' ∧ ∃ us, H' Dl = some (.lst us) ∧ us.length = i ∧ ∀ (k : Nat) u ds, us[k]? = some u → dss[k]? = some ds → LsAt K H' u ds ∧ u ≠ .ref Dl) ⟨hD, Ex.new hD, [], upd_same, rfl, fun k u ds z => by simp at z⟩ (fun i H' _ z => sq_of (z.2.1 _ _ ha)) (fun i x H' hi z => ⟨hw x, ?_⟩) (fun H' z => ?_)
  · obtain ⟨p1, p2, us, p3, p4, p5⟩ := z
    have hi2 := (List.getElem?_eq_some_iff.mp hi).1
    have hd : dss[i]? = some (dss[i]'(by omega)) := List.getElem?_eq_getElem (by omega)
    refine he i x _ H' hi hd (e1.trans p2) H' (Ex.refl H') _ fun p ys H4 hp e4 h4 d4 => ⟨us, e4 Dl _ p3, sz_lt (by omega), p1, (p2.trans e4).mut p1, us ++ [.ref p], upd_same, by rw [List.length_append, p4] <;> rfl, fun k u ds hu hds => ?_⟩
    have keep : ∀ {u ds}, ds ∈ dss → LsAt K H4 u ds → u ≠ .ref Dl → LsAt K (upd H4 Dl (.lst (us ++ [.ref p]))) u ds ∧ u ≠ .ref Dl := fun {u ds} hm hl hu => by
      obtain ⟨r, zs, rfl, h2, h3⟩ := hl
      exact ⟨⟨r, zs, rfl, by rw [upd_ne fun z => hu (by rw [z])]; exact h2, dpa_monoN (n := n) (ExN.upd (e4 Dl _ p3)) (hf ds hm) h3⟩, hu⟩
    by_cases hk : k < us.length
    · rw [List.getElem?_append_left hk] at hu
      obtain ⟨a1, a2⟩ := p5 k u ds hu hds
      exact keep (List.mem_of_getElem? hds) (a1.mono e4) a2
    · have hk2 := (List.getElem?_eq_some_iff.mp hu).1
      rw [List.length_append] at hk2
      obtain rfl : k = us.length := by
        have : k < us.length + 1 := hk2
        omega
      rw [List.getElem?_append_right (Nat.le_refl _), Nat.sub_self] at hu
      obtain rfl := Option.some.inj hu
      rw [p4, hd] at hds
      obtain rfl := Option.some.inj hds
      refine keep (List.getElem_mem _) ⟨p, ys, rfl, h4, d4⟩ fun z => ?_
      injection z with z
      rw [z, p3] at hp
      cases hp
  · obtain ⟨p1, p2, us, p3, p4, p5⟩ := z
    exact q Dl us H' (fresh_back e1 p1) (e1.trans p2) p3 (by omega) fun i u ds hu hds => (p5 i u ds hu hds).1
/-- tuple(new list) -/
theorem tupOf_run {Q : VK} (h : EDL K te σ H ds) (q : ∀ p H2, Ex H H2 → Dp K H2 (.ref p) (.tuple ds) → Q (.ref p) H2) : tCB (fun xs H Q => ∃ p ys, xs = [V.ref p] ∧ ((SqL K H p ys ∧ ∀ l, H l = none → Q (.ref l) (upd H l (.tup ys))) ∨ (SqT K H p ys ∧ Q (.ref p) H))) (tCons te tNil) σ H Q :=
  h H (Ex.refl H) _ fun p vs H2 _ e2 hp hd => ⟨p, vs, rfl, .inl ⟨sq_of hp, fun l hl => q l _ (e2.trans (Ex.new hl)) (.tup (st_of upd_same) (dpa_mono (Ex.new hl) hd))⟩⟩
/-- t[:2] of a tuple of five -/
theorem eu_sl2 {p : Addr} {a b c d e : V} (h : Ev te σ H (.ref p)) (hx : SqT K H p [a, b, c, d, e]) : EvU (tSl (rSlA K) te tNoPart (tPart (tC (.int 2)))) σ H [a, b] := fun H0 e0 Q q =>
  h H0 e0 _ fun H2 e2 => ⟨2, rfl, p, [a, b, c, d, e], rfl, ex_t (e0.trans e2) hx, (fun z => by
    have := z.2
    exact absurd (show HT.sIx 5 5 (some 2) = 5 from this) (by decide)), fun _ r hr => q r _ (fresh_back e2 hr) (e2.trans (Ex.new hr)) upd_same⟩
end
theorem sig_eqv {f g : Fm} : PyData.eqv (.tuple ((sigs f).map pairD)) (.tuple ((sigs g).map pairD)) = decide (sigs f = sigs g) ∧ PyData.eqv (.list ((sigs f).map pairD)) (.list ((sigs g).map pairD)) = decide (sigs f = sigs g) := by
  have pl : ∀ h : Fm, ∀ d ∈ (sigs h).map pairD, Pl d := fun h d hd => by
    obtain ⟨p, _, rfl⟩ := List.mem_map.mp hd
    refine .tup fun x hx => ?_
    simp only [List.mem_cons, List.not_mem_nil, or_false] at hx
    rcases hx with e | e <;> rw [e]
    · exact .str _
    · exact .str _
  have inj : (sigs f).map pairD = (sigs g).map pairD ↔ sigs f = sigs g := List.map_inj_right fun x y h => by
    unfold pairD at h
    injection h with h
    injection h with h1 h2
    injection h2 with h2 _
    injection h1 with h1
    injection h2 with h2
    exact Prod.ext h1 h2
  constructor
  · have := eqv_iff _ _ (Pl.tup (pl f)) (Pl.tup (pl g))
    by_cases h : sigs f = sigs g
    · rw [decide_eq_true h]
      exact this.mpr (by rw [h])
    · rw [decide_eq_false h]
      cases e : PyData.eqv (.tuple ((sigs f).map pairD)) (.tuple ((sigs g).map pairD)) with
      | false => rfl
      | true =>
        have := this.mp e
        injection this with this
        exact absurd (inj.mp this) h
  · have := eqv_iff _ _ (Pl.lst (pl f)) (Pl.lst (pl g))
    by_cases h : sigs f = sigs g
    · rw [decide_eq_true h]
      exact this.mpr (by rw [h])
    · rw [decide_eq_false h]
      cases e : PyData.eqv (.list ((sigs f).map pairD)) (.list ((sigs g).map pairD)) with
      | false => rfl
      | true =>
        have := this.mp e
        injection this with this
        exact absurd (inj.mp this) h
section
variable {K : PySem.W.Frag} {σ : L2.St} {H : Hp} {te ta tb : TE}
theorem ev_neEP {d e : PyData} (ha : EP K ta σ H (· = d)) (hb : EP K tb σ H (· = e)) (sd : SeqAt.shaped d = true) (se : SeqAt.shaped e = true) : Ev (tOp (rNeD K) ta tb) σ H (.bl (!PyData.eqv d e)) := fun H1 e1 Q q =>
  ha H1 e1 _ fun x dx H2 e2 hd hx => hb H2 (e1.trans e2) _ fun y dy H3 e3 hy hyd => ⟨d, e, by rw [← show dx = d from hd]; exact dp_mono e3 hx, by rw [← show dy = e from hy]; exact hyd, sd, se, q H3 (e2.trans e3)⟩
/-- f(*xs), xs a list -/
theorem ev_star {sp : Sp} {E : XK} {a : Addr} {xs : List V} {v : V} (h : Ev te σ H (.ref a)) (hx : SqL K H a xs) (hs : SpV sp (xs ++ []) H v) : Ev (fun σ H Q => te σ H fun y H1 => ∃ a xs, y = V.ref a ∧ (SqT K H1 a xs ∨ SqL K H1 a xs) ∧ sp (xs ++ []) H1 Q E) σ H v := fun H1 e Q q =>
  h H1 e _ fun H2 e2 => ⟨a, xs, rfl, .inr (ex_l (e.trans e2) hx), hs H2 (e.trans e2) Q (fun H3 e3 => q H3 (e2.trans e3)) E⟩
theorem etu_cat {xs ys : List V} (ha : ETu K ta σ H xs) (hb : ETu K tb σ H ys) (hz : xs.length + ys.length ≤ 100000) : ETu K (tOp (rCatA K) ta tb) σ H (xs ++ ys) := fun H1 e1 Q q =>
  ha H1 e1 _ fun a H2 e2 h2 => hb H2 (e1.trans e2) _ fun b H3 e3 h3 => ⟨a, b, xs, ys, rfl, rfl, ex_t e3 h2, h3, sz_of hz, fun hx => q b H3 (e2.trans e3) (by rw [hx]; exact h3), fun _ hy => q a H3 (e2.trans e3) (by rw [hy, List.append_nil]; exact ex_t e3 h2), fun _ _ r hr => q r _ ((e2.trans e3).trans (Ex.new hr)) (st_of upd_same)⟩
theorem el_sortSetT {zs : List Str} (h : ETu K ta σ H (zs.map V.str)) (hz : zs.length < 64) (hn : ∀ H1, Ex H H1 → True) : EvL (tSortSet K ta) σ H ((srtU zs).map V.str) := fun H1 e Q q => h H1 e _ fun p H2 e2 hp => ⟨p, zs, rfl, .inr hp, hz, fun r hr => q r _ (fresh_back e2 hr) (e2.trans (Ex.new hr)) upd_same⟩
theorem q_asgED {g : TG} {tz : TS} {D : Ends} {ds : List PyData} (h : EDL K te σ H ds) (k : ∀ p us H1, H p = none → Ex H H1 → H1 p = some (.lst us) → DpAll K H1 us ds → g (.ref p) σ H1 (tz D)) : tSeq (tAsg te g) tz D σ H := h H (Ex.refl H) _ k
theorem dpa_three {d0 d1 d2 : PyData} {us : List V} (h : DpAll K H us [d0, d1, d2]) : ∃ x0 x1 x2, us = [x0, x1, x2] ∧ Dp K H x0 d0 ∧ Dp K H x1 d1 ∧ Dp K H x2 d2 := by
  cases h with
  | cons h1 r =>
    cases r with
    | cons h2 r =>
      cases r with
      | cons h3 r =>
        cases r
        exact ⟨_, _, _, rfl, h1, h2, h3⟩
theorem opt_th {v : V} {f : Fm} (hf : f.okW) {z : Str} (h : Dp K H v (optD (findC f.cs z))) : Th K H v (optD (findC f.cs z)) := ⟨h, shaped_fl (opt_fl hf z) (by decide), (opt_fl hf z).pl⟩
/-- a column or None -/
theorem opt_non {v : V} {x : Option Co} (h : Dp K H v (optD x)) : decide (v = .non) = x.isNone := by
  cases x with
  | none =>
    cases h
    rfl
  | some c =>
    obtain ⟨p, y, rfl, _⟩ := co_at h
    exact decide_eq_false fun z => nomatch z
end
section
variable {K : PySem.W.Frag} {σ : L2.St} {H : Hp} {te tl : TE} {tt : TT}
/-- [x for x in a tuple if p(x)] -/
theorem ecl_flT {xs : List V} {cs : List Co} {j : Nat} {vs : List Nat} {p : Co → Bool} (h : ETu K te σ H xs) (hd : DpAll K H xs (cs.map Co.d)) (hok : ∀ c ∈ cs, c.ok) (hz : xs.length ≤ 40000) (hw : ∀ x, wipe ((wipe σ vs).set j (some x)) vs = wipe σ vs)
    (ht : ∀ x c, c ∈ cs → ∀ H1, Ex H H1 → Dp K H1 x c.d → EvT tt ((wipe σ vs).set j (some x)) H1 (p c)) (he : ∀ x H1, Ev tl ((wipe σ vs).set j (some x)) H1 x) : ECL K (tLc (iTup K te) (gName j) tt tl vs) σ H (cs.filter p) := by
  intro H0 e Q q
  have hl := co_len hd
  refine h H0 e _ fun a H1 e1 ha => ⟨a, rfl, ⟨xs, ha⟩, fun Dl hD => ?_⟩
  refine lc_tup (xs := xs) (fun i H' => H1 Dl = none ∧ Ex H1 H' ∧ ∃ us, H' Dl = some (.lst us) ∧ us.length ≤ i ∧ DpAll K H' us (((cs.take i).filter p).map Co.d)) ⟨hD, Ex.new hD, [], upd_same, Nat.le_refl 0, .nil⟩ (fun i H' _ z => ex_t z.2.1 ha) (fun i x H' hi z => ⟨hw x, ?_⟩) (fun H' z => ?_)
  · obtain ⟨p1, p2, us, p3, p4, p5⟩ := z
    have hi2 := (List.getElem?_eq_some_iff.mp hi).1
    obtain ⟨c, hc, hdx⟩ := co_get hd hi
    have hm := List.mem_of_getElem? hc
    have et : (cs.take (i + 1)).filter p = (cs.take i).filter p ++ (if p c = true then [c] else []) := by
      rw [List.take_add_one, hc, List.filter_append]
      show _ ++ [c].filter p = _
      by_cases hp : p c = true
      · rw [if_pos hp, List.filter_cons_of_pos hp] <;> rfl
      · rw [if_neg hp, List.filter_cons_of_neg hp] <;> rfl
    refine ht x c hm H' ((e.trans e1).trans p2) (dp_mono ((e.trans e1).trans p2) hdx) H' (Ex.refl H') _ fun H3 e3 => ?_
    cases hp : p c with
    | true =>
      show tl _ H3 _
      refine he x H3 H3 (Ex.refl H3) _ fun H4 e4 => ⟨us, e4 Dl _ (e3 Dl _ p3), sz_lt (by omega), p1, ((p2.trans e3).trans e4).mut p1, us ++ [x], upd_same, by rw [List.length_append]; show us.length + 1 ≤ i + 1; omega, ?_⟩
      rw [et, if_pos hp, List.map_append]
      have E4 := e3.trans e4
      refine dpa_app (dpa_monoN (n := 1) (ExN.upd (E4 Dl _ p3)) (fun d hd' => ?_) (dpa_mono E4 p5)) (.cons (dp_monoN (ExN.upd (E4 Dl _ p3)) (hok c hm).fl (dp_mono (((e.trans e1).trans p2).trans E4) hdx)) .nil)
      obtain ⟨c', hc', rfl⟩ := List.mem_map.mp hd'
      exact (hok c' (List.mem_of_mem_take (List.mem_filter.mp hc').1)).fl
    | false =>
      show H1 Dl = none ∧ _
      refine ⟨p1, p2.trans e3, us, e3 Dl _ p3, by omega, ?_⟩
      rw [et, if_neg (by rw [hp]; exact Bool.false_ne_true), List.append_nil]
      exact dpa_mono e3 p5
  · obtain ⟨p1, p2, us, p3, p4, p5⟩ := z
    rw [hl, List.take_length] at p5
    exact q Dl us H' (fresh_back e1 p1) (e1.trans p2) p3 p5
theorem el_edl {zs : List Str} (h : EDL K te σ H (zs.map PyData.str)) : EvL te σ H (zs.map V.str) := fun H1 e Q q => h H1 e _ fun p us H2 hp e2 h2 d2 => q p H2 hp e2 (by rw [← dpa_strs_eq d2]; exact h2)
theorem sl_run {r : V → Option Int → Option Int → Hp → VK → Prop} {ta tb : TO} {Q : VK} (k : te σ H fun x H1 => ta σ H1 fun l H2 => tb σ H2 fun u H3 => r x l u H3 Q) : L2.tSl r te ta tb σ H Q := k
end
def flipC (c : Co) : Co := ⟨c.nm, c.kd, c.df, 1 - c.un, c.lk⟩
/-- iterables of a comprehension within a comprehension -/
theorem pi_tupK {X : Cx} {K : PySem.W.Frag} {l tg : Expr} {tl : TE} (hK : X.K = K) (hl : PE X l tl) : PI X tg l (iTup K tl) := by
  subst hK
  exact pi_tup hl
theorem pi_listK {X : Cx} {K : PySem.W.Frag} {l tg : Expr} {tl : TE} (hK : X.K = K) (hl : PE X l tl) : PI X tg l (iList K tl) := by
  subst hK
  exact pi_list hl
theorem sigs_fl {f : Fm} (h : f.okW) : ∀ d ∈ (sigs f).map pairD, Fl 1 d := fun d hd => by
  obtain ⟨p, hp, rfl⟩ := List.mem_map.mp hd
  unfold sigs at hp
  obtain ⟨z, hz, rfl⟩ := List.mem_map.mp hp
  refine .tup fun x hx => ?_
  simp only [List.mem_cons, List.not_mem_nil, or_false] at hx
  rcases hx with e | e <;> rw [e]
  · exact .str _ (h.ksh z hz)
  · refine .str _ ?_
    show SeqAt.shaped (.str (kdF f z)) = true
    unfold kdF
    obtain ⟨_, c, hc, hn⟩ := h.ki z hz
    cases findC f.cs z with
    | none => decide +kernel
    | some c => exact kn_sh _
/-- the merge of three forms -/
def spMF (K : PySem.W.Frag) : Sp := fun vs H Q _ => ∃ (b o t : Fm) (vb vo vt : V), vs = [vb, vo, vt] ∧ Dp K H vb b.d ∧ Dp K H vo o.d ∧ Dp K H vt t.d ∧ b.okW ∧ o.okW ∧ t.okW ∧ ∀ v H', Ex H H' → Dp K H' v (optF (mrgF b o t)) → Q v H'


section
variable {P : Program} {w : World} {K : PySem.W.Frag} {mg : Str → Option Value} {base : Heap}

/-! ### _law_text -/
def sp_text2 : Sp := fun vs H Q _ => ∃ a b : Int, vs = [.int a, .int b] ∧ (0 ≤ a ∧ a < 2000) ∧ (0 ≤ b ∧ b < 2000) ∧ ∀ (z : Str) H', Ex H H' → z.length ≤ 60 → (∀ c ∈ z.cps.toList, c ∈ signsZ) → Q (.str z) H'
theorem ok_law_text (T : Txt K mg base) : FnOk P w K mg base CX0 1 T.f_law_text T.d_law_text ["a", "b"] sp_text2 := by
  refine T.F_law_text.ok sc_law_text (fun vs H Q E h => ?_) (fun cdv A outer s H vs Q E hr h => ?_)
  · obtain ⟨a, b, rfl, _⟩ := h
    rfl
  · obtain ⟨a, b, rfl, ha, hb, q⟩ := h
    refine ⟨_, pss_cons (ps_set (i := 2) sc_law_text.nd rfl (by first | exact Or.inl rfl | exact Or.inr rfl) (pe_str))
      (pss_cons (ps_set (i := 2) sc_law_text.nd rfl (by first | exact Or.inl rfl | exact Or.inr rfl) (pe_op op_add_str (pv 2) (pe_str)))
      (pss_cons (ps_set (i := 3) sc_law_text.nd rfl (by first | exact Or.inl rfl | exact Or.inr rfl) (pe_op op_mod (pv 1) (pe_int)))
      (pss_cut (ps_if (pt_cmpR op_eq (pe_op op_mod (pv 1) (pe_int)) (pe_int) (nomark _))
      (pss_one (ps_set (i := 3) sc_law_text.nd rfl (by first | exact Or.inl rfl | exact Or.inr rfl) (pe_int)))
      (pss_nil))
      (pss_one (ps_ret (pe_join (pe_str) (pe_lc (own := [("k", 4)]) (g := gName 4) (tt := tYes) rfl sc_law_text.nd (pi_range1 (by rfl) T.m_range (pa_cons (pv 3) (pa_nil))) (blkOk_by (N := ["a", "b", "chars", "size", "k"]) (sc := defScope s_law_text) (by decide +kernel)) (fun _ _ _ _ _ => pg_name (i := 4) sc_law_text.nd rfl (Or.inl rfl)) (fun _ _ _ _ _ => pts_nil) (fun _ _ _ _ _ => pe_ix ix_str (pv 2) (pe_op op_mod (pe_op op_add (pv 0) (pe_op op_mulX (pv 4) (pe_op op_add (pe_int) (pe_op op_fdivW (pv 1) (pe_int))))) (pe_int)) (fun _ _ => rfl))))))))), ?_⟩
    refine q_asg ev_c fun H1 e1 => ?_
    refine q_asg (ev_addS (ev_var rfl) ev_c (by decide +kernel)) fun H2 e2 => ?_
    refine q_asg (ev_bin (ev_var rfl) ev_c (by decide)) fun H3 e3 => ?_
    refine q_cut (M := fun σ' H' => ∃ (n : Nat), σ' = [some (.int a), some (.int b), some (.str ⟨signsZ.toArray⟩), some (.int (n : Int)), none] ∧ n ≤ 60 ∧ Ex H H') ?_ fun σ' H' hM => ?_
    · have E3 := (e1.trans e2).trans e3
      refine s_when (b := decide (b % 40 = 39)) (et_test (ev_eqI (ev_bin (ev_var rfl) ev_c (by decide)) ev_c)) (fun hb H4 e4 => ?_) (fun hb H4 e4 => ⟨(b % 5).toNat, by rw [Int.toNat_of_nonneg (by omega), ← signs_eq] <;> rfl, by omega, E3.trans e4⟩)
      exact s_asg ev_c fun H5 e5 => ⟨60, by rw [← signs_eq] <;> rfl, by omega, (E3.trans e4).trans e5⟩
    · obtain ⟨n, rfl, hn, eM⟩ := hM
      refine s_ret (v := .str ⟨((List.range n).map fun (k : Nat) => signsZ.getD ((a + (k : Int) * (1 + b / 5)) % 94).toNat 0).toArray⟩) (ev_is (ev_joinN (K := K) (ys := ((List.range n).map fun (k : Nat) => signsZ.getD ((a + (k : Int) * (1 + b / 5)) % 94).toNat 0).map fun c => (⟨#[c]⟩ : Str)) ev_c ?_ ?_) (congrArg V.str (join_signs _))) fun H4 e4 => q _ _ (eM.trans e4) ?_ ?_
      · refine el_mapR (n := n) (ea_cons (ev_var rfl) ea_nil) (by omega) (fun x => rfl) (by rw [List.length_map, List.length_map, List.length_map, List.length_range]) fun k y hk hy H10 e10 => ?_
        rw [List.getElem?_map, List.getElem?_map, List.getElem?_map, List.getElem?_range hk] at hy
        rw [← Option.some.inj hy]
        have h1 := Int.emod_nonneg (a + (k : Int) * (1 + b / 5)) (by decide : (94 : Int) ≠ 0)
        have h2 := Int.emod_lt_of_pos (a + (k : Int) * (1 + b / 5)) (by decide : (0 : Int) < 94)
        exact ev_ixS (ev_var rfl) (ev_bin (ev_bin0 (ev_var rfl) (ev_bin (ev_var rfl) (ev_bin0 ev_c (ev_bin (ev_var rfl) ev_c ⟨by decide, by decide⟩)) (Wd.mul (Wd.small (by omega) (by omega)) (Wd.small (by omega) (by omega))))) ev_c (by decide)) (by decide +kernel) (at_cps (l := signsZ) rfl h1 (by rw [signs_len]; exact h2))
      · rw [sum_ones, List.length_map, List.length_map, List.length_range]
        show n + n * 0 ≤ 16777216
        omega
      · show ((List.range n).map _).length ≤ 60
        rw [List.length_map, List.length_range]
        exact hn
      · intro c hc
        obtain ⟨k, _, rfl⟩ := List.mem_map.mp hc
        have h1 := Int.emod_nonneg (a + (k : Int) * (1 + b / 5)) (by decide : (94 : Int) ≠ 0)
        have h2 := Int.emod_lt_of_pos (a + (k : Int) * (1 + b / 5)) (by decide : (0 : Int) < 94)
        have h3 : ((a + (k : Int) * (1 + b / 5)) % 94).toNat < signsZ.length := by rw [signs_len]; omega
        rw [List.getD_eq_getElem?_getD, List.getElem?_eq_getElem h3]
        exact List.getElem_mem h3


/-! ### _law_value -/
/-- a value of a kind -/
def spVal : Sp := fun vs H Q _ => ∃ (kd : Kn) (a b : Int), vs = [.str kd.s, .int a, .int b] ∧ (0 ≤ a ∧ a < 2000) ∧ (0 ≤ b ∧ b < 2000) ∧ ∀ v d H', Ex H H' → ValOf kd d → ScV v d → Q v H'
theorem ok_law_value (T : Txt K mg base) : FnOk P w K mg base CX0 2 T.f_law_value T.d_law_value ["kind", "a", "b"] spVal := by
  refine T.F_law_value.ok sc_law_value (fun vs H Q E h => ?_) (fun cdv A outer s H vs Q E hr h => ?_)
  · obtain ⟨kd, a, b, rfl, _⟩ := h
    rfl
  · obtain ⟨kd, a, b, rfl, ha, hb, q⟩ := h
    refine ⟨_, pss_cons (ps_if (PW.pt (pw_and (pt_cmpR op_eq (pe_ix ix_str (pv 0) (pe_un un_neg (pe_int)) (fun _ _ => rfl)) (pe_str) (nomark _)) (pw_and1 (pt_cmpR op_eq (pe_op op_mod (pv 2) (pe_int)) (pe_int) (nomark _)))))
      (pss_one (ps_ret (pe_non)))
      (pss_nil))
      (pss_cons (ps_if (pt_cmpR op_eq (pe_slice sl_str (pv 0) (po_none) (po_some (pe_int))) (pe_str) (nomark _))
      (pss_one (ps_ret (pe_ix (r := rIxL K) ix_list (pe_lst (pa_cons (pe_op op_mod (pv 1) (pe_int)) (pa_cons (pe_un un_neg (pv 1)) (pa_cons (pe_op op_add (pe_op op_mulX (pv 1) (pe_op op_pow (pe_int) (pe_int))) (pv 2)) (pa_cons (pe_op op_sub (pe_op op_sub (pe_op op_pow (pe_int) (pe_int)) (pe_int)) (pv 1)) (pa_cons (pe_op op_sub (pe_op op_add (pe_int) (pv 1)) (pe_op op_pow (pe_int) (pe_int))) (pa_nil))))))) (pe_op op_mod (pv 2) (pe_int)) (fun _ _ => rfl))))
      (pss_nil))
      (pss_one (ps_ret (pe_call (ok_law_text T) (hr.mono (by first | decide | omega)) (by rfl) T.g_law_text T.F_law_text.kp T.b_law_text .nil pass0 (pa_cons (pv 1) (pa_cons (pv 2) (pa_nil))))))), ?_⟩
    refine q_when (b := kd.q && decide (b % 4 = 3)) (et_and (et_is (et_test (ev_eqS (ev_ixS (ev_var rfl) (ev_un ev_c ru_neg) (kn_len kd) (kn_last kd)) ev_c)) (kn_last_eq kd)) fun _ => et_test (ev_eqI (ev_bin (ev_var rfl) ev_c (by decide)) ev_c)) (fun hq H1 e1 => ?_) fun hq H1 e1 => ?_
    · refine s_ret ev_c fun H2 e2 => q _ _ _ (e1.trans e2) ?_ .non
      simp only [Bool.and_eq_true] at hq
      exact .non hq.1
    refine q_when (b := !kd.tx) (et_is (et_test (ev_eqS (ev_slS (ev_var rfl) eo_none (eo_some ev_c) (kn_len kd)) ev_c)) (by cases kd <;> decide +kernel)) (fun ht H2 e2 => ?_) fun ht H2 e2 => ?_
    · have p50 : ∀ {σ : L2.St} {H : Hp}, Ev (tOp (rI CPow fun i j => V.int (i ^ j.toNat)) (tC (.int 10)) (tC (.int 50))) σ H (.int (10 ^ 50)) := ev_bin ev_c ev_c ⟨by decide, by decide, by decide⟩
      have p60 : ∀ {σ : L2.St} {H : Hp}, Ev (tOp (rI CPow fun i j => V.int (i ^ j.toNat)) (tC (.int 10)) (tC (.int 60))) σ H (.int (10 ^ 60)) := ev_bin ev_c ev_c ⟨by decide, by decide, by decide⟩
      have h5 := Int.emod_nonneg b (by decide : (5 : Int) ≠ 0)
      have h5' := Int.emod_lt_of_pos b (by decide : (0 : Int) < 5)
      obtain ⟨i, hi⟩ : ∃ i : Int, ([.int (a % 10), .int (-a), .int (a * 10 ^ 50 + b), .int (10 ^ 60 - 1 - a), .int (1 + a - 10 ^ 60)] : List V)[(b % 5).toNat]? = some (.int i) := by
        have h : (b % 5).toNat = 0 ∨ (b % 5).toNat = 1 ∨ (b % 5).toNat = 2 ∨ (b % 5).toNat = 3 ∨ (b % 5).toNat = 4 := by omega
        rcases h with h | h | h | h | h <;> rw [h] <;> exact ⟨_, rfl⟩
      refine s_ret (ev_ixN (K := K) (xs := [.int (a % 10), .int (-a), .int (a * 10 ^ 50 + b), .int (10 ^ 60 - 1 - a), .int (1 + a - 10 ^ 60)]) (el_lst (ea_cons (ev_bin (ev_var rfl) ev_c (by decide)) (ea_cons (ev_neg (ev_var rfl)) (ea_cons (ev_bin0 (ev_bin (ev_var rfl) p50 (Wd.mul (Wd.small (by omega) (by omega)) (Wd.lit (by decide)))) (ev_var rfl)) (ea_cons (ev_bin0 (ev_bin0 p60 ev_c) (ev_var rfl)) (ea_cons (ev_bin0 (ev_bin0 ev_c (ev_var rfl)) p60) ea_nil))))) (by show 5 ≤ 100000; decide)) (fun H3 e3 => ev_bin (ev_var rfl) ev_c (by decide)) (atI_of h5 hi)) fun H3 e3 => q _ _ _ ((e1.trans e2).trans e3) (.int i (by simpa using ht)) (.int i)
    · exact ⟨_, rfl, _, rfl, a, b, rfl, ha, hb, fun z H3 e3 _ hz => q _ _ _ ((e1.trans e2).trans e3) (.str (by simpa using ht) (shaped_signs hz)) (.str z)⟩


/-! ### _law_column -/
/-- a column of that name -/
def spCol (K : PySem.W.Frag) : Sp := fun vs H Q _ => ∃ (z : Str) (a b : Int), vs = [.str z, .int a, .int b] ∧ SeqAt.shaped (.str z) = true ∧ (0 ≤ a ∧ a < 1000) ∧ (0 ≤ b ∧ b < 1000) ∧ ∀ v (c : Co) H', Ex H H' → c.nm = z → c.ok → ValOf c.kd c.df → Dp K H' v c.d → Q v H'
theorem ok_law_column (T : Txt K mg base) : FnOk P w K mg base CX0 3 T.f_law_column T.d_law_column ["name", "a", "b"] (spCol K) := by
  refine T.F_law_column.ok sc_law_column (fun vs H Q E h => ?_) (fun cdv A outer s H vs Q E hr h => ?_)
  · obtain ⟨z, a, b, rfl, _⟩ := h
    rfl
  · obtain ⟨z, a, b, rfl, hz, ha, hb, q⟩ := h
    refine ⟨_, pss_cons (ps_set (i := 3) sc_law_column.nd rfl (by first | exact Or.inl rfl | exact Or.inr rfl) (pe_ix (r := rIxL K) ix_list (pe_lst (pa_cons (pe_str) (pa_cons (pe_str) (pa_cons (pe_str) (pa_cons (pe_str) (pa_nil)))))) (pe_op op_mod (pv 1) (pe_int)) (fun _ _ => rfl)))
      (pss_one (ps_ret (pe_tup (pa_cons (pv 0) (pa_cons (pv 3) (pa_cons (pe_call (ok_law_value T) (hr.mono (by first | decide | omega)) (by rfl) T.g_law_value T.F_law_value.kp T.b_law_value .nil pass0 (pa_cons (pv 3) (pa_cons (pe_op op_mod (pe_op op_fdivW (pv 1) (pe_int)) (pe_int)) (pa_cons (pe_op op_mod (pv 2) (pe_int)) (pa_nil))))) (pa_cons (pe_callTy call_int1 (by rfl) T.m_int (by decide +kernel) (pa_cons (pe_cmpR op_eq (pe_op op_mod (pv 2) (pe_int)) (pe_int) (nomark _)) (pa_nil))) (pa_cons (pe_ix (r := rIxL K) ix_list (pe_lst (pa_cons (pe_str) (pa_cons (pe_str) (pa_cons (pe_str) (pa_cons (pe_str) (pa_nil)))))) (pe_op op_mod (pe_op op_fdivW (pv 2) (pe_int)) (pe_int)) (fun _ _ => rfl)) (pa_nil))))))))), ?_⟩
    have a0 := Int.emod_nonneg a (by decide : (4 : Int) ≠ 0)
    have a1 := Int.emod_lt_of_pos a (by decide : (0 : Int) < 4)
    obtain ⟨kd, hk⟩ : ∃ kd : Kn, ([.str (Str.ofString "int"), .str (Str.ofString "int?"), .str (Str.ofString "text"), .str (Str.ofString "text?")] : List V)[(a % 4).toNat]? = some (.str kd.s) := by
      have h : (a % 4).toNat = 0 ∨ (a % 4).toNat = 1 ∨ (a % 4).toNat = 2 ∨ (a % 4).toNat = 3 := by omega
      rcases h with h | h | h | h <;> rw [h]
      · exact ⟨.int, rfl⟩
      · exact ⟨.intq, rfl⟩
      · exact ⟨.text, rfl⟩
      · exact ⟨.textq, rfl⟩
    refine q_asg (ev_ixN (K := K) (xs := [.str (Str.ofString "int"), .str (Str.ofString "int?"), .str (Str.ofString "text"), .str (Str.ofString "text?")]) (el_lst (ea_cons ev_c (ea_cons ev_c (ea_cons ev_c (ea_cons ev_c ea_nil)))) (by show 4 ≤ 100000; decide)) (fun H3 e3 => ev_bin (ev_var rfl) ev_c (by decide)) (atI_of a0 hk)) fun H1 e1 => ?_
    have b0 := Int.emod_nonneg (b / 5) (by decide : (4 : Int) ≠ 0)
    have b1 := Int.emod_lt_of_pos (b / 5) (by decide : (0 : Int) < 4)
    obtain ⟨lk, hlk, hls⟩ : ∃ lk : Str, ([.str (Str.ofString ""), .str (Str.ofString ""), .str (Str.ofString "tab"), .str (Str.ofString "t")] : List V)[(b / 5 % 4).toNat]? = some (.str lk) ∧ SeqAt.shaped (.str lk) = true := by
      have h : (b / 5 % 4).toNat = 0 ∨ (b / 5 % 4).toNat = 1 ∨ (b / 5 % 4).toNat = 2 ∨ (b / 5 % 4).toNat = 3 := by omega
      rcases h with h | h | h | h <;> rw [h] <;> exact ⟨_, rfl, by decide +kernel⟩
    have m1 := Int.emod_nonneg (a / 4) (by decide : (3 : Int) ≠ 0)
    have m2 := Int.emod_lt_of_pos (a / 4) (by decide : (0 : Int) < 3)
    have m3 := Int.emod_nonneg b (by decide : (10 : Int) ≠ 0)
    have m4 := Int.emod_lt_of_pos b (by decide : (0 : Int) < 10)
    refine ⟨_, rfl, _, rfl, _, rfl, ?_⟩
    refine ev_run (ev_bin (ev_bin (ev_var rfl) ev_c ⟨by decide, by decide⟩) ev_c (by decide)) fun H2 e2 => ?_
    refine ev_run (ev_bin (ev_var rfl) ev_c (by decide)) fun H3 e3 => ?_
    refine ⟨kd, _, _, rfl, ⟨m1, by omega⟩, ⟨m3, by omega⟩, fun v d H4 e4 hv hd => ?_⟩
    refine ev_run (ev_intB (ev_eqI (ev_bin (ev_var rfl) ev_c (by decide)) ev_c)) fun H5 e5 => ?_
    refine ev_run (ev_ixN (K := K) (xs := [.str (Str.ofString ""), .str (Str.ofString ""), .str (Str.ofString "tab"), .str (Str.ofString "t")]) (el_lst (ea_cons ev_c (ea_cons ev_c (ea_cons ev_c (ea_cons ev_c ea_nil)))) (by show 4 ≤ 100000; decide)) (fun H3 e3 => ev_bin (ev_bin (ev_var rfl) ev_c ⟨by decide, by decide⟩) ev_c (by decide)) (atI_of b0 hlk)) fun H6 e6 => ?_
    have E6 : Ex H H6 := ((((e1.trans e2).trans e3).trans e4).trans e5).trans e6
    refine ⟨(by show 5 ≤ sizeLine; decide), fun p hp => q (.ref p) ⟨z, kd, d, _, lk⟩ _ (E6.trans (Ex.new hp)) rfl ⟨hz, hv.fl, hls⟩ hv (.tup (st_of upd_same) (.cons (.str _) (.cons (.str _) (.cons hd.dp (.cons (.int _) (.cons (.str _) .nil))))))⟩


/-! ### _law_in_columns -/
theorem ok_law_in_columns (T : Txt K mg base) : FnOk P w K mg base CX0 4 T.f_law_in_columns T.d_law_in_columns ["columns"] (spInCols K T.P_law_in_columns ⟨81, 37, 81, 61⟩) := by
  refine fun_code T.F_law_in_columns T.cd_law_in_columns sc_law_in_columns (fun vs H Q E h => ?_) (fun A outer s H vs Q E hr h => ?_)
  · obtain ⟨a, xs, cs, rfl, _⟩ := h
    rfl
  · obtain ⟨a, xs, cs, rfl, hS, hD, hl, q⟩ := h
    refine ⟨_, pss_one (ps_ret (pe_callTy (r := rTupOf K) call_tuple_of (by rfl) T.m_tuple (by decide +kernel) (pa_cons (pe_sortLam (hr.mono (by first | decide | omega)) T.tb_law_in_columns rfl (pa_cons (pv 0) pa_nil) (by rfl) T.m_sorted) (pa_nil)))), ?_⟩
    have hxl := co_len hD
    -- the pairs: a value, its column
    obtain ⟨ps, hp1, hp2, hp3⟩ : ∃ ps : List (V × Co), ps.map (·.1) = xs ∧ ps.map (·.2) = cs ∧ ∀ p ∈ ps, Dp K H p.1 p.2.d := by
      refine ⟨xs.zip cs, List.map_fst_zip (by omega), List.map_snd_zip (by omega), fun p hp => ?_⟩
      obtain ⟨i, hi⟩ := List.getElem?_of_mem hp
      obtain ⟨h1, h2⟩ := List.getElem?_zip_eq_some.mp hi
      obtain ⟨c, h3, h4⟩ := co_get hD h1
      rw [Option.some.inj (h2.symm.trans h3)]
      exact h4
    have es : ((ps.map fun p => (p.1, p.2.nm)).mergeSort leK).map (·.1) = (ps.mergeSort fun p r => leC p.2 r.2).map (·.1) := by
      rw [← List.map_mergeSort (r := fun p r : V × Co => leC p.2 r.2) (s := leK) (f := fun p => (p.1, p.2.nm)) (fun a _ b _ => rfl), List.map_map] <;> rfl
    have ed : (ps.mergeSort fun p r => leC p.2 r.2).map (·.2) = sortC cs := by
      unfold sortC
      rw [← hp2, ← List.map_mergeSort (r := fun p r : V × Co => leC p.2 r.2) (s := leC) (f := fun p => p.2) (fun a _ b _ => rfl)]
    have all : ∀ {qs : List (V × Co)} {H' : Hp}, (∀ p ∈ qs, Dp K H' p.1 p.2.d) → DpAll K H' (qs.map (·.1)) ((qs.map (·.2)).map Co.d) := fun {qs} => by
      induction qs with
      | nil => exact fun _ => .nil
      | cons p r ih => exact fun h => .cons (h p (List.mem_cons_self ..)) (ih fun x hx => h x (List.mem_cons_of_mem _ hx))
    have keys : ∀ {H' : Hp}, LamX.ExtN H H' → ∀ p ∈ ps.map (fun p => (p.1, p.2.nm)), KeyAt K H' p.1 p.2 := fun e p hp => by
      obtain ⟨r, hr2, rfl⟩ := List.mem_map.mp hp
      obtain ⟨t, y, h1, h2, _⟩ := co_at (hp3 r hr2)
      exact ⟨t, _, h1, xn_t e h2⟩
    have mm : (ps.map fun p => (p.1, p.2.nm)).map (·.1) = xs := by
      rw [List.map_map, ← hp1] <;> rfl
    -- what is handed back
    have fin : ∀ {H' : Hp} {l : Addr}, LamX.ExtN H H' → H' l = some (.lst (((ps.map fun p => (p.1, p.2.nm)).mergeSort leK).map (·.1))) → ∀ t, H' t = none → Dp K (upd H' t (.tup (((ps.map fun p => (p.1, p.2.nm)).mergeSort leK).map (·.1)))) (.ref t) (.tuple ((sortC cs).map Co.d)) := fun e hl t ht => by
      refine .tup (st_of upd_same) ?_
      rw [es, ← ed]
      exact all fun p hp => dp_mono (Ex.new ht) (dp_monoX e (hp3 p (List.mem_mergeSort.mp hp)))
    obtain ⟨P0, hP0⟩ : ∃ P0, P0 = T.P_law_in_columns := ⟨_, rfl⟩
    rw [← hP0] at q
    refine ⟨.ref a, rfl, ?_⟩
    rw [← hP0]
    rcases q with ⟨⟨c', hP, hc'⟩, q⟩ | ⟨hP, q⟩
    · refine .inr ⟨c', hP, hc', fun f hf => ⟨a, f, c', ps.map fun p => (p.1, p.2.nm), rfl, rfl, by rw [mm]; exact ex_l (Ex.new hf) hS, keys (Ex.xn (Ex.new hf)), upd_same, (Ex.new hf) _ _ hc', fun l hl => ⟨l, _, rfl, .inl ⟨sq_of upd_same, fun t ht => ?_⟩⟩⟩⟩
      have E2 : Ex H (upd (upd H f (LamO f c' lamQ _ _ _)) l (.lst (((ps.map fun p => (p.1, p.2.nm)).mergeSort leK).map (·.1)))) := (Ex.new hf).trans (Ex.new hl)
      exact q _ _ (E2.trans (Ex.new ht)) (fin (Ex.xn E2) upd_same t ht)
    · refine .inl ⟨hP, fun c' f hc' hf hcf => ?_⟩
      have nP : ∀ {b : Addr}, H b = none → b ≠ P0 := fun hb z => by rw [z, hP] at hb; cases hb
      have X1 : LamX.ExtN H (upd H P0 (.tbl (tabOf ⟨81, 37, 81, 61⟩ c'))) := fun b o hb n => by rw [upd_ne (fun z => n _ (Option.some.inj (hb.symm.trans (by rw [z]; exact hP))))]; exact hb
      have n1 : (upd H P0 (.tbl (tabOf ⟨81, 37, 81, 61⟩ c'))) c' = none := by rw [upd_ne (nP hc')]; exact hc'
      have E1 := Ex.new (o := LamX.CodeO c' lamQ) n1
      have n2 : (upd (upd H P0 (.tbl (tabOf ⟨81, 37, 81, 61⟩ c'))) c' (LamX.CodeO c' lamQ)) f = none := by rw [upd_ne hcf.symm, upd_ne (nP hf)]; exact hf
      have X2 : LamX.ExtN H (upd (upd H P0 (.tbl (tabOf ⟨81, 37, 81, 61⟩ c'))) c' (LamX.CodeO c' lamQ)) := X1.trans (Ex.xn E1)
      have tab : LamTab (upd (upd H P0 (.tbl (tabOf ⟨81, 37, 81, 61⟩ c'))) c' (LamX.CodeO c' lamQ)) P0 ⟨81, 37, 81, 61⟩ lamQ := ⟨c', by rw [upd_ne (nP hc').symm, upd_same], upd_same⟩
      have X3 : ∀ o, LamX.ExtN H (upd (upd (upd H P0 (.tbl (tabOf ⟨81, 37, 81, 61⟩ c'))) c' (LamX.CodeO c' lamQ)) f o) := fun o => X2.trans (Ex.xn (Ex.new n2))
      refine ⟨a, f, c', ps.map fun p => (p.1, p.2.nm), rfl, rfl, by rw [mm]; exact xn_l (X3 _) hS, keys (X3 _), upd_same, (Ex.new n2) _ _ upd_same, fun l hl => ⟨l, _, rfl, .inl ⟨sq_of upd_same, fun t ht => ?_⟩⟩⟩
      have X4 := (X3 _).trans (Ex.xn (Ex.new (o := .lst (((ps.map fun p => (p.1, p.2.nm)).mergeSort leK).map (·.1))) hl))
      exact q _ _ (X4.trans (Ex.xn (Ex.new ht))) (((tab.mono (Ex.new n2)).mono (Ex.new hl)).mono (Ex.new ht)) (fin X4 upd_same t ht)


/-! ### _law_base -/
/-- the first form: the table is made -/
def spBaseF (K : PySem.W.Frag) (P : Addr) (pos : Pos) : Sp := fun vs H Q _ => ∃ (p : Addr) (ns : List Int), vs = [.ref p] ∧ SqL K H p (ns.map V.int) ∧ ns.length = 20 ∧ (∀ n ∈ ns, 0 ≤ n ∧ n < 1000) ∧ H P = some (.tbl #[]) ∧ ∀ v (f : Fm) H', LamX.ExtN H H' → LamTab H' P pos lamQ → f.ok → Dp K H' v f.d → Q v H'
def co0 : Co := ⟨"id", .int, .int 0, 0, ""⟩
theorem co0_ok : co0.ok := ⟨by decide +kernel, .int 0 0, by decide +kernel⟩
theorem co1_ok (u : Int) : (Co.mk "key" .text (.str "") u "").ok := ⟨(by decide +kernel : SeqAt.shaped (.str (Str.ofString "key")) = true), .str 0 (by decide +kernel), (by decide +kernel : SeqAt.shaped (.str (Str.ofString "")) = true)⟩
def namesB : List Str := ["a", "ab", "b", "c", "d", "e", "f", "note", "x", "z"]
theorem namesB_nd : ([Str.ofString "id", Str.ofString "key"] ++ namesB).Nodup ∧ ([Str.ofString "id"] ++ namesB).Nodup := by decide +kernel
theorem namesB_ok : ∀ z ∈ namesB, SeqAt.shaped (.str z) = true := by decide +kernel
set_option maxHeartbeats 4000000 in
theorem ok_law_base (T : Txt K mg base) : FnOk P w K mg base CX0 5 T.f_law_base T.d_law_base ["numbers"] (spBaseF K T.P_law_in_columns ⟨81, 37, 81, 61⟩) := by
  refine T.F_law_base.ok sc_law_base (fun vs H Q E h => ?_) (fun cdv A outer s H vs Q E hr h => ?_)
  · obtain ⟨p, ns, rfl, _⟩ := h
    rfl
  · obtain ⟨p, ns, rfl, hS, hl, hrg, hP, q⟩ := h
    have it : ∀ {H' : Hp} {σ : L2.St} {te : TE} {j : Nat}, Ex H H' → σ[0]? = some (some (V.ref p)) → Ev te σ H' (.int (j : Int)) → j < 20 → Ev (tOp (rIxL K) (tVar 0) te) σ H' (.int (ns.getD j 0)) := fun {H' σ te j} e hσ hj hlt => ev_ixL (K := K) (ev_var hσ) hj (ex_l e hS) (at_nat (by
      rw [List.getElem?_map, List.getD_eq_getElem?_getD, List.getElem?_eq_getElem (by omega)] <;> rfl))
    have rg : ∀ j, j < 20 → 0 ≤ ns.getD j 0 ∧ ns.getD j 0 < 1000 := fun j hj => hrg _ (by
      rw [List.getD_eq_getElem?_getD, List.getElem?_eq_getElem (by omega)]
      exact List.getElem_mem _)
    refine ⟨_, pss_cons (ps_set (i := 1) sc_law_base.nd rfl (by first | exact Or.inl rfl | exact Or.inr rfl) (pe_lst (pa_cons (pe_tup (pa_cons (pe_str) (pa_cons (pe_str) (pa_cons (pe_int) (pa_cons (pe_int) (pa_cons (pe_str) (pa_nil))))))) (pa_nil))))
      (pss_cons (ps_set (i := 2) sc_law_base.nd rfl (by first | exact Or.inl rfl | exact Or.inr rfl) (pe_lst (pa_cons (pe_str) (pa_nil))))
      (pss_cut (ps_if (pt_cmpR op_eq (pe_op op_mod (pe_ix (r := rIxL K) ix_list (pv 0) (pe_int) (fun _ _ => rfl)) (pe_int)) (pe_int) (nomark _))
      (pss_cons (ps_expr (pe_bm PySem.F.plainAttrs_list PySem.F.slot_list_append PySem.F.type_list_append mt_append (pv 1) (pa_cons (pe_tup (pa_cons (pe_str) (pa_cons (pe_str) (pa_cons (pe_str) (pa_cons (pe_op op_mod (pe_ix (r := rIxL K) ix_list (pv 0) (pe_int) (fun _ _ => rfl)) (pe_int)) (pa_cons (pe_str) (pa_nil))))))) (pa_nil))))
      (pss_one (ps_set (i := 2) sc_law_base.nd rfl (by first | exact Or.inl rfl | exact Or.inr rfl) (pe_ix (r := rIxL K) ix_list (pe_lst (pa_cons (pe_lst (pa_cons (pe_str) (pa_cons (pe_str) (pa_nil)))) (pa_cons (pe_lst (pa_cons (pe_str) (pa_cons (pe_str) (pa_nil)))) (pa_nil)))) (pe_op op_mod (pe_ix (r := rIxL K) ix_list (pv 0) (pe_int) (fun _ _ => rfl)) (pe_int)) (fun _ _ => rfl)))))
      (pss_nil))
      (pss_cons (ps_set (i := 3) sc_law_base.nd rfl (by first | exact Or.inl rfl | exact Or.inr rfl) (pe_lst (pa_cons (pe_str) (pa_cons (pe_str) (pa_cons (pe_str) (pa_cons (pe_str) (pa_cons (pe_str) (pa_cons (pe_str) (pa_cons (pe_str) (pa_cons (pe_str) (pa_cons (pe_str) (pa_cons (pe_str) (pa_nil)))))))))))))
      (pss_cons (ps_for PassesOwn.never rfl (pi_range1 (by rfl) T.m_range (pa_cons (pe_op op_mod (pe_ix (r := rIxL K) ix_list (pv 0) (pe_int) (fun _ _ => rfl)) (pe_int)) (pa_nil))) (pg_name (i := 4) sc_law_base.nd rfl (by first | exact Or.inl rfl | exact Or.inr rfl))
      (pss_one (ps_expr (pe_bm PySem.F.plainAttrs_list PySem.F.slot_list_append PySem.F.type_list_append mt_append (pv 1) (pa_cons (pe_call (ok_law_column T) (hr.mono (by first | decide | omega)) (by rfl) T.g_law_column T.F_law_column.kp T.b_law_column .nil pass0 (pa_cons (pe_ix (r := rIxL K) ix_list (pv 3) (pv 4) (fun _ _ => rfl)) (pa_cons (pe_ix (r := rIxL K) ix_list (pv 0) (pe_op op_add (pe_int) (pv 4)) (fun _ _ => rfl)) (pa_cons (pe_ix (r := rIxL K) ix_list (pv 0) (pe_op op_add (pe_int) (pv 4)) (fun _ _ => rfl)) (pa_nil))))) (pa_nil))))))
      (pss_one (ps_ret (pe_tup (pa_cons (pe_call (ok_law_in_columns T) (hr.mono (by first | decide | omega)) (by rfl) T.g_law_in_columns T.F_law_in_columns.kp T.b_law_in_columns .nil pass0 (pa_cons (pv 1) (pa_nil))) (pa_cons (pe_callTy (r := rTupOf K) call_tuple_of (by rfl) T.m_tuple (by decide +kernel) (pa_cons (pv 2) (pa_nil))) (pa_nil)))))))))), ?_⟩
    refine q_asgCL (K := K) (cs := [co0]) (ecl_one (ep_t (epa_c (ep_str ev_c) (epa_c (ep_str ev_c) (epa_c (ep_int ev_c) (epa_c (ep_int ev_c) (epa_c (ep_str ev_c) epa_nil))))) (by show 5 ≤ 100000; decide))) fun pc vc H1 hpc e1 h1 d1 => ?_
    refine q_asgL (el_lst (ea_cons ev_c ea_nil) (by show 1 ≤ 100000; decide)) fun pk H2 hpk e2 h2 => ?_
    -- columns and key behind the test
    refine q_cut (M := fun σ' H' => ∃ (pk2 : Addr) (vc2 : List V) (cs : List Co) (ks : List Str), σ' = [some (.ref p), some (.ref pc), some (.ref pk2), none, none] ∧ Ex H H' ∧ H' pc = some (.lst vc2) ∧ DpAll K H' vc2 (cs.map Co.d) ∧ (∀ c ∈ cs, c.ok) ∧ cs.length ≤ 2 ∧ H' pk2 = some (.lst (ks.map V.str)) ∧ pk2 ≠ pc ∧ ks.length ≤ 2 ∧ (∀ z ∈ ks, (z = Str.ofString "id" ∨ z = Str.ofString "key") ∧ ∃ c ∈ cs, c.nm = z) ∧ (cs.map Co.nm ++ namesB).Nodup) ?_ fun σ' H' hM => ?_
    · have E2 := e1.trans e2
      refine s_when (et_test (ev_eqI (ev_bin (it (j := 1) E2 rfl ev_c (by decide)) ev_c (by decide)) ev_c)) (fun hb H3 e3 => ?_) fun hb H3 e3 => ?_
      · have E3 := E2.trans e3
        have m0 := Int.emod_nonneg (ns.getD 3 0) (by decide : (2 : Int) ≠ 0)
        have m1 := Int.emod_lt_of_pos (ns.getD 3 0) (by decide : (0 : Int) < 2)
        refine q_appP (K := K) (R := (· = (Co.mk "key" .text (.str "") (ns.getD 2 0 % 2) "").d)) (e3 _ _ (e2 _ _ h1)) rfl (ep_t (epa_c (ep_str ev_c) (epa_c (ep_str ev_c) (epa_c (ep_str ev_c) (epa_c (ep_int (ev_bin (it (j := 2) E3 rfl ev_c (by decide)) ev_c (by decide))) (epa_c (ep_str ev_c) epa_nil))))) (by show 5 ≤ 100000; decide)) (by rw [co_len d1]; decide) fun v d H4 e4 hd hD => ?_
        have E4 : Ex H1 H4 := (e2.trans e3).trans e4
        have h4 : H4 pc = some (.lst vc) := E4 _ _ h1
        have hD' : Dp K H4 v (Co.mk "key" .text (.str "") (ns.getD 2 0 % 2) "").d := by rw [← show d = _ from hd]; exact hD
        obtain ⟨x1, x2⟩ := col_app h4 (dpa_mono E4 d1) (fun c hc => by rw [List.mem_singleton.mp hc]; exact co0_ok) hD' (co1_ok _)
        have EM : Ex H (upd H4 pc (.lst (vc ++ [v]))) := (e1.trans E4).mut hpc
        have hk2 : ∀ {H' : Hp} {σ : L2.St}, Ex H H' → σ[0]? = some (some (V.ref p)) → Ev (tOp (rI (fun _ j => 0 < j) fun i j => V.int (i % j)) (tOp (rIxL K) (tVar 0) (tC (.int 3))) (tC (.int 2))) σ H' (.int (ns.getD 3 0 % 2)) := fun e hσ => ev_bin (it (j := 3) e hσ ev_c (by decide)) ev_c (by decide)
        -- the key: one of two written lists
        refine asg_run (op_run (lst_run (cons_run (el_run (el_lst (ea_cons ev_c (ea_cons ev_c ea_nil)) (by show 2 ≤ 100000; decide)) fun ka H5 fka e5 h5 => cons_run ?_))))
        refine el_run (el_lst (ea_cons ev_c (ea_cons ev_c ea_nil)) (by show 2 ≤ 100000; decide)) fun kb H6 fkb e6 h6 => ?_
        refine ⟨(by show 2 ≤ sizeLine; decide), fun kl hkl => ?_⟩
        have E7 := Ex.new (o := .lst [.ref ka, .ref kb]) hkl
        have EK : Ex (upd H4 pc (.lst (vc ++ [v]))) (upd H6 kl (.lst [.ref ka, .ref kb])) := (e5.trans e6).trans E7
        have sets : ∀ {k2 : Addr} {ks : List Str}, ([.ref ka, .ref kb] : List V)[(ns.getD 3 0 % 2).toNat]? = some (.ref k2) → (upd H6 kl (.lst [.ref ka, .ref kb])) k2 = some (.lst (ks.map V.str)) ∧ k2 ≠ pc → ks = [Str.ofString "id", Str.ofString "key"] ∨ ks = [Str.ofString "key", Str.ofString "id"] →
            tOp (rIxL K) (tC (.ref kl)) (tOp (rI (fun _ j => 0 < j) fun i j => V.int (i % j)) (tOp (rIxL K) (tVar 0) (tC (.int 3))) (tC (.int 2))) [some (.ref p), some (.ref pc), some (.ref pk), none, none] (upd H6 kl (.lst [.ref ka, .ref kb])) (fun v H' => ∃ (pk2 : Addr) (vc2 : List V) (cs : List Co) (ks : List Str), [some (.ref p), some (.ref pc), some v, none, none] = [some (.ref p), some (.ref pc), some (V.ref pk2), none, none] ∧ Ex H H' ∧ H' pc = some (.lst vc2) ∧ DpAll K H' vc2 (cs.map Co.d) ∧ (∀ c ∈ cs, c.ok) ∧ cs.length ≤ 2 ∧ H' pk2 = some (.lst (ks.map V.str)) ∧ pk2 ≠ pc ∧ ks.length ≤ 2 ∧ (∀ z ∈ ks, (z = Str.ofString "id" ∨ z = Str.ofString "key") ∧ ∃ c ∈ cs, c.nm = z) ∧ (cs.map Co.nm ++ namesB).Nodup) := fun {k2 ks} hix hks hkk => by
          refine ev_run (ev_ixL (K := K) (v := .ref k2) ev_c (hk2 (EM.trans EK) rfl) (sq_of upd_same) (atI_of m0 hix)) fun H8 e8 => ⟨k2, vc ++ [v], [co0] ++ [Co.mk "key" .text (.str "") (ns.getD 2 0 % 2) ""], ks, rfl, (EM.trans EK).trans e8, e8 _ _ (EK _ _ upd_same), dpa_mono (EK.trans e8) x1, x2, (by show 2 ≤ 2; decide), e8 _ _ hks.1, hks.2, by rcases hkk with e | e <;> rw [e] <;> decide, fun z hz => ?_, namesB_nd.1⟩
          have : z = Str.ofString "id" ∨ z = Str.ofString "key" := by
            rcases hkk with e | e <;> rw [e] at hz <;> simp only [List.mem_cons, List.not_mem_nil, or_false] at hz
            · exact hz
            · exact hz.symm
          refine ⟨this, ?_⟩
          rcases this with e | e
          · exact ⟨co0, by simp, e.symm⟩
          · exact ⟨_, List.mem_append_right _ (List.mem_singleton.mpr rfl), e.symm⟩
        have nka : ka ≠ pc := (ne_of_none upd_same fka).symm
        have nkb : kb ≠ pc := (ne_of_none (e5 _ _ upd_same) fkb).symm
        have hm : ns.getD 3 0 % 2 = 0 ∨ ns.getD 3 0 % 2 = 1 := by omega
        rcases hm with hm | hm
        · exact sets (k2 := ka) (ks := [Str.ofString "id", Str.ofString "key"]) (by rw [hm] <;> rfl) ⟨E7 _ _ (e6 _ _ h5), nka⟩ (.inl rfl)
        · exact sets (k2 := kb) (ks := [Str.ofString "key", Str.ofString "id"]) (by rw [hm] <;> rfl) ⟨E7 _ _ h6, nkb⟩ (.inr rfl)
      · have E3 := E2.trans e3
        refine ⟨pk, vc, [co0], [Str.ofString "id"], rfl, E3, e3 _ _ (e2 _ _ h1), dpa_mono (e2.trans e3) d1, fun c hc => by rw [List.mem_singleton.mp hc]; exact co0_ok, by decide, e3 _ _ h2, (ne_of_none (e2 _ _ h1 |> fun _ => h1) hpk).symm, by decide, fun z hz => ?_, namesB_nd.2⟩
        rw [List.mem_singleton.mp hz]
        exact ⟨.inl rfl, co0, by simp, rfl⟩
    · obtain ⟨pk2, vc2, cs, ks, rfl, eM, hc, hd, hok, hl2, hks, hnk, hkl, hki, hnd⟩ := hM
      have hpc0 : H pc = none := fresh_back (Ex.refl H) hpc
      refine q_asgL (xs := namesB.map V.str) (el_lst (ea_cons ev_c (ea_cons ev_c (ea_cons ev_c (ea_cons ev_c (ea_cons ev_c (ea_cons ev_c (ea_cons ev_c (ea_cons ev_c (ea_cons ev_c (ea_cons ev_c ea_nil)))))))))) (by show 10 ≤ 100000; decide)) fun pn H1 hpn e1 h1 => ?_
      have E1 := eM.trans e1
      have r0 := rg 0 (by decide)
      refine q_forR1 (n := ns.getD 0 0 % 11) (ea_cons (ev_bin (it (j := 0) E1 rfl ev_c (by decide)) ev_c (by decide)) ea_nil) (by omega) (fun i σ' H' => ∃ (x : Option V) (vc3 : List V) (cs3 : List Co), σ' = [some (.ref p), some (.ref pc), some (.ref pk2), some (.ref pn), x] ∧ Ex H H' ∧ H' pc = some (.lst vc3) ∧ DpAll K H' vc3 (cs3.map Co.d) ∧ (∀ c ∈ cs3, c.ok) ∧ cs3.length ≤ 2 + i ∧ H' pk2 = some (.lst (ks.map V.str)) ∧ H' pn = some (.lst (namesB.map V.str)) ∧ (∀ c ∈ cs, c ∈ cs3) ∧ cs3.map Co.nm = cs.map Co.nm ++ namesB.take i)
        (fun H2 e2 => ⟨_, vc2, cs, rfl, E1.trans e2, (e1.trans e2) _ _ hc, dpa_mono (e1.trans e2) hd, hok, by omega, (e1.trans e2) _ _ hks, e2 _ _ h1, fun c hc => hc, by simp⟩) (fun i σ' H' hi hP => ?_) (fun σ' H' hP => ?_)
      · obtain ⟨x, vc3, cs3, rfl, eH, hc3, hd3, hok3, hl3, hk3, hn3, hsub, hnm⟩ := hP
        have hi10 : i < 10 := by omega
        obtain ⟨z, hz⟩ : ∃ z, namesB[i]? = some z := ⟨_, List.getElem?_eq_getElem hi10⟩
        have r4 := rg (4 + i) (by omega)
        have r5 := rg (5 + i) (by omega)
        refine s_appP (K := K) (R := fun d => ∃ c : Co, d = c.d ∧ c.ok ∧ c.nm = z) hc3 rfl (fun H1 e1 Q1 q1 => ?_) (by rw [co_len hd3]; omega) fun v d H2 e2 ⟨c, hcd, hcok, hcn⟩ hD => ?_
        · refine call_run ?_
          refine cons_run ?_
          refine ev_run (ev_ixL (K := K) (v := .str z) (ev_var rfl) (ev_var rfl) (sq_of (e1 _ _ hn3)) (at_nat (by rw [List.getElem?_map, hz] <;> rfl))) fun H2 e2 => ?_
          refine cons_run ?_
          refine ev_run (it (j := 4 + i) ((eH.trans e1).trans e2) rfl (ev_is (ev_bin0 ev_c (ev_var rfl)) (congrArg V.int (by show (4 : Int) + (i : Int) = _; omega))) (by omega)) fun H3 e3 => ?_
          refine cons_run ?_
          refine ev_run (it (j := 5 + i) (((eH.trans e1).trans e2).trans e3) rfl (ev_is (ev_bin0 ev_c (ev_var rfl)) (congrArg V.int (by show (5 : Int) + (i : Int) = _; omega))) (by omega)) fun H4 e4 => ?_
          exact ⟨z, _, _, rfl, namesB_ok z (List.mem_of_getElem? hz), r4, r5, fun v c H5 e5 hcn hcok _ hD => q1 v _ H5 (((e2.trans e3).trans e4).trans e5) ⟨c, rfl, hcok, hcn⟩ hD⟩
        · obtain ⟨x1, x2⟩ := col_app (e2 _ _ hc3) (dpa_mono e2 hd3) hok3 (hcd ▸ hD) hcok
          have nn : pn ≠ pc := ne_of_none hc hpn |>.symm
          refine ⟨_, vc3 ++ [v], cs3 ++ [c], rfl, (eH.trans e2).mut hpc0, upd_same, x1, x2, by rw [List.length_append]; show cs3.length + 1 ≤ 2 + (i + 1); omega, by rw [upd_ne hnk]; exact e2 _ _ hk3, by rw [upd_ne nn]; exact e2 _ _ hn3, fun c' hc' => List.mem_append_left _ (hsub c' hc'), by rw [List.map_append, hnm, List.take_add_one, hz, List.append_assoc]; show _ ++ (_ ++ [c.nm]) = _; rw [hcn] <;> rfl⟩
      · obtain ⟨x, vc3, cs3, rfl, eH, hc3, hd3, hok3, hl3, hk3, hn3, hsub, hnm⟩ := hP
        have hl12 : cs3.length ≤ 12 := by omega
        refine ret_run ?_
        refine tup_run ?_
        refine cons_run ?_
        refine call_run ?_
        refine cons_run (var_run rfl ?_)
        refine ⟨pc, vc3, cs3, rfl, sq_of hc3, hd3, by omega, .inr ⟨eH _ _ hP, fun v H1 x1 tab hD => ?_⟩⟩
        refine cons_run ?_
        refine eu_run (eu_ofL (K := K) (ev_var rfl) (xn_l x1 (sq_of hk3))) fun pt H2 _ e2 h2 => ?_
        refine ⟨(by show 2 ≤ sizeLine; decide), fun r hr => ?_⟩
        have X2 := (Ex.xn eH).trans ((x1.trans (Ex.xn e2)).trans (Ex.xn (Ex.new (o := .tup [v, .ref pt]) hr)))
        refine q _ ⟨sortC cs3, ks⟩ _ X2 ((tab.mono e2).mono (Ex.new hr)) ⟨fun c hc => hok3 c (sortC_mem.mp hc), by show (sortC cs3).length ≤ 12; rw [sortC_len]; exact hl12, hkl, fun z hz => ?_, sortC_nd (by rw [hnm]; exact hnd.sublist ((List.Sublist.refl _).append (List.take_sublist _ _))), sortC_so cs3⟩ (fm_mk (st_of upd_same) (dp_mono (e2.trans (Ex.new hr)) hD) (.tup (st_of ((Ex.new hr) _ _ h2)) (dpa_strs ks)))
        obtain ⟨h1, c, h2, h3⟩ := hki z hz
        exact ⟨h1, c, sortC_mem.mpr (hsub c h2), h3⟩


/-! ### _law_cell -/
def cellZ (ns : List Int) (k : Nat) : Int := ns.getD k 0
def sp_cell (K : PySem.W.Frag) : Sp := fun vs H Q _ => ∃ (a : Addr) (ns : List Int) (k : Nat), vs = [.ref a, .int (k : Int)] ∧ SqL K H a (ns.map V.int) ∧ ∀ H', Ex H H' → Q (.int (cellZ ns k)) H'
theorem ok_law_cell (T : Txt K mg base) : FnOk P w K mg base CX0 1 T.f_law_cell T.d_law_cell ["script", "k"] (sp_cell K) := by
  refine T.F_law_cell.ok sc_law_cell (fun vs H Q E h => ?_) (fun cdv A outer s H vs Q E hr h => ?_)
  · obtain ⟨a, ns, k, rfl, _⟩ := h
    rfl
  · obtain ⟨a, ns, k, rfl, hS, q⟩ := h
    refine ⟨_, pss_cons (ps_if (pt_cmpR op_lt (pv 1) (pe_callB (r := rLenQ K) call_len_seq (by rfl) T.m_len (by decide +kernel) (pa_cons (pv 0) (pa_nil))) (nomark _))
      (pss_one (ps_ret (pe_ix (r := rIxL K) ix_list (pv 0) (pv 1) (fun _ _ => rfl))))
      (pss_nil))
      (pss_one (ps_ret (pe_int))), ?_⟩
    refine q_when (b := decide ((k : Int) < ((ns.map V.int).length : Int))) (et_test (ev_bin0 (ev_var rfl) (ev_lenQ (K := K) (ev_var rfl) hS))) (fun hb H1 e1 => ?_) (fun hb H1 e1 => ?_)
    · have hk : k < ns.length := by
        have := of_decide_eq_true hb
        rw [List.length_map] at this
        omega
      refine s_ret (ev_ixL (K := K) (ev_var rfl) (ev_var rfl) (ex_l e1 hS) (at_nat (v := .int (cellZ ns k)) ?_)) fun H2 e2 => q H2 (e1.trans e2)
      rw [List.getElem?_map, List.getElem?_eq_getElem hk]
      unfold cellZ
      rw [List.getD_eq_getElem?_getD, List.getElem?_eq_getElem hk] <;> rfl
    · have hk : ¬ k < ns.length := by
        have := of_decide_eq_false hb
        rw [List.length_map] at this
        omega
      have e0 : cellZ ns k = 0 := by
        unfold cellZ
        rw [List.getD_eq_getElem?_getD, List.getElem?_eq_none (by omega)] <;> rfl
      refine s_ret ev_c fun H2 e2 => ?_
      rw [e0] at q
      exact q H2 (e1.trans e2)
theorem cv_cell {a : Addr} {ns : List Int} {k : Nat} {H : Hp} (h : SqL K H a (ns.map V.int)) : SpV (sp_cell K) [.ref a, .int (k : Int)] H (.int (cellZ ns k)) := fun H1 e Q q E => ⟨a, ns, k, rfl, ex_l e h, fun H2 e2 => q H2 e2⟩
theorem Wd.cell {ns : List Int} (h : ∀ n ∈ ns, Wd n) (k : Nat) : Wd (cellZ ns k) := by
  unfold cellZ
  rw [List.getD_eq_getElem?_getD]
  cases e : ns[k]? with
  | none => exact Wd.lit (by decide)
  | some x => exact h x (List.mem_of_getElem? e)


/-! ### _law_found -/
theorem ok_law_found (T : Txt K mg base) : FnOk P w K mg base CX0 1 T.f_law_found T.d_law_found ["form", "name"] (spFind K) := by
  refine T.F_law_found.ok sc_law_found (fun vs H Q E h => ?_) (fun cdv A outer s H vs Q E hr h => ?_)
  · obtain ⟨f, vf, z, rfl, _⟩ := h
    rfl
  · obtain ⟨f, vf, z, rfl, hF, hl, q⟩ := h
    obtain ⟨p, a, b, xs, rfl, h1, h2, h3, h4⟩ := fm_at hF
    have hlen := co_len h3
    refine ⟨_, pss_one (ps_ret (pe_ix (r := rIxL K) ix_list (pe_op op_cat (pe_lc (own := [("column", 2)]) (g := gName 2) rfl sc_law_found.nd (pi_tup (pe_ix (r := rIxT K) ix_tup (pv 0) (pe_int) (fun _ _ => rfl))) (blkOk_by (N := ["form", "name", "column"]) (sc := defScope s_law_found) (by decide +kernel)) (fun _ _ _ _ _ => pg_name (i := 2) sc_law_found.nd rfl (Or.inl rfl)) (fun _ _ _ _ _ => pts_one (pt_cmpR op_eq (pe_ix (r := rIxT K) ix_tup (pv 2) (pe_int) (fun _ _ => rfl)) (pv 1) (nomark _))) (fun _ _ _ _ _ => pv 2)) (pe_lst (pa_cons (pe_non) (pa_nil)))) (pe_int) (fun _ _ => rfl))), ?_⟩
    have key : ∃ x, (given xs.length (fun i => decide ((f.cs.getD i ⟨z, .int, .none, 0, z⟩).nm = z)) (fun i => xs.getD i .non) ++ [.non])[0]? = some x ∧ Dp K H x (optD (findC f.cs z)) := by
      cases hf : findC f.cs z with
      | none =>
        have : given xs.length (fun i => decide ((f.cs.getD i ⟨z, .int, .none, 0, z⟩).nm = z)) (fun i => xs.getD i .non) = [] := by
          unfold given
          rw [List.filter_eq_nil_iff.mpr] <;> first | rfl | skip
          intro i hi
          have hi2 := List.mem_range.mp hi
          have hc : f.cs[i]? = some f.cs[i] := List.getElem?_eq_getElem (by omega)
          rw [List.getD_eq_getElem?_getD, hc]
          have := List.find?_eq_none.mp hf f.cs[i] (List.getElem_mem _)
          simpa using this
        exact ⟨.non, by rw [this] <;> rfl, .non⟩
      | some c =>
        obtain ⟨i, hi, hn, hno⟩ := find_place hf
        have hi2 := (List.getElem?_eq_some_iff.mp hi).1
        have hx : xs[i]? = some (xs.getD i .non) := by rw [List.getD_eq_getElem?_getD, List.getElem?_eq_getElem (by omega)] <;> rfl
        obtain ⟨c', hc', hD⟩ := co_get h3 hx
        rw [hi] at hc'
        cases hc'
        refine ⟨xs.getD i .non, ?_, hD⟩
        rw [List.getElem?_append_left, given_first (j := i) (by omega)]
        · show decide ((f.cs.getD i _).nm = z) = true
          rw [List.getD_eq_getElem?_getD, hi]
          exact decide_eq_true hn
        · intro m hm
          have hc : f.cs[m]? = some f.cs[m] := List.getElem?_eq_getElem (by omega)
          show decide ((f.cs.getD m _).nm = z) = false
          rw [List.getD_eq_getElem?_getD, hc]
          exact decide_eq_false (hno m _ hm hc)
        · have h0 : (given xs.length (fun i => decide ((f.cs.getD i ⟨z, .int, .none, 0, z⟩).nm = z)) (fun i => xs.getD i .non))[0]? = some (xs.getD i .non) := by
            refine given_first (j := i) (by omega) ?_ ?_
            · show decide ((f.cs.getD i _).nm = z) = true
              rw [List.getD_eq_getElem?_getD, hi]
              exact decide_eq_true hn
            · intro m hm
              have hc : f.cs[m]? = some f.cs[m] := List.getElem?_eq_getElem (by omega)
              show decide ((f.cs.getD m _).nm = z) = false
              rw [List.getD_eq_getElem?_getD, hc]
              exact decide_eq_false (hno m _ hm hc)
          exact (List.getElem?_eq_some_iff.mp h0).1
    obtain ⟨x, hx, hD⟩ := key
    refine s_ret (v := x) (ev_opL1 (xs := given xs.length (fun i => decide ((f.cs.getD i ⟨z, .int, .none, 0, z⟩).nm = z)) (fun i => xs.getD i .non) ++ [.non]) ?_ (fun H1 e1 => ev_c) fun r H1 hr _ => rv_ixL (sq_of hr) (at_nat (j := 0) hx)) fun H2 e2 => q _ _ e2 (dp_mono e2 hD)
    refine el_catN (el_lcT (K := K) (ev_ixT (K := K) (ev_var rfl) ev_c h1 (at_nat (j := 0) rfl)) h2 (by omega) (fun x => rfl) (fun i y H1 hy e1 => ?_) fun i y H1 hy _ e1 => ?_) (el_lst (ea_cons ev_c ea_nil) (by show 1 ≤ 100000; decide)) (by
      have := given_len xs.length (fun i => decide ((f.cs.getD i ⟨z, .int, .none, 0, z⟩).nm = z)) (fun i => xs.getD i .non)
      show _ + 1 ≤ 100000
      omega)
    · obtain ⟨c, hc, hD⟩ := co_get h3 hy
      refine et_is (et_test (ev_eqS (ev_co (ev_var rfl) (dp_mono e1 hD)).1 (ev_var rfl))) ?_
      show decide (c.nm = z) = decide ((f.cs.getD i _).nm = z)
      rw [List.getD_eq_getElem?_getD, hc] <;> rfl
    · refine ev_is (ev_var rfl) ?_
      rw [List.getD_eq_getElem?_getD, hy] <;> rfl


/-! ### _law_due -/
set_option maxHeartbeats 4000000 in
theorem ok_law_due (T : Txt K mg base) : FnOk P w K mg base CX0 2 T.f_law_due T.d_law_due ["b", "o", "t"] (spMF K) := by
  refine T.F_law_due.ok sc_law_due (fun vs H Q E h => ?_) (fun cdv A outer s H vs Q E hr h => ?_)
  · obtain ⟨b, o, t, vb, vo, vt, rfl, _⟩ := h
    rfl
  · obtain ⟨b, o, t, vb, vo, vt, rfl, hB, hO, hT, ob, oo, ot, q⟩ := h
    have lb := ob.ln
    have lo := oo.ln
    have lt := ot.ln
    have hBm := hB
    have hOm := hO
    have hTm := hT
    obtain ⟨pb, ba, bk, xb, rfl, hb1, hb2, hb3, hb4⟩ := fm_at hB
    obtain ⟨po, oa, ok, xo, rfl, ho1, ho2, ho3, ho4⟩ := fm_at hO
    obtain ⟨pt, ta, tk, xt, rfl, ht1, ht2, ht3, ht4⟩ := fm_at hT
    refine ⟨_, pss_cons (ps_setLc (i := 3) (own := [("form", 5)]) (g := gName 5) (tt := tYes) (by rfl) sc_law_due.nd rfl rfl (sw_true rfl rfl rfl (by decide +kernel)) (pi_list (pe_lst (pa_cons (pv 0) (pa_cons (pv 1) (pa_cons (pv 2) (pa_nil)))))) (blkOk_by (N := ["b", "o", "t", "signatures", "name", "form", "columns", "column", "three", "chosen"]) (sc := defScope s_law_due) (by decide +kernel)) (fun _ _ _ _ _ => pg_name (i := 5) sc_law_due.nd rfl (Or.inr rfl)) (fun _ _ _ _ _ => pts_nil) (fun _ _ _ _ _ => pe_lc (own := [("name", 4)]) (g := gName 4) (tt := tYes) rfl sc_law_due.nd (pi_tupK (K := K) rfl (pe_ix (r := rIxT K) ix_tup (pv 5) (pe_int) (fun _ _ => rfl))) (blkOk_by (N := ["b", "o", "t", "signatures", "name", "form", "columns", "column", "three", "chosen"]) (sc := { kind := ScopeKind.function, names := [(Str.ofString ".0", NameKind.local), (Str.ofString "form", NameKind.cell)], isGenerator := false, isCoroutine := false }) (by decide +kernel)) (fun _ _ _ _ _ => pg_name (i := 4) sc_law_due.nd rfl (Or.inl rfl)) (fun _ _ _ _ _ => pts_nil) (fun _ _ _ _ _ => pe_slice (r := rSlA K) sl_tupA (pe_call (ok_law_found T) (hr.mono (by first | decide | omega)) (by rfl) T.g_law_found T.F_law_found.kp T.b_law_found .nil pass0 (pa_cons (pv 5) (pa_cons (pv 4) (pa_nil)))) (po_none) (po_some (pe_int)))))
      (pss_cons (ps_if (PW.pt (pw_or (pt_cmpR (r := rNeD K) (op_neD hr.units) (pe_ix (r := rIxL K) ix_list (pv 3) (pe_int) (fun _ _ => rfl)) (pe_ix (r := rIxL K) ix_list (pv 3) (pe_int) (fun _ _ => rfl)) (nomark _)) (pw_or1 (pt_cmpR (r := rNeD K) (op_neD hr.units) (pe_ix (r := rIxL K) ix_list (pv 3) (pe_int) (fun _ _ => rfl)) (pe_ix (r := rIxL K) ix_list (pv 3) (pe_int) (fun _ _ => rfl)) (nomark _)))))
      (pss_one (ps_ret (pe_non)))
      (pss_nil))
      (pss_cons (ps_set (i := 6) sc_law_due.nd rfl (by first | exact Or.inl rfl | exact Or.inr rfl) (pe_lst (pa_nil)))
      (pss_cons (ps_for PassesOwn.never rfl (pi_list (pe_sortSet rfl (by rfl) T.m_sorted (by rfl) T.m_set (pe_lc (own := [("column", 7)]) (g := gName 7) (tt := tYes) rfl sc_law_due.nd (pi_tup (pe_op op_catA (pe_op op_catA (pe_ix (r := rIxT K) ix_tup (pv 0) (pe_int) (fun _ _ => rfl)) (pe_ix (r := rIxT K) ix_tup (pv 1) (pe_int) (fun _ _ => rfl))) (pe_ix (r := rIxT K) ix_tup (pv 2) (pe_int) (fun _ _ => rfl)))) (blkOk_by (N := ["b", "o", "t", "signatures", "name", "form", "columns", "column", "three", "chosen"]) (sc := defScope s_law_due) (by decide +kernel)) (fun _ _ _ _ _ => pg_name (i := 7) sc_law_due.nd rfl (Or.inl rfl)) (fun _ _ _ _ _ => pts_nil) (fun _ _ _ _ _ => pe_ix (r := rIxT K) ix_tup (pv 7) (pe_int) (fun _ _ => rfl))))) (pg_name (i := 4) sc_law_due.nd rfl (by first | exact Or.inl rfl | exact Or.inr rfl))
      (pss_cons (ps_setLc (i := 8) (own := [("form", 5)]) (g := gName 5) (tt := tYes) (by rfl) sc_law_due.nd rfl rfl (sw_true rfl rfl rfl (by decide +kernel)) (pi_list (pe_lst (pa_cons (pv 0) (pa_cons (pv 1) (pa_cons (pv 2) (pa_nil)))))) (blkOk_by (N := ["b", "o", "t", "signatures", "name", "form", "columns", "column", "three", "chosen"]) (sc := defScope s_law_due) (by decide +kernel)) (fun _ _ _ _ _ => pg_name (i := 5) sc_law_due.nd rfl (Or.inl rfl)) (fun _ _ _ _ _ => pts_nil) (fun _ _ _ _ _ => pe_call (ok_law_found T) (hr.mono (by first | decide | omega)) (by rfl) T.g_law_found T.F_law_found.kp T.b_law_found .nil pass0 (pa_cons (pv 5) (pa_cons (pv 4) (pa_nil)))))
      (pss_cons (ps_if (PW.pt (pw_and (pt_cmpR (r := rNeD K) (op_neD hr.units) (pe_ix (r := rIxL K) ix_list (pv 8) (pe_int) (fun _ _ => rfl)) (pe_ix (r := rIxL K) ix_list (pv 8) (pe_int) (fun _ _ => rfl)) (nomark _)) (pw_and (pt_cmpR (r := rNeD K) (op_neD hr.units) (pe_ix (r := rIxL K) ix_list (pv 8) (pe_int) (fun _ _ => rfl)) (pe_ix (r := rIxL K) ix_list (pv 8) (pe_int) (fun _ _ => rfl)) (nomark _)) (pw_and1 (pt_cmpR (r := rNeD K) (op_neD hr.units) (pe_ix (r := rIxL K) ix_list (pv 8) (pe_int) (fun _ _ => rfl)) (pe_ix (r := rIxL K) ix_list (pv 8) (pe_int) (fun _ _ => rfl)) (nomark _))))))
      (pss_one (ps_ret (pe_non)))
      (pss_nil))
      (pss_cons (ps_set (i := 9) sc_law_due.nd rfl (by first | exact Or.inl rfl | exact Or.inr rfl) (pe_ix (r := rIxL K) ix_list (pv 8) (pe_int) (fun _ _ => rfl)))
      (pss_cons (ps_if (pt_cmpR (r := rEqD K) (op_eqD hr.units) (pe_ix (r := rIxL K) ix_list (pv 8) (pe_int) (fun _ _ => rfl)) (pe_ix (r := rIxL K) ix_list (pv 8) (pe_int) (fun _ _ => rfl)) (nomark _))
      (pss_one (ps_set (i := 9) sc_law_due.nd rfl (by first | exact Or.inl rfl | exact Or.inr rfl) (pe_ix (r := rIxL K) ix_list (pv 8) (pe_int) (fun _ _ => rfl))))
      (pss_nil))
      (pss_one (ps_if (pt_cmpR op_notN (pv 9) (pe_non) (nomark _))
      (pss_one (ps_expr (pe_bm PySem.F.plainAttrs_list PySem.F.slot_list_append PySem.F.type_list_append mt_append (pv 6) (pa_cons (pv 9) (pa_nil)))))
      (pss_nil))))))))
      (pss_cons (ps_if (pt_cmpR op_gt (pe_callB (r := rLenQ K) call_len_seq (by rfl) T.m_len (by decide +kernel) (pa_cons (pv 6) (pa_nil))) (pe_int) (nomark _))
      (pss_one (ps_ret (pe_non)))
      (pss_nil))
      (pss_one (ps_ret (pe_tup (pa_cons (pe_callTy (r := rTupOf K) call_tuple_of (by rfl) T.m_tuple (by decide +kernel) (pa_cons (pv 6) (pa_nil))) (pa_cons (pe_ix (r := rIxT K) ix_tup (pv 1) (pe_int) (fun _ _ => rfl)) (pa_nil)))))))))), ?_⟩
    -- the names and kinds of a key
    have inner : ∀ {f : Fm} {p : Addr} {σ2 : L2.St} {H1 : Hp}, f.okW → Dp K H1 (.ref p) f.d → σ2[5]? = some (some (.ref p)) → (∀ y, ((wipe σ2 [4]).set 4 (some y))[5]? = some (some (.ref p))) → (∀ y, ((wipe σ2 [4]).set 4 (some y))[4]? = some (some y)) → (∀ y, wipe ((wipe σ2 [4]).set 4 (some y)) [4] = wipe σ2 [4]) →
        EDL K (tLc (iTup K (tOp (rIxT K) (tVar 5) (tC (.int 1)))) (gName 4) tYes (L2.tSl (rSlA K) (tCall (spFind K) [] E0 (tCons (tVar 5) (tCons (tVar 4) tNil))) tNoPart (tPart (tC (.int 2)))) [4]) σ2 H1 ((sigs f).map pairD) := fun {f p σ2 H1} hok hD h5 h5' h4' hw => by
      have hFm := hD
      obtain ⟨p', a, b', xs, e, h1, h2, h3, h4⟩ := fm_at hD
      injection e with e
      subst e
      have hln := hok.ln
      refine edl_T (n := 1) (etu_ev (ev_ixT (K := K) (ev_var h5) ev_c h1 (at_nat (j := 1) rfl)) h4) (by unfold sigs; simp) (sigs_fl hok) (by unfold sigs; rw [List.length_map, List.length_map]; have := hok.kl; omega) hw fun i x d H2 hx hd e1 => ?_
      unfold sigs at hd
      rw [List.map_map, List.getElem?_map] at hd
      rw [List.getElem?_map] at hx
      obtain ⟨z, hz⟩ : ∃ z, f.ks[i]? = some z := by
        cases h : f.ks[i]? with
        | none => rw [h] at hx; cases hx
        | some z => exact ⟨z, rfl⟩
      rw [hz] at hx hd
      obtain rfl := (Option.some.inj hx).symm
      obtain rfl := (Option.some.inj hd).symm
      obtain ⟨_, c0, hc0, hn0⟩ := hok.ki z (List.mem_of_getElem? hz)
      obtain ⟨c, hc⟩ : ∃ c, findC f.cs z = some c := by
        cases h : findC f.cs z with
        | some c => exact ⟨c, rfl⟩
        | none =>
          have := List.find?_eq_none.mp h c0 hc0
          simp [hn0] at this
      intro H3 e3 Q3 q3
      refine sl_run ?_
      refine call_run ?_
      refine cons_run (var_run (h5' _) ?_)
      refine cons_run (var_run (h4' _) ?_)
      refine ⟨f, .ref p, z, rfl, dp_mono (e1.trans e3) hFm, by omega, fun v H4 e4 hD4 => ?_⟩
      rw [hc] at hD4
      obtain ⟨r, y, rfl, hs, _⟩ := co_at hD4
      have hcn := (find_mem hc).2
      refine ⟨2, rfl, r, _, rfl, hs, (fun z => by
        have := z.2
        exact absurd (show HT.sIx 5 5 (some 2) = 5 from this) (by decide)), fun _ r2 hr2 => q3 _ (pairD (z, kdF f z)) _ (e4.trans (Ex.new hr2)) rfl (.tup (st_of upd_same) (.cons ?_ (.cons ?_ .nil)))⟩
      · rw [hcn]
        exact .str _
      · show Dp K _ (.str c.kd.s) (.str (kdF f z))
        unfold kdF
        rw [hc]
        exact .str _
    refine q_asgG (edl_LL (K := K) (n := 1) (dss := [(sigs b).map pairD, (sigs o).map pairD, (sigs t).map pairD]) (el_lst (ea_cons (ev_var rfl) (ea_cons (ev_var rfl) (ea_cons (ev_var rfl) ea_nil))) (by show 3 ≤ 100000; decide)) rfl (fun ds hds => by
      simp only [List.mem_cons, List.not_mem_nil, or_false] at hds
      rcases hds with e | e | e <;> rw [e]
      · exact sigs_fl ob
      · exact sigs_fl oo
      · exact sigs_fl ot) (by show 3 ≤ 40000; decide) (fun x => rfl) (fun i x ds H1 hx hd e1 => ?_) _ fun pS uS H1 fpS e1 hS hlS hLs => ?_)
    · match i, hx, hd with
      | 0, hx, hd =>
        obtain rfl := Option.some.inj hx
        obtain rfl := Option.some.inj hd
        exact inner ob (dp_mono e1 hBm) rfl (fun y => rfl) (fun y => rfl) fun y => rfl
      | 1, hx, hd =>
        obtain rfl := Option.some.inj hx
        obtain rfl := Option.some.inj hd
        exact inner oo (dp_mono e1 hOm) rfl (fun y => rfl) (fun y => rfl) fun y => rfl
      | 2, hx, hd =>
        obtain rfl := Option.some.inj hx
        obtain rfl := Option.some.inj hd
        exact inner ot (dp_mono e1 hTm) rfl (fun y => rfl) (fun y => rfl) fun y => rfl
    obtain ⟨u0, u1, u2, rfl⟩ : ∃ u0 u1 u2, uS = [u0, u1, u2] := by
      match uS, hlS with
      | [x0, x1, x2], _ => exact ⟨x0, x1, x2, rfl⟩
    have lsD : ∀ {u : V} {ds : List PyData} {H' : Hp}, LsAt K H1 u ds → Ex H1 H' → Dp K H' u (.list ds) := fun h e => by
      obtain ⟨p, ys, rfl, h2, h3⟩ := h
      exact .lst (sq_of (e _ _ h2)) (dpa_mono e h3)
    have s0 := hLs 0 u0 _ rfl rfl
    have s1 := hLs 1 u1 _ rfl rfl
    have s2 := hLs 2 u2 _ rfl rfl
    have ssh : ∀ {f : Fm}, f.okW → SeqAt.shaped (.list ((sigs f).map pairD)) = true := fun {f} hf => shaped_lst (n := 1) (sigs_fl hf) (by decide)
    have none1 : ¬(sigs b = sigs o ∧ sigs b = sigs t) → mrgF b o t = none := fun h => by
      unfold mrgF
      rw [if_neg h]
    have ix : ∀ {H' : Hp} {σ : L2.St} {k : Nat} {u : V}, Ex H1 H' → σ[3]? = some (some (V.ref pS)) → ([u0, u1, u2] : List V)[k]? = some u → Ev (tOp (rIxL K) (tVar 3) (tC (.int (k : Int)))) σ H' u := fun e h3 hk => ev_ixL (K := K) (ev_var h3) ev_c (sq_of (e _ _ hS)) (at_nat hk)
    refine q_when (et_or (et_test (ev_neP (K := K) (ix (k := 0) (Ex.refl H1) rfl rfl) (ix (k := 1) (Ex.refl H1) rfl rfl) (lsD s0 (Ex.refl H1)) (lsD s1 (Ex.refl H1)) (ssh ob) (ssh oo) rfl)) fun _ => et_test (ev_neP (K := K) (ix (k := 0) (Ex.refl H1) rfl rfl) (ix (k := 2) (Ex.refl H1) rfl rfl) (lsD s0 (Ex.refl H1)) (lsD s2 (Ex.refl H1)) (ssh ob) (ssh ot) rfl)) (fun h1 H2 e2 => ?_) fun h1 H2 e2 => ?_
    · refine s_ret ev_c fun H3 e3 => q _ _ ((e1.trans e2).trans e3) ?_
      rw [sig_eqv.2, sig_eqv.2] at h1
      rw [none1 fun h => by rw [decide_eq_true h.1, decide_eq_true h.2] at h1; cases h1]
      exact .non
    rw [sig_eqv.2, sig_eqv.2, Bool.or_eq_false_iff] at h1
    have hs1 : sigs b = sigs o := by
      have := h1.1
      simp at this
      exact this
    have hs2 : sigs b = sigs t := by
      have := h1.2
      simp at this
      exact this
    have E2 := e1.trans e2
    refine q_asgL (xs := []) (el_lst ea_nil (by decide)) fun pc H3 fpc e3 h3 => ?_
    have E3 := E2.trans e3
    have fc : H pc = none := fresh_back E2 fpc
    have hul := uniF_len b o t
    have allD : DpAll K H (xb ++ xo ++ xt) ((b.cs ++ o.cs ++ t.cs).map Co.d) := by
      rw [List.map_append, List.map_append]
      exact dpa_app (dpa_app hb3 ho3) ht3
    have lxb := co_len hb3
    have lxo := co_len ho3
    have lxt := co_len ht3
    have nmAll : nmsC b ++ nmsC o ++ nmsC t = (b.cs ++ o.cs ++ t.cs).map Co.nm := by
      unfold nmsC
      rw [List.map_append, List.map_append]
    refine q_forNLn (xs := (uniF b o t).map V.str) (el_sortSet (zs := nmsC b ++ nmsC o ++ nmsC t) (el_edl (edl_T (n := 0) (xs := xb ++ xo ++ xt) (etu_cat (K := K) (etu_cat (K := K) (etu_ev (ev_ixT (K := K) (ev_var rfl) ev_c (ex_t E3 hb1) (at_nat (j := 0) rfl)) (ex_t E3 hb2)) (etu_ev (ev_ixT (K := K) (ev_var rfl) ev_c (ex_t E3 ho1) (at_nat (j := 0) rfl)) (ex_t E3 ho2)) (by omega)) (etu_ev (ev_ixT (K := K) (ev_var rfl) ev_c (ex_t E3 ht1) (at_nat (j := 0) rfl)) (ex_t E3 ht2)) (by rw [List.length_append]; omega)) (by rw [List.length_map, nmAll, List.length_map]; exact co_len allD) (fun d hd => by
        obtain ⟨z, hz, rfl⟩ := List.mem_map.mp hd
        rw [nmAll] at hz
        obtain ⟨c, hc, rfl⟩ := List.mem_map.mp hz
        refine .str 0 ?_
        rcases List.mem_append.mp hc with h | h
        · rcases List.mem_append.mp h with h | h
          · exact (ob.cs c h).nm
          · exact (oo.cs c h).nm
        · exact (ot.cs c h).nm) (by rw [List.length_map, nmAll, List.length_map, List.length_append, List.length_append]; omega) (fun x => rfl) fun i x d H4 hx hd e4 => by
          obtain ⟨c, hc, hD⟩ := co_get allD hx
          rw [nmAll, List.map_map, List.getElem?_map, hc] at hd
          obtain rfl := (Option.some.inj hd).symm
          exact ep_str (ev_co (ev_var rfl) (dp_mono (E3.trans e4) hD)).1)) (by rw [nmAll, List.length_map, List.length_append, List.length_append]; omega))
      (fun p k σ' H' => ∃ (x4 x8 x9 : Option V) (us : List V), σ' = [some (.ref pb), some (.ref po), some (.ref pt), some (.ref pS), x4, none, some (.ref pc), none, x8, x9] ∧ Ex H H' ∧ p ≠ pc ∧ H' p = some (.lst ((uniF b o t).map V.str)) ∧ H' pc = some (.lst us) ∧ DpAll K H' us ((colsZ b o t ((uniF b o t).take k)).map Co.d) ∧ ∀ z ∈ (uniF b o t).take k, clZ b o t z = false)
      (fun p H4 hp e4 h4 => ⟨_, _, _, [], rfl, E3.trans e4, fun z => (ne_of_none h3 hp) z.symm, h4, e4 _ _ h3, .nil, fun z hz => by simp at hz⟩) (fun p i σ' H' _ hP => by
        obtain ⟨_, _, _, _, _, _, _, h, _⟩ := hP
        exact sq_of h) (fun p i x σ' H' hx hP => ?_) fun p σ' H' hP => ?_
    · obtain ⟨x4, x8, x9, us, rfl, eH, npc, hp, hpc, hD, hno⟩ := hP
      rw [List.getElem?_map] at hx
      obtain ⟨z, hz⟩ : ∃ z, (uniF b o t)[i]? = some z := by
        cases h : (uniF b o t)[i]? with
        | none => rw [h] at hx; cases hx
        | some z => exact ⟨z, rfl⟩
      rw [hz] at hx
      obtain rfl := (Option.some.inj hx).symm
      have hzm := List.mem_of_getElem? hz
      have hi := (List.getElem?_eq_some_iff.mp hz).1
      have hcl := colsZ_len b o t ((uniF b o t).take i)
      rw [List.length_take] at hcl
      have hlu := co_len hD
      refine q_asgED (K := K) (ds := [optD (findC b.cs z), optD (findC o.cs z), optD (findC t.cs z)]) (edl_L (n := 1) (el_lst (ea_cons (ev_var rfl) (ea_cons (ev_var rfl) (ea_cons (ev_var rfl) ea_nil))) (by show 3 ≤ 100000; decide)) rfl (fun d hd => by
        simp only [List.mem_cons, List.not_mem_nil, or_false] at hd
        rcases hd with e | e | e <;> rw [e]
        · exact opt_fl ob z
        · exact opt_fl oo z
        · exact opt_fl ot z) (by show 3 ≤ 40000; decide) (fun x => rfl) fun k y d H4 hy hd e4 H5 e5 Q5 q5 => ?_) fun p6 us6 H4 fp6 e4 h6 d6 => ?_
      · have fd : ∀ {f : Fm} {v : V} {σ2 : L2.St}, f.okW → Dp K H v f.d → σ2[5]? = some (some v) → σ2[4]? = some (some (.str z)) → (∀ v2 d2 H2, Ex H5 H2 → d2 = optD (findC f.cs z) → Dp K H2 v2 d2 → Q5 v2 H2) → tCall (spFind K) [] E0 (tCons (tVar 5) (tCons (tVar 4) tNil)) σ2 H5 Q5 := fun {f v σ2} hf hDf h7 h5 q6 => by
          have := hf.ln
          refine call_run ?_
          refine cons_run (var_run h7 ?_)
          refine cons_run (var_run h5 ?_)
          exact ⟨f, v, z, rfl, dp_mono ((eH.trans e4).trans e5) hDf, by omega, fun v2 H6 e6 h6 => q6 v2 _ H6 e6 rfl h6⟩
        match k, hy, hd with
        | 0, hy, hd =>
          obtain rfl := Option.some.inj hy
          obtain rfl := Option.some.inj hd
          exact fd ob hBm rfl rfl q5
        | 1, hy, hd =>
          obtain rfl := Option.some.inj hy
          obtain rfl := Option.some.inj hd
          exact fd oo hOm rfl rfl q5
        | 2, hy, hd =>
          obtain rfl := Option.some.inj hy
          obtain rfl := Option.some.inj hd
          exact fd ot hTm rfl rfl q5
      · obtain ⟨x0, x1, x2, rfl, y0, y1, y2⟩ := dpa_three d6
        have t0 := opt_th ob y0
        have t1 := opt_th oo y1
        have t2 := opt_th ot y2
        have ix8 : ∀ {H' : Hp} {σ : L2.St} {k : Nat} {u : V}, Ex H4 H' → σ[8]? = some (some (V.ref p6)) → ([x0, x1, x2] : List V)[k]? = some u → Ev (tOp (rIxL K) (tVar 8) (tC (.int (k : Int)))) σ H' u := fun e h3 hk => ev_ixL (K := K) (ev_var h3) ev_c (sq_of (e _ _ h6)) (at_nat hk)
        have R := Ex.refl H4
        refine q_when (b := clZ b o t z) (et_is (et_and (et_test (ev_neP (K := K) (ix8 (k := 0) R rfl rfl) (ix8 (k := 1) R rfl rfl) t0.dp t1.dp t0.sh t1.sh rfl)) fun _ => et_and (et_test (ev_neP (K := K) (ix8 (k := 0) R rfl rfl) (ix8 (k := 2) R rfl rfl) t0.dp t2.dp t0.sh t2.sh rfl)) fun _ => et_test (ev_neP (K := K) (ix8 (k := 1) R rfl rfl) (ix8 (k := 2) R rfl rfl) t1.dp t2.dp t1.sh t2.sh rfl)) (by
          unfold clZ clO clashB
          rw [eqv_sym t0.pl t1.pl, eqv_sym t0.pl t2.pl, eqv_sym t1.pl t2.pl])) (fun hc H5 e5 => ?_) fun hc H5 e5 => ?_
        · refine s_ret ev_c fun H6 e6 => q _ _ (((eH.trans e4).trans e5).trans e6) ?_
          have : mrgF b o t = none := by
            unfold mrgF
            rw [if_pos ⟨hs1, hs2⟩, if_pos (List.any_eq_true.mpr ⟨z, hzm, hc⟩)]
          rw [this]
          exact .non
        · refine q_asg (ix8 (k := 1) e5 rfl rfl) fun H6 e6 => ?_
          have E56 := e5.trans e6
          refine q_ifAsg (v := if PyData.eqv (optD (findC o.cs z)) (optD (findC b.cs z)) = true then x2 else x1) (b := PyData.eqv (optD (findC o.cs z)) (optD (findC b.cs z))) (et_test (ev_eqP (K := K) (ix8 (k := 1) E56 rfl rfl) (ix8 (k := 0) E56 rfl rfl) (t1.mono E56).dp (t0.mono E56).dp t1.sh t0.sh rfl)) (fun hb => by
            rw [if_pos hb]
            exact ix8 (k := 2) E56 rfl rfl) (fun hb => by
            rw [if_neg (by rw [hb]; decide)] <;> rfl) fun H7 e7 => ?_
          have E7 := (e4.trans E56).trans e7
          have hch : Dp K H7 (if PyData.eqv (optD (findC o.cs z)) (optD (findC b.cs z)) = true then x2 else x1) (optD (chZ b o t z)) := by
            unfold chZ chO
            split
            · exact dp_mono (E56.trans e7) y2
            · exact dp_mono (E56.trans e7) y1
          generalize (if PyData.eqv (optD (findC o.cs z)) (optD (findC b.cs z)) = true then x2 else x1) = vc at hch
          have hno2 : ∀ y ∈ (uniF b o t).take (i + 1), clZ b o t y = false := fun y hy => by
            rw [List.take_add_one, hz] at hy
            rcases List.mem_append.mp hy with h | h
            · exact hno y h
            · have : y = z := by simpa using h
              rw [this]
              exact hc
          refine s_when (b := (chZ b o t z).isSome) (et_is (et_test (ev_isnt (ev_var rfl))) (by rw [opt_non hch]; cases chZ b o t z <;> rfl)) (fun hs H8 e8 => ?_) fun hs H8 e8 => ⟨_, _, _, us, rfl, (eH.trans E7).trans e8, npc, (E7.trans e8) _ _ hp, (E7.trans e8) _ _ hpc, ?_, hno2⟩
          · obtain ⟨c, hcc⟩ := Option.isSome_iff_exists.mp hs
            rw [hcc] at hch
            have E8 := E7.trans e8
            refine s_app (K := K) (E8 _ _ hpc) (ev_var rfl) (ev_var rfl) (by omega) fun H9 e9 => ?_
            have E9 := E8.trans e9
            have cok : c.ok := by
              have : c ∈ colsZ b o t [z] := by
                unfold colsZ
                exact List.mem_filterMap.mpr ⟨z, List.mem_singleton.mpr rfl, hcc⟩
              exact colsZ_ok ob oo ot c this
            obtain ⟨a1, _⟩ := col_app (E9 _ _ hpc) (dpa_mono E9 hD) (colsZ_ok ob oo ot) (dp_mono (e8.trans e9) hch) cok
            refine ⟨_, _, _, us ++ [vc], rfl, (eH.trans E9).mut fc, npc, by rw [upd_ne npc]; exact E9 _ _ hp, upd_same, ?_, hno2⟩
            rw [colsZ_succ hz, hcc]
            exact a1
          · have hn : chZ b o t z = none := by
              cases h : chZ b o t z with
              | none => rfl
              | some c =>
                rw [h] at hs
                cases hs
            rw [colsZ_succ hz, hn]
            show DpAll K H8 us ((_ ++ []).map Co.d)
            rw [List.append_nil]
            exact dpa_mono (E7.trans e8) hD
    · obtain ⟨x4, x8, x9, us, rfl, eH, npc, hp, hpc, hD, hno⟩ := hP
      rw [List.length_map, List.take_length] at hD hno
      have hlu := co_len hD
      have hcl := colsZ_len b o t (uniF b o t)
      have hany : ¬((uniF b o t).any (clZ b o t) = true) := fun h => by
        obtain ⟨z, hz, hc⟩ := List.any_eq_true.mp h
        rw [hno z hz] at hc
        cases hc
      refine q_when (b := decide (12 < (us.length : Int))) (et_test (ev_bin0 (ev_lenQ (K := K) (ev_var rfl) (sq_of hpc)) ev_c)) (fun hb H4 e4 => ?_) fun hb H4 e4 => ?_
      · refine s_ret ev_c fun H5 e5 => q _ _ ((eH.trans e4).trans e5) ?_
        have : mrgF b o t = none := by
          unfold mrgF
          rw [if_pos ⟨hs1, hs2⟩, if_neg hany, if_pos (by have := of_decide_eq_true hb; omega)]
        rw [this]
        exact .non
      · have hm : mrgF b o t = some ⟨colsZ b o t (uniF b o t), o.ks⟩ := by
          unfold mrgF
          rw [if_pos ⟨hs1, hs2⟩, if_neg hany, if_neg (by have := of_decide_eq_false hb; omega)]
        rw [hm] at q
        refine ret_run ?_
        refine tup_run ?_
        refine cons_run ?_
        refine eu_run (eu_ofL (K := K) (ev_var rfl) (sq_of (e4 _ _ hpc))) fun pr H5 _ e5 h5 => ?_
        refine cons_run ?_
        refine ev_run (ev_ixT (K := K) (ev_var rfl) ev_c (ex_t ((eH.trans e4).trans e5) ho1) (at_nat (j := 1) rfl)) fun H6 e6 => ⟨(by show 2 ≤ sizeLine; decide), fun r hr => q _ _ (((eH.trans e4).trans (e5.trans e6)).trans (Ex.new hr)) ?_⟩
        exact fm_mk (st_of upd_same) (.tup (st_of (((e6.trans (Ex.new hr)) _ _ h5))) (dpa_mono ((e4.trans (e5.trans e6)).trans (Ex.new hr)) hD)) (.tup (ex_t (((eH.trans e4).trans (e5.trans e6)).trans (Ex.new hr)) ho4) (dpa_strs o.ks))


/-! ### _law_numbers -/
/-- count ints from 0 to 999 -/
def spNumbers : Sp := fun vs H Q _ => ∃ (cell : Int) (count : Nat), vs = [.int cell, .int (count : Int)] ∧ Wd cell ∧ count ≤ 1000 ∧ ∀ p (ns : List Int) H', H p = none → Ex H H' → H' p = some (.lst (ns.map V.int)) → ns.length = count → (∀ n ∈ ns, 0 ≤ n ∧ n < 1000) → Q (.ref p) H'
theorem ok_law_numbers (T : Txt K mg base) : FnOk P w K mg base CX0 1 T.f_law_numbers T.d_law_numbers ["cell", "count"] spNumbers := by
  refine T.F_law_numbers.ok sc_law_numbers (fun vs H Q E h => ?_) (fun cdv A outer s H vs Q E hr h => ?_)
  · obtain ⟨c, n, rfl, _⟩ := h
    rfl
  · obtain ⟨c, n, rfl, hW, hn, q⟩ := h
    refine ⟨_, pss_cons (ps_set (i := 2) sc_law_numbers.nd rfl (by first | exact Or.inl rfl | exact Or.inr rfl) (pe_lst (pa_nil)))
      (pss_cons (ps_if (pt_cmpR op_ge (pv 0) (pe_op op_pow (pe_int) (pe_int)) (nomark _))
      (pss_cons (ps_for PassesOwn.never rfl (pi_range1 (by rfl) T.m_range (pa_cons (pv 1) (pa_nil))) (pg_name (i := 3) sc_law_numbers.nd rfl (by first | exact Or.inl rfl | exact Or.inr rfl))
      (pss_cons (ps_expr (pe_bm PySem.F.plainAttrs_list PySem.F.slot_list_append PySem.F.type_list_append mt_append (pv 2) (pa_cons (pe_op op_mod (pe_callTy call_int1 (by rfl) T.m_int (by decide +kernel) (pa_cons (pv 0) (pa_nil))) (pe_int)) (pa_nil))))
      (pss_one (ps_set (i := 0) sc_law_numbers.nd rfl (by first | exact Or.inl rfl | exact Or.inr rfl) (pe_op op_fdivW (pv 0) (pe_int))))))
      (pss_one (ps_ret (pv 2))))
      (pss_nil))
      (pss_cons (ps_set (i := 4) sc_law_numbers.nd rfl (by first | exact Or.inl rfl | exact Or.inr rfl) (pe_op op_mod (pe_callTy call_int1 (by rfl) T.m_int (by decide +kernel) (pa_cons (pv 0) (pa_nil))) (pe_int)))
      (pss_cons (ps_for PassesOwn.never rfl (pi_range1 (by rfl) T.m_range (pa_cons (pv 1) (pa_nil))) (pg_name (i := 3) sc_law_numbers.nd rfl (by first | exact Or.inl rfl | exact Or.inr rfl))
      (pss_cons (ps_set (i := 4) sc_law_numbers.nd rfl (by first | exact Or.inl rfl | exact Or.inr rfl) (pe_op op_mod (pe_callTy call_int1 (by rfl) T.m_int (by decide +kernel) (pa_cons (pe_op op_add (pe_op op_mulX (pv 4) (pe_int)) (pe_op op_mulX (pe_int) (pe_op op_add (pv 3) (pe_int)))) (pa_nil))) (pe_int)))
      (pss_one (ps_expr (pe_bm PySem.F.plainAttrs_list PySem.F.slot_list_append PySem.F.type_list_append mt_append (pv 2) (pa_cons (pe_op op_mod (pe_op op_fdivW (pv 4) (pe_int)) (pe_int)) (pa_nil)))))))
      (pss_one (ps_ret (pv 2)))))), ?_⟩
    refine q_asgL (el_lst ea_nil (by decide)) fun p H1 hp e1 h1 => ?_
    have fin : ∀ {ns : List Int} {H' : Hp}, Ex H H' → H' p = some (.lst (ns.map V.int)) → ns.length = n → (∀ n ∈ ns, 0 ≤ n ∧ n < 1000) → Q (.ref p) H' := fun e h1 h2 h3 => q p _ _ hp e h1 h2 h3
    have add : ∀ {ns : List Int} {x : Int}, (∀ n ∈ ns, 0 ≤ n ∧ n < 1000) → (0 ≤ x ∧ x < 1000) → ∀ n ∈ ns ++ [x], 0 ≤ n ∧ n < 1000 := fun h hx y hy => by
      rcases List.mem_append.mp hy with z | z
      · exact h y z
      · rw [List.mem_singleton.mp z]
        exact hx
    refine q_when (b := decide (10 ^ 18 ≤ c)) (et_test (ev_bin0 (j := 10 ^ 18) (ev_var rfl) (ev_is (ev_bin ev_c ev_c ⟨by decide, by decide, by decide⟩) (by decide)))) (fun hb H2 e2 => ?_) (fun hb H2 e2 => ?_)
    · refine q_forR1 (n := (n : Int)) (ea_cons (ev_var rfl) ea_nil) (by omega) (fun i σ' H' => ∃ (c' : Int) (ns : List Int) (x3 x4 : Option V), σ' = [some (.int c'), some (.int (n : Int)), some (.ref p), x3, x4] ∧ Wd c' ∧ Ex H H' ∧ H' p = some (.lst (ns.map V.int)) ∧ ns.length = i ∧ ∀ n ∈ ns, 0 ≤ n ∧ n < 1000)
        (fun H3 e3 => ⟨c, [], none, none, rfl, hW, (e1.trans e2).trans e3, (e2.trans e3) p _ h1, rfl, fun n hn => nomatch hn⟩) (fun i σ' H' hi hP => ?_) (fun σ' H' hP => ?_)
      · obtain ⟨c', ns, x3, x4, rfl, hW', eH, hl, hlen, hr⟩ := hP
        refine q_app (K := K) hl (ev_var rfl) (ev_bin (ev_intI (ev_var rfl)) ev_c (by decide)) (by rw [List.length_map]; omega) fun H3 e3 => ?_
        refine s_asg (ev_bin (ev_var rfl) ev_c ⟨by decide, by decide⟩) fun H4 e4 => ⟨c' / 1000, ns ++ [c' % 1000], _, _, rfl, Wd.div hW', ((eH.trans e3).mut hp).trans e4, ?_, by rw [List.length_append, hlen] <;> rfl, add hr ⟨by omega, by omega⟩⟩
        rw [e4 p _ upd_same, List.map_append] <;> rfl
      · obtain ⟨c', ns, x3, x4, rfl, hW', eH, hl, hlen, hr⟩ := hP
        exact s_ret (ev_var rfl) fun H3 e3 => fin (eH.trans e3) (e3 p _ hl) (by omega) hr
    · refine q_asg (ev_bin (ev_intI (ev_var rfl)) ev_c (by decide)) fun H3 e3 => ?_
      refine q_forR1 (n := (n : Int)) (ea_cons (ev_var rfl) ea_nil) (by omega) (fun i σ' H' => ∃ (m : Int) (ns : List Int) (x3 : Option V), σ' = [some (.int c), some (.int (n : Int)), some (.ref p), x3, some (.int m)] ∧ (0 ≤ m ∧ m < 2147483647) ∧ Ex H H' ∧ H' p = some (.lst (ns.map V.int)) ∧ ns.length = i ∧ ∀ n ∈ ns, 0 ≤ n ∧ n < 1000)
        (fun H4 e4 => ⟨c % 2147483647, [], none, rfl, by omega, ((e1.trans e2).trans e3).trans e4, ((e2.trans e3).trans e4) p _ h1, rfl, fun n hn => nomatch hn⟩) (fun i σ' H' hi hP => ?_) (fun σ' H' hP => ?_)
      · obtain ⟨m, ns, x3, rfl, hm, eH, hl, hlen, hr⟩ := hP
        have hi2 : i < 1000 := by omega
        refine q_asg (ev_bin (ev_intI (ev_bin0 (ev_bin (ev_var rfl) ev_c (Wd.mul (Wd.small (by omega) (by omega)) (Wd.lit (by decide)))) (ev_bin ev_c (ev_bin0 (ev_var rfl) ev_c) (Wd.mul (Wd.lit (by decide)) (Wd.small (by omega) (by omega)))))) ev_c (by decide)) fun H4 e4 => ?_
        generalize hm2 : (m * 48271 + 69621 * ((i : Int) + 1)) % 2147483647 = m2
        refine s_app (K := K) (e4 p _ hl) (ev_var rfl) (ev_bin (ev_bin (ev_var rfl) ev_c ⟨by decide, by decide⟩) ev_c (by decide)) (by rw [List.length_map]; omega) fun H5 e5 => ⟨m2, ns ++ [m2 / 7 % 1000], _, rfl, by omega, ((eH.trans e4).trans e5).mut hp, ?_, by rw [List.length_append, hlen] <;> rfl, add hr ⟨by omega, by omega⟩⟩
        rw [upd_same, List.map_append] <;> rfl
      · obtain ⟨m, ns, x3, rfl, hm, eH, hl, hlen, hr⟩ := hP
        exact s_ret (ev_var rfl) fun H4 e4 => fin (eH.trans e4) (e4 p _ hl) (by omega) hr


/-! ### _law_rekeyed -/
/-- the key or the columns changed at once -/
def spRek (K : PySem.W.Frag) (P : Addr) (pos : Pos) : Sp := fun vs H Q _ => ∃ (vf : V) (f : Fm) (p : Addr) (ns : List Int), vs = [vf, .ref p] ∧ Dp K H vf f.d ∧ f.ok ∧ SqL K H p (ns.map V.int) ∧ ns.length = 2 ∧ LamTab H P pos lamQ ∧ ∀ v (f' : Fm) H', Ex H H' → f'.okW → Dp K H' v f'.d → Q v H'
set_option maxHeartbeats 4000000 in
theorem ok_law_rekeyed (T : Txt K mg base) : FnOk P w K mg base CX0 5 T.f_law_rekeyed T.d_law_rekeyed ["form", "numbers"] (spRek K T.P_law_in_columns ⟨81, 37, 81, 61⟩) := by
  refine T.F_law_rekeyed.ok sc_law_rekeyed (fun vs H Q E h => ?_) (fun cdv A outer s H vs Q E hr h => ?_)
  · obtain ⟨vf, f, p, ns, rfl, _⟩ := h
    rfl
  · obtain ⟨vf, f, p, ns, rfl, hF, hok, hS, hl, tab, q⟩ := h
    have hFm := hF
    obtain ⟨pf, pa, pb, xs, rfl, hf1, hf2, hf3, hf4⟩ := fm_at hF
    have hxl := co_len hf3
    have hln := hok.ln
    obtain ⟨n0, n1, rfl⟩ : ∃ n0 n1, ns = [n0, n1] := by
      match ns, hl with
      | [x, y], _ => exact ⟨x, y, rfl⟩
    have tst : ∀ {H' : Hp} {σ : L2.St} {m : Int}, Ex H H' → σ[1]? = some (some (V.ref p)) → Ev (tOp rEq (tOp (rI (fun _ j => 0 < j) fun i j => V.int (i % j)) (tOp (rIxL K) (tVar 1) (tC (.int 0))) (tC (.int 9))) (tC (.int m))) σ H' (.bl (decide (n0 % 9 = m))) := fun e hσ => ev_eqI (ev_bin (ev_ixL (K := K) (v := .int n0) (ev_var hσ) ev_c (ex_l e hS) (at_nat (j := 0) rfl)) ev_c (by decide)) ev_c
    have fm0 : ∀ {H' : Hp} {σ : L2.St}, Ex H H' → σ[0]? = some (some (V.ref pf)) → Ev (tOp (rIxT K) (tVar 0) (tC (.int 0))) σ H' (.ref pa) := fun e hσ => ev_ixT (K := K) (ev_var hσ) ev_c (ex_t e hf1) (at_nat (j := 0) rfl)
    have fm1 : ∀ {H' : Hp} {σ : L2.St}, Ex H H' → σ[0]? = some (some (V.ref pf)) → Ev (tOp (rIxT K) (tVar 0) (tC (.int 1))) σ H' (.ref pb) := fun e hσ => ev_ixT (K := K) (ev_var hσ) ev_c (ex_t e hf1) (at_nat (j := 1) rfl)
    refine ⟨_, pss_cons (ps_if (PW.pt (pw_and (pt_cmpR op_eq (pe_op op_mod (pe_ix (r := rIxL K) ix_list (pv 1) (pe_int) (fun _ _ => rfl)) (pe_int)) (pe_int) (nomark _)) (pw_and1 (pt_cmpR op_eq (pe_callB (r := rLenQ K) call_len_seq (by rfl) T.m_len (by decide +kernel) (pa_cons (pe_ix (r := rIxT K) ix_tup (pv 0) (pe_int) (fun _ _ => rfl)) (pa_nil))) (pe_int) (nomark _)))))
      (pss_one (ps_ret (pe_tup (pa_cons (pe_ix (r := rIxT K) ix_tup (pv 0) (pe_int) (fun _ _ => rfl)) (pa_cons (pe_tup (pa_cons (pe_ix (r := rIxT K) ix_tup (pe_ix (r := rIxT K) ix_tup (pv 0) (pe_int) (fun _ _ => rfl)) (pe_int) (fun _ _ => rfl)) (pa_cons (pe_ix (r := rIxT K) ix_tup (pe_ix (r := rIxT K) ix_tup (pv 0) (pe_int) (fun _ _ => rfl)) (pe_int) (fun _ _ => rfl)) (pa_nil)))) (pa_nil))))))
      (pss_nil))
      (pss_cons (ps_if (pt_cmpR op_eq (pe_op op_mod (pe_ix (r := rIxL K) ix_list (pv 1) (pe_int) (fun _ _ => rfl)) (pe_int)) (pe_int) (nomark _))
      (pss_cons (ps_set (i := 2) sc_law_rekeyed.nd rfl (by first | exact Or.inl rfl | exact Or.inr rfl) (pe_op op_cat (pe_lc (own := [("column", 3)]) (g := gName 3) rfl sc_law_rekeyed.nd (pi_tup (pe_ix (r := rIxT K) ix_tup (pv 0) (pe_int) (fun _ _ => rfl))) (blkOk_by (N := ["form", "numbers", "columns", "column"]) (sc := defScope s_law_rekeyed) (by decide +kernel)) (fun _ _ _ _ _ => pg_name (i := 3) sc_law_rekeyed.nd rfl (Or.inl rfl)) (fun _ _ _ _ _ => pts_one (pt_cmpR op_ne (pe_ix (r := rIxT K) ix_tup (pv 3) (pe_int) (fun _ _ => rfl)) (pe_str) (nomark _))) (fun _ _ _ _ _ => pv 3)) (pe_lst (pa_cons (pe_tup (pa_cons (pe_str) (pa_cons (pe_str) (pa_cons (pe_str) (pa_cons (pe_int) (pa_cons (pe_str) (pa_nil))))))) (pa_nil)))))
      (pss_one (ps_ret (pe_tup (pa_cons (pe_call (ok_law_in_columns T) (hr.mono (by first | decide | omega)) (by rfl) T.g_law_in_columns T.F_law_in_columns.kp T.b_law_in_columns .nil pass0 (pa_cons (pv 2) (pa_nil))) (pa_cons (pe_ix (r := rIxT K) ix_tup (pv 0) (pe_int) (fun _ _ => rfl)) (pa_nil)))))))
      (pss_nil))
      (pss_cons (ps_if (pt_cmpR op_eq (pe_op op_mod (pe_ix (r := rIxL K) ix_list (pv 1) (pe_int) (fun _ _ => rfl)) (pe_int)) (pe_int) (nomark _))
      (pss_cons (ps_setLc (i := 2) (own := [("column", 3)]) (g := gName 3) (tt := tYes) (by rfl) sc_law_rekeyed.nd rfl rfl (sw_true rfl rfl rfl (by decide +kernel)) (pi_tup (pe_ix (r := rIxT K) ix_tup (pv 0) (pe_int) (fun _ _ => rfl))) (blkOk_by (N := ["form", "numbers", "columns", "column"]) (sc := defScope s_law_rekeyed) (by decide +kernel)) (fun _ _ _ _ _ => pg_name (i := 3) sc_law_rekeyed.nd rfl (Or.inl rfl)) (fun _ _ _ _ _ => pts_nil) (fun _ _ _ _ _ => pe_tup (pa_cons (pe_ix (r := rIxT K) ix_tup (pv 3) (pe_int) (fun _ _ => rfl)) (pa_cons (pe_ix (r := rIxT K) ix_tup (pv 3) (pe_int) (fun _ _ => rfl)) (pa_cons (pe_ix (r := rIxT K) ix_tup (pv 3) (pe_int) (fun _ _ => rfl)) (pa_cons (pe_op op_sub (pe_int) (pe_ix (r := rIxT K) ix_tup (pv 3) (pe_int) (fun _ _ => rfl))) (pa_cons (pe_ix (r := rIxT K) ix_tup (pv 3) (pe_int) (fun _ _ => rfl)) (pa_nil))))))))
      (pss_one (ps_ret (pe_tup (pa_cons (pe_callTy (r := rTupOf K) call_tuple_of (by rfl) T.m_tuple (by decide +kernel) (pa_cons (pv 2) (pa_nil))) (pa_cons (pe_ix (r := rIxT K) ix_tup (pv 0) (pe_int) (fun _ _ => rfl)) (pa_nil)))))))
      (pss_nil))
      (pss_one (ps_ret (pv 0))))), ?_⟩
    refine q_when (et_and (et_test (tst (Ex.refl H) rfl)) fun _ => et_test (ev_eqI (ev_lenT (K := K) (fm1 (Ex.refl H) rfl) hf4) ev_c)) (fun hb H1 e1 => ?_) fun hb H1 e1 => ?_
    · rw [Bool.and_eq_true] at hb
      have h2 := of_decide_eq_true hb.2
      rw [List.length_map] at h2
      obtain ⟨k0, k1, hk⟩ : ∃ k0 k1, f.ks = [k0, k1] := by
        match hks : f.ks, h2 with
        | [x, y], _ => exact ⟨x, y, rfl⟩
      rw [hk] at hf4
      refine ret_run ?_
      refine tup_run ?_
      refine cons_run ?_
      refine ev_run (fm0 e1 rfl) fun H2 e2 => ?_
      refine cons_run ?_
      refine eu_run (eu_tup (ea_cons (ev_ixT (K := K) (v := .str k1) (fm1 (e1.trans e2) rfl) ev_c (ex_t (e1.trans e2) hf4) (at_nat (j := 1) rfl)) (ea_cons (ev_ixT (K := K) (v := .str k0) (fm1 (e1.trans e2) rfl) ev_c (ex_t (e1.trans e2) hf4) (at_nat (j := 0) rfl)) ea_nil)) (by show 2 ≤ 100000; decide)) fun pk H3 _ e3 h3 => ⟨(by show 2 ≤ sizeLine; decide), fun r hr => ?_⟩
      have E3 := ((e1.trans e2).trans e3).trans (Ex.new (o := .tup [.ref pa, .ref pk]) hr)
      refine q _ ⟨f.cs, [k1, k0]⟩ _ E3 ⟨hok.cs, Nat.le_trans hln (by decide), Nat.le_refl 2, fun z hz => hok.ki z ?_⟩ (fm_mk (st_of upd_same) (.tup (ex_t E3 hf2) (dpa_mono E3 hf3)) (.tup (st_of ((Ex.new hr) _ _ h3)) (.cons (.str _) (.cons (.str _) .nil))))
      rw [hk]
      simp only [List.mem_cons, List.not_mem_nil, or_false] at hz ⊢
      exact hz.symm
    refine q_when (et_test (tst e1 rfl)) (fun hb2 H2 e2 => ?_) fun hb2 H2 e2 => ?_
    · have E2 := e1.trans e2
      have fok : ∀ c ∈ f.cs.filter (fun c => !decide (c.nm = Str.ofString "id")), c.ok := fun c hc => hok.cs c (List.mem_filter.mp hc).1
      have ido : (Co.mk (Str.ofString "id") .text (.str "") 0 "").ok := ⟨idkey_sh.1, .str 0 (by decide +kernel), by decide +kernel⟩
      have fl := List.length_filter_le (fun c : Co => !decide (c.nm = Str.ofString "id")) f.cs
      refine q_asgCL (K := K) (ecl_cat (K := K) (ds := [Co.mk (Str.ofString "id") .text (.str "") 0 ""]) (ecl_flT (K := K) (p := fun c => !decide (c.nm = Str.ofString "id")) (etu_ev (fm0 E2 rfl) (ex_t E2 hf2)) (dpa_mono E2 hf3) hok.cs (by omega) (fun x => rfl) (fun x c hc H3 e3 hD => et_test (ev_neS (ev_co (ev_var rfl) hD).1 ev_c)) (fun x H3 => ev_var rfl)) (ecl_one (ep_t (epa_c (ep_str ev_c) (epa_c (ep_str ev_c) (epa_c (ep_str ev_c) (epa_c (ep_int ev_c) (epa_c (ep_str ev_c) epa_nil))))) (by show 5 ≤ 100000; decide))) fok (fun c hc => by rw [List.mem_singleton.mp hc]; exact ido) (by show _ + 1 ≤ 100000; omega)) fun pc us H3 fp3 e3 h3 d3 => ?_
      have E3 := E2.trans e3
      refine ret_run ?_
      refine tup_run ?_
      refine cons_run ?_
      refine call_run ?_
      refine cons_run (var_run rfl ?_)
      refine ⟨pc, us, _, rfl, sq_of h3, d3, by rw [List.length_append]; show _ + 1 ≤ _; omega, .inl ⟨tab.mono E3, fun v H4 e4 hD => ?_⟩⟩
      refine cons_run ?_
      refine ev_run (fm1 (E3.trans e4) rfl) fun H5 e5 => ⟨(by show 2 ≤ sizeLine; decide), fun r hr => ?_⟩
      have E5 := ((E3.trans e4).trans e5).trans (Ex.new (o := .tup [v, .ref pb]) hr)
      refine q _ ⟨sortC (f.cs.filter (fun c => !decide (c.nm = Str.ofString "id")) ++ [Co.mk (Str.ofString "id") .text (.str "") 0 ""]), f.ks⟩ _ E5 ⟨fun c hc => ?_, ?_, hok.kl, fun z hz => ?_⟩ (fm_mk (st_of upd_same) (dp_mono (e5.trans (Ex.new hr)) hD) (.tup (ex_t E5 hf4) (dpa_strs f.ks)))
      · rcases List.mem_append.mp (sortC_mem.mp hc) with h | h
        · exact fok c h
        · rw [List.mem_singleton.mp h]
          exact ido
      · show (sortC _).length ≤ 13
        rw [sortC_len, List.length_append]
        show _ + 1 ≤ 13
        omega
      · obtain ⟨hz1, c, hc, hn⟩ := hok.ki z hz
        refine ⟨hz1, ?_⟩
        by_cases hid : z = Str.ofString "id"
        · exact ⟨_, sortC_mem.mpr (List.mem_append_right _ (List.mem_singleton.mpr rfl)), hid.symm⟩
        · exact ⟨c, sortC_mem.mpr (List.mem_append_left _ (List.mem_filter.mpr ⟨hc, by rw [hn]; simp [hid]⟩)), hn⟩
    have E2 := e1.trans e2
    refine q_when (et_test (tst E2 rfl)) (fun hb3 H3 e3 => ?_) fun hb3 H3 e3 => s_ret (ev_var rfl) fun H4 e4 => q _ f _ ((E2.trans e3).trans e4) hok.w (dp_mono ((E2.trans e3).trans e4) hFm)
    have E3 := E2.trans e3
    have flo : ∀ c ∈ f.cs.map flipC, c.ok := fun c hc => by
      obtain ⟨d, hd, rfl⟩ := List.mem_map.mp hc
      have := hok.cs d hd
      exact ⟨this.nm, this.df, this.lk⟩
    refine q_asgED (K := K) (ds := (f.cs.map flipC).map Co.d) (edl_T (n := 1) (etu_ev (fm0 E3 rfl) (ex_t E3 hf2)) (by rw [List.length_map, List.length_map, hxl]) (co_fl flo) (by rw [List.length_map, List.length_map]; omega) (fun x => rfl) fun i x d H4 hx hd e4 => ?_) fun pc us H4 _ e4 h4 d4 => ?_
    · obtain ⟨c, hc, hD⟩ := co_get hf3 hx
      rw [List.getElem?_map, List.getElem?_map, hc] at hd
      obtain rfl := (Option.some.inj hd).symm
      obtain ⟨r, y, rfl, hs, hy⟩ := co_at (dp_mono (E3.trans e4) hD)
      have g : ∀ {k : Nat} {v : V}, ([V.str c.nm, .str c.kd.s, y, .int c.un, .str c.lk] : List V)[k]? = some v → Ev (tOp (rIxT K) (tVar 3) (tC (.int (k : Int)))) ((wipe [some (V.ref pf), some (.ref p), none, none] [3]).set 3 (some (.ref r))) H4 v := fun h => ev_ixT (K := K) (ev_var rfl) ev_c hs (at_nat h)
      exact ep_t (epa_c (ep_str (g (k := 0) rfl)) (epa_c (ep_str (g (k := 1) rfl)) (epa_c (ep_is (g (k := 2) rfl) hy rfl) (epa_c (ep_int (ev_bin0 ev_c (g (k := 3) rfl))) (epa_c (ep_str (g (k := 4) rfl)) epa_nil))))) (by show 5 ≤ 100000; decide)
    · have E4 := E3.trans e4
      refine ret_run ?_
      refine tup_run ?_
      refine cons_run ?_
      refine eu_run (eu_ofL (K := K) (ev_var rfl) (sq_of h4)) fun pt H5 _ e5 h5 => ?_
      refine cons_run ?_
      refine ev_run (fm1 (E4.trans e5) rfl) fun H6 e6 => ⟨(by show 2 ≤ sizeLine; decide), fun r hr => ?_⟩
      have E6 := (e5.trans e6).trans (Ex.new (o := .tup [.ref pt, .ref pb]) hr)
      refine q _ ⟨f.cs.map flipC, f.ks⟩ _ (E4.trans E6) ⟨flo, by show (f.cs.map flipC).length ≤ 13; rw [List.length_map]; omega, hok.kl, fun z hz => ?_⟩ (fm_mk (st_of upd_same) (.tup (st_of ((e6.trans (Ex.new hr)) _ _ h5)) (dpa_mono E6 d4)) (.tup (ex_t (E4.trans E6) hf4) (dpa_strs f.ks)))
      obtain ⟨hz1, c, hc, hn⟩ := hok.ki z hz
      exact ⟨hz1, flipC c, List.mem_map.mpr ⟨c, hc, rfl⟩, hn⟩


/-! ### _law_same -/
/-- data of nesting at most n -/
inductive Gd : Nat → PyData → Prop
  | non (n : Nat) : Gd n .none
  | bl (n : Nat) (b : Bool) : Gd n (.bool b)
  | int (n : Nat) (i : Int) : Gd n (.int i)
  | str (n : Nat) (z : Str) : Gd n (.str z)
  | tup {n : Nat} {ds : List PyData} (h : ∀ d ∈ ds, Gd n d) (hl : ds.length ≤ 40000) : Gd (n + 1) (.tuple ds)
  | lst {n : Nat} {ds : List PyData} (h : ∀ d ∈ ds, Gd n d) (hl : ds.length ≤ 40000) : Gd (n + 1) (.list ds)
def spSameG (K : PySem.W.Frag) (n : Nat) : Sp := fun vs H Q _ => ∃ (u v : V) (d : PyData), vs = [u, v] ∧ Dp K H u d ∧ Dp K H v d ∧ Gd n d ∧ ∀ H', Ex H H' → Q (.bl true) H'
theorem cv_sameG {K : PySem.W.Frag} {n : Nat} {u v : V} {d : PyData} {H : Hp} (h : Dp K H u d) (h2 : Dp K H v d) (hf : Gd n d) : SpV (spSameG K n) [u, v] H (.bl true) := fun H1 e Q q E => ⟨u, v, d, rfl, dp_mono e h, dp_mono e h2, hf, fun H2 e2 => q H2 e2⟩
theorem dp_sc {K : PySem.W.Frag} {H : Hp} {u v : V} {d : PyData} (hs : isTup d = false) (hl : isLst d = false) (h : Dp K H u d) (k : Dp K H v d) : u = v := by
  cases h <;> cases k <;> first | rfl | (simp [isTup] at hs; done) | (simp [isLst] at hl; done)
theorem same_flat {K : PySem.W.Frag} {u v : V} {d : PyData} {H : Hp} {Q : VK} {n : Nat} (hU : Dp K H u d) (hV : Dp K H v d) (hs : isTup d = false) (hl : isLst d = false) (q : ∀ H', Ex H H' → Q (.bl true) H') {nx : L2.St → Hp → Prop} {x : Option V}
    {t1 t2 : TS} :
    tSeq (tIfS (tTest (tOp (fun x y H Q => y = .non ∧ Q (.bl (decide (x = .non))) H) (tVar 1) (tC .non))) (tRet (tOp (fun x y H Q => y = .non ∧ Q (.bl (decide (x = .non))) H) (tVar 0) (tC .non))) tNext)
      (tSeq (tIfS (tOr (tB (tCB (rIsi K) (tCons (tVar 1) (tCons (tC (.ty "list")) tNil)))) (tB (tCB (rIsi K) (tCons (tVar 1) (tCons (tC (.ty "tuple")) tNil))))) t1 tNext)
        (tSeq (tIfS (tOr (tTest (tOp rNe (tCB (rIsi K) (tCons (tVar 1) (tCons (tC (.ty "bool")) tNil))) (tCB (rIsi K) (tCons (tVar 0) (tCons (tC (.ty "bool")) tNil))))) (tTest (tOp rNe (tCB (rIsi K) (tCons (tVar 1) (tCons (tC (.ty "int")) tNil))) (tCB (rIsi K) (tCons (tVar 0) (tCons (tC (.ty "int")) tNil)))))) t2 tNext)
          (tRet (tAndV (tOp rEq (tCB (rIsi K) (tCons (tVar 1) (tCons (tC (.ty "str")) tNil))) (tCB (rIsi K) (tCons (tVar 0) (tCons (tC (.ty "str")) tNil)))) (tOp rEq (tVar 0) (tVar 1))))))
      { nx := nx, rt := Q } [some u, some v, x] H := by
  have huv : u = v := dp_sc hs hl hU hV
  subst huv
  refine q_when (et_test (ev_isN (ev_var rfl))) (fun hb H1 e1 => ?_) (fun hb H1 e1 => ?_)
  · exact s_ret (ev_is (ev_isN (ev_var rfl)) (congrArg V.bl hb)) fun H2 e2 => q H2 (e1.trans e2)
  refine q_when (b := false) (et_is (et_or (et_B (ev_isL (ev_var rfl) (dp_mono e1 hV))) fun _ => et_B (ev_isT (ev_var rfl) (dp_mono e1 hV))) (by rw [hs, hl] <;> rfl)) (fun z => nomatch z) fun _ H2 e2 => ?_
  have E2 := e1.trans e2
  have hV2 := dp_mono E2 hV
  refine q_when (b := false) (et_is (et_or (et_test (ev_neB (ev_isBl (ev_var rfl) hV2) (ev_isBl (ev_var rfl) hV2))) fun _ => et_test (ev_neB (ev_isNum (ev_var rfl) hV2) (ev_isNum (ev_var rfl) hV2))) (by simp)) (fun z => nomatch z) fun _ H3 e3 => ?_
  have hV3 := dp_mono e3 hV2
  refine s_ret (v := .bl true) (ev_is (ev_andV (ev_eqB (ev_isS (ev_var rfl) hV3) (ev_isS (ev_var rfl) hV3)) fun _ => ev_is (ev_op (ev_var rfl) (ev_var rfl) (rv_eq (x := u) (y := u) ?_)) (congrArg V.bl (decide_eq_true rfl))) (by simp)) fun H4 e4 => q H4 ((E2.trans e3).trans e4)
  cases hV <;> first | rfl | (simp [isTup] at hs; done) | (simp [isLst] at hl; done)
theorem ok_law_same_at (T : Txt K mg base) : ∀ n : Nat, FnOk P w K mg base CX0 (n + 1) T.f_law_same T.d_law_same ["actual", "due"] (spSameG K n)
  | 0 => by
    refine T.F_law_same.ok sc_law_same (fun vs H Q E h => ?_) (fun cdv A outer s H vs Q E hr h => ?_)
    · obtain ⟨u, v, d, rfl, _⟩ := h
      rfl
    · obtain ⟨u, v, d, rfl, hU, hV, hf, q⟩ := h
      refine ⟨_, pss_cons (ps_if (pt_cmpR op_isN (pv 1) (pe_non) (nomark _))
      (pss_one (ps_ret (pe_cmpR op_isN (pv 0) (pe_non) (nomark _))))
      (pss_nil))
      (pss_cons (ps_if (PW.pt (pw_or (pt_val (pe_callB (r := rIsi K) call_isi (by rfl) T.m_isinstance (by decide +kernel) (pa_cons (pv 1) (pa_cons (pe_bltn (v := .ty "list") (by rfl) T.m_list (by decide +kernel) rfl) (pa_nil))))) (pw_or1 (pt_val (pe_callB (r := rIsi K) call_isi (by rfl) T.m_isinstance (by decide +kernel) (pa_cons (pv 1) (pa_cons (pe_bltn (v := .ty "tuple") (by rfl) T.m_tuple (by decide +kernel) rfl) (pa_nil))))))))
      (pss_cons (ps_if (PW.pt (pw_or (pt_cmpR op_ne (pe_callB (r := rIsi K) call_isi (by rfl) T.m_isinstance (by decide +kernel) (pa_cons (pv 1) (pa_cons (pe_bltn (v := .ty "list") (by rfl) T.m_list (by decide +kernel) rfl) (pa_nil)))) (pe_callB (r := rIsi K) call_isi (by rfl) T.m_isinstance (by decide +kernel) (pa_cons (pv 0) (pa_cons (pe_bltn (v := .ty "list") (by rfl) T.m_list (by decide +kernel) rfl) (pa_nil)))) (nomark _)) (pw_or1 (pt_cmpR op_ne (pe_callB (r := rIsi K) call_isi (by rfl) T.m_isinstance (by decide +kernel) (pa_cons (pv 1) (pa_cons (pe_bltn (v := .ty "tuple") (by rfl) T.m_tuple (by decide +kernel) rfl) (pa_nil)))) (pe_callB (r := rIsi K) call_isi (by rfl) T.m_isinstance (by decide +kernel) (pa_cons (pv 0) (pa_cons (pe_bltn (v := .ty "tuple") (by rfl) T.m_tuple (by decide +kernel) rfl) (pa_nil)))) (nomark _)))))
      (pss_one (ps_ret (pe_bl)))
      (pss_nil))
      (pss_cons (ps_if (pt_cmpR op_ne (pe_callB (r := rLenQ K) call_len_seq (by rfl) T.m_len (by decide +kernel) (pa_cons (pv 0) (pa_nil))) (pe_callB (r := rLenQ K) call_len_seq (by rfl) T.m_len (by decide +kernel) (pa_cons (pv 1) (pa_nil))) (nomark _))
      (pss_one (ps_ret (pe_bl)))
      (pss_nil))
      (pss_cons (ps_for PassesOwn.never rfl (pi_range1 (by rfl) T.m_range (pa_cons (pe_callB (r := rLenQ K) call_len_seq (by rfl) T.m_len (by decide +kernel) (pa_cons (pv 1) (pa_nil))) (pa_nil))) (pg_name (i := 2) sc_law_same.nd rfl (by first | exact Or.inl rfl | exact Or.inr rfl))
      (pss_one (ps_never)))
      (pss_one (ps_ret (pe_bl))))))
      (pss_nil))
      (pss_cons (ps_if (PW.pt (pw_or (pt_cmpR op_ne (pe_callB (r := rIsi K) call_isi (by rfl) T.m_isinstance (by decide +kernel) (pa_cons (pv 1) (pa_cons (pe_bltn (v := .ty "bool") (by rfl) T.m_bool (by decide +kernel) rfl) (pa_nil)))) (pe_callB (r := rIsi K) call_isi (by rfl) T.m_isinstance (by decide +kernel) (pa_cons (pv 0) (pa_cons (pe_bltn (v := .ty "bool") (by rfl) T.m_bool (by decide +kernel) rfl) (pa_nil)))) (nomark _)) (pw_or1 (pt_cmpR op_ne (pe_callB (r := rIsi K) call_isi (by rfl) T.m_isinstance (by decide +kernel) (pa_cons (pv 1) (pa_cons (pe_bltn (v := .ty "int") (by rfl) T.m_int (by decide +kernel) rfl) (pa_nil)))) (pe_callB (r := rIsi K) call_isi (by rfl) T.m_isinstance (by decide +kernel) (pa_cons (pv 0) (pa_cons (pe_bltn (v := .ty "int") (by rfl) T.m_int (by decide +kernel) rfl) (pa_nil)))) (nomark _)))))
      (pss_one (ps_ret (pe_bl)))
      (pss_nil))
      (pss_one (ps_ret (pe_and (pe_cmpR op_eq (pe_callB (r := rIsi K) call_isi (by rfl) T.m_isinstance (by decide +kernel) (pa_cons (pv 1) (pa_cons (pe_bltn (v := .ty "str") (by rfl) T.m_str (by decide +kernel) rfl) (pa_nil)))) (pe_callB (r := rIsi K) call_isi (by rfl) T.m_isinstance (by decide +kernel) (pa_cons (pv 0) (pa_cons (pe_bltn (v := .ty "str") (by rfl) T.m_str (by decide +kernel) rfl) (pa_nil)))) (nomark _)) (pe_one (pe_cmpR op_eq (pv 0) (pv 1) (nomark _)))))))), ?_⟩
      exact same_flat (n := 0) hU hV (by cases hf <;> rfl) (by cases hf <;> rfl) q
  | n + 1 => by
    have IH := ok_law_same_at T n
    refine T.F_law_same.ok sc_law_same (fun vs H Q E h => ?_) (fun cdv A outer s H vs Q E hr h => ?_)
    · obtain ⟨u, v, d, rfl, _⟩ := h
      rfl
    · obtain ⟨u, v, d, rfl, hU, hV, hf, q⟩ := h
      refine ⟨_, pss_cons (ps_if (pt_cmpR op_isN (pv 1) (pe_non) (nomark _))
      (pss_one (ps_ret (pe_cmpR op_isN (pv 0) (pe_non) (nomark _))))
      (pss_nil))
      (pss_cons (ps_if (PW.pt (pw_or (pt_val (pe_callB (r := rIsi K) call_isi (by rfl) T.m_isinstance (by decide +kernel) (pa_cons (pv 1) (pa_cons (pe_bltn (v := .ty "list") (by rfl) T.m_list (by decide +kernel) rfl) (pa_nil))))) (pw_or1 (pt_val (pe_callB (r := rIsi K) call_isi (by rfl) T.m_isinstance (by decide +kernel) (pa_cons (pv 1) (pa_cons (pe_bltn (v := .ty "tuple") (by rfl) T.m_tuple (by decide +kernel) rfl) (pa_nil))))))))
      (pss_cons (ps_if (PW.pt (pw_or (pt_cmpR op_ne (pe_callB (r := rIsi K) call_isi (by rfl) T.m_isinstance (by decide +kernel) (pa_cons (pv 1) (pa_cons (pe_bltn (v := .ty "list") (by rfl) T.m_list (by decide +kernel) rfl) (pa_nil)))) (pe_callB (r := rIsi K) call_isi (by rfl) T.m_isinstance (by decide +kernel) (pa_cons (pv 0) (pa_cons (pe_bltn (v := .ty "list") (by rfl) T.m_list (by decide +kernel) rfl) (pa_nil)))) (nomark _)) (pw_or1 (pt_cmpR op_ne (pe_callB (r := rIsi K) call_isi (by rfl) T.m_isinstance (by decide +kernel) (pa_cons (pv 1) (pa_cons (pe_bltn (v := .ty "tuple") (by rfl) T.m_tuple (by decide +kernel) rfl) (pa_nil)))) (pe_callB (r := rIsi K) call_isi (by rfl) T.m_isinstance (by decide +kernel) (pa_cons (pv 0) (pa_cons (pe_bltn (v := .ty "tuple") (by rfl) T.m_tuple (by decide +kernel) rfl) (pa_nil)))) (nomark _)))))
      (pss_one (ps_ret (pe_bl)))
      (pss_nil))
      (pss_cons (ps_if (pt_cmpR op_ne (pe_callB (r := rLenQ K) call_len_seq (by rfl) T.m_len (by decide +kernel) (pa_cons (pv 0) (pa_nil))) (pe_callB (r := rLenQ K) call_len_seq (by rfl) T.m_len (by decide +kernel) (pa_cons (pv 1) (pa_nil))) (nomark _))
      (pss_one (ps_ret (pe_bl)))
      (pss_nil))
      (pss_cons (ps_for PassesOwn.never rfl (pi_range1 (by rfl) T.m_range (pa_cons (pe_callB (r := rLenQ K) call_len_seq (by rfl) T.m_len (by decide +kernel) (pa_cons (pv 1) (pa_nil))) (pa_nil))) (pg_name (i := 2) sc_law_same.nd rfl (by first | exact Or.inl rfl | exact Or.inr rfl))
      (pss_one (ps_if (pt_not (pt_val (pe_call IH (hr.mono (by omega)) (by rfl) T.g_law_same T.F_law_same.kp T.b_law_same .nil pass0 (pa_cons (pe_ix (r := rIxD K) (ix_any ix_list ix_tup) (pv 0) (pv 2) (fun _ _ => rfl)) (pa_cons (pe_ix (r := rIxD K) (ix_any ix_list ix_tup) (pv 1) (pv 2) (fun _ _ => rfl)) (pa_nil))))))
      (pss_one (ps_ret (pe_bl)))
      (pss_nil))))
      (pss_one (ps_ret (pe_bl))))))
      (pss_nil))
      (pss_cons (ps_if (PW.pt (pw_or (pt_cmpR op_ne (pe_callB (r := rIsi K) call_isi (by rfl) T.m_isinstance (by decide +kernel) (pa_cons (pv 1) (pa_cons (pe_bltn (v := .ty "bool") (by rfl) T.m_bool (by decide +kernel) rfl) (pa_nil)))) (pe_callB (r := rIsi K) call_isi (by rfl) T.m_isinstance (by decide +kernel) (pa_cons (pv 0) (pa_cons (pe_bltn (v := .ty "bool") (by rfl) T.m_bool (by decide +kernel) rfl) (pa_nil)))) (nomark _)) (pw_or1 (pt_cmpR op_ne (pe_callB (r := rIsi K) call_isi (by rfl) T.m_isinstance (by decide +kernel) (pa_cons (pv 1) (pa_cons (pe_bltn (v := .ty "int") (by rfl) T.m_int (by decide +kernel) rfl) (pa_nil)))) (pe_callB (r := rIsi K) call_isi (by rfl) T.m_isinstance (by decide +kernel) (pa_cons (pv 0) (pa_cons (pe_bltn (v := .ty "int") (by rfl) T.m_int (by decide +kernel) rfl) (pa_nil)))) (nomark _)))))
      (pss_one (ps_ret (pe_bl)))
      (pss_nil))
      (pss_one (ps_ret (pe_and (pe_cmpR op_eq (pe_callB (r := rIsi K) call_isi (by rfl) T.m_isinstance (by decide +kernel) (pa_cons (pv 1) (pa_cons (pe_bltn (v := .ty "str") (by rfl) T.m_str (by decide +kernel) rfl) (pa_nil)))) (pe_callB (r := rIsi K) call_isi (by rfl) T.m_isinstance (by decide +kernel) (pa_cons (pv 0) (pa_cons (pe_bltn (v := .ty "str") (by rfl) T.m_str (by decide +kernel) rfl) (pa_nil)))) (nomark _)) (pe_one (pe_cmpR op_eq (pv 0) (pv 1) (nomark _)))))))), ?_⟩
      by_cases hsc : isTup d = false ∧ isLst d = false
      · exact same_flat (n := n) hU hV hsc.1 hsc.2 q
      obtain ⟨a, b, xs, ys, ds, rfl, rfl, hx, hy, hdx, hdy, hds, hl⟩ : ∃ a b xs ys ds, u = .ref a ∧ v = .ref b ∧ (SqL K H a xs ∧ SqL K H b ys ∧ d = .list ds ∨ SqT K H a xs ∧ SqT K H b ys ∧ d = .tuple ds) ∧ True ∧ DpAll K H xs ds ∧ DpAll K H ys ds ∧ (∀ d ∈ ds, Gd n d) ∧ ds.length ≤ 40000 := by
        cases hf with
        | tup h hl =>
          cases hU with
          | tup hs r =>
            cases hV with
            | tup hs2 r2 => exact ⟨_, _, _, _, _, rfl, rfl, .inr ⟨hs, hs2, rfl⟩, trivial, r, r2, h, hl⟩
        | lst h hl =>
          cases hU with
          | lst hs r =>
            cases hV with
            | lst hs2 r2 => exact ⟨_, _, _, _, _, rfl, rfl, .inl ⟨hs, hs2, rfl⟩, trivial, r, r2, h, hl⟩
        | _ => exact absurd ⟨rfl, rfl⟩ hsc
      have lx := dpa_len hdx
      have ly := dpa_len hdy
      refine q_when (b := false) (et_test (ev_isNf (ev_var rfl))) (fun z => nomatch z) fun _ H1 e1 => ?_
      have eor : (isLst d || isTup d) = true := by rcases hx with ⟨_, _, rfl⟩ | ⟨_, _, rfl⟩ <;> rfl
      refine q_when (b := true) (et_is (et_or (et_B (ev_isL (ev_var rfl) (dp_mono e1 hV))) fun _ => et_B (ev_isT (ev_var rfl) (dp_mono e1 hV))) eor) (fun _ H2 e2 => ?_) (fun z => nomatch z)
      have E2 := e1.trans e2
      refine q_when (b := false) (et_is (et_or (et_test (ev_neB (ev_isL (ev_var rfl) (dp_mono E2 hV)) (ev_isL (ev_var rfl) (dp_mono E2 hU)))) fun _ => et_test (ev_neB (ev_isT (ev_var rfl) (dp_mono E2 hV)) (ev_isT (ev_var rfl) (dp_mono E2 hU)))) (by simp)) (fun z => nomatch z) fun _ H3 e3 => ?_
      have E3 := E2.trans e3
      have len : ∀ {H' : Hp} {σ : L2.St}, Ex H H' → σ[0]? = some (some (V.ref a)) → σ[1]? = some (some (V.ref b)) → Ev (tCB (rLenQ K) (tCons (tVar 0) tNil)) σ H' (.int (ds.length : Int)) ∧ Ev (tCB (rLenQ K) (tCons (tVar 1) tNil)) σ H' (.int (ds.length : Int)) := fun {H' σ} e h0 h1 => by
        rcases hx with ⟨p1, p2, _⟩ | ⟨p1, p2, _⟩
        · exact ⟨ev_is (ev_lenQ (ev_var h0) (ex_l e p1)) (by rw [lx]), ev_is (ev_lenQ (ev_var h1) (ex_l e p2)) (by rw [ly])⟩
        · exact ⟨ev_is (ev_lenT (ev_var h0) (ex_t e p1)) (by rw [lx]), ev_is (ev_lenT (ev_var h1) (ex_t e p2)) (by rw [ly])⟩
      refine q_when (b := false) (et_is (et_test (ev_neI (len E3 rfl rfl).1 (len E3 rfl rfl).2)) (by simp)) (fun z => nomatch z) fun _ H4 e4 => ?_
      have E4 := E3.trans e4
      refine q_forR1 (n := (ds.length : Int)) (ea_cons (len E4 rfl rfl).2 ea_nil) (by omega) (fun i σ' H' => ∃ kv : Option V, σ' = [some (.ref a), some (.ref b), kv] ∧ Ex H H') (fun H4 e4 => ⟨none, rfl, E4.trans e4⟩) (fun i σ' H' hi hP => ?_) (fun σ' H' hP => ?_)
      · obtain ⟨kv, rfl, eH⟩ := hP
        have hi2 : i < ds.length := by omega
        obtain ⟨d1, h1⟩ : ∃ d1, ds[i]? = some d1 := ⟨_, List.getElem?_eq_getElem hi2⟩
        obtain ⟨v1, g1, g2⟩ := dpa_get hdx h1
        obtain ⟨v2, k1, k2⟩ := dpa_get hdy h1
        have it : ∀ {j : Nat} {c : Addr} {zs : List V} {v : V} {σ : L2.St}, (SqL K H c zs ∨ SqT K H c zs) → σ[j]? = some (some (V.ref c)) → σ[2]? = some (some (V.int (i : Int))) → zs[i]? = some v → Ev (tOp (rIxD K) (tVar j) (tVar 2)) σ H' v := fun hq hj h2 hv => by
          rcases hq with hq | hq
          · exact ev_op (ev_var hj) (ev_var h2) fun H1 e1 Q q => .inl ((rv_ixL (ex_l eH hq) (at_nat hv)) H1 e1 Q q)
          · exact ev_op (ev_var hj) (ev_var h2) fun H1 e1 Q q => .inr ((rv_ixT (ex_t eH hq) (at_nat hv)) H1 e1 Q q)
        refine s_when (b := false) (et_is (et_not (et_B (ev_call (ea_cons (it (j := 0) (hx.imp (fun z => z.1) fun z => z.1) rfl rfl g1) (ea_cons (it (j := 1) (hx.imp (fun z => z.2.1) fun z => z.2.1) rfl rfl k1) ea_nil)) (cv_sameG (dp_mono eH g2) (dp_mono eH k2) (hds d1 (List.mem_of_getElem? h1)))))) rfl) (fun z => nomatch z) fun _ H4 e4 => ⟨_, rfl, eH.trans e4⟩
      · obtain ⟨kv, rfl, eH⟩ := hP
        exact s_ret ev_c fun H4 e4 => q H4 (eH.trans e4)
theorem ok_law_same (T : Txt K mg base) : FnOk P w K mg base CX0 5 T.f_law_same T.d_law_same ["actual", "due"] (spSameG K 4) := ok_law_same_at T 4
theorem Gd.mono2 : ∀ {n m : Nat} {d : PyData}, Gd n d → n ≤ m → Gd m d
  | _, _, _, .non _, _ => .non _
  | _, _, _, .bl _ b, _ => .bl _ b
  | _, _, _, .int _ i, _ => .int _ i
  | _, _, _, .str _ z, _ => .str _ z
  | n + 1, m + 1, _, .tup h l, e => .tup (fun d hd => (h d hd).mono2 (by omega)) l
  | n + 1, m + 1, _, .lst h l, e => .lst (fun d hd => (h d hd).mono2 (by omega)) l
  | n + 1, 0, _, .tup h l, e => by omega
  | n + 1, 0, _, .lst h l, e => by omega


/-! ### _law_changed -/
def namesC : List Str := ["a", "ab", "b", "c", "d", "e", "f", "note", "x", "z", "new", "newer"]
theorem namesC_ok : ∀ z ∈ namesC, SeqAt.shaped (.str z) = true ∧ z ≠ Str.ofString "id" ∧ z ≠ Str.ofString "key" := by decide +kernel
/-- a form changed -/
def spChg (K : PySem.W.Frag) (P : Addr) (pos : Pos) : Sp := fun vs H Q _ => ∃ (vf : V) (f : Fm) (p : Addr) (ns : List Int), vs = [vf, .ref p] ∧ Dp K H vf f.d ∧ f.ok ∧ SqL K H p (ns.map V.int) ∧ ns.length = 5 ∧ (∀ n ∈ ns, 0 ≤ n ∧ n < 1000) ∧ LamTab H P pos lamQ ∧ ∀ v (f' : Fm) H', Ex H H' → f'.ok → f'.ks = f.ks → (∀ c ∈ f.cs, c.nm ∈ f.ks → c ∈ f'.cs) → Dp K H' v f'.d → Q v H'
/-- columns that still have the key -/
structure Kp (f : Fm) (cs : List Co) : Prop where
  ok : ∀ c ∈ cs, c.ok
  ln : cs.length ≤ 13
  ki : ∀ z ∈ f.ks, ∃ c ∈ cs, c.nm = z
  nd : (cs.map Co.nm).Nodup
  ko : ∀ c ∈ f.cs, c.nm ∈ f.ks → c ∈ cs
theorem Kp.fl {f : Fm} (h : f.ok) {p : Co → Bool} (hp : ∀ c ∈ f.cs, c.nm ∈ f.ks → p c = true) {d : Co} (hd : d.ok) (hne : ∀ c ∈ f.cs, p c = true → c.nm ≠ d.nm) : Kp f (f.cs.filter p ++ [d]) := by
  refine ⟨fun c hc => ?_, ?_, fun z hz => ?_, nd_fl h.nd hne, fun c hc hk => List.mem_append_left _ (List.mem_filter.mpr ⟨hc, hp c hc hk⟩)⟩
  · rcases List.mem_append.mp hc with z | z
    · exact h.cs c (List.mem_filter.mp z).1
    · rw [List.mem_singleton.mp z]
      exact hd
  · rw [List.length_append]
    have := List.length_filter_le p f.cs
    have := h.ln
    show _ + 1 ≤ 13
    omega
  · obtain ⟨_, c, h1, h2⟩ := h.ki z hz
    exact ⟨c, List.mem_append_left _ (List.mem_filter.mpr ⟨h1, hp c h1 (by rw [h2]; exact hz)⟩), h2⟩
theorem Kp.fl0 {f : Fm} (h : f.ok) {p : Co → Bool} (hp : ∀ c ∈ f.cs, c.nm ∈ f.ks → p c = true) : Kp f (f.cs.filter p) := by
  refine ⟨fun c hc => h.cs c (List.mem_filter.mp hc).1, ?_, fun z hz => ?_, nd_fl0 h.nd, fun c hc hk => List.mem_filter.mpr ⟨hc, hp c hc hk⟩⟩
  · have := List.length_filter_le p f.cs
    have := h.ln
    omega
  · obtain ⟨_, c, h1, h2⟩ := h.ki z hz
    exact ⟨c, List.mem_filter.mpr ⟨h1, hp c h1 (by rw [h2]; exact hz)⟩, h2⟩
theorem free_ne {f : Fm} {c d : Co} (hd : d.nm ∉ f.ks) (hc : c.nm ∈ f.ks) (h1 : c.ok) (h2 : d.ok) : (!PyData.eqv c.d d.d) = true := by
  cases e : PyData.eqv c.d d.d with
  | false => rfl
  | true =>
    have := (eqv_iff _ _ h1.fl.pl h2.fl.pl).mp e
    unfold Co.d at this
    injection this with this
    injection this with h3 h4
    injection h3 with h5
    rw [h5] at hc
    exact absurd hc hd
set_option maxHeartbeats 4000000 in
theorem ok_law_changed (T : Txt K mg base) : FnOk P w K mg base CX0 5 T.f_law_changed T.d_law_changed ["form", "numbers"] (spChg K T.P_law_in_columns ⟨81, 37, 81, 61⟩) := by
  refine T.F_law_changed.ok sc_law_changed (fun vs H Q E h => ?_) (fun cdv A outer s H vs Q E hr h => ?_)
  · obtain ⟨vf, f, p, ns, rfl, _⟩ := h
    rfl
  · obtain ⟨vf, f, p, ns, rfl, hF, hok, hS, hl, hrg, tab, q⟩ := h
    obtain ⟨pf, pa, pb, xs, rfl, hf1, hf2, hf3, hf4⟩ := fm_at hF
    have hxl := co_len hf3
    have hln := hok.ln
    have it : ∀ {H' : Hp} {σ : L2.St} {j : Nat}, Ex H H' → σ[1]? = some (some (V.ref p)) → j < 5 → Ev (tOp (rIxL K) (tVar 1) (tC (.int (j : Int)))) σ H' (.int (ns.getD j 0)) := fun {H' σ j} e hσ hlt => ev_ixL (K := K) (ev_var hσ) ev_c (ex_l e hS) (at_nat (by
      rw [List.getElem?_map, List.getD_eq_getElem?_getD, List.getElem?_eq_getElem (by omega)] <;> rfl))
    have rg : ∀ j, j < 5 → 0 ≤ ns.getD j 0 ∧ ns.getD j 0 < 1000 := fun j hj => hrg _ (by
      rw [List.getD_eq_getElem?_getD, List.getElem?_eq_getElem (by omega)]
      exact List.getElem_mem _)
    have fm0 : ∀ {H' : Hp} {σ : L2.St}, Ex H H' → σ[0]? = some (some (V.ref pf)) → Ev (tOp (rIxT K) (tVar 0) (tC (.int 0))) σ H' (.ref pa) := fun e hσ => ev_ixT (K := K) (ev_var hσ) ev_c (ex_t e hf1) (at_nat (j := 0) rfl)
    have fm1 : ∀ {H' : Hp} {σ : L2.St}, Ex H H' → σ[0]? = some (some (V.ref pf)) → Ev (tOp (rIxT K) (tVar 0) (tC (.int 1))) σ H' (.ref pb) := fun e hσ => ev_ixT (K := K) (ev_var hσ) ev_c (ex_t e hf1) (at_nat (j := 1) rfl)
    refine ⟨_, pss_cons (ps_set (i := 2) sc_law_changed.nd rfl (by first | exact Or.inl rfl | exact Or.inr rfl) (pe_callTy call_list_of (by rfl) T.m_list (by decide +kernel) (pa_cons (pe_ix (r := rIxT K) ix_tup (pv 0) (pe_int) (fun _ _ => rfl)) (pa_nil))))
      (pss_cons (ps_setLc (i := 3) (own := [("column", 4)]) (g := gName 4) (by rfl) sc_law_changed.nd rfl rfl (sw_true rfl rfl rfl (by decide +kernel)) (pi_list (pv 2)) (blkOk_by (N := ["form", "numbers", "columns", "free", "column", "names", "name", "lost", "old", "new"]) (sc := defScope s_law_changed) (by decide +kernel)) (fun _ _ _ _ _ => pg_name (i := 4) sc_law_changed.nd rfl (Or.inl rfl)) (fun _ _ _ _ _ => pts_one (pt_cmpR (r := rIn K true) op_notIn_seq (pe_ix (r := rIxT K) ix_tup (pv 4) (pe_int) (fun _ _ => rfl)) (pe_ix (r := rIxT K) ix_tup (pv 0) (pe_int) (fun _ _ => rfl)) (by rfl))) (fun _ _ _ _ _ => pv 4))
      (pss_cons (ps_set (i := 5) sc_law_changed.nd rfl (by first | exact Or.inl rfl | exact Or.inr rfl) (pe_lst (pa_cons (pe_str) (pa_cons (pe_str) (pa_cons (pe_str) (pa_cons (pe_str) (pa_cons (pe_str) (pa_cons (pe_str) (pa_cons (pe_str) (pa_cons (pe_str) (pa_cons (pe_str) (pa_cons (pe_str) (pa_cons (pe_str) (pa_cons (pe_str) (pa_nil)))))))))))))))
      (pss_cons (ps_set (i := 6) sc_law_changed.nd rfl (by first | exact Or.inl rfl | exact Or.inr rfl) (pe_ix (r := rIxL K) ix_list (pv 5) (pe_op op_mod (pe_ix (r := rIxL K) ix_list (pv 1) (pe_int) (fun _ _ => rfl)) (pe_int)) (fun _ _ => rfl)))
      (pss_cut (ps_if (PW.pt (pw_and (pt_cmpR op_eq (pe_op op_mod (pe_ix (r := rIxL K) ix_list (pv 1) (pe_int) (fun _ _ => rfl)) (pe_int)) (pe_int) (nomark _)) (pw_and1 (pt_cmpR (r := rNeD K) (op_neD hr.units) (pv 3) (pe_lst (pa_nil)) (nomark _)))))
      (pss_cons (ps_set (i := 7) sc_law_changed.nd rfl (by first | exact Or.inl rfl | exact Or.inr rfl) (pe_ix (r := rIxL K) ix_list (pv 3) (pe_op op_mod (pe_ix (r := rIxL K) ix_list (pv 1) (pe_int) (fun _ _ => rfl)) (pe_callB (r := rLenQ K) call_len_seq (by rfl) T.m_len (by decide +kernel) (pa_cons (pv 3) (pa_nil)))) (fun _ _ => rfl)))
      (pss_one (ps_setLc (i := 2) (own := [("column", 4)]) (g := gName 4) (by rfl) sc_law_changed.nd rfl rfl (sw_true rfl rfl rfl (by decide +kernel)) (pi_list (pv 2)) (blkOk_by (N := ["form", "numbers", "columns", "free", "column", "names", "name", "lost", "old", "new"]) (sc := defScope s_law_changed) (by decide +kernel)) (fun _ _ _ _ _ => pg_name (i := 4) sc_law_changed.nd rfl (Or.inl rfl)) (fun _ _ _ _ _ => pts_one (pt_cmpR (r := rNeD K) (op_neD hr.units) (pv 4) (pv 7) (nomark _))) (fun _ _ _ _ _ => pv 4))))
      (pss_one (ps_if (pt_cmpR op_eq (pe_op op_mod (pe_ix (r := rIxL K) ix_list (pv 1) (pe_int) (fun _ _ => rfl)) (pe_int)) (pe_int) (nomark _))
      (pss_one (ps_set (i := 2) sc_law_changed.nd rfl (by first | exact Or.inl rfl | exact Or.inr rfl) (pe_op op_cat (pe_lc (own := [("column", 4)]) (g := gName 4) rfl sc_law_changed.nd (pi_list (pv 2)) (blkOk_by (N := ["form", "numbers", "columns", "free", "column", "names", "name", "lost", "old", "new"]) (sc := defScope s_law_changed) (by decide +kernel)) (fun _ _ _ _ _ => pg_name (i := 4) sc_law_changed.nd rfl (Or.inl rfl)) (fun _ _ _ _ _ => pts_one (pt_cmpR op_ne (pe_ix (r := rIxT K) ix_tup (pv 4) (pe_int) (fun _ _ => rfl)) (pv 6) (nomark _))) (fun _ _ _ _ _ => pv 4)) (pe_lst (pa_cons (pe_call (ok_law_column T) (hr.mono (by first | decide | omega)) (by rfl) T.g_law_column T.F_law_column.kp T.b_law_column .nil pass0 (pa_cons (pv 6) (pa_cons (pe_ix (r := rIxL K) ix_list (pv 1) (pe_int) (fun _ _ => rfl)) (pa_cons (pe_ix (r := rIxL K) ix_list (pv 1) (pe_int) (fun _ _ => rfl)) (pa_nil))))) (pa_nil))))))
      (pss_one (ps_if (pt_cmpR (r := rNeD K) (op_neD hr.units) (pv 3) (pe_lst (pa_nil)) (nomark _))
      (pss_cons (ps_set (i := 8) sc_law_changed.nd rfl (by first | exact Or.inl rfl | exact Or.inr rfl) (pe_ix (r := rIxL K) ix_list (pv 3) (pe_op op_mod (pe_ix (r := rIxL K) ix_list (pv 1) (pe_int) (fun _ _ => rfl)) (pe_callB (r := rLenQ K) call_len_seq (by rfl) T.m_len (by decide +kernel) (pa_cons (pv 3) (pa_nil)))) (fun _ _ => rfl)))
      (pss_cons (ps_set (i := 9) sc_law_changed.nd rfl (by first | exact Or.inl rfl | exact Or.inr rfl) (pe_call (ok_law_column T) (hr.mono (by first | decide | omega)) (by rfl) T.g_law_column T.F_law_column.kp T.b_law_column .nil pass0 (pa_cons (pe_ix (r := rIxT K) ix_tup (pv 8) (pe_int) (fun _ _ => rfl)) (pa_cons (pe_ix (r := rIxL K) ix_list (pv 1) (pe_int) (fun _ _ => rfl)) (pa_cons (pe_ix (r := rIxL K) ix_list (pv 1) (pe_int) (fun _ _ => rfl)) (pa_nil))))))
      (pss_cons (ps_if (pt_cmpR op_eq (pe_op op_mod (pe_ix (r := rIxL K) ix_list (pv 1) (pe_int) (fun _ _ => rfl)) (pe_int)) (pe_int) (nomark _))
      (pss_one (ps_set (i := 9) sc_law_changed.nd rfl (by first | exact Or.inl rfl | exact Or.inr rfl) (pe_op op_catA (pe_slice (r := rSlA K) sl_tupA (pv 8) (po_none) (po_some (pe_int))) (pe_tup (pa_cons (pe_op op_sub (pe_int) (pe_ix (r := rIxT K) ix_tup (pv 8) (pe_int) (fun _ _ => rfl))) (pa_cons (pe_ix (r := rIxT K) ix_tup (pv 8) (pe_int) (fun _ _ => rfl)) (pa_nil)))))))
      (pss_nil))
      (pss_one (ps_set (i := 2) sc_law_changed.nd rfl (by first | exact Or.inl rfl | exact Or.inr rfl) (pe_op op_cat (pe_lc (own := [("column", 4)]) (g := gName 4) rfl sc_law_changed.nd (pi_list (pv 2)) (blkOk_by (N := ["form", "numbers", "columns", "free", "column", "names", "name", "lost", "old", "new"]) (sc := defScope s_law_changed) (by decide +kernel)) (fun _ _ _ _ _ => pg_name (i := 4) sc_law_changed.nd rfl (Or.inl rfl)) (fun _ _ _ _ _ => pts_one (pt_cmpR (r := rNeD K) (op_neD hr.units) (pv 4) (pv 8) (nomark _))) (fun _ _ _ _ _ => pv 4)) (pe_lst (pa_cons (pv 9) (pa_nil)))))))))
      (pss_nil))))))
      (pss_cons (ps_if (pt_cmpR op_gt (pe_callB (r := rLenQ K) call_len_seq (by rfl) T.m_len (by decide +kernel) (pa_cons (pv 2) (pa_nil))) (pe_int) (nomark _))
      (pss_one (ps_ret (pv 0)))
      (pss_nil))
      (pss_one (ps_ret (pe_tup (pa_cons (pe_call (ok_law_in_columns T) (hr.mono (by first | decide | omega)) (by rfl) T.g_law_in_columns T.F_law_in_columns.kp T.b_law_in_columns .nil pass0 (pa_cons (pv 2) (pa_nil))) (pa_cons (pe_ix (r := rIxT K) ix_tup (pv 0) (pe_int) (fun _ _ => rfl)) (pa_nil))))))))))), ?_⟩
    refine q_asgL (el_listT (K := K) (fm0 (Ex.refl H) rfl) hf2) fun pc H1 _ e1 h1 => ?_
    refine q_asgCL (K := K) (ecl_flL (cs := f.cs) (p := fun c => !decide (c.nm ∈ f.ks)) (ev_var rfl) (sq_of h1) (dpa_mono e1 hf3) hok.cs (by omega) (fun x => rfl) (fun x c hc H2 e2 hD => et_is (et_test (ev_op (ev_co (ev_var rfl) hD).1 (fm1 (e1.trans e2) rfl) (rv_niT (ex_t (e1.trans e2) hf4) rfl (by rw [List.all_map]; exact List.all_eq_true.mpr fun _ _ => rfl)))) (by rw [inS_mem])) (fun x H2 => ev_var rfl)) fun pr vr H2 _ e2 h2 d2 => ?_
    have E2 := e1.trans e2
    refine q_asgL (xs := namesC.map V.str) (el_lst (ea_cons ev_c (ea_cons ev_c (ea_cons ev_c (ea_cons ev_c (ea_cons ev_c (ea_cons ev_c (ea_cons ev_c (ea_cons ev_c (ea_cons ev_c (ea_cons ev_c (ea_cons ev_c (ea_cons ev_c ea_nil)))))))))))) (by show 12 ≤ 100000; decide)) fun pn H3 _ e3 h3 => ?_
    have E3 := E2.trans e3
    have n0 := Int.emod_nonneg (ns.getD 0 0) (by decide : (12 : Int) ≠ 0)
    have n1 := Int.emod_lt_of_pos (ns.getD 0 0) (by decide : (0 : Int) < 12)
    obtain ⟨z, hz⟩ : ∃ z, namesC[(ns.getD 0 0 % 12).toNat]? = some z := ⟨_, List.getElem?_eq_getElem (by show _ < 12; omega)⟩
    obtain ⟨z1, z2, z3⟩ := namesC_ok z (List.mem_of_getElem? hz)
    refine q_asg (ev_ixL (K := K) (v := .str z) (ev_var rfl) (ev_bin (it (j := 0) E3 rfl (by decide)) ev_c (by decide)) (sq_of h3) (atI_of n0 (by rw [List.getElem?_map, hz] <;> rfl))) fun H4 e4 => ?_
    have E4 := E3.trans e4
    have hfr : H4 pr = some (.lst vr) := (e3.trans e4) _ _ h2
    have dfr := dpa_mono (e3.trans e4) d2
    have hpc : H4 pc = some (.lst xs) := ((e2.trans e3).trans e4) _ _ h1
    have dpc := dpa_mono E4 hf3
    have fok : ∀ c ∈ f.cs.filter (fun c => !decide (c.nm ∈ f.ks)), c.ok := fun c hc => hok.cs c (List.mem_filter.mp hc).1
    have zk : z ∉ f.ks := fun h => by
      rcases (hok.ki z h).1 with e | e
      · exact z2 e
      · exact z3 e
    generalize hfree : f.cs.filter (fun c => !decide (c.nm ∈ f.ks)) = fr at dfr fok
    have frk : ∀ c ∈ fr, c.nm ∉ f.ks := fun c hc => by
      rw [← hfree] at hc
      simpa using (List.mem_filter.mp hc).2
    have neF : ∀ {H' : Hp} {σ : L2.St}, Ex H4 H' → σ[3]? = some (some (V.ref pr)) → Ev (tOp (rNeD K) (tVar 3) (tLst tNil)) σ H' (.bl (!fr.isEmpty)) := fun e hσ => by
      refine ev_opL (ev_var hσ) (el_lst ea_nil (by decide)) fun r H1 hr e1 => rv_val fun H2 e2 Q k => ⟨.list (fr.map Co.d), .list [], .lst (sq_of (((e.trans e1).trans e2) _ _ hfr)) (dpa_mono ((e.trans e1).trans e2) dfr), .lst (sq_of (e2 _ _ hr)) .nil, shaped_lst (n := 1) (co_fl fok) (by decide), by decide, ?_⟩
      have : (!PyData.eqv (.list (fr.map Co.d)) (.list [])) = !fr.isEmpty := by cases fr <;> simp [PyData.eqv, PyData.eqvAll]
      rw [this]
      exact k
    refine q_cut (M := fun σ' H' => ∃ (pc2 : Addr) (us : List V) (cs : List Co) (x7 x8 x9 : Option V), σ' = [some (.ref pf), some (.ref p), some (.ref pc2), some (.ref pr), none, some (.ref pn), some (.str z), x7, x8, x9] ∧ Ex H H' ∧ H' pc2 = some (.lst us) ∧ DpAll K H' us (cs.map Co.d) ∧ Kp f cs) ?_ fun σ' H' hM => ?_
    · have pick : fr.isEmpty = false → ∃ x c, c ∈ fr ∧ Dp K H4 x c.d ∧ ∀ {H' : Hp} {σ : L2.St}, Ex H4 H' → σ[1]? = some (some (V.ref p)) → σ[3]? = some (some (V.ref pr)) → Ev (tOp (rIxL K) (tVar 3) (tOp (rI (fun _ j => 0 < j) fun i j => V.int (i % j)) (tOp (rIxL K) (tVar 1) (tC (.int 0))) (tCB (rLenQ K) (tCons (tVar 3) tNil)))) σ H' x := fun hne => by
        have hlen := co_len dfr
        have hpos : 0 < vr.length := by
          rw [hlen]
          cases fr with
          | nil => cases hne
          | cons c r => exact Nat.zero_lt_succ _
        have g0 := Int.emod_nonneg (ns.getD 0 0) (by omega : ((vr.length : Nat) : Int) ≠ 0)
        have g1 := Int.emod_lt_of_pos (ns.getD 0 0) (by omega : (0 : Int) < ((vr.length : Nat) : Int))
        obtain ⟨x, hx⟩ : ∃ x, vr[(ns.getD 0 0 % (vr.length : Int)).toNat]? = some x := ⟨_, List.getElem?_eq_getElem (by omega)⟩
        obtain ⟨c, hc, hD⟩ := co_get dfr hx
        exact ⟨x, c, List.mem_of_getElem? hc, hD, fun e h1 h3 => ev_ixL (K := K) (ev_var h3) (ev_bin (it (j := 0) (E4.trans e) h1 (by decide)) (ev_lenQ (K := K) (ev_var h3) (sq_of (e _ _ hfr))) (by omega)) (sq_of (e _ _ hfr)) (atI_of g0 hx)⟩
      have eqs : ∀ {x y : PyData}, Pl x → Pl y → PyData.eqv x y = PyData.eqv y x := fun {x y} hx hy => by
        cases h : PyData.eqv y x with
        | true => exact (eqv_iff x y hx hy).mpr ((eqv_iff y x hy hx).mp h).symm
        | false =>
          cases h2 : PyData.eqv x y with
          | false => rfl
          | true => rw [(eqv_iff y x hy hx).mpr ((eqv_iff x y hx hy).mp h2).symm] at h; cases h
      have without : ∀ {H' : Hp} {σ : L2.St} {j : Nat} {x : V} {d : Co}, Ex H4 H' → d.ok → Dp K H' x d.d → σ[2]? = some (some (V.ref pc)) → (∀ y, (((wipe σ [4]).set 4 (some y)))[j]? = some (some x)) → (∀ y, (((wipe σ [4]).set 4 (some y)))[4]? = some (some y)) → (∀ y, wipe ((wipe σ [4]).set 4 (some y)) [4] = wipe σ [4]) → ECL K (tLc (iList K (tVar 2)) (gName 4) (tTest (tOp (rNeD K) (tVar 4) (tVar j))) (tVar 4) [4]) σ H' (f.cs.filter fun c => !PyData.eqv c.d d.d) := fun {H' σ j x d} e hd hD h2 hj h4 hw =>
        ecl_flL (K := K) (cs := f.cs) (ev_var h2) (sq_of (e _ _ hpc)) (dpa_mono e dpc) hok.cs (by omega) hw (fun y c hc H5 e5 hDc => et_test (ev_neP (K := K) (ev_var (h4 y)) (ev_var (hj y)) hDc (dp_mono e5 hD) (hok.cs c hc).sh hd.sh rfl)) (fun y H5 => ev_var (h4 y))
      refine s_if (et_and (et_test (ev_eqI (ev_bin (it (j := 1) E4 rfl (by decide)) ev_c (by decide)) ev_c)) fun _ => et_test (neF (Ex.refl H4) rfl)) (fun hb H5 e5 => ?_) fun hb H5 e5 => ?_
      · obtain ⟨x, c, hc, hD, hev⟩ := pick (by cases h : fr.isEmpty <;> simp [h] at hb ⊢)
        refine q_asg (hev e5 rfl rfl) fun H6 e6 => ?_
        have E6 := e5.trans e6
        refine s_asgCL (K := K) (without (j := 7) E6 (fok c hc) (dp_mono E6 hD) rfl (fun y => rfl) (fun y => rfl) (fun y => rfl)) fun p2 vs H7 hp2 e7 h7 d7 => ?_
        exact ⟨p2, vs, _, _, _, _, rfl, (E4.trans E6).trans e7, h7, d7, Kp.fl0 hok fun c' hc' hk => free_ne (frk c hc) hk (hok.cs c' hc') (fok c hc)⟩
      have E5 := E4.trans e5
      refine s_if (et_test (ev_eqI (ev_bin (it (j := 1) E5 rfl (by decide)) ev_c (by decide)) ev_c)) (fun hb2 H6 e6 => ?_) fun hb2 H6 e6 => ?_
      · have E6 := e5.trans e6
        have r2 := rg 2 (by decide)
        have r3 := rg 3 (by decide)
        refine asg_run ?_
        refine op_run ?_
        refine ecl_run (ecl_flL (K := K) (cs := f.cs) (p := fun c => !decide (c.nm = z)) (ev_var rfl) (sq_of (E6 _ _ hpc)) (dpa_mono E6 dpc) hok.cs (by omega) (fun y => rfl) (fun y c hc H7 e7 hDc => et_test (ev_neS (ev_co (ev_var rfl) hDc).1 (ev_var rfl))) (fun y H7 => ev_var rfl)) fun p2 vs H7 hp2 e7 h7 d7 => ?_
        refine lst_run ?_
        refine cons_run ?_
        refine call_run ?_
        refine cons_run (var_run rfl ?_)
        refine cons_run ?_
        refine ev_run (it (j := 2) ((E4.trans E6).trans e7) rfl (by decide)) fun H8 e8 => ?_
        refine cons_run ?_
        refine ev_run (it (j := 3) (((E4.trans E6).trans e7).trans e8) rfl (by decide)) fun H9 e9 => ?_
        refine ⟨z, _, _, rfl, z1, r2, r3, fun v c H10 e10 hn hcok _ hD => ⟨(by show 1 ≤ sizeLine; decide), fun p3 hp3 => ?_⟩⟩
        have E10 := ((e8.trans e9).trans e10).trans (Ex.new (o := .lst [v]) hp3)
        have h27 := E10 _ _ h7
        have hvl := co_len d7
        refine cat_run h27 upd_same (by
          have := List.length_filter_le (fun c : Co => !decide (c.nm = z)) f.cs
          show vs.length + 1 ≤ 100000
          omega) fun r hr => ?_
        refine ⟨r, vs ++ [v], _, _, _, _, rfl, ((((E4.trans E6).trans e7).trans E10)).trans (Ex.new hr), upd_same, ?_, Kp.fl hok (p := fun c => !decide (c.nm = z)) (d := c) (fun c' hc' hk => ?_) hcok (fun c' _ hp => by rw [hn]; simpa using hp)⟩
        · rw [List.map_append]
          exact dpa_mono (Ex.new hr) (dpa_app (dpa_mono E10 d7) (.cons (dp_mono (Ex.new hp3) hD) .nil))
        · have : c'.nm ≠ z := fun e => zk (e ▸ hk)
          simp [this]
      have E6 := e5.trans e6
      refine s_when (et_test (neF E6 rfl)) (fun hb3 H7 e7 => ?_) fun hb3 H7 e7 => ⟨pc, xs, f.cs, _, _, _, rfl, (E4.trans E6).trans e7, (E6.trans e7) _ _ hpc, dpa_mono (E6.trans e7) dpc, ⟨hok.cs, by omega, fun z hz => (hok.ki z hz).2, hok.nd, fun c hc _ => hc⟩⟩
      obtain ⟨x, c, hc, hD, hev⟩ := pick (by cases h : fr.isEmpty <;> simp [h] at hb3 ⊢)
      have E7 := E6.trans e7
      refine q_asg (hev E7 rfl rfl) fun H8 e8 => ?_
      have E8 := E7.trans e8
      have cok := fok c hc
      have r2 := rg 2 (by decide)
      have r3 := rg 3 (by decide)
      have co := fun {H' : Hp} (e : Ex H4 H') => ev_co (K := K) (σ := [some (.ref pf), some (.ref p), some (.ref pc), some (.ref pr), none, some (.ref pn), some (.str z), none, some x, none]) (ev_var (i := 8) rfl) (dp_mono e hD)
      refine q_asgK ?_
      refine call_run ?_
      refine cons_run ?_
      refine ev_run (co E8).1 fun H9 e9 => ?_
      refine cons_run ?_
      refine ev_run (it (j := 2) ((E4.trans E8).trans e9) rfl (by decide)) fun H10 e10 => ?_
      refine cons_run ?_
      refine ev_run (it (j := 3) (((E4.trans E8).trans e9).trans e10) rfl (by decide)) fun H11 e11 => ?_
      refine ⟨c.nm, _, _, rfl, cok.nm, r2, r3, fun v c2 H12 e12 hn hcok2 _ hD2 => ?_⟩
      have E12 := (((E8.trans e9).trans e10).trans e11).trans e12
      -- the new column, as it is or told anew
      have fin : ∀ {H' : Hp} {v : V} {c3 : Co}, Ex H4 H' → c3.ok → c3.nm = c.nm → Dp K H' v c3.d → tAsg (tOp rCat (tLc (iList K (tVar 2)) (gName 4) (tTest (tOp (rNeD K) (tVar 4) (tVar 8))) (tVar 4) [4]) (tLst (tCons (tVar 9) tNil))) (gName 2) { nx := fun σ' H' => ∃ (pc2 : Addr) (us : List V) (cs : List Co) (x7 x8 x9 : Option V), σ' = [some (.ref pf), some (.ref p), some (.ref pc2), some (.ref pr), none, some (.ref pn), some (.str z), x7, x8, x9] ∧ Ex H H' ∧ H' pc2 = some (.lst us) ∧ DpAll K H' us (cs.map Co.d) ∧ Kp f cs, rt := Q } [some (.ref pf), some (.ref p), some (.ref pc), some (.ref pr), none, some (.ref pn), some (.str z), none, some x, some v] H' := fun {H' v c3} e hc3 hn3 hD3 => by
        refine s_asgCL (K := K) (ecl_cat (without (j := 8) e cok (dp_mono e hD) rfl (fun y => rfl) (fun y => rfl) (fun y => rfl)) (ecl_one (ep_var rfl hD3)) (fun c hc => hok.cs c (List.mem_filter.mp hc).1) (fun c hc => by rw [List.mem_singleton.mp hc]; exact hc3) (by
          have := List.length_filter_le (fun c' : Co => !PyData.eqv c'.d c.d) f.cs
          show _ + 1 ≤ 100000
          omega)) fun p2 vs H7 hp2 e7 h7 d7 => ?_
        exact ⟨p2, vs, _, _, _, _, rfl, (E4.trans e).trans e7, h7, d7, Kp.fl hok (fun c' hc' hk => free_ne (frk c hc) hk (hok.cs c' hc') cok) hc3 fun c' hc' hp z => by
          have hcf : c ∈ f.cs := by
            rw [← hfree] at hc
            exact (List.mem_filter.mp hc).1
          have e2 := nd_inj hok.nd hc' hcf (z.trans hn3)
          rw [e2, (eqv_iff _ _ cok.fl.pl cok.fl.pl).mpr rfl] at hp
          cases hp⟩
      refine q_when (et_test (ev_eqI (ev_bin (it (j := 4) (E4.trans E12) rfl (by decide)) ev_c (by decide)) ev_c)) (fun hb4 H13 e13 => ?_) fun hb4 H13 e13 => fin (E12.trans e13) hcok2 hn (dp_mono e13 hD2)
      have E13 := E12.trans e13
      obtain ⟨po, y, rfl, ho, hy⟩ := co_at hD
      refine asg_run ?_
      refine op_run ?_
      refine eu_run (eu_sl3 (K := K) (ev_var rfl) (ex_t E13 ho)) fun ps H14 _ e14 h14 => ?_
      refine eu_run (eu_tup (ea_cons (ev_bin0 ev_c (ev_ixT (K := K) (ev_var (i := 8) rfl) ev_c (ex_t (E13.trans e14) ho) (at_nat (j := 3) rfl))) (ea_cons (ev_ixT (K := K) (ev_var (i := 8) rfl) ev_c (ex_t (E13.trans e14) ho) (at_nat (j := 4) rfl)) ea_nil)) (by show 2 ≤ 100000; decide)) fun pt H15 _ e15 h15 => ?_
      refine ⟨ps, pt, _, _, rfl, rfl, st_of (e15 _ _ h14), st_of h15, (by show 3 + 2 ≤ sizeLine; decide), (fun z => nomatch z), (fun _ z => nomatch z), fun _ _ r hr => ?_⟩
      have E15 := (E13.trans e14).trans e15
      exact fin (c3 := ⟨c.nm, c.kd, c.df, 1 - c.un, c.lk⟩) (E15.trans (Ex.new hr)) ⟨cok.nm, cok.df, cok.lk⟩ rfl (.tup (st_of upd_same) (.cons (.str _) (.cons (.str _) (.cons (dp_mono (E15.trans (Ex.new hr)) hy) (.cons (.int _) (.cons (.str _) .nil))))))
    · obtain ⟨pc2, us, cs, x7, x8, x9, rfl, eM, hu, du, hkp⟩ := hM
      have hul := co_len du
      have h13 := hkp.ln
      refine q_when (b := decide (12 < (us.length : Int))) (et_test (ev_bin0 (ev_lenQ (K := K) (ev_var rfl) (sq_of hu)) ev_c)) (fun hb H5 e5 => s_ret (ev_var rfl) fun H6 e6 => q _ f _ ((eM.trans e5).trans e6) hok rfl (fun c hc _ => hc) (dp_mono ((eM.trans e5).trans e6) hF)) fun hb H5 e5 => ?_
      have hb2 := of_decide_eq_false hb
      refine ret_run ?_
      refine tup_run ?_
      refine cons_run ?_
      refine call_run ?_
      refine cons_run (var_run rfl ?_)
      refine ⟨pc2, us, cs, rfl, sq_of (e5 _ _ hu), dpa_mono e5 du, by omega, .inl ⟨tab.mono (eM.trans e5), fun v H6 e6 hD => ?_⟩⟩
      refine cons_run ?_
      refine ev_run (fm1 ((eM.trans e5).trans e6) rfl) fun H7 e7 => ⟨(by show 2 ≤ sizeLine; decide), fun r hr => ?_⟩
      have E7 := ((eM.trans e5).trans e6).trans e7
      refine q _ ⟨sortC cs, f.ks⟩ _ (E7.trans (Ex.new hr)) ⟨fun c hc => hkp.ok c (sortC_mem.mp hc), by show (sortC cs).length ≤ 12; rw [sortC_len]; omega, hok.kl, fun z hz => ?_, sortC_nd hkp.nd, sortC_so cs⟩ rfl (fun c hc hk => sortC_mem.mpr (hkp.ko c hc hk)) (fm_mk (st_of upd_same) (dp_mono (e7.trans (Ex.new hr)) hD) (.tup (ex_t (E7.trans (Ex.new hr)) hf4) (dpa_strs f.ks)))
      obtain ⟨c, h2, h3⟩ := hkp.ki z hz
      exact ⟨(hok.ki z hz).1, c, sortC_mem.mpr h2, h3⟩


/-! ### _law_side -/
/-- a form changed so many times -/
def spSide (K : PySem.W.Frag) (P : Addr) (pos : Pos) : Sp := fun vs H Q _ => ∃ (vf : V) (f : Fm) (a : Addr) (ns : List Int) (first count : Nat), vs = [vf, .ref a, .int (first : Int), .int (count : Int)] ∧ Dp K H vf f.d ∧ f.ok ∧ SqL K H a (ns.map V.int) ∧ (∀ n ∈ ns, Wd n) ∧ first ≤ 1000 ∧ count ≤ 1000 ∧ LamTab H P pos lamQ ∧ ∀ v (f' : Fm) H', Ex H H' → f'.ok → f'.ks = f.ks → (∀ c ∈ f.cs, c.nm ∈ f.ks → c ∈ f'.cs) → Dp K H' v f'.d → Q v H'
theorem ok_law_side (T : Txt K mg base) : FnOk P w K mg base CX0 6 T.f_law_side T.d_law_side ["form", "script", "first", "count"] (spSide K T.P_law_in_columns ⟨81, 37, 81, 61⟩) := by
  refine T.F_law_side.ok sc_law_side (fun vs H Q E h => ?_) (fun cdv A outer s H vs Q E hr h => ?_)
  · obtain ⟨vf, f, a, ns, fi, co, rfl, _⟩ := h
    rfl
  · obtain ⟨vf, f, a, ns, fi, co, rfl, hF, hok, hS, hw, h1, h2, tab, q⟩ := h
    refine ⟨_, pss_cons (ps_for PassesOwn.never rfl (pi_range1 (by rfl) T.m_range (pa_cons (pv 3) (pa_nil))) (pg_name (i := 4) sc_law_side.nd rfl (by first | exact Or.inl rfl | exact Or.inr rfl))
      (pss_one (ps_set (i := 0) sc_law_side.nd rfl (by first | exact Or.inl rfl | exact Or.inr rfl) (pe_call (ok_law_changed T) (hr.mono (by first | decide | omega)) (by rfl) T.g_law_changed T.F_law_changed.kp T.b_law_changed .nil pass0 (pa_cons (pv 0) (pa_cons (pe_call (ok_law_numbers T) (hr.mono (by first | decide | omega)) (by rfl) T.g_law_numbers T.F_law_numbers.kp T.b_law_numbers .nil pass0 (pa_cons (pe_call (ok_law_cell T) (hr.mono (by first | decide | omega)) (by rfl) T.g_law_cell T.F_law_cell.kp T.b_law_cell .nil pass0 (pa_cons (pv 1) (pa_cons (pe_op op_add (pv 2) (pv 4)) (pa_nil)))) (pa_cons (pe_int) (pa_nil)))) (pa_nil)))))))
      (pss_one (ps_ret (pv 0))), ?_⟩
    refine q_forR1 (n := (co : Int)) (ea_cons (ev_var rfl) ea_nil) (by omega) (fun i σ' H' => ∃ (v : V) (f' : Fm) (x : Option V), σ' = [some v, some (.ref a), some (.int (fi : Int)), some (.int (co : Int)), x] ∧ Ex H H' ∧ Dp K H' v f'.d ∧ f'.ok ∧ f'.ks = f.ks ∧ ∀ c ∈ f.cs, c.nm ∈ f.ks → c ∈ f'.cs) (fun H1 e1 => ⟨vf, f, _, rfl, e1, dp_mono e1 hF, hok, rfl, fun c hc _ => hc⟩) (fun i σ' H' hi hP => ?_) (fun σ' H' hP => ?_)
    · obtain ⟨v, f', x, rfl, eH, hD, hok', hks, hko⟩ := hP
      refine asg_run ?_
      refine call_run ?_
      refine cons_run (var_run rfl ?_)
      refine cons_run ?_
      refine call_run ?_
      refine cons_run ?_
      refine ev_run (ev_call (ea_cons (ev_var rfl) (ea_cons (ev_is (ev_bin0 (ev_var rfl) (ev_var rfl)) (congrArg V.int (show (fi : Int) + (i : Int) = ((fi + i : Nat) : Int) by omega))) ea_nil)) (cv_cell (k := fi + i) (ex_l eH hS))) fun H1 e1 => ?_
      refine ⟨_, 5, rfl, Wd.cell hw _, by decide, fun p ms H2 _ e2 hms hl5 hr5 => ?_⟩
      have E2 := eH.trans (e1.trans e2)
      exact ⟨v, f', p, ms, rfl, dp_mono (e1.trans e2) hD, hok', sq_of hms, hl5, hr5, tab.mono E2, fun v2 f2 H3 e3 hok2 hks2 hko2 hD2 => ⟨v2, f2, _, rfl, E2.trans e3, hD2, hok2, hks2.trans hks, fun c hc hk => hko2 c (hko c hc hk) (by rw [hks]; exact hk)⟩⟩
    · obtain ⟨v, f', x, rfl, eH, hD, hok', hks, hko⟩ := hP
      exact s_ret (ev_var rfl) fun H1 e1 => q v f' H1 (eH.trans e1) hok' hks hko (dp_mono e1 hD)


/-! ### choose -/
def spChoose (K : PySem.W.Frag) : Sp := fun vs H Q _ => ∃ (a b c : V) (da db dc : PyData), vs = [a, b, c] ∧ Th K H a da ∧ Th K H b db ∧ Th K H c dc ∧ ∀ H', Ex H H' → Q (if PyData.eqv db da = true then c else b) H'
theorem cv_choose {K : PySem.W.Frag} {a b c : V} {da db dc : PyData} {H : Hp} (ha : Th K H a da) (hb : Th K H b db) (hc : Th K H c dc) : SpV (spChoose K) [a, b, c] H (if PyData.eqv db da = true then c else b) := fun H1 e Q q E => ⟨a, b, c, da, db, dc, rfl, ha.mono e, hb.mono e, hc.mono e, fun H2 e2 => q H2 e2⟩
theorem ok_choose (T : Txt K mg base) : FnOk P w K mg base CX0 1 T.f_choose T.d_choose ["base", "ours", "theirs"] (spChoose K) := by
  refine T.F_choose.ok sc_choose (fun vs H Q E h => ?_) (fun cdv A outer s H vs Q E hr h => ?_)
  · obtain ⟨a, b, c, _, _, _, rfl, _⟩ := h
    rfl
  · obtain ⟨a, b, c, da, db, dc, rfl, ha, hb, hc, q⟩ := h
    refine ⟨_, pss_one (ps_ret (pe_ifExp (pt_cmpR (r := rEqD K) (op_eqD hr.units) (pv 1) (pv 0) (nomark _)) (pv 2) (pv 1))), ?_⟩
    refine s_ret (ev_if (et_test (ev_eqP (K := K) (ev_var rfl) (ev_var rfl) hb.dp ha.dp hb.sh ha.sh rfl)) (fun h => ?_) (fun h => ?_)) q
    · rw [if_pos h]
      exact ev_var rfl
    · rw [if_neg (by rw [h]; exact Bool.false_ne_true)]
      exact ev_var rfl


/-! ### clash -/
def spClash (K : PySem.W.Frag) : Sp := fun vs H Q _ => ∃ (a b c : V) (da db dc : PyData), vs = [a, b, c] ∧ Th K H a da ∧ Th K H b db ∧ Th K H c dc ∧ ∀ H', Ex H H' → Q (.bl (clashB da db dc)) H'
theorem cv_clash {K : PySem.W.Frag} {a b c : V} {da db dc : PyData} {H : Hp} (ha : Th K H a da) (hb : Th K H b db) (hc : Th K H c dc) : SpV (spClash K) [a, b, c] H (.bl (clashB da db dc)) := fun H1 e Q q E => ⟨a, b, c, da, db, dc, rfl, ha.mono e, hb.mono e, hc.mono e, fun H2 e2 => q H2 e2⟩
theorem ok_clash (T : Txt K mg base) : FnOk P w K mg base CX0 1 T.f_clash T.d_clash ["base", "ours", "theirs"] (spClash K) := by
  refine T.F_clash.ok sc_clash (fun vs H Q E h => ?_) (fun cdv A outer s H vs Q E hr h => ?_)
  · obtain ⟨a, b, c, _, _, _, rfl, _⟩ := h
    rfl
  · obtain ⟨a, b, c, da, db, dc, rfl, ha, hb, hc, q⟩ := h
    refine ⟨_, pss_one (ps_ret (pe_and (pe_cmpR (r := rNeD K) (op_neD hr.units) (pv 1) (pv 0) (nomark _)) (pe_and (pe_cmpR (r := rNeD K) (op_neD hr.units) (pv 2) (pv 0) (nomark _)) (pe_one (pe_cmpR (r := rNeD K) (op_neD hr.units) (pv 2) (pv 1) (nomark _)))))), ?_⟩
    exact s_ret (ev_andV (ev_neP (K := K) (ev_var rfl) (ev_var rfl) hb.dp ha.dp hb.sh ha.sh rfl) fun _ => ev_andV (ev_neP (K := K) (ev_var rfl) (ev_var rfl) hc.dp ha.dp hc.sh ha.sh rfl) fun _ => ev_neP (K := K) (ev_var rfl) (ev_var rfl) hc.dp hb.dp hc.sh hb.sh rfl) q


/-! ### column_names -/
def spNms (K : PySem.W.Frag) : Sp := fun vs H Q _ => ∃ (f : Fm) (vf : V), vs = [vf] ∧ Dp K H vf f.d ∧ f.cs.length ≤ 1000 ∧ ∀ p H', H p = none → Ex H H' → H' p = some (.tup (f.cs.map fun c => V.str c.nm)) → Q (.ref p) H'
theorem eu_nms {K : PySem.W.Frag} {σ : L2.St} {H : Hp} {te : TE} {E : XK} {f : Fm} {vf : V} (h : Ev te σ H vf) (hF : Dp K H vf f.d) (hl : f.cs.length ≤ 1000) : EvU (tCall (spNms K) [] E (tCons te tNil)) σ H (f.cs.map fun c => V.str c.nm) := fun H1 e Q q => h H1 e _ fun H2 e2 => ⟨f, vf, rfl, dp_mono (e.trans e2) hF, hl, fun p H3 hp e3 h3 => q p H3 (fresh_back e2 hp) (e2.trans e3) h3⟩
theorem ok_column_names (T : Txt K mg base) : FnOk P w K mg base CX0 1 T.f_column_names T.d_column_names ["form"] (spNms K) := by
  refine T.F_column_names.ok sc_column_names (fun vs H Q E h => ?_) (fun cdv A outer s H vs Q E hr h => ?_)
  · obtain ⟨f, vf, rfl, _⟩ := h
    rfl
  · obtain ⟨f, vf, rfl, hF, hl, q⟩ := h
    obtain ⟨p, a, b, xs, rfl, h1, h2, h3, h4⟩ := fm_at hF
    refine ⟨_, pss_one (ps_ret (pe_callTy (r := rTupOf K) call_tuple_of (by rfl) T.m_tuple (by decide +kernel) (pa_cons (pe_lc (own := [("column", 1)]) (g := gName 1) (tt := tYes) rfl sc_column_names.nd (pi_tup (pe_ix (r := rIxT K) ix_tup (pv 0) (pe_int) (fun _ _ => rfl))) (blkOk_by (N := ["form", "column"]) (sc := defScope s_column_names) (by decide +kernel)) (fun _ _ _ _ _ => pg_name (i := 1) sc_column_names.nd rfl (Or.inl rfl)) (fun _ _ _ _ _ => pts_nil) (fun _ _ _ _ _ => pe_ix (r := rIxT K) ix_tup (pv 1) (pe_int) (fun _ _ => rfl))) (pa_nil)))), ?_⟩
    refine s_retU (eu_ofN (K := K) (el_mapT (K := K) (ev_ixT (K := K) (ev_var rfl) ev_c h1 (at_nat (j := 0) rfl)) h2 (by rw [co_len h3]; omega) (fun x => rfl) (by rw [List.length_map, co_len h3]) fun i x y hx hy H1 e1 => ?_)) q
    obtain ⟨c, hc, hD⟩ := co_get h3 hx
    rw [List.getElem?_map, hc] at hy
    rw [← Option.some.inj hy]
    exact (ev_co (ev_var rfl) (dp_mono e1 hD)).1


/-! ### find_column -/
theorem ok_find_column (T : Txt K mg base) : FnOk P w K mg base CX0 1 T.f_find_column T.d_find_column ["form", "name"] (spFind K) := by
  refine T.F_find_column.ok sc_find_column (fun vs H Q E h => ?_) (fun cdv A outer s H vs Q E hr h => ?_)
  · obtain ⟨f, vf, z, rfl, _⟩ := h
    rfl
  · obtain ⟨f, vf, z, rfl, hF, hl, q⟩ := h
    obtain ⟨p, a, b, xs, rfl, h1, h2, h3, h4⟩ := fm_at hF
    refine ⟨_, pss_cons (ps_for PassesOwn.never rfl (pi_tup (pe_ix (r := rIxT K) ix_tup (pv 0) (pe_int) (fun _ _ => rfl))) (pg_name (i := 2) sc_find_column.nd rfl (by first | exact Or.inl rfl | exact Or.inr rfl))
      (pss_one (ps_if (pt_cmpR op_eq (pe_ix (r := rIxT K) ix_tup (pv 2) (pe_int) (fun _ _ => rfl)) (pv 1) (nomark _))
      (pss_one (ps_ret (pv 2)))
      (pss_nil))))
      (pss_one (ps_ret (pe_non))), ?_⟩
    refine q_forT (K := K) (a := a) (xs := xs) (ev_ixT (K := K) (ev_var rfl) ev_c h1 (at_nat (j := 0) rfl)) h2 (fun i σ' H' => (∃ x, σ' = [some (.ref p), some (.str z), x]) ∧ Ex H H' ∧ ∀ (k : Nat) c, k < i → f.cs[k]? = some c → c.nm ≠ z) (fun H1 e1 => ⟨⟨_, rfl⟩, e1, fun k c hk => by omega⟩) (fun i σ' H' _ hP => ex_t hP.2.1 h2) (fun i x σ' H' hx hP => ?_) (fun σ' H' hP => ?_)
    · obtain ⟨⟨y, rfl⟩, e, hno⟩ := hP
      obtain ⟨c, hc, hD⟩ := co_get h3 hx
      refine s_when (b := decide (c.nm = z)) (et_test (ev_eqS (ev_co (ev_var rfl) (dp_mono e hD)).1 (ev_var rfl))) (fun hb H1 e1 => ?_) fun hb H1 e1 => ?_
      · refine s_ret (ev_var rfl) fun H2 e2 => q _ _ ((e.trans e1).trans e2) ?_
        have : findC f.cs z = some c := find_first hc (of_decide_eq_true hb) hno
        rw [this]
        exact dp_mono ((e.trans e1).trans e2) hD
      · refine ⟨⟨_, rfl⟩, e.trans e1, fun k d hk hd => ?_⟩
        by_cases hki : k < i
        · exact hno k d hki hd
        · have : k = i := by omega
          rw [this, hc] at hd
          rw [← Option.some.inj hd]
          exact of_decide_eq_false hb
    · obtain ⟨⟨y, rfl⟩, e, hno⟩ := hP
      refine s_ret ev_c fun H2 e2 => q _ _ (e.trans e2) ?_
      have : findC f.cs z = none := find_no fun c hc => by
        obtain ⟨k, hk⟩ := List.getElem?_of_mem hc
        exact hno k c (by rw [co_len h3]; exact (List.getElem?_eq_some_iff.mp hk).1) hk
      rw [this]
      exact .non


/-! ### key_signature -/
/-- the names and kinds of the key -/
def spSig (K : PySem.W.Frag) : Sp := fun vs H Q _ => ∃ (f : Fm) (vf : V), vs = [vf] ∧ Dp K H vf f.d ∧ f.okW ∧ ∀ v H', Ex H H' → Dp K H' v (.tuple ((sigs f).map pairD)) → Q v H'
theorem ok_key_signature (T : Txt K mg base) : FnOk P w K mg base CX0 2 T.f_key_signature T.d_key_signature ["form"] (spSig K) := by
  refine T.F_key_signature.ok sc_key_signature (fun vs H Q E h => ?_) (fun cdv A outer s H vs Q E hr h => ?_)
  · obtain ⟨f, vf, rfl, _⟩ := h
    rfl
  · obtain ⟨f, vf, rfl, hF, hok, q⟩ := h
    have hFm := hF
    obtain ⟨p, a, b, xs, rfl, h1, h2, h3, h4⟩ := fm_at hF
    have hln := hok.ln
    refine ⟨_, pss_one (ps_ret (pe_callTy (r := rTupOf K) call_tuple_of (by rfl) T.m_tuple (by decide +kernel) (pa_cons (pe_lc (own := [("name", 1)]) (g := gName 1) (tt := tYes) rfl sc_key_signature.nd (pi_tup (pe_ix (r := rIxT K) ix_tup (pv 0) (pe_int) (fun _ _ => rfl))) (blkOk_by (N := ["form", "name"]) (sc := defScope s_key_signature) (by decide +kernel)) (fun _ _ _ _ _ => pg_name (i := 1) sc_key_signature.nd rfl (Or.inl rfl)) (fun _ _ _ _ _ => pts_nil) (fun _ _ _ _ _ => pe_tup (pa_cons (pv 1) (pa_cons (pe_ix (r := rIxT K) ix_tup (pe_call (ok_find_column T) (hr.mono (by first | decide | omega)) (by rfl) T.g_find_column T.F_find_column.kp T.b_find_column .nil pass0 (pa_cons (pv 0) (pa_cons (pv 1) (pa_nil)))) (pe_int) (fun _ _ => rfl)) (pa_nil))))) (pa_nil)))), ?_⟩
    refine ret_run ?_
    refine tupOf_run (ds := (sigs f).map pairD) (edl_T (n := 1) (etu_ev (ev_ixT (K := K) (ev_var rfl) ev_c h1 (at_nat (j := 1) rfl)) h4) (by unfold sigs; simp) (sigs_fl hok) (by unfold sigs; rw [List.length_map, List.length_map]; have := hok.kl; omega) (fun x => rfl) fun i x d H1 hx hd e1 => ?_) fun r H2 e2 hD => q _ _ e2 hD
    unfold sigs at hd
    rw [List.map_map, List.getElem?_map] at hd
    rw [List.getElem?_map] at hx
    obtain ⟨z, hz⟩ : ∃ z, f.ks[i]? = some z := by
      cases h : f.ks[i]? with
      | none => rw [h] at hx; cases hx
      | some z => exact ⟨z, rfl⟩
    rw [hz] at hx hd
    obtain rfl := (Option.some.inj hx).symm
    obtain rfl := (Option.some.inj hd).symm
    obtain ⟨_, c0, hc0, hn0⟩ := hok.ki z (List.mem_of_getElem? hz)
    obtain ⟨c, hc⟩ : ∃ c, findC f.cs z = some c := by
      cases h : findC f.cs z with
      | some c => exact ⟨c, rfl⟩
      | none =>
        have := List.find?_eq_none.mp h c0 hc0
        simp [hn0] at this
    refine ep_t (epa_c (ep_is (ev_var rfl) (.str _) rfl) (epa_c (fun H3 e3 Q3 q3 => ?_) epa_nil)) (by show 2 ≤ 100000; decide)
    refine op_run ?_
    refine call_run ?_
    refine cons_run (var_run rfl ?_)
    refine cons_run (var_run rfl ?_)
    refine ⟨f, .ref p, z, rfl, dp_mono (e1.trans e3) hFm, by omega, fun v H4 e4 hD => ?_⟩
    rw [hc] at hD
    obtain ⟨r, y, rfl, hs, _⟩ := co_at hD
    refine ⟨r, _, 1, .str c.kd.s, rfl, rfl, hs, rfl, q3 _ _ H4 e4 ?_ (.str _)⟩
    show PyData.str c.kd.s = .str (kdF f z)
    unfold kdF
    rw [hc]


/-! ### merge_forms -/
set_option maxHeartbeats 4000000 in
theorem ok_merge_forms (T : Txt K mg base) : FnOk P w K mg base CX0 3 T.f_merge_forms T.d_merge_forms ["base", "ours", "theirs"] (spMF K) := by
  refine T.F_merge_forms.ok sc_merge_forms (fun vs H Q E h => ?_) (fun cdv A outer s H vs Q E hr h => ?_)
  · obtain ⟨b, o, t, vb, vo, vt, rfl, _⟩ := h
    rfl
  · obtain ⟨b, o, t, vb, vo, vt, rfl, hB, hO, hT, ob, oo, ot, q⟩ := h
    have lb := ob.ln
    have lo := oo.ln
    have lt := ot.ln
    obtain ⟨po, pa, pk, xo, rfl, ho1, ho2, ho3, ho4⟩ := fm_at hO
    refine ⟨_, pss_cons (ps_set (i := 3) sc_merge_forms.nd rfl (by first | exact Or.inl rfl | exact Or.inr rfl) (pe_call (ok_key_signature T) (hr.mono (by first | decide | omega)) (by rfl) T.g_key_signature T.F_key_signature.kp T.b_key_signature .nil pass0 (pa_cons (pv 0) (pa_nil))))
      (pss_cons (ps_if (PW.pt (pw_or (pt_cmpR (r := rNeD K) (op_neD hr.units) (pe_call (ok_key_signature T) (hr.mono (by first | decide | omega)) (by rfl) T.g_key_signature T.F_key_signature.kp T.b_key_signature .nil pass0 (pa_cons (pv 1) (pa_nil))) (pv 3) (nomark _)) (pw_or1 (pt_cmpR (r := rNeD K) (op_neD hr.units) (pe_call (ok_key_signature T) (hr.mono (by first | decide | omega)) (by rfl) T.g_key_signature T.F_key_signature.kp T.b_key_signature .nil pass0 (pa_cons (pv 2) (pa_nil))) (pv 3) (nomark _)))))
      (pss_one (ps_ret (pe_non)))
      (pss_nil))
      (pss_cons (ps_set (i := 4) sc_merge_forms.nd rfl (by first | exact Or.inl rfl | exact Or.inr rfl) (pe_lst (pa_nil)))
      (pss_cons (ps_for PassesOwn.never rfl (pi_list (pe_sortSet rfl (by rfl) T.m_sorted (by rfl) T.m_set (pe_op op_catA (pe_op op_catA (pe_call (ok_column_names T) (hr.mono (by first | decide | omega)) (by rfl) T.g_column_names T.F_column_names.kp T.b_column_names .nil pass0 (pa_cons (pv 0) (pa_nil))) (pe_call (ok_column_names T) (hr.mono (by first | decide | omega)) (by rfl) T.g_column_names T.F_column_names.kp T.b_column_names .nil pass0 (pa_cons (pv 1) (pa_nil)))) (pe_call (ok_column_names T) (hr.mono (by first | decide | omega)) (by rfl) T.g_column_names T.F_column_names.kp T.b_column_names .nil pass0 (pa_cons (pv 2) (pa_nil)))))) (pg_name (i := 5) sc_merge_forms.nd rfl (by first | exact Or.inl rfl | exact Or.inr rfl))
      (pss_cons (ps_setLc (i := 6) (own := [("form", 7)]) (g := gName 7) (tt := tYes) (by rfl) sc_merge_forms.nd rfl rfl (sw_true rfl rfl rfl (by decide +kernel)) (pi_tup (pe_tup (pa_cons (pv 0) (pa_cons (pv 1) (pa_cons (pv 2) (pa_nil)))))) (blkOk_by (N := ["base", "ours", "theirs", "signature", "columns", "name", "same_name", "form", "column"]) (sc := defScope s_merge_forms) (by decide +kernel)) (fun _ _ _ _ _ => pg_name (i := 7) sc_merge_forms.nd rfl (Or.inl rfl)) (fun _ _ _ _ _ => pts_nil) (fun _ _ _ _ _ => pe_call (ok_find_column T) (hr.mono (by first | decide | omega)) (by rfl) T.g_find_column T.F_find_column.kp T.b_find_column .nil pass0 (pa_cons (pv 7) (pa_cons (pv 5) (pa_nil)))))
      (pss_cons (ps_if (pt_val (StX.pe_callS1 ((ok_clash T).raw T.b_clash .nil) (hr.mono (by first | decide | omega)) T.F_clash.kp (by rfl) T.g_clash pass0 (pv 6)))
      (pss_one (ps_ret (pe_non)))
      (pss_nil))
      (pss_cons (ps_set (i := 8) sc_merge_forms.nd rfl (by first | exact Or.inl rfl | exact Or.inr rfl) (StX.pe_callS1 ((ok_choose T).raw T.b_choose .nil) (hr.mono (by first | decide | omega)) T.F_choose.kp (by rfl) T.g_choose pass0 (pv 6)))
      (pss_one (ps_if (pt_cmpR op_notN (pv 8) (pe_non) (nomark _))
      (pss_one (ps_expr (pe_bm PySem.F.plainAttrs_list PySem.F.slot_list_append PySem.F.type_list_append mt_append (pv 4) (pa_cons (pv 8) (pa_nil)))))
      (pss_nil)))))))
      (pss_cons (ps_if (pt_cmpR op_gt (pe_callB (r := rLenQ K) call_len_seq (by rfl) T.m_len (by decide +kernel) (pa_cons (pv 4) (pa_nil))) (pe_glob (v := .int 12) rfl T.k_MOST_COLUMNS ⟨_, rfl⟩) (nomark _))
      (pss_one (ps_ret (pe_non)))
      (pss_nil))
      (pss_one (ps_ret (pe_tup (pa_cons (pe_callTy (r := rTupOf K) call_tuple_of (by rfl) T.m_tuple (by decide +kernel) (pa_cons (pv 4) (pa_nil))) (pa_cons (pe_ix (r := rIxT K) ix_tup (pv 1) (pe_int) (fun _ _ => rfl)) (pa_nil)))))))))), ?_⟩
    refine q_asgK ?_
    refine call_run ?_
    refine cons_run (var_run rfl ?_)
    refine ⟨b, vb, rfl, hB, ob, fun vs H1 e1 hS => ?_⟩
    have sg : ∀ {H' : Hp} {σ : L2.St} {i : Nat} {f : Fm} {v : V} {E : XK}, f.okW → Dp K H' v f.d → σ[i]? = some (some v) → EP K (tCall (spSig K) [] E (tCons (tVar i) tNil)) σ H' (· = .tuple ((sigs f).map pairD)) := fun {H' σ i f v E} hf hD hσ H2 e2 Q2 q2 => by
      refine call_run ?_
      refine cons_run (var_run hσ ?_)
      exact ⟨f, v, rfl, dp_mono e2 hD, hf, fun v2 H3 e3 h3 => q2 _ _ H3 e3 rfl h3⟩
    have ssh : ∀ {f : Fm}, f.okW → SeqAt.shaped (.tuple ((sigs f).map pairD)) = true := fun {f} hf => shaped_fl (n := 2) (.tup (sigs_fl hf) (by unfold sigs; rw [List.length_map, List.length_map]; have := hf.kl; omega)) (by decide)
    have none1 : ¬(sigs b = sigs o ∧ sigs b = sigs t) → mrgF b o t = none := fun h => by
      unfold mrgF
      rw [if_neg h]
    refine q_when (et_or (et_test (ev_neEP (K := K) (sg oo (dp_mono e1 hO) rfl) (ep_var rfl hS) (ssh oo) (ssh ob))) fun _ => et_test (ev_neEP (K := K) (sg ot (dp_mono e1 hT) rfl) (ep_var rfl hS) (ssh ot) (ssh ob))) (fun h1 H2 e2 => ?_) fun h1 H2 e2 => ?_
    · refine s_ret ev_c fun H3 e3 => q _ _ ((e1.trans e2).trans e3) ?_
      rw [sig_eqv.1, sig_eqv.1] at h1
      rw [none1 fun h => by rw [decide_eq_true h.1.symm, decide_eq_true h.2.symm] at h1; cases h1]
      exact .non
    rw [sig_eqv.1, sig_eqv.1, Bool.or_eq_false_iff] at h1
    have hs1 : sigs b = sigs o := by
      have := h1.1
      simp at this
      exact this.symm
    have hs2 : sigs b = sigs t := by
      have := h1.2
      simp at this
      exact this.symm
    have E2 := e1.trans e2
    refine q_asgL (xs := []) (el_lst ea_nil (by decide)) fun pc H3 fpc e3 h3 => ?_
    have E3 := E2.trans e3
    have fc : H pc = none := fresh_back E2 fpc
    have hul := uniF_len b o t
    refine q_forNLn (xs := (uniF b o t).map V.str) (el_sortSetT (K := K) (zs := nmsC b ++ nmsC o ++ nmsC t) (by
      have nm : ∀ {f : Fm} {i : Nat} {v : V} {E : XK}, f.okW → Dp K H v f.d → ([some vb, some (.ref po), some vt, some vs, some (.ref pc), none, none, none, none] : L2.St)[i]? = some (some v) → ETu K (tCall (spNms K) [] E (tCons (tVar i) tNil)) [some vb, some (.ref po), some vt, some vs, some (.ref pc), none, none, none, none] H3 ((nmsC f).map V.str) := fun {f i v E} hf hD hσ => by
        have := hf.ln
        have z := eu_nms (K := K) (E := E) (ev_var hσ) (dp_mono E3 hD) (by omega)
        rw [show (f.cs.map fun c => V.str c.nm) = (nmsC f).map V.str by unfold nmsC; rw [List.map_map] <;> rfl] at z
        exact etu_u z
      rw [List.map_append, List.map_append]
      exact etu_cat (K := K) (etu_cat (K := K) (nm ob hB rfl) (nm oo hO rfl) (by unfold nmsC; simp; omega)) (nm ot hT rfl) (by unfold nmsC; simp; omega)) (by unfold nmsC; simp; omega) fun _ _ => trivial)
      (fun p k σ' H' => ∃ (x5 x6 x8 : Option V) (us : List V), σ' = [some vb, some (.ref po), some vt, some vs, some (.ref pc), x5, x6, none, x8] ∧ Ex H H' ∧ p ≠ pc ∧ H' p = some (.lst ((uniF b o t).map V.str)) ∧ H' pc = some (.lst us) ∧ DpAll K H' us ((colsZ b o t ((uniF b o t).take k)).map Co.d) ∧ ∀ z ∈ (uniF b o t).take k, clZ b o t z = false)
      (fun p H4 hp e4 h4 => ⟨_, _, _, [], rfl, E3.trans e4, fun z => (ne_of_none h3 hp) z.symm, h4, e4 _ _ h3, .nil, fun z hz => by simp at hz⟩) (fun p i σ' H' _ hP => by
        obtain ⟨_, _, _, _, _, _, _, h, _⟩ := hP
        exact sq_of h) (fun p i x σ' H' hx hP => ?_) fun p σ' H' hP => ?_
    · obtain ⟨x5, x6, x8, us, rfl, eH, npc, hp, hpc, hD, hno⟩ := hP
      rw [List.getElem?_map] at hx
      obtain ⟨z, hz⟩ : ∃ z, (uniF b o t)[i]? = some z := by
        cases h : (uniF b o t)[i]? with
        | none => rw [h] at hx; cases hx
        | some z => exact ⟨z, rfl⟩
      rw [hz] at hx
      obtain rfl := (Option.some.inj hx).symm
      have hzm := List.mem_of_getElem? hz
      have hi := (List.getElem?_eq_some_iff.mp hz).1
      have hcl := colsZ_len b o t ((uniF b o t).take i)
      rw [List.length_take] at hcl
      have hlu := co_len hD
      refine q_asgED (K := K) (ds := [optD (findC b.cs z), optD (findC o.cs z), optD (findC t.cs z)]) (edl_T (n := 1) (etu_u (eu_tup (ea_cons (ev_var rfl) (ea_cons (ev_var rfl) (ea_cons (ev_var rfl) ea_nil))) (by show 3 ≤ 100000; decide))) rfl (fun d hd => by
        simp only [List.mem_cons, List.not_mem_nil, or_false] at hd
        rcases hd with e | e | e <;> rw [e]
        · exact opt_fl ob z
        · exact opt_fl oo z
        · exact opt_fl ot z) (by show 3 ≤ 40000; decide) (fun x => rfl) fun k y d H4 hy hd e4 H5 e5 Q5 q5 => ?_) fun p6 us6 H4 fp6 e4 h6 d6 => ?_
      · have fd : ∀ {f : Fm} {v : V} {σ2 : L2.St}, f.okW → Dp K H v f.d → σ2[7]? = some (some v) → σ2[5]? = some (some (.str z)) → (∀ v2 d2 H2, Ex H5 H2 → d2 = optD (findC f.cs z) → Dp K H2 v2 d2 → Q5 v2 H2) → tCall (spFind K) [] E0 (tCons (tVar 7) (tCons (tVar 5) tNil)) σ2 H5 Q5 := fun {f v σ2} hf hDf h7 h5 q6 => by
          have := hf.ln
          refine call_run ?_
          refine cons_run (var_run h7 ?_)
          refine cons_run (var_run h5 ?_)
          exact ⟨f, v, z, rfl, dp_mono ((eH.trans e4).trans e5) hDf, by omega, fun v2 H6 e6 h6 => q6 v2 _ H6 e6 rfl h6⟩
        match k, hy, hd with
        | 0, hy, hd =>
          obtain rfl := Option.some.inj hy
          obtain rfl := Option.some.inj hd
          exact fd ob hB rfl rfl q5
        | 1, hy, hd =>
          obtain rfl := Option.some.inj hy
          obtain rfl := Option.some.inj hd
          exact fd oo hO rfl rfl q5
        | 2, hy, hd =>
          obtain rfl := Option.some.inj hy
          obtain rfl := Option.some.inj hd
          exact fd ot hT rfl rfl q5
      · obtain ⟨x0, x1, x2, rfl, y0, y1, y2⟩ := dpa_three d6
        have t0 := opt_th ob y0
        have t1 := opt_th oo y1
        have t2 := opt_th ot y2
        refine q_when (b := clZ b o t z) (et_B (ev_star (K := K) (ev_var rfl) (sq_of h6) (cv_clash t0 t1 t2))) (fun hc H5 e5 => ?_) fun hc H5 e5 => ?_
        · refine s_ret ev_c fun H6 e6 => q _ _ (((eH.trans e4).trans e5).trans e6) ?_
          have : mrgF b o t = none := by
            unfold mrgF
            rw [if_pos ⟨hs1, hs2⟩, if_pos (List.any_eq_true.mpr ⟨z, hzm, hc⟩)]
          rw [this]
          exact .non
        · refine q_asg (ev_star (K := K) (ev_var rfl) (sq_of (e5 _ _ h6)) (cv_choose (t0.mono e5) (t1.mono e5) (t2.mono e5))) fun H6 e6 => ?_
          have E6 := (e4.trans e5).trans e6
          have hch : Dp K H6 (if PyData.eqv (optD (findC o.cs z)) (optD (findC b.cs z)) = true then x2 else x1) (optD (chZ b o t z)) := by
            unfold chZ chO
            split
            · exact dp_mono (e5.trans e6) y2
            · exact dp_mono (e5.trans e6) y1
          generalize (if PyData.eqv (optD (findC o.cs z)) (optD (findC b.cs z)) = true then x2 else x1) = vc at hch
          have hno2 : ∀ y ∈ (uniF b o t).take (i + 1), clZ b o t y = false := fun y hy => by
            rw [List.take_add_one, hz] at hy
            rcases List.mem_append.mp hy with h | h
            · exact hno y h
            · have : y = z := by simpa using h
              rw [this]
              exact hc
          refine s_when (b := (chZ b o t z).isSome) (et_is (et_test (ev_isnt (ev_var rfl))) (by rw [opt_non hch]; cases chZ b o t z <;> rfl)) (fun hs H7 e7 => ?_) fun hs H7 e7 => ⟨_, _, _, us, rfl, (eH.trans E6).trans e7, npc, (E6.trans e7) _ _ hp, (E6.trans e7) _ _ hpc, ?_, hno2⟩
          · obtain ⟨c, hcc⟩ := Option.isSome_iff_exists.mp hs
            rw [hcc] at hch
            have E7 := E6.trans e7
            refine s_app (K := K) (E7 _ _ hpc) (ev_var rfl) (ev_var rfl) (by omega) fun H8 e8 => ?_
            have E8 := E7.trans e8
            have cok : c.ok := by
              have : c ∈ colsZ b o t [z] := by
                unfold colsZ
                exact List.mem_filterMap.mpr ⟨z, List.mem_singleton.mpr rfl, hcc⟩
              exact colsZ_ok ob oo ot c this
            obtain ⟨a1, _⟩ := col_app (E8 _ _ hpc) (dpa_mono E8 hD) (colsZ_ok ob oo ot) (dp_mono (e7.trans e8) hch) cok
            refine ⟨_, _, _, us ++ [vc], rfl, (eH.trans E8).mut fc, npc, by rw [upd_ne npc]; exact E8 _ _ hp, upd_same, ?_, hno2⟩
            rw [colsZ_succ hz, hcc]
            exact a1
          · have hn : chZ b o t z = none := by
              cases h : chZ b o t z with
              | none => rfl
              | some c =>
                rw [h] at hs
                cases hs
            rw [colsZ_succ hz, hn]
            show DpAll K H7 us ((_ ++ []).map Co.d)
            rw [List.append_nil]
            exact dpa_mono (E6.trans e7) hD
    · obtain ⟨x5, x6, x8, us, rfl, eH, npc, hp, hpc, hD, hno⟩ := hP
      rw [List.length_map, List.take_length] at hD hno
      have hlu := co_len hD
      have hcl := colsZ_len b o t (uniF b o t)
      have hany : ¬((uniF b o t).any (clZ b o t) = true) := fun h => by
        obtain ⟨z, hz, hc⟩ := List.any_eq_true.mp h
        rw [hno z hz] at hc
        cases hc
      refine q_when (b := decide (12 < (us.length : Int))) (et_test (ev_bin0 (ev_lenQ (K := K) (ev_var rfl) (sq_of hpc)) ev_c)) (fun hb H4 e4 => ?_) fun hb H4 e4 => ?_
      · refine s_ret ev_c fun H5 e5 => q _ _ ((eH.trans e4).trans e5) ?_
        have : mrgF b o t = none := by
          unfold mrgF
          rw [if_pos ⟨hs1, hs2⟩, if_neg hany, if_pos (by have := of_decide_eq_true hb; omega)]
        rw [this]
        exact .non
      · have hm : mrgF b o t = some ⟨colsZ b o t (uniF b o t), o.ks⟩ := by
          unfold mrgF
          rw [if_pos ⟨hs1, hs2⟩, if_neg hany, if_neg (by have := of_decide_eq_false hb; omega)]
        rw [hm] at q
        refine ret_run ?_
        refine tup_run ?_
        refine cons_run ?_
        refine eu_run (eu_ofL (K := K) (ev_var rfl) (sq_of (e4 _ _ hpc))) fun pt H5 _ e5 h5 => ?_
        refine cons_run ?_
        refine ev_run (ev_ixT (K := K) (ev_var rfl) ev_c (ex_t ((eH.trans e4).trans e5) ho1) (at_nat (j := 1) rfl)) fun H6 e6 => ⟨(by show 2 ≤ sizeLine; decide), fun r hr => q _ _ (((eH.trans e4).trans (e5.trans e6)).trans (Ex.new hr)) ?_⟩
        exact fm_mk (st_of upd_same) (.tup (st_of (((e6.trans (Ex.new hr)) _ _ h5))) (dpa_mono ((e4.trans (e5.trans e6)).trans (Ex.new hr)) hD)) (.tup (ex_t (((eH.trans e4).trans (e5.trans e6)).trans (Ex.new hr)) ho4) (dpa_strs o.ks))


/-! ### law -/
theorem fl_gd : ∀ {n : Nat} {d : PyData}, Fl n d → Gd n d
  | _, _, .non n => .non n
  | _, _, .int n i => .int n i
  | _, _, .str n _ => .str n _
  | _, _, .tup h hl => .tup (fun d hd => fl_gd (h d hd)) (by omega)
theorem gd_fm {cs : List Co} {ks : List Str} (h : ∀ c ∈ cs, c.ok) (hl : cs.length ≤ 40000) (hk : ks.length ≤ 40000) : Gd 3 (Fm.mk cs ks).d := by
  refine .tup (fun d hd => ?_) (by show 2 ≤ _; decide)
  simp only [List.mem_cons, List.not_mem_nil, or_false] at hd
  rcases hd with e | e
  · rw [e]
    refine .tup (fun d hd => ?_) (by rw [List.length_map]; exact hl)
    obtain ⟨c, hc, rfl⟩ := List.mem_map.mp hd
    exact (fl_gd (h c hc).fl)
  · rw [e]
    refine .tup (fun d hd => ?_) (by rw [List.length_map]; exact hk)
    obtain ⟨z, _, rfl⟩ := List.mem_map.mp hd
    exact .str 1 z
theorem gd_mf {b o t : Fm} (hb : b.okW) (ho : o.okW) (ht : t.okW) : Gd 3 (optF (mrgF b o t)) := by
  unfold mrgF
  split
  · split
    · exact .non 3
    · split
      · exact .non 3
      · rename_i h
        exact gd_fm (colsZ_ok hb ho ht) (by omega) (by have := ho.kl; omega)
  · exact .non 3
theorem ev_sameP {K : PySem.W.Frag} {ta tb : TE} {σ : L2.St} {H : Hp} {n : Nat} {d : PyData} {E : XK} (ha : EP K ta σ H (· = d)) (hb : EP K tb σ H (· = d)) (hg : Gd n d) : Ev (tCall (spSameG K n) [] E (tCons ta (tCons tb tNil))) σ H (.bl true) := by
  intro H1 e1 Q q
  refine call_run ?_
  refine cons_run ?_
  refine ha H1 e1 _ fun u du H2 e2 hdu hu => ?_
  refine cons_run ?_
  refine hb H2 (e1.trans e2) _ fun v dv H3 e3 hdv hv => ?_
  exact ⟨u, v, d, rfl, by rw [← show du = d from hdu]; exact dp_mono e3 hu, by rw [← show dv = d from hdv]; exact hv, hg, fun H4 e4 => q H4 ((e2.trans e3).trans e4)⟩
theorem ep_mf {K : PySem.W.Frag} {i j k : Nat} {σ : L2.St} {H : Hp} {b o t : Fm} {vb vo vt : V} {E : XK} (hB : Dp K H vb b.d) (hO : Dp K H vo o.d) (hT : Dp K H vt t.d) (ob : b.okW) (oo : o.okW) (ot : t.okW) (hi : σ[i]? = some (some vb)) (hj : σ[j]? = some (some vo)) (hk : σ[k]? = some (some vt)) :
    EP K (tCall (spMF K) [] E (tCons (tVar i) (tCons (tVar j) (tCons (tVar k) tNil)))) σ H (· = optF (mrgF b o t)) := by
  intro H1 e1 Q q
  refine call_run ?_
  refine cons_run (var_run hi ?_)
  refine cons_run (var_run hj ?_)
  refine cons_run (var_run hk ?_)
  exact ⟨b, o, t, vb, vo, vt, rfl, dp_mono e1 hB, dp_mono e1 hO, dp_mono e1 hT, ob, oo, ot, fun v H2 e2 h2 => q v _ H2 e2 rfl h2⟩
def spLaw (K : PySem.W.Frag) (P : Addr) : Sp := fun vs H Q _ => ∃ (a : Addr) (ns : List Int), vs = [.ref a] ∧ SqL K H a (ns.map V.int) ∧ ns.length ≤ 63 ∧ (∀ z ∈ ns, Builtin.Int.intBits z ≤ 1048576) ∧ H P = some (.tbl #[]) ∧ ∀ H', Q (.bl true) H'
set_option maxHeartbeats 4000000 in
theorem ok_law (T : Txt K mg base) : FnOk P w K mg base CX0 7 T.f_law T.d_law ["script"] (spLaw K T.P_law_in_columns) := by
  refine T.F_law.ok sc_law (fun vs H Q E h => ?_) (fun cdv A outer s H vs Q E hr h => ?_)
  · obtain ⟨a, ns, rfl, _⟩ := h
    rfl
  · obtain ⟨a, ns, rfl, hS, hlen, hbits, hP, q⟩ := h
    have hw : ∀ n ∈ ns, Wd n := fun n hn => Wd.bits (hbits n hn)
    have cl : ∀ {H' : Hp} {σ : L2.St} {E : XK} {k : Nat}, LamX.ExtN H H' → σ[0]? = some (some (V.ref a)) → Ev (tCall (sp_cell K) [] E (tCons (tVar 0) (tCons (tC (.int (k : Int))) tNil))) σ H' (.int (cellZ ns k)) := fun e hσ => ev_call (ea_cons (ev_var hσ) (ea_cons ev_c ea_nil)) (cv_cell (xn_l e hS))
    refine ⟨_, pss_cons (ps_set (i := 1) sc_law.nd rfl (by first | exact Or.inl rfl | exact Or.inr rfl) (pe_call (ok_law_base T) (hr.mono (by first | decide | omega)) (by rfl) T.g_law_base T.F_law_base.kp T.b_law_base .nil pass0 (pa_cons (pe_call (ok_law_numbers T) (hr.mono (by first | decide | omega)) (by rfl) T.g_law_numbers T.F_law_numbers.kp T.b_law_numbers .nil pass0 (pa_cons (pe_call (ok_law_cell T) (hr.mono (by first | decide | omega)) (by rfl) T.g_law_cell T.F_law_cell.kp T.b_law_cell .nil pass0 (pa_cons (pv 0) (pa_cons (pe_int) (pa_nil)))) (pa_cons (pe_int) (pa_nil)))) (pa_nil))))
      (pss_cons (ps_set (i := 2) sc_law.nd rfl (by first | exact Or.inl rfl | exact Or.inr rfl) (pe_call (ok_law_numbers T) (hr.mono (by first | decide | omega)) (by rfl) T.g_law_numbers T.F_law_numbers.kp T.b_law_numbers .nil pass0 (pa_cons (pe_call (ok_law_cell T) (hr.mono (by first | decide | omega)) (by rfl) T.g_law_cell T.F_law_cell.kp T.b_law_cell .nil pass0 (pa_cons (pv 0) (pa_cons (pe_int) (pa_nil)))) (pa_cons (pe_int) (pa_nil)))))
      (pss_cons (ps_set (i := 3) sc_law.nd rfl (by first | exact Or.inl rfl | exact Or.inr rfl) (pe_call (ok_law_side T) (hr.mono (by first | decide | omega)) (by rfl) T.g_law_side T.F_law_side.kp T.b_law_side .nil pass0 (pa_cons (pv 1) (pa_cons (pv 0) (pa_cons (pe_int) (pa_cons (pe_op op_mod (pe_ix (r := rIxL K) ix_list (pv 2) (pe_int) (fun _ _ => rfl)) (pe_int)) (pa_nil)))))))
      (pss_cons (ps_set (i := 4) sc_law.nd rfl (by first | exact Or.inl rfl | exact Or.inr rfl) (pv 1))
      (pss_cons (ps_if (pt_cmpR op_eq (pe_op op_mod (pe_ix (r := rIxL K) ix_list (pv 2) (pe_int) (fun _ _ => rfl)) (pe_int)) (pe_int) (nomark _))
      (pss_one (ps_set (i := 4) sc_law.nd rfl (by first | exact Or.inl rfl | exact Or.inr rfl) (pv 3)))
      (pss_nil))
      (pss_cons (ps_set (i := 5) sc_law.nd rfl (by first | exact Or.inl rfl | exact Or.inr rfl) (pe_call (ok_law_rekeyed T) (hr.mono (by first | decide | omega)) (by rfl) T.g_law_rekeyed T.F_law_rekeyed.kp T.b_law_rekeyed .nil pass0 (pa_cons (pe_call (ok_law_side T) (hr.mono (by first | decide | omega)) (by rfl) T.g_law_side T.F_law_side.kp T.b_law_side .nil pass0 (pa_cons (pv 4) (pa_cons (pv 0) (pa_cons (pe_int) (pa_cons (pe_op op_mod (pe_ix (r := rIxL K) ix_list (pv 2) (pe_int) (fun _ _ => rfl)) (pe_int)) (pa_nil)))))) (pa_cons (pe_slice (r := rSlL K) sl_list (pv 2) (po_some (pe_int)) (po_none)) (pa_nil)))))
      (pss_cons (ps_set (i := 6) sc_law.nd rfl (by first | exact Or.inl rfl | exact Or.inr rfl) (pe_call (ok_law_due T) (hr.mono (by first | decide | omega)) (by rfl) T.g_law_due T.F_law_due.kp T.b_law_due .nil pass0 (pa_cons (pv 1) (pa_cons (pv 3) (pa_cons (pv 5) (pa_nil))))))
      (pss_cons (ps_if (pt_not (pt_val (pe_call (ok_law_same T) (hr.mono (by first | decide | omega)) (by rfl) T.g_law_same T.F_law_same.kp T.b_law_same .nil pass0 (pa_cons (pe_call (ok_merge_forms T) (hr.mono (by first | decide | omega)) (by rfl) T.g_merge_forms T.F_merge_forms.kp T.b_merge_forms .nil pass0 (pa_cons (pv 1) (pa_cons (pv 3) (pa_cons (pv 5) (pa_nil))))) (pa_cons (pv 6) (pa_nil))))))
      (pss_one (ps_ret (pe_bl)))
      (pss_nil))
      (pss_one (ps_ret (pe_and (pe_call (ok_law_same T) (hr.mono (by first | decide | omega)) (by rfl) T.g_law_same T.F_law_same.kp T.b_law_same .nil pass0 (pa_cons (pe_call (ok_merge_forms T) (hr.mono (by first | decide | omega)) (by rfl) T.g_merge_forms T.F_merge_forms.kp T.b_merge_forms .nil pass0 (pa_cons (pv 1) (pa_cons (pv 5) (pa_cons (pv 3) (pa_nil))))) (pa_cons (pv 6) (pa_nil)))) (pe_one (pe_call (ok_law_same T) (hr.mono (by first | decide | omega)) (by rfl) T.g_law_same T.F_law_same.kp T.b_law_same .nil pass0 (pa_cons (pe_call (ok_merge_forms T) (hr.mono (by first | decide | omega)) (by rfl) T.g_merge_forms T.F_merge_forms.kp T.b_merge_forms .nil pass0 (pa_cons (pv 1) (pa_cons (pv 1) (pa_cons (pv 3) (pa_nil))))) (pa_cons (pv 3) (pa_nil))))))))))))))), ?_⟩
    refine q_asgK ?_
    refine call_run ?_
    refine cons_run ?_
    refine call_run ?_
    refine cons_run ?_
    refine ev_run (cl (k := 0) (Ex.xn (Ex.refl H)) rfl) fun H1 e1 => ?_
    refine ⟨_, 20, rfl, Wd.cell hw 0, by decide, fun p ms H2 _ e2 hms hl hr20 => ?_⟩
    have E2 := e1.trans e2
    refine ⟨p, ms, rfl, sq_of hms, hl, hr20, E2 _ _ hP, fun vb f H3 x3 tab hok hB => ?_⟩
    have X3 := (Ex.xn E2).trans x3
    -- the numbers
    refine q_asgK ?_
    refine call_run ?_
    refine cons_run ?_
    refine ev_run (cl (k := 1) X3 rfl) fun H4 e4 => ?_
    refine ⟨_, 6, rfl, Wd.cell hw 1, by decide, fun pn mn H5 _ e5 hmn hl6 hr6 => ?_⟩
    obtain ⟨m0, m1, m2, m3, m4, m5, rfl⟩ : ∃ m0 m1 m2 m3 m4 m5, mn = [m0, m1, m2, m3, m4, m5] := by
      match mn, hl6 with
      | [x0, x1, x2, x3, x4, x5], _ => exact ⟨x0, x1, x2, x3, x4, x5, rfl⟩
    have E5 := e4.trans e5
    have num : ∀ {H' : Hp} {σ : L2.St} {k : Nat} {m d : Int}, Ex H5 H' → σ[2]? = some (some (V.ref pn)) → ([V.int m0, .int m1, .int m2, .int m3, .int m4, .int m5] : List V)[k]? = some (.int m) → 0 < d → Ev (tOp (rI (fun _ j => 0 < j) fun i j => V.int (i % j)) (tOp (rIxL K) (tVar 2) (tC (.int (k : Int)))) (tC (.int d))) σ H' (.int (m % d)) := fun e h2 hk hd => ev_bin (ev_ixL (K := K) (ev_var h2) ev_c (sq_of (e _ _ hmn)) (at_nat hk)) ev_c hd
    have a0 := Int.emod_nonneg m0 (by decide : (7 : Int) ≠ 0)
    have a1 := Int.emod_lt_of_pos m0 (by decide : (0 : Int) < 7)
    have b0 := Int.emod_nonneg m1 (by decide : (7 : Int) ≠ 0)
    have b1 := Int.emod_lt_of_pos m1 (by decide : (0 : Int) < 7)
    -- our form
    refine q_asgK ?_
    refine call_run ?_
    refine cons_run (var_run rfl ?_)
    refine cons_run (var_run rfl ?_)
    refine cons_run (c_run ?_)
    refine cons_run ?_
    refine ev_run (num (k := 0) (Ex.refl H5) rfl rfl (by decide)) fun H6 e6 => ?_
    have E6 := E5.trans e6
    refine ⟨vb, f, a, ns, 2, (m0 % 7).toNat, ?_, dp_mono E6 hB, hok, xn_l (X3.trans (Ex.xn E6)) hS, hw, by decide, by omega, tab.mono E6, fun vo fo H7 e7 hoko hks hko hO => ?_⟩
    · rw [Int.toNat_of_nonneg (by omega)] <;> rfl
    have E7 := E6.trans e7
    -- where theirs begins
    refine q_asg (ev_var rfl) fun H8 e8 => ?_
    have E8 := E7.trans e8
    obtain ⟨vs, fs, hv, hDs, hoks⟩ : ∃ vs fs, (if m3 % 4 = 1 then vo else vb) = vs ∧ Dp K H8 vs (Fm.d fs) ∧ fs.ok := by
      by_cases h : m3 % 4 = 1
      · exact ⟨vo, fo, if_pos h, dp_mono e8 hO, hoko⟩
      · exact ⟨vb, f, if_neg h, dp_mono E8 hB, hok⟩
    refine q_ifAsg (v := vs) (b := decide (m3 % 4 = 1)) (et_test (ev_eqI (num (k := 3) ((e6.trans e7).trans e8) rfl rfl (by decide)) ev_c)) (fun hb => by
      rw [← hv, if_pos (of_decide_eq_true hb)]
      exact ev_var rfl) (fun hb => by
      rw [← hv, if_neg (of_decide_eq_false hb)] <;> rfl) fun H9 e9 => ?_
    have E9 := E8.trans e9
    -- their form
    refine q_asgK ?_
    refine call_run ?_
    refine cons_run ?_
    refine call_run ?_
    refine cons_run (var_run rfl ?_)
    refine cons_run (var_run rfl ?_)
    refine cons_run (c_run ?_)
    refine cons_run ?_
    refine ev_run (num (k := 1) (((e6.trans e7).trans e8).trans e9) rfl rfl (by decide)) fun H10 e10 => ?_
    have E10 := E9.trans e10
    refine ⟨vs, fs, a, ns, 8, (m1 % 7).toNat, ?_, dp_mono (e9.trans e10) hDs, hoks, xn_l (X3.trans (Ex.xn E10)) hS, hw, by decide, by omega, tab.mono E10, fun v2 f2 H11 e11 hok2 _ _ hD2 => ?_⟩
    · rw [Int.toNat_of_nonneg (by omega)] <;> rfl
    have E11 := E10.trans e11
    refine cons_run ?_
    refine el_run (el_sl (K := K) (ev_var rfl) (eo_some ev_c) eo_none (sq_of ((((((e6.trans e7).trans e8).trans e9).trans e10).trans e11) _ _ hmn))) fun p12 H12 _ e12 h12 => ?_
    have E12 := E11.trans e12
    refine ⟨v2, f2, p12, [m4, m5], rfl, dp_mono e12 hD2, hok2, sq_of h12, rfl, tab.mono E12, fun vt ft H13 e13 hokt hT => ?_⟩
    have E13 := E12.trans e13
    have F13 := ((((e8.trans e9).trans e10).trans e11).trans e12).trans e13
    -- what is due
    refine q_asgK ?_
    refine call_run ?_
    refine cons_run (var_run rfl ?_)
    refine cons_run (var_run rfl ?_)
    refine cons_run (var_run rfl ?_)
    refine ⟨f, fo, ft, vb, vo, vt, rfl, dp_mono E13 hB, dp_mono F13 hO, hT, hok.w, hoko.w, hokt, fun vd H14 e14 hd => ?_⟩
    have DB := dp_mono (E13.trans e14) hB
    have DO := dp_mono (F13.trans e14) hO
    have DT := dp_mono e14 hT
    have g1 := (gd_mf hok.w hoko.w hokt).mono2 (by decide : 3 ≤ 4)
    refine q_when (b := false) (et_is (et_not (et_B (ev_sameP (d := optF (mrgF f fo ft)) (ep_mf DB DO DT hok.w hoko.w hokt rfl rfl rfl) (ep_var rfl hd) g1))) rfl) (fun z => nomatch z) fun _ H15 e15 => ?_
    have p1 := ep_mf (K := K) (E := E0) (σ := [some (.ref a), some vb, some (.ref pn), some vo, some vs, some vt, some vd]) (i := 1) (j := 5) (k := 3) (dp_mono e15 DB) (dp_mono e15 DT) (dp_mono e15 DO) hok.w hokt hoko.w rfl rfl rfl
    rw [mrgF_sym hok.w hoko.w hokt] at p1
    refine s_ret (v := .bl true) (ev_is (ev_andV (a := true) (b := true) (ev_sameP (d := optF (mrgF f fo ft)) p1 (ep_var rfl (dp_mono e15 hd)) g1) fun _ => ?_) rfl) fun H16 e16 => q H16
    have p2 := ep_mf (K := K) (E := E0) (σ := [some (.ref a), some vb, some (.ref pn), some vo, some vs, some vt, some vd]) (i := 1) (j := 1) (k := 3) (dp_mono e15 DB) (dp_mono e15 DB) (dp_mono e15 DO) hok.w hok.w hoko.w rfl rfl rfl
    rw [mrgF_one hok hoko hks hko] at p2
    exact ev_sameP (d := fo.d) p2 (ep_var rfl (dp_mono e15 DO)) ((gd_fm (cs := fo.cs) (ks := fo.ks) hoko.cs (by have := hoko.ln; omega) (by have := hoko.kl; omega)).mono2 (by decide : 3 ≤ 4))


end

def pOf (o : Obj) : Option Addr := match o.data with
  | .fields vs => (match (vs[11]? : Option Value) with
    | some (.ref P) => some P
    | _ => none)
  | _ => none

theorem all_mk {l : PySem.W.OpenLaw} {w : World} {K : PySem.W.Frag} {h : Heap} {mg : Str → Option Value} {fa f_law_text f_law_value f_law_column f_law_in_columns f_law_base f_law_cell f_law_found f_law_due f_law_numbers f_law_rekeyed f_law_same f_law_changed f_law_side f_choose f_clash f_column_names f_find_column f_key_signature f_merge_forms f_law : Addr} {od_law_text an_law_text : Option Addr} {sl_law_text : Array (Option Value)} {oc_law_text kV_law_text dc_law_text pm_law_text cd_law_text ct_law_text : Value}
    {od_law_value an_law_value : Option Addr} {sl_law_value : Array (Option Value)} {oc_law_value kV_law_value dc_law_value pm_law_value cd_law_value ct_law_value : Value}
    {od_law_column an_law_column : Option Addr} {sl_law_column : Array (Option Value)} {oc_law_column kV_law_column dc_law_column pm_law_column cd_law_column ct_law_column : Value}
    {od_law_in_columns an_law_in_columns : Option Addr} {sl_law_in_columns : Array (Option Value)} {oc_law_in_columns kV_law_in_columns dc_law_in_columns pm_law_in_columns ct_law_in_columns : Value}
    {od_law_base an_law_base : Option Addr} {sl_law_base : Array (Option Value)} {oc_law_base kV_law_base dc_law_base pm_law_base cd_law_base ct_law_base : Value}
    {od_law_cell an_law_cell : Option Addr} {sl_law_cell : Array (Option Value)} {oc_law_cell kV_law_cell dc_law_cell pm_law_cell cd_law_cell ct_law_cell : Value}
    {od_law_found an_law_found : Option Addr} {sl_law_found : Array (Option Value)} {oc_law_found kV_law_found dc_law_found pm_law_found cd_law_found ct_law_found : Value}
    {od_law_due an_law_due : Option Addr} {sl_law_due : Array (Option Value)} {oc_law_due kV_law_due dc_law_due pm_law_due cd_law_due ct_law_due : Value}
    {od_law_numbers an_law_numbers : Option Addr} {sl_law_numbers : Array (Option Value)} {oc_law_numbers kV_law_numbers dc_law_numbers pm_law_numbers cd_law_numbers ct_law_numbers : Value}
    {od_law_rekeyed an_law_rekeyed : Option Addr} {sl_law_rekeyed : Array (Option Value)} {oc_law_rekeyed kV_law_rekeyed dc_law_rekeyed pm_law_rekeyed cd_law_rekeyed ct_law_rekeyed : Value}
    {od_law_same an_law_same : Option Addr} {sl_law_same : Array (Option Value)} {oc_law_same kV_law_same dc_law_same pm_law_same cd_law_same ct_law_same : Value}
    {od_law_changed an_law_changed : Option Addr} {sl_law_changed : Array (Option Value)} {oc_law_changed kV_law_changed dc_law_changed pm_law_changed cd_law_changed ct_law_changed : Value}
    {od_law_side an_law_side : Option Addr} {sl_law_side : Array (Option Value)} {oc_law_side kV_law_side dc_law_side pm_law_side cd_law_side ct_law_side : Value}
    {od_choose an_choose : Option Addr} {sl_choose : Array (Option Value)} {oc_choose kV_choose dc_choose pm_choose cd_choose ct_choose : Value}
    {od_clash an_clash : Option Addr} {sl_clash : Array (Option Value)} {oc_clash kV_clash dc_clash pm_clash cd_clash ct_clash : Value}
    {od_column_names an_column_names : Option Addr} {sl_column_names : Array (Option Value)} {oc_column_names kV_column_names dc_column_names pm_column_names cd_column_names ct_column_names : Value}
    {od_find_column an_find_column : Option Addr} {sl_find_column : Array (Option Value)} {oc_find_column kV_find_column dc_find_column pm_find_column cd_find_column ct_find_column : Value}
    {od_key_signature an_key_signature : Option Addr} {sl_key_signature : Array (Option Value)} {oc_key_signature kV_key_signature dc_key_signature pm_key_signature cd_key_signature ct_key_signature : Value}
    {od_merge_forms an_merge_forms : Option Addr} {sl_merge_forms : Array (Option Value)} {oc_merge_forms kV_merge_forms dc_merge_forms pm_merge_forms cd_merge_forms ct_merge_forms : Value}
    {od_law an_law : Option Addr} {sl_law : Array (Option Value)} {oc_law kV_law dc_law pm_law cd_law ct_law : Value}
    {t_MOST_COLUMNS : Tok}
    {cc_law_in_columns P_law_in_columns : Addr} {oK_law_in_columns : Obj} (X : K.In h) (G : h.Ns mainGlobals mg) (hfa : mg "law" = some (.ref fa))
    (a_law_text : PySem.W.nsIn K mainGlobals "_law_text" = some (some (.ref f_law_text))) (l_law_text : K.lookup f_law_text = some ⟨oc_law_text, od_law_text, .func (PySem.W.fnOf "_law_text" "_law_text" (defArgs s_law_text) (defBody s_law_text) (defScope s_law_text) .none kV_law_text dc_law_text pm_law_text an_law_text cd_law_text ct_law_text), sl_law_text⟩) (c_law_text : PySem.W.codeIn K cd_law_text "_law_text" = true) (k_law_text : PySem.W.keepIn K (.ref f_law_text) = true)
    (a_law_value : PySem.W.nsIn K mainGlobals "_law_value" = some (some (.ref f_law_value))) (l_law_value : K.lookup f_law_value = some ⟨oc_law_value, od_law_value, .func (PySem.W.fnOf "_law_value" "_law_value" (defArgs s_law_value) (defBody s_law_value) (defScope s_law_value) .none kV_law_value dc_law_value pm_law_value an_law_value cd_law_value ct_law_value), sl_law_value⟩) (c_law_value : PySem.W.codeIn K cd_law_value "_law_value" = true) (k_law_value : PySem.W.keepIn K (.ref f_law_value) = true)
    (a_law_column : PySem.W.nsIn K mainGlobals "_law_column" = some (some (.ref f_law_column))) (l_law_column : K.lookup f_law_column = some ⟨oc_law_column, od_law_column, .func (PySem.W.fnOf "_law_column" "_law_column" (defArgs s_law_column) (defBody s_law_column) (defScope s_law_column) .none kV_law_column dc_law_column pm_law_column an_law_column cd_law_column ct_law_column), sl_law_column⟩) (c_law_column : PySem.W.codeIn K cd_law_column "_law_column" = true) (k_law_column : PySem.W.keepIn K (.ref f_law_column) = true)
    (a_law_in_columns : PySem.W.nsIn K mainGlobals "_law_in_columns" = some (some (.ref f_law_in_columns))) (l_law_in_columns : K.lookup f_law_in_columns = some ⟨oc_law_in_columns, od_law_in_columns, .func (PySem.W.fnOf "_law_in_columns" "_law_in_columns" (defArgs s_law_in_columns) (defBody s_law_in_columns) (defScope s_law_in_columns) .none kV_law_in_columns dc_law_in_columns pm_law_in_columns an_law_in_columns (.ref cc_law_in_columns) ct_law_in_columns), sl_law_in_columns⟩) (c_law_in_columns : PySem.W.codeIn K (.ref cc_law_in_columns) "_law_in_columns" = true) (k_law_in_columns : PySem.W.keepIn K (.ref f_law_in_columns) = true)
    (a_law_base : PySem.W.nsIn K mainGlobals "_law_base" = some (some (.ref f_law_base))) (l_law_base : K.lookup f_law_base = some ⟨oc_law_base, od_law_base, .func (PySem.W.fnOf "_law_base" "_law_base" (defArgs s_law_base) (defBody s_law_base) (defScope s_law_base) .none kV_law_base dc_law_base pm_law_base an_law_base cd_law_base ct_law_base), sl_law_base⟩) (c_law_base : PySem.W.codeIn K cd_law_base "_law_base" = true) (k_law_base : PySem.W.keepIn K (.ref f_law_base) = true)
    (a_law_cell : PySem.W.nsIn K mainGlobals "_law_cell" = some (some (.ref f_law_cell))) (l_law_cell : K.lookup f_law_cell = some ⟨oc_law_cell, od_law_cell, .func (PySem.W.fnOf "_law_cell" "_law_cell" (defArgs s_law_cell) (defBody s_law_cell) (defScope s_law_cell) .none kV_law_cell dc_law_cell pm_law_cell an_law_cell cd_law_cell ct_law_cell), sl_law_cell⟩) (c_law_cell : PySem.W.codeIn K cd_law_cell "_law_cell" = true) (k_law_cell : PySem.W.keepIn K (.ref f_law_cell) = true)
    (a_law_found : PySem.W.nsIn K mainGlobals "_law_found" = some (some (.ref f_law_found))) (l_law_found : K.lookup f_law_found = some ⟨oc_law_found, od_law_found, .func (PySem.W.fnOf "_law_found" "_law_found" (defArgs s_law_found) (defBody s_law_found) (defScope s_law_found) .none kV_law_found dc_law_found pm_law_found an_law_found cd_law_found ct_law_found), sl_law_found⟩) (c_law_found : PySem.W.codeIn K cd_law_found "_law_found" = true) (k_law_found : PySem.W.keepIn K (.ref f_law_found) = true)
    (a_law_due : PySem.W.nsIn K mainGlobals "_law_due" = some (some (.ref f_law_due))) (l_law_due : K.lookup f_law_due = some ⟨oc_law_due, od_law_due, .func (PySem.W.fnOf "_law_due" "_law_due" (defArgs s_law_due) (defBody s_law_due) (defScope s_law_due) .none kV_law_due dc_law_due pm_law_due an_law_due cd_law_due ct_law_due), sl_law_due⟩) (c_law_due : PySem.W.codeIn K cd_law_due "_law_due" = true) (k_law_due : PySem.W.keepIn K (.ref f_law_due) = true)
    (a_law_numbers : PySem.W.nsIn K mainGlobals "_law_numbers" = some (some (.ref f_law_numbers))) (l_law_numbers : K.lookup f_law_numbers = some ⟨oc_law_numbers, od_law_numbers, .func (PySem.W.fnOf "_law_numbers" "_law_numbers" (defArgs s_law_numbers) (defBody s_law_numbers) (defScope s_law_numbers) .none kV_law_numbers dc_law_numbers pm_law_numbers an_law_numbers cd_law_numbers ct_law_numbers), sl_law_numbers⟩) (c_law_numbers : PySem.W.codeIn K cd_law_numbers "_law_numbers" = true) (k_law_numbers : PySem.W.keepIn K (.ref f_law_numbers) = true)
    (a_law_rekeyed : PySem.W.nsIn K mainGlobals "_law_rekeyed" = some (some (.ref f_law_rekeyed))) (l_law_rekeyed : K.lookup f_law_rekeyed = some ⟨oc_law_rekeyed, od_law_rekeyed, .func (PySem.W.fnOf "_law_rekeyed" "_law_rekeyed" (defArgs s_law_rekeyed) (defBody s_law_rekeyed) (defScope s_law_rekeyed) .none kV_law_rekeyed dc_law_rekeyed pm_law_rekeyed an_law_rekeyed cd_law_rekeyed ct_law_rekeyed), sl_law_rekeyed⟩) (c_law_rekeyed : PySem.W.codeIn K cd_law_rekeyed "_law_rekeyed" = true) (k_law_rekeyed : PySem.W.keepIn K (.ref f_law_rekeyed) = true)
    (a_law_same : PySem.W.nsIn K mainGlobals "_law_same" = some (some (.ref f_law_same))) (l_law_same : K.lookup f_law_same = some ⟨oc_law_same, od_law_same, .func (PySem.W.fnOf "_law_same" "_law_same" (defArgs s_law_same) (defBody s_law_same) (defScope s_law_same) .none kV_law_same dc_law_same pm_law_same an_law_same cd_law_same ct_law_same), sl_law_same⟩) (c_law_same : PySem.W.codeIn K cd_law_same "_law_same" = true) (k_law_same : PySem.W.keepIn K (.ref f_law_same) = true)
    (a_law_changed : PySem.W.nsIn K mainGlobals "_law_changed" = some (some (.ref f_law_changed))) (l_law_changed : K.lookup f_law_changed = some ⟨oc_law_changed, od_law_changed, .func (PySem.W.fnOf "_law_changed" "_law_changed" (defArgs s_law_changed) (defBody s_law_changed) (defScope s_law_changed) .none kV_law_changed dc_law_changed pm_law_changed an_law_changed cd_law_changed ct_law_changed), sl_law_changed⟩) (c_law_changed : PySem.W.codeIn K cd_law_changed "_law_changed" = true) (k_law_changed : PySem.W.keepIn K (.ref f_law_changed) = true)
    (a_law_side : PySem.W.nsIn K mainGlobals "_law_side" = some (some (.ref f_law_side))) (l_law_side : K.lookup f_law_side = some ⟨oc_law_side, od_law_side, .func (PySem.W.fnOf "_law_side" "_law_side" (defArgs s_law_side) (defBody s_law_side) (defScope s_law_side) .none kV_law_side dc_law_side pm_law_side an_law_side cd_law_side ct_law_side), sl_law_side⟩) (c_law_side : PySem.W.codeIn K cd_law_side "_law_side" = true) (k_law_side : PySem.W.keepIn K (.ref f_law_side) = true)
    (a_choose : PySem.W.nsIn K mainGlobals "choose" = some (some (.ref f_choose))) (l_choose : K.lookup f_choose = some ⟨oc_choose, od_choose, .func (PySem.W.fnOf "choose" "choose" (defArgs s_choose) (defBody s_choose) (defScope s_choose) .none kV_choose dc_choose pm_choose an_choose cd_choose ct_choose), sl_choose⟩) (c_choose : PySem.W.codeIn K cd_choose "choose" = true) (k_choose : PySem.W.keepIn K (.ref f_choose) = true)
    (a_clash : PySem.W.nsIn K mainGlobals "clash" = some (some (.ref f_clash))) (l_clash : K.lookup f_clash = some ⟨oc_clash, od_clash, .func (PySem.W.fnOf "clash" "clash" (defArgs s_clash) (defBody s_clash) (defScope s_clash) .none kV_clash dc_clash pm_clash an_clash cd_clash ct_clash), sl_clash⟩) (c_clash : PySem.W.codeIn K cd_clash "clash" = true) (k_clash : PySem.W.keepIn K (.ref f_clash) = true)
    (a_column_names : PySem.W.nsIn K mainGlobals "column_names" = some (some (.ref f_column_names))) (l_column_names : K.lookup f_column_names = some ⟨oc_column_names, od_column_names, .func (PySem.W.fnOf "column_names" "column_names" (defArgs s_column_names) (defBody s_column_names) (defScope s_column_names) .none kV_column_names dc_column_names pm_column_names an_column_names cd_column_names ct_column_names), sl_column_names⟩) (c_column_names : PySem.W.codeIn K cd_column_names "column_names" = true) (k_column_names : PySem.W.keepIn K (.ref f_column_names) = true)
    (a_find_column : PySem.W.nsIn K mainGlobals "find_column" = some (some (.ref f_find_column))) (l_find_column : K.lookup f_find_column = some ⟨oc_find_column, od_find_column, .func (PySem.W.fnOf "find_column" "find_column" (defArgs s_find_column) (defBody s_find_column) (defScope s_find_column) .none kV_find_column dc_find_column pm_find_column an_find_column cd_find_column ct_find_column), sl_find_column⟩) (c_find_column : PySem.W.codeIn K cd_find_column "find_column" = true) (k_find_column : PySem.W.keepIn K (.ref f_find_column) = true)
    (a_key_signature : PySem.W.nsIn K mainGlobals "key_signature" = some (some (.ref f_key_signature))) (l_key_signature : K.lookup f_key_signature = some ⟨oc_key_signature, od_key_signature, .func (PySem.W.fnOf "key_signature" "key_signature" (defArgs s_key_signature) (defBody s_key_signature) (defScope s_key_signature) .none kV_key_signature dc_key_signature pm_key_signature an_key_signature cd_key_signature ct_key_signature), sl_key_signature⟩) (c_key_signature : PySem.W.codeIn K cd_key_signature "key_signature" = true) (k_key_signature : PySem.W.keepIn K (.ref f_key_signature) = true)
    (a_merge_forms : PySem.W.nsIn K mainGlobals "merge_forms" = some (some (.ref f_merge_forms))) (l_merge_forms : K.lookup f_merge_forms = some ⟨oc_merge_forms, od_merge_forms, .func (PySem.W.fnOf "merge_forms" "merge_forms" (defArgs s_merge_forms) (defBody s_merge_forms) (defScope s_merge_forms) .none kV_merge_forms dc_merge_forms pm_merge_forms an_merge_forms cd_merge_forms ct_merge_forms), sl_merge_forms⟩) (c_merge_forms : PySem.W.codeIn K cd_merge_forms "merge_forms" = true) (k_merge_forms : PySem.W.keepIn K (.ref f_merge_forms) = true)
    (a_law : PySem.W.nsIn K mainGlobals "law" = some (some (.ref f_law))) (l_law : K.lookup f_law = some ⟨oc_law, od_law, .func (PySem.W.fnOf "law" "law" (defArgs s_law) (defBody s_law) (defScope s_law) .none kV_law dc_law pm_law an_law cd_law ct_law), sl_law⟩) (c_law : PySem.W.codeIn K cd_law "law" = true) (k_law : PySem.W.keepIn K (.ref f_law) = true)
    (z_bool : PySem.W.nsIn K mainGlobals "bool" = some none)
    (z_int : PySem.W.nsIn K mainGlobals "int" = some none)
    (z_isinstance : PySem.W.nsIn K mainGlobals "isinstance" = some none)
    (z_len : PySem.W.nsIn K mainGlobals "len" = some none)
    (z_list : PySem.W.nsIn K mainGlobals "list" = some none)
    (z_range : PySem.W.nsIn K mainGlobals "range" = some none)
    (z_set : PySem.W.nsIn K mainGlobals "set" = some none)
    (z_sorted : PySem.W.nsIn K mainGlobals "sorted" = some none)
    (z_str : PySem.W.nsIn K mainGlobals "str" = some none)
    (z_tuple : PySem.W.nsIn K mainGlobals "tuple" = some none)
    (z_MOST_COLUMNS : PySem.W.nsIn K mainGlobals "MOST_COLUMNS" = some (some (.int 12 t_MOST_COLUMNS)))
    (oc2_law_in_columns : K.lookup cc_law_in_columns = some oK_law_in_columns) (op_law_in_columns : pOf oK_law_in_columns = some P_law_in_columns) (oh_law_in_columns : PySem.W.codeHdIn K cc_law_in_columns P_law_in_columns = true) (on_law_in_columns : K.lookup P_law_in_columns = none) (ot_law_in_columns : h.get? P_law_in_columns = some { cls := .none, data := .fields #[] }) :
    LamX.LawAtS l w K CX0 7 63 "script" mg fa h := by
  have e := hfa.symm.trans (PySem.W.mg_of X G a_law)
  cases e
  refine ⟨PySem.W.fnOf "law" "law" (defArgs s_law) (defBody s_law) (defScope s_law) .none kV_law dc_law pm_law an_law cd_law ct_law, [(cc_law_in_columns, P_law_in_columns)], spLaw K P_law_in_columns, (fun p hp => by
    simp only [List.mem_cons, List.not_mem_nil, or_false] at hp
    subst hp
    · exact ot_law_in_columns), (fun p hp => by
    simp only [List.mem_cons, List.not_mem_nil, or_false] at hp
    subst hp
    · exact on_law_in_columns), (fun p hp => by
    simp only [List.mem_cons, List.not_mem_nil, or_false] at hp
    subst hp
    · exact PySem.W.codeHd_of_K X oh_law_in_columns), fun s v => .of_eq rfl, fun H a ns hl hb hT hS => ⟨a, ns, rfl, hS, hl, hb, hT (cc_law_in_columns, P_law_in_columns) (by simp), fun _ => rfl⟩, fun base _ _ TB => ?_⟩
  have F_law_text := fun_mk (st := s_law_text) l_law_text c_law_text k_law_text
  have F_law_value := fun_mk (st := s_law_value) l_law_value c_law_value k_law_value
  have F_law_column := fun_mk (st := s_law_column) l_law_column c_law_column k_law_column
  have F_law_in_columns := fun_mk (st := s_law_in_columns) l_law_in_columns c_law_in_columns k_law_in_columns
  have F_law_base := fun_mk (st := s_law_base) l_law_base c_law_base k_law_base
  have F_law_cell := fun_mk (st := s_law_cell) l_law_cell c_law_cell k_law_cell
  have F_law_found := fun_mk (st := s_law_found) l_law_found c_law_found k_law_found
  have F_law_due := fun_mk (st := s_law_due) l_law_due c_law_due k_law_due
  have F_law_numbers := fun_mk (st := s_law_numbers) l_law_numbers c_law_numbers k_law_numbers
  have F_law_rekeyed := fun_mk (st := s_law_rekeyed) l_law_rekeyed c_law_rekeyed k_law_rekeyed
  have F_law_same := fun_mk (st := s_law_same) l_law_same c_law_same k_law_same
  have F_law_changed := fun_mk (st := s_law_changed) l_law_changed c_law_changed k_law_changed
  have F_law_side := fun_mk (st := s_law_side) l_law_side c_law_side k_law_side
  have F_choose := fun_mk (st := s_choose) l_choose c_choose k_choose
  have F_clash := fun_mk (st := s_clash) l_clash c_clash k_clash
  have F_column_names := fun_mk (st := s_column_names) l_column_names c_column_names k_column_names
  have F_find_column := fun_mk (st := s_find_column) l_find_column c_find_column k_find_column
  have F_key_signature := fun_mk (st := s_key_signature) l_key_signature c_key_signature k_key_signature
  have F_merge_forms := fun_mk (st := s_merge_forms) l_merge_forms c_merge_forms k_merge_forms
  have F_law := fun_mk (st := s_law) l_law c_law k_law
  exact ok_law ({
    f_law_text := f_law_text, d_law_text := _, F_law_text := F_law_text, b_law_text := (F_law_text.binds (ps := ["a", "b"]) fun _ _ _ _ _ _ us hl => match us, hl with | [_, _], _ => rfl),
    g_law_text := PySem.W.mg_of X G a_law_text,
    f_law_value := f_law_value, d_law_value := _, F_law_value := F_law_value, b_law_value := (F_law_value.binds (ps := ["kind", "a", "b"]) fun _ _ _ _ _ _ us hl => match us, hl with | [_, _, _], _ => rfl),
    g_law_value := PySem.W.mg_of X G a_law_value,
    f_law_column := f_law_column, d_law_column := _, F_law_column := F_law_column, b_law_column := (F_law_column.binds (ps := ["name", "a", "b"]) fun _ _ _ _ _ _ us hl => match us, hl with | [_, _, _], _ => rfl),
    g_law_column := PySem.W.mg_of X G a_law_column,
    f_law_in_columns := f_law_in_columns, d_law_in_columns := _, F_law_in_columns := F_law_in_columns, b_law_in_columns := (F_law_in_columns.binds (ps := ["columns"]) fun _ _ _ _ _ _ us hl => match us, hl with | [_], _ => rfl),
    g_law_in_columns := PySem.W.mg_of X G a_law_in_columns,
    f_law_base := f_law_base, d_law_base := _, F_law_base := F_law_base, b_law_base := (F_law_base.binds (ps := ["numbers"]) fun _ _ _ _ _ _ us hl => match us, hl with | [_], _ => rfl),
    g_law_base := PySem.W.mg_of X G a_law_base,
    f_law_cell := f_law_cell, d_law_cell := _, F_law_cell := F_law_cell, b_law_cell := (F_law_cell.binds (ps := ["script", "k"]) fun _ _ _ _ _ _ us hl => match us, hl with | [_, _], _ => rfl),
    g_law_cell := PySem.W.mg_of X G a_law_cell,
    f_law_found := f_law_found, d_law_found := _, F_law_found := F_law_found, b_law_found := (F_law_found.binds (ps := ["form", "name"]) fun _ _ _ _ _ _ us hl => match us, hl with | [_, _], _ => rfl),
    g_law_found := PySem.W.mg_of X G a_law_found,
    f_law_due := f_law_due, d_law_due := _, F_law_due := F_law_due, b_law_due := (F_law_due.binds (ps := ["b", "o", "t"]) fun _ _ _ _ _ _ us hl => match us, hl with | [_, _, _], _ => rfl),
    g_law_due := PySem.W.mg_of X G a_law_due,
    f_law_numbers := f_law_numbers, d_law_numbers := _, F_law_numbers := F_law_numbers, b_law_numbers := (F_law_numbers.binds (ps := ["cell", "count"]) fun _ _ _ _ _ _ us hl => match us, hl with | [_, _], _ => rfl),
    g_law_numbers := PySem.W.mg_of X G a_law_numbers,
    f_law_rekeyed := f_law_rekeyed, d_law_rekeyed := _, F_law_rekeyed := F_law_rekeyed, b_law_rekeyed := (F_law_rekeyed.binds (ps := ["form", "numbers"]) fun _ _ _ _ _ _ us hl => match us, hl with | [_, _], _ => rfl),
    g_law_rekeyed := PySem.W.mg_of X G a_law_rekeyed,
    f_law_same := f_law_same, d_law_same := _, F_law_same := F_law_same, b_law_same := (F_law_same.binds (ps := ["actual", "due"]) fun _ _ _ _ _ _ us hl => match us, hl with | [_, _], _ => rfl),
    g_law_same := PySem.W.mg_of X G a_law_same,
    f_law_changed := f_law_changed, d_law_changed := _, F_law_changed := F_law_changed, b_law_changed := (F_law_changed.binds (ps := ["form", "numbers"]) fun _ _ _ _ _ _ us hl => match us, hl with | [_, _], _ => rfl),
    g_law_changed := PySem.W.mg_of X G a_law_changed,
    f_law_side := f_law_side, d_law_side := _, F_law_side := F_law_side, b_law_side := (F_law_side.binds (ps := ["form", "script", "first", "count"]) fun _ _ _ _ _ _ us hl => match us, hl with | [_, _, _, _], _ => rfl),
    g_law_side := PySem.W.mg_of X G a_law_side,
    f_choose := f_choose, d_choose := _, F_choose := F_choose, b_choose := (F_choose.binds (ps := ["base", "ours", "theirs"]) fun _ _ _ _ _ _ us hl => match us, hl with | [_, _, _], _ => rfl),
    g_choose := PySem.W.mg_of X G a_choose,
    f_clash := f_clash, d_clash := _, F_clash := F_clash, b_clash := (F_clash.binds (ps := ["base", "ours", "theirs"]) fun _ _ _ _ _ _ us hl => match us, hl with | [_, _, _], _ => rfl),
    g_clash := PySem.W.mg_of X G a_clash,
    f_column_names := f_column_names, d_column_names := _, F_column_names := F_column_names, b_column_names := (F_column_names.binds (ps := ["form"]) fun _ _ _ _ _ _ us hl => match us, hl with | [_], _ => rfl),
    g_column_names := PySem.W.mg_of X G a_column_names,
    f_find_column := f_find_column, d_find_column := _, F_find_column := F_find_column, b_find_column := (F_find_column.binds (ps := ["form", "name"]) fun _ _ _ _ _ _ us hl => match us, hl with | [_, _], _ => rfl),
    g_find_column := PySem.W.mg_of X G a_find_column,
    f_key_signature := f_key_signature, d_key_signature := _, F_key_signature := F_key_signature, b_key_signature := (F_key_signature.binds (ps := ["form"]) fun _ _ _ _ _ _ us hl => match us, hl with | [_], _ => rfl),
    g_key_signature := PySem.W.mg_of X G a_key_signature,
    f_merge_forms := f_merge_forms, d_merge_forms := _, F_merge_forms := F_merge_forms, b_merge_forms := (F_merge_forms.binds (ps := ["base", "ours", "theirs"]) fun _ _ _ _ _ _ us hl => match us, hl with | [_, _, _], _ => rfl),
    g_merge_forms := PySem.W.mg_of X G a_merge_forms,
    f_law := fa, d_law := _, F_law := F_law, b_law := (F_law.binds (ps := ["script"]) fun _ _ _ _ _ _ us hl => match us, hl with | [_], _ => rfl),
    g_law := PySem.W.mg_of X G a_law,
    m_bool := PySem.W.mg_none_of X G z_bool,
    m_int := PySem.W.mg_none_of X G z_int,
    m_isinstance := PySem.W.mg_none_of X G z_isinstance,
    m_len := PySem.W.mg_none_of X G z_len,
    m_list := PySem.W.mg_none_of X G z_list,
    m_range := PySem.W.mg_none_of X G z_range,
    m_set := PySem.W.mg_none_of X G z_set,
    m_sorted := PySem.W.mg_none_of X G z_sorted,
    m_str := PySem.W.mg_none_of X G z_str,
    m_tuple := PySem.W.mg_none_of X G z_tuple,
    t_MOST_COLUMNS := t_MOST_COLUMNS, k_MOST_COLUMNS := PySem.W.mg_of X G z_MOST_COLUMNS,
    cc_law_in_columns := cc_law_in_columns, P_law_in_columns := P_law_in_columns, cd_law_in_columns := rfl, tb_law_in_columns := TB (cc_law_in_columns, P_law_in_columns) (by simp) } : Txt K mg base)

end Vt

open PySem PySem.W PyProof.Rows
set_option maxHeartbeats 0 in
theorem PySem.Challenge.cw_versiontables_k30_merge_forms_holds : PySem.Challenge.rw_versiontables_k30_merge_forms.Holds := by
  w_on; o_law; k_head; (case hw => w_witness2)
  k_fill
  refine LamX.walk_ofTs (l := PySem.Challenge.rw_versiontables_k30_merge_forms) (n := 63) (k := 7) (x := "script") (CX := fun _ => L2.CX0) rfl (by decide) rfl ⟨rfl, by decide, by decide⟩ (fun w h Y => PySem.W.km_in_of Y) ?F (fun _ _ _ _ _ h => h)
  case F =>
    intro w mg fa h Y KX G hmg
    have hT8 := PySem.W.km_tabs_of Y
    refine' Vt.all_mk KX G hmg ?a_law_text ?l_law_text ?c_law_text ?k_law_text ?a_law_value ?l_law_value ?c_law_value ?k_law_value ?a_law_column ?l_law_column ?c_law_column ?k_law_column ?a_law_in_columns ?l_law_in_columns ?c_law_in_columns ?k_law_in_columns ?a_law_base ?l_law_base ?c_law_base ?k_law_base ?a_law_cell ?l_law_cell ?c_law_cell ?k_law_cell ?a_law_found ?l_law_found ?c_law_found ?k_law_found ?a_law_due ?l_law_due ?c_law_due ?k_law_due ?a_law_numbers ?l_law_numbers ?c_law_numbers ?k_law_numbers ?a_law_rekeyed ?l_law_rekeyed ?c_law_rekeyed ?k_law_rekeyed ?a_law_same ?l_law_same ?c_law_same ?k_law_same ?a_law_changed ?l_law_changed ?c_law_changed ?k_law_changed ?a_law_side ?l_law_side ?c_law_side ?k_law_side ?a_choose ?l_choose ?c_choose ?k_choose ?a_clash ?l_clash ?c_clash ?k_clash ?a_column_names ?l_column_names ?c_column_names ?k_column_names ?a_find_column ?l_find_column ?c_find_column ?k_find_column ?a_key_signature ?l_key_signature ?c_key_signature ?k_key_signature ?a_merge_forms ?l_merge_forms ?c_merge_forms ?k_merge_forms ?a_law ?l_law ?c_law ?k_law ?z_bool ?z_int ?z_isinstance ?z_len ?z_list ?z_range ?z_set ?z_sorted ?z_str ?z_tuple ?z_MOST_COLUMNS ?oc2_law_in_columns ?op_law_in_columns ?oh_law_in_columns ?on_law_in_columns ?ot_law_in_columns
    (case a_law_text => k_is)
    (case l_law_text => k_is)
    (case c_law_text => k_is)
    (case k_law_text => k_is)
    (case a_law_value => k_is)
    (case l_law_value => k_is)
    (case c_law_value => k_is)
    (case k_law_value => k_is)
    (case a_law_column => k_is)
    (case l_law_column => k_is)
    (case c_law_column => k_is)
    (case k_law_column => k_is)
    (case a_law_in_columns => k_is)
    (case l_law_in_columns => k_is)
    (case c_law_in_columns => k_is)
    (case k_law_in_columns => k_is)
    (case a_law_base => k_is)
    (case l_law_base => k_is)
    (case c_law_base => k_is)
    (case k_law_base => k_is)
    (case a_law_cell => k_is)
    (case l_law_cell => k_is)
    (case c_law_cell => k_is)
    (case k_law_cell => k_is)
    (case a_law_found => k_is)
    (case l_law_found => k_is)
    (case c_law_found => k_is)
    (case k_law_found => k_is)
    (case a_law_due => k_is)
    (case l_law_due => k_is)
    (case c_law_due => k_is)
    (case k_law_due => k_is)
    (case a_law_numbers => k_is)
    (case l_law_numbers => k_is)
    (case c_law_numbers => k_is)
    (case k_law_numbers => k_is)
    (case a_law_rekeyed => k_is)
    (case l_law_rekeyed => k_is)
    (case c_law_rekeyed => k_is)
    (case k_law_rekeyed => k_is)
    (case a_law_same => k_is)
    (case l_law_same => k_is)
    (case c_law_same => k_is)
    (case k_law_same => k_is)
    (case a_law_changed => k_is)
    (case l_law_changed => k_is)
    (case c_law_changed => k_is)
    (case k_law_changed => k_is)
    (case a_law_side => k_is)
    (case l_law_side => k_is)
    (case c_law_side => k_is)
    (case k_law_side => k_is)
    (case a_choose => k_is)
    (case l_choose => k_is)
    (case c_choose => k_is)
    (case k_choose => k_is)
    (case a_clash => k_is)
    (case l_clash => k_is)
    (case c_clash => k_is)
    (case k_clash => k_is)
    (case a_column_names => k_is)
    (case l_column_names => k_is)
    (case c_column_names => k_is)
    (case k_column_names => k_is)
    (case a_find_column => k_is)
    (case l_find_column => k_is)
    (case c_find_column => k_is)
    (case k_find_column => k_is)
    (case a_key_signature => k_is)
    (case l_key_signature => k_is)
    (case c_key_signature => k_is)
    (case k_key_signature => k_is)
    (case a_merge_forms => k_is)
    (case l_merge_forms => k_is)
    (case c_merge_forms => k_is)
    (case k_merge_forms => k_is)
    (case a_law => k_is)
    (case l_law => k_is)
    (case c_law => k_is)
    (case k_law => k_is)
    (case z_bool => k_is)
    (case z_int => k_is)
    (case z_isinstance => k_is)
    (case z_len => k_is)
    (case z_list => k_is)
    (case z_range => k_is)
    (case z_set => k_is)
    (case z_sorted => k_is)
    (case z_str => k_is)
    (case z_tuple => k_is)
    (case z_MOST_COLUMNS => k_is)
    (case oc2_law_in_columns => k_is)
    (case op_law_in_columns => rfl)
    (case oh_law_in_columns => kernel_rfl)
    (case on_law_in_columns => kernel_rfl)
    (case ot_law_in_columns => exact hT8 _ (by simp))
