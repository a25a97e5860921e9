import PyProof.Rows.All
import Wide.All
import OpenK.AllK
import Wide.FinOn
import HandS.ForMost
import HandS.Evl
import HandS.IsInst
import HandS.FStr
import HandS.WideBits
import HandS.Wide
import HandS.EndBits
import HandS.Exc
import HandS.TupAny
import PyProof.StrOps2
import HandS.ExcOwn
import HandS.ExcIs
import HandS.ExcCtx
import HandS.SuiteRaise
import HandS.RaiseFrom
import HandS.ExcValue
import HandS.ExcValueFrom
import HandS.WordsExc
import HandS.Replace
import HandS.ReplaceLit
import HandS.NoneIn
import HandS.StrMore
import HandS.TupLe
import HandS.Sort
import HandS.SortKw
import HandS.Lambda
import HandS.EndTab
import KE.KNestM
import KE.SortKeyHeap
import KE.SortData
import HandS.Iter
import KE.GoesMore
import KE.GoesEnum
import HandS.SetTxt0
import HandS.Set
import HandS.Strs
import HandS.Star
import HandS.Zip
import KE.KDictZip
import PySem.Challenge.RW_versiontables_k11_ends_chunk


set_option Elab.async false
set_option linter.all false
set_option maxRecDepth 100000
set_option maxHeartbeats 400000

namespace Vt
open PySem PySem.Spec PyProof.Rows L2 Evl

def topS (i : Nat) : Stmt := PySem.Challenge.pw_versiontables_k11_ends_chunk.main.body.getD i (.Pass ⟨0, 0, 0, 0⟩)

abbrev s_law_cell : Stmt := topS 8

theorem sc_law_cell : FnScope ["script", "k"] ["script", "k"] (defScope s_law_cell) := ⟨rfl, rfl, rfl, by decide +kernel, rfl, by decide +kernel, by decide +kernel⟩

abbrev s_law_dense_place : Stmt := topS 19

theorem sc_law_dense_place : FnScope ["shape", "number", "start", "numbers", "key", "k"] ["shape", "number", "start"] (defScope s_law_dense_place) := ⟨rfl, rfl, rfl, by decide +kernel, rfl, by decide +kernel, by decide +kernel⟩

abbrev s_law_digest : Stmt := topS 16

theorem sc_law_digest : FnScope ["text", "result", "char"] ["text"] (defScope s_law_digest) := ⟨rfl, rfl, rfl, by decide +kernel, rfl, by decide +kernel, by decide +kernel⟩

abbrev s_law_integer : Stmt := topS 13

theorem sc_law_integer : FnScope ["cell", "choice", "rest"] ["cell"] (defScope s_law_integer) := ⟨rfl, rfl, rfl, by decide +kernel, rfl, by decide +kernel, by decide +kernel⟩

abbrev s_law_char : Stmt := topS 11

theorem sc_law_char : FnScope ["number", "chars"] ["number"] (defScope s_law_char) := ⟨rfl, rfl, rfl, by decide +kernel, rfl, by decide +kernel, by decide +kernel⟩

abbrev s_law_draws : Stmt := topS 10

theorem sc_law_draws : FnScope ["cell", "salt", "count", "base", "rest", "numbers", "k", "mixed"] ["cell", "salt", "count", "base"] (defScope s_law_draws) := ⟨rfl, rfl, rfl, by decide +kernel, rfl, by decide +kernel, by decide +kernel⟩

abbrev s_law_text : Stmt := topS 12

theorem sc_law_text : FnScope ["cell", "choice", "rest", "length", "number"] ["cell"] (defScope s_law_text) := ⟨rfl, rfl, rfl, by decide +kernel, rfl, by decide +kernel, by decide +kernel⟩

abbrev s_law_value : Stmt := topS 14

theorem sc_law_value : FnScope ["kind", "cell"] ["kind", "cell"] (defScope s_law_value) := ⟨rfl, rfl, rfl, by decide +kernel, rfl, by decide +kernel, by decide +kernel⟩

abbrev s_law_drawn_place : Stmt := topS 18

theorem sc_law_drawn_place : FnScope ["shape", "parts", "k"] ["shape", "parts"] (defScope s_law_drawn_place) := ⟨rfl, rfl, rfl, by decide +kernel, rfl, by decide +kernel, by decide +kernel⟩

abbrev s_law_written : Stmt := topS 15

theorem sc_law_written : FnScope ["item", "part"] ["item"] (defScope s_law_written) := ⟨rfl, rfl, rfl, by decide +kernel, rfl, by decide +kernel, by decide +kernel⟩

abbrev s_digest : Stmt := topS 3

theorem sc_digest : FnScope ["text", "total", "letter"] ["text"] (defScope s_digest) := ⟨rfl, rfl, rfl, by decide +kernel, rfl, by decide +kernel, by decide +kernel⟩

abbrev s_encode : Stmt := topS 1

theorem sc_encode : FnScope ["item", "part"] ["item"] (defScope s_encode) := ⟨rfl, rfl, rfl, by decide +kernel, rfl, by decide +kernel, by decide +kernel⟩

abbrev s_ends_chunk : Stmt := topS 6

theorem sc_ends_chunk : FnScope ["level", "key", "count"] ["level", "key", "count"] (defScope s_ends_chunk) := ⟨rfl, rfl, rfl, by decide +kernel, rfl, by decide +kernel, by decide +kernel⟩

abbrev s_law_is_right : Stmt := topS 20

theorem sc_law_is_right : FnScope ["level", "key", "divisible", "count", "expected", "actual"] ["level", "key"] (defScope s_law_is_right) := ⟨rfl, rfl, rfl, by decide +kernel, rfl, by decide +kernel, by decide +kernel⟩

abbrev s_law_shape : Stmt := topS 17

theorem sc_law_shape : FnScope ["number", "shapes"] ["number"] (defScope s_law_shape) := ⟨rfl, rfl, rfl, by decide +kernel, rfl, by decide +kernel, by decide +kernel⟩

abbrev s_law_thing : Stmt := topS 9

theorem sc_law_thing : FnScope ["script", "k"] ["script", "k"] (defScope s_law_thing) := ⟨rfl, rfl, rfl, by decide +kernel, rfl, by decide +kernel, by decide +kernel⟩

abbrev s_law : Stmt := topS 21

theorem sc_law : FnScope ["script", "head", "level", "shape", "divisible", "k", "key", "wanted"] ["script"] (defScope s_law) := ⟨rfl, rfl, rfl, by decide +kernel, rfl, by decide +kernel, by decide +kernel⟩

structure Txt (K : PySem.W.Frag) (mg : Str → Option Value) where
  f_law_cell : Addr
  d_law_cell : FuncData
  F_law_cell : Fun K "_law_cell" "_law_cell" s_law_cell f_law_cell d_law_cell
  b_law_cell : Binds K d_law_cell ["script", "k"] []
  g_law_cell : mg "_law_cell" = some (.ref f_law_cell)
  f_law_dense_place : Addr
  d_law_dense_place : FuncData
  F_law_dense_place : Fun K "_law_dense_place" "_law_dense_place" s_law_dense_place f_law_dense_place d_law_dense_place
  b_law_dense_place : Binds K d_law_dense_place ["shape", "number", "start"] []
  g_law_dense_place : mg "_law_dense_place" = some (.ref f_law_dense_place)
  f_law_digest : Addr
  d_law_digest : FuncData
  F_law_digest : Fun K "_law_digest" "_law_digest" s_law_digest f_law_digest d_law_digest
  b_law_digest : Binds K d_law_digest ["text"] []
  g_law_digest : mg "_law_digest" = some (.ref f_law_digest)
  f_law_integer : Addr
  d_law_integer : FuncData
  F_law_integer : Fun K "_law_integer" "_law_integer" s_law_integer f_law_integer d_law_integer
  b_law_integer : Binds K d_law_integer ["cell"] []
  g_law_integer : mg "_law_integer" = some (.ref f_law_integer)
  f_law_char : Addr
  d_law_char : FuncData
  F_law_char : Fun K "_law_char" "_law_char" s_law_char f_law_char d_law_char
  b_law_char : Binds K d_law_char ["number"] []
  g_law_char : mg "_law_char" = some (.ref f_law_char)
  f_law_draws : Addr
  d_law_draws : FuncData
  F_law_draws : Fun K "_law_draws" "_law_draws" s_law_draws f_law_draws d_law_draws
  b_law_draws : Binds K d_law_draws ["cell", "salt", "count", "base"] []
  g_law_draws : mg "_law_draws" = some (.ref f_law_draws)
  f_law_text : Addr
  d_law_text : FuncData
  F_law_text : Fun K "_law_text" "_law_text" s_law_text f_law_text d_law_text
  b_law_text : Binds K d_law_text ["cell"] []
  g_law_text : mg "_law_text" = some (.ref f_law_text)
  f_law_value : Addr
  d_law_value : FuncData
  F_law_value : Fun K "_law_value" "_law_value" s_law_value f_law_value d_law_value
  b_law_value : Binds K d_law_value ["kind", "cell"] []
  g_law_value : mg "_law_value" = some (.ref f_law_value)
  f_law_drawn_place : Addr
  d_law_drawn_place : FuncData
  F_law_drawn_place : Fun K "_law_drawn_place" "_law_drawn_place" s_law_drawn_place f_law_drawn_place d_law_drawn_place
  b_law_drawn_place : Binds K d_law_drawn_place ["shape", "parts"] []
  g_law_drawn_place : mg "_law_drawn_place" = some (.ref f_law_drawn_place)
  f_law_written : Addr
  d_law_written : FuncData
  F_law_written : Fun K "_law_written" "_law_written" s_law_written f_law_written d_law_written
  b_law_written : Binds K d_law_written ["item"] []
  g_law_written : mg "_law_written" = some (.ref f_law_written)
  f_digest : Addr
  d_digest : FuncData
  F_digest : Fun K "digest" "digest" s_digest f_digest d_digest
  b_digest : Binds K d_digest ["text"] []
  g_digest : mg "digest" = some (.ref f_digest)
  f_encode : Addr
  d_encode : FuncData
  F_encode : Fun K "encode" "encode" s_encode f_encode d_encode
  b_encode : Binds K d_encode ["item"] []
  g_encode : mg "encode" = some (.ref f_encode)
  f_ends_chunk : Addr
  d_ends_chunk : FuncData
  F_ends_chunk : Fun K "ends_chunk" "ends_chunk" s_ends_chunk f_ends_chunk d_ends_chunk
  b_ends_chunk : Binds K d_ends_chunk ["level", "key", "count"] []
  g_ends_chunk : mg "ends_chunk" = some (.ref f_ends_chunk)
  f_law_is_right : Addr
  d_law_is_right : FuncData
  F_law_is_right : Fun K "_law_is_right" "_law_is_right" s_law_is_right f_law_is_right d_law_is_right
  b_law_is_right : Binds K d_law_is_right ["level", "key"] []
  g_law_is_right : mg "_law_is_right" = some (.ref f_law_is_right)
  f_law_shape : Addr
  d_law_shape : FuncData
  F_law_shape : Fun K "_law_shape" "_law_shape" s_law_shape f_law_shape d_law_shape
  b_law_shape : Binds K d_law_shape ["number"] []
  g_law_shape : mg "_law_shape" = some (.ref f_law_shape)
  f_law_thing : Addr
  d_law_thing : FuncData
  F_law_thing : Fun K "_law_thing" "_law_thing" s_law_thing f_law_thing d_law_thing
  b_law_thing : Binds K d_law_thing ["script", "k"] []
  g_law_thing : mg "_law_thing" = some (.ref f_law_thing)
  f_law : Addr
  d_law : FuncData
  F_law : Fun K "law" "law" s_law f_law d_law
  b_law : Binds K d_law ["script"] []
  g_law : mg "law" = some (.ref f_law)
  m_bool : mg "bool" = none
  m_int : mg "int" = none
  m_isinstance : mg "isinstance" = none
  m_len : mg "len" = none
  m_ord : mg "ord" = none
  m_range : mg "range" = none
  m_str : mg "str" = none
  m_tuple : mg "tuple" = none
  t_MOST_ENTRIES : Tok
  k_MOST_ENTRIES : mg "MOST_ENTRIES" = some (.int 8 t_MOST_ENTRIES)

/-! ### sizes of ints -/
/-- an int of at most some million bits -/
structure Wd (n : Int) : Prop where
  h : n.natAbs.log2 < 1100000
theorem log2_mono {a b : Nat} (h : a ≤ b) : a.log2 ≤ b.log2 := by
  by_cases ha : a = 0
  · subst ha
    exact Nat.le_trans (Nat.le_of_eq (by decide)) (Nat.zero_le _)
  · refine Nat.lt_succ_iff.mp ((Nat.log2_lt ha).mpr (Nat.lt_of_le_of_lt h Nat.lt_log2_self))
theorem Wd.le {n m : Int} (h : Wd n) (e : m.natAbs ≤ n.natAbs) : Wd m := ⟨Nat.lt_of_le_of_lt (log2_mono e) h.h⟩
theorem Wd.lt {n : Int} (h : n.natAbs < 2 ^ 9000) : Wd n := ⟨Nat.lt_trans (PySem.Flt.log2_lt_of (by decide) h) (by decide)⟩
theorem Wd.lit {n : Int} (h : n.natAbs < 2 ^ 256) : Wd n := ⟨Nat.lt_trans (PySem.Flt.log2_lt_of (by decide) h) (by decide)⟩
theorem Wd.bits {n : Int} (h : Builtin.Int.intBits n ≤ 1048576) : Wd n := by
  unfold Builtin.Int.intBits at h
  by_cases e : n = 0
  · subst e
    exact Wd.lit (by decide)
  · rw [if_neg (by simpa using e)] at h
    exact ⟨by omega⟩
theorem Wd.small {n : Int} (h1 : -(2 ^ 64) < n) (h2 : n < 2 ^ 64) : Wd n := Wd.lit (by
  have : n.natAbs < 2 ^ 64 := by omega
  exact Nat.lt_of_lt_of_le this (by decide))
theorem Wd.div {n b : Int} (h : Wd n) : Wd (n / b) := h.le (Int.natAbs_ediv_le_natAbs n b)
theorem Wd.mod {n b : Int} (hb : 0 < b) (h : Wd b) : Wd (n % b) := h.le (by
  have h1 := Int.emod_nonneg n (by omega : b ≠ 0)
  have h2 := Int.emod_lt_of_pos n hb
  omega)
theorem Wd.neg {n : Int} (h : Wd n) : Wd (-n) := h.le (by omega)
theorem bits_log (n : Int) : Builtin.Int.intBits n ≤ n.natAbs.log2 + 1 := by
  unfold Builtin.Int.intBits
  split <;> omega
theorem Wd.mul {i j : Int} (hi : Wd i) (hj : Wd j) : CMulX i j := by
  have a := bits_log i
  have b := bits_log j
  have c := hi.h
  have d := hj.h
  unfold CMulX
  omega
/-- what falls to a comparison of two ints -/
theorem dec_int {i j : Int} : decide (V.int i = V.int j) = decide (i = j) := by
  by_cases h : i = j
  · rw [decide_eq_true h, decide_eq_true (congrArg V.int h)]
  · rw [decide_eq_false h, decide_eq_false fun e => h (V.int.inj e)]
theorem dec_str {i j : Str} : decide (V.str i = V.str j) = decide (i = j) := by
  by_cases h : i = j
  · rw [decide_eq_true h, decide_eq_true (congrArg V.str h)]
  · rw [decide_eq_false h, decide_eq_false fun e => h (V.str.inj e)]
theorem dec_bl {i j : Bool} : decide (V.bl i = V.bl j) = decide (i = j) := by
  by_cases h : i = j
  · rw [decide_eq_true h, decide_eq_true (congrArg V.bl h)]
  · rw [decide_eq_false h, decide_eq_false fun e => h (V.bl.inj e)]
/-- len, tuple of a list or tuple -/
abbrev rLenQ (K : PySem.W.Frag) : List V → Hp → VK → Prop := fun xs H Q => ∃ p ys, xs = [V.ref p] ∧ (SqL K H p ys ∨ SqT K H p ys) ∧ Q (.int ys.length) H
abbrev rTupOf (K : PySem.W.Frag) : List V → Hp → VK → Prop := fun xs H Q => ∃ p ys, xs = [V.ref p] ∧ ((SqL K H p ys ∧ ∀ l, H l = none → Q (.ref l) (upd H l (.tup ys))) ∨ (SqT K H p ys ∧ Q (.ref p) H))
/-! ### more of what evaluates -/
section
variable {K : PySem.W.Frag} {σ : L2.St} {H : Hp} {ta tb te : TE}
theorem ev_eqI {i j : Int} (ha : Ev ta σ H (.int i)) (hb : Ev tb σ H (.int j)) : Ev (tOp rEq ta tb) σ H (.bl (decide (i = j))) := ev_is (ev_op ha hb (rv_eq rfl)) (congrArg V.bl dec_int)
theorem ev_neI {i j : Int} (ha : Ev ta σ H (.int i)) (hb : Ev tb σ H (.int j)) : Ev (tOp rNe ta tb) σ H (.bl (!decide (i = j))) := ev_is (ev_op ha hb (rv_ne rfl)) (congrArg (fun b => V.bl (!b)) dec_int)
theorem ev_eqS {i j : Str} (ha : Ev ta σ H (.str i)) (hb : Ev tb σ H (.str j)) : Ev (tOp rEq ta tb) σ H (.bl (decide (i = j))) := ev_is (ev_op ha hb (rv_eq rfl)) (congrArg V.bl dec_str)
theorem ev_neS {i j : Str} (ha : Ev ta σ H (.str i)) (hb : Ev tb σ H (.str j)) : Ev (tOp rNe ta tb) σ H (.bl (!decide (i = j))) := ev_is (ev_op ha hb (rv_ne rfl)) (congrArg (fun b => V.bl (!b)) dec_str)
theorem ev_eqB {i j : Bool} (ha : Ev ta σ H (.bl i)) (hb : Ev tb σ H (.bl j)) : Ev (tOp rEq ta tb) σ H (.bl (decide (i = j))) := ev_is (ev_op ha hb (rv_eq rfl)) (congrArg V.bl dec_bl)
theorem ev_neB {i j : Bool} (ha : Ev ta σ H (.bl i)) (hb : Ev tb σ H (.bl j)) : Ev (tOp rNe ta tb) σ H (.bl (!decide (i = j))) := ev_is (ev_op ha hb (rv_ne rfl)) (congrArg (fun b => V.bl (!b)) dec_bl)
theorem ev_bin {C : Int → Int → Prop} {g : Int → Int → V} {i j : Int} (ha : Ev ta σ H (.int i)) (hb : Ev tb σ H (.int j)) (hc : C i j) : Ev (tOp (rI C g) ta tb) σ H (g i j) := ev_op ha hb (rv_I hc)
theorem ev_bin0 {g : Int → Int → V} {i j : Int} (ha : Ev ta σ H (.int i)) (hb : Ev tb σ H (.int j)) : Ev (tOp (rI0 g) ta tb) σ H (g i j) := ev_op ha hb rv_I0
theorem ev_intI {i : Int} (h : Ev te σ H (.int i)) : Ev (tCB (fun xs H Q => (∃ i, xs = [V.int i] ∧ Q (.int i) H) ∨ ∃ k, xs = [V.bl k] ∧ Q (.int (if k = true then 1 else 0)) H) (tCons te tNil)) σ H (.int i) := fun H1 e Q q =>
  h H1 e _ fun H2 e2 => .inl ⟨i, rfl, q H2 e2⟩
theorem ev_lenS {z : Str} (h : Ev te σ H (.str z)) (hz : z.length ≤ 100000) : Ev (tCB (fun xs H Q => ∃ z, xs = [V.str z] ∧ z.length ≤ sizeLine ∧ Q (.int z.length) H) (tCons te tNil)) σ H (.int (z.length : Int)) := fun H1 e Q q =>
  h H1 e _ fun H2 e2 => ⟨z, rfl, sz_of hz, q H2 e2⟩
theorem ev_lenQ {p : Addr} {xs : List V} (ha : Ev ta σ H (.ref p)) (h : SqL K H p xs) : Ev (tCB (fun xs H Q => ∃ p ys, xs = [V.ref p] ∧ (SqL K H p ys ∨ SqT K H p ys) ∧ Q (.int ys.length) H) (tCons ta tNil)) σ H (.int (xs.length : Int)) := fun H1 e Q q =>
  ha H1 e _ fun H2 e2 => ⟨p, xs, rfl, Or.inl (ex_l (e.trans e2) h), q H2 e2⟩
theorem ev_lenT {p : Addr} {xs : List V} (ha : Ev ta σ H (.ref p)) (h : SqT K H p xs) : Ev (tCB (fun xs H Q => ∃ p ys, xs = [V.ref p] ∧ (SqL K H p ys ∨ SqT K H p ys) ∧ Q (.int ys.length) H) (tCons ta tNil)) σ H (.int (xs.length : Int)) := fun H1 e Q q =>
  ha H1 e _ fun H2 e2 => ⟨p, xs, rfl, Or.inr (ex_t (e.trans e2) h), q H2 e2⟩
theorem ev_ixL {p : Addr} {xs : List V} {i : Int} {v : V} (ha : Ev ta σ H (.ref p)) (hb : Ev tb σ H (.int i)) (h : SqL K H p xs) (hi : atI xs i = some v) : Ev (tOp (rIxL K) ta tb) σ H v := ev_op ha hb (rv_ixL h hi)
theorem ev_ixT {p : Addr} {xs : List V} {i : Int} {v : V} (ha : Ev ta σ H (.ref p)) (hb : Ev tb σ H (.int i)) (h : SqT K H p xs) (hi : atI xs i = some v) : Ev (tOp (rIxT K) ta tb) σ H v := ev_op ha hb (rv_ixT h hi)
/-- an item of a list that is written there -/
theorem ev_ixN {xs : List V} {i : Int} {v : V} (ha : EvL ta σ H xs) (hb : ∀ H1, Ex H H1 → Ev tb σ H1 (.int i)) (hi : atI xs i = some v) : Ev (tOp (rIxL K) ta tb) σ H v := ev_opL1 ha hb fun p H1 h1 _ => rv_ixL (sq_of h1) hi
theorem ev_ixS {z : Str} {i : Int} {c : Nat} (ha : Ev ta σ H (.str z)) (hb : Ev tb σ H (.int i)) (hz : z.length ≤ 100000) (hi : atI z.cps.toList i = some c) : Ev (tOp rIxS ta tb) σ H (.str ⟨#[c]⟩) := ev_op ha hb (rv_ixS hz hi)
theorem ev_addS {x y : Str} (ha : Ev ta σ H (.str x)) (hb : Ev tb σ H (.str y)) (hz : x.length + y.length ≤ 16777216) : Ev (tOp (fun x y H Q => ∃ i j, x = V.str i ∧ y = V.str j ∧ i.length + j.length ≤ sizeLine ∧ Q (.str (i ++ j)) H) ta tb) σ H (.str (x ++ y)) :=
  ev_op ha hb fun H1 _ Q q => ⟨x, y, rfl, rfl, by rw [sizeLine_eq]; exact hz, q H1 (Ex.refl H1)⟩
theorem ev_neg {i : Int} (h : Ev te σ H (.int i)) : Ev (tUn (rU fun i => .int (-i)) te) σ H (.int (-i)) := ev_un h ru_neg
theorem ev_isN {v : V} (h : Ev te σ H v) : Ev (tOp (fun x y H Q => y = .non ∧ Q (.bl (decide (x = .non))) H) te (tC .non)) σ H (.bl (decide (v = .non))) := fun H1 e Q q => h H1 e _ fun H2 e2 => ⟨rfl, q H2 e2⟩
end
section
variable {σ : L2.St} {H : Hp} {te : TE}
theorem ev_isNt (h : Ev te σ H .non) : Ev (tOp (fun x y H Q => y = .non ∧ Q (.bl (decide (x = .non))) H) te (tC .non)) σ H (.bl true) := ev_is (ev_isN h) (congrArg V.bl (decide_eq_true rfl))
theorem ev_isNf {v : V} (h : Ev te σ H v) (hv : v ≠ .non := by intro z; cases z) : Ev (tOp (fun x y H Q => y = .non ∧ Q (.bl (decide (x = .non))) H) te (tC .non)) σ H (.bl false) := ev_is (ev_isN h) (congrArg V.bl (decide_eq_false hv))
end
theorem at_nat {xs : List V} {j : Nat} {v : V} (h : xs[j]? = some v) : atI xs (j : Int) = some v := atI_nat h
theorem sizeOk {n : Nat} (h : n ≤ 16777216) : n ≤ sizeLine := by rw [sizeLine_eq]; exact h

/-! ### texts, joins, comprehensions -/
theorem str_ext {a b : Str} (h : a.cps.toList = b.cps.toList) : a = b := by
  obtain ⟨a⟩ := a
  obtain ⟨b⟩ := b
  exact congrArg Str.mk (Array.toList_inj.mp h)
/-- the join of one-sign texts -/
theorem join_signs (l : List Nat) : Txt.join (Str.ofString "") (l.map fun c => (⟨#[c]⟩ : Str)) = ⟨l.toArray⟩ := by
  rw [TL.join_eq]
  refine str_ext ?_
  have key : ∀ l : List Nat, TL.joinL [] (l.map fun c => [c]) = l := fun l => by
    induction l with
    | nil => rfl
    | cons a r ih =>
      cases r with
      | nil => rfl
      | cons b r =>
        show [a] ++ ([] ++ TL.joinL [] ((b :: r).map fun c => [c])) = a :: b :: r
        rw [ih] <;> rfl
  have h := TL.tl_join (Str.ofString "") (l.map fun c => (⟨#[c]⟩ : Str))
  have e1 : TL.tl (Str.ofString "") = [] := by decide +kernel
  rw [e1, List.map_map] at h
  exact h.trans (key l)
theorem sum_ones (l : List Nat) : ((l.map fun c => (⟨#[c]⟩ : Str)).map (·.length)).sum = l.length := by
  induction l with
  | nil => rfl
  | cons a r ih =>
    rw [List.map_cons, List.map_cons, List.sum_cons, ih, List.length_cons]
    show 1 + r.length = r.length + 1
    omega
/-- a join of a new list of texts -/
theorem ev_joinN {K : PySem.W.Frag} {σ : L2.St} {H : Hp} {to te : TE} {a : Str} {ys : List Str} (h0 : Ev to σ H (.str a)) (h : EvL te σ H (ys.map V.str)) (hz : (ys.map (·.length)).sum + ys.length * a.length ≤ 16777216) :
    Ev (tM1 (fun x xs H Q => ∃ a p, ∃ ys : List Str, x = .str a ∧ xs = [.ref p] ∧ (SqL K H p (ys.map V.str) ∨ SqT K H p (ys.map V.str)) ∧ (ys.map (·.length)).sum + ys.length * a.length ≤ 16777216 ∧ Q (.str (Txt.join a ys)) H) to te) σ H (.str (Txt.join a ys)) :=
  fun H1 e Q q => h0 H1 e _ fun H2 e2 => ⟨⟨a, rfl⟩, h H2 (e.trans e2) _ fun p H3 hp e3 hl => ⟨a, p, ys, rfl, rfl, .inl (sq_of hl), hz, q H3 (e2.trans e3)⟩⟩
theorem given_all {n : Nat} {v : Nat → V} {xs : List V} (hn : xs.length = n) (h : ∀ i, i < n → xs[i]? = some (v i)) : given n (fun _ => true) v = xs := by
  unfold given
  rw [List.filter_eq_self.mpr (fun _ _ => rfl)]
  refine List.ext_getElem? fun i => ?_
  rw [List.getElem?_map]
  by_cases hi : i < n
  · rw [List.getElem?_range hi, h i hi] <;> rfl
  · rw [List.getElem?_eq_none (by rw [List.length_range]; omega), List.getElem?_eq_none (by omega)] <;> rfl
/-- [f(x) for x in a new list of ints] -/
theorem el_mapN {K : PySem.W.Frag} {σ : L2.St} {H : Hp} {tl te : TE} {j : Nat} {vs : List Nat} {ns : List Int} {f : Int → V} (h : EvL tl σ H (ns.map V.int)) (hz : ns.length ≤ 40000) (hw : ∀ x, wipe ((wipe σ vs).set j (some x)) vs = wipe σ vs)
    (he : ∀ n ∈ ns, ∀ H1, Ex H H1 → Ev te ((wipe σ vs).set j (some (.int n))) H1 (f n)) : EvL (tLc (iList K tl) (gName j) tYes te vs) σ H (ns.map f) := by
  have g : given (ns.map V.int).length (fun _ => true) (fun i => f (ns.getD i 0)) = ns.map f := given_all (by rw [List.length_map, List.length_map]) fun i hi => by
    rw [List.length_map] at hi
    rw [List.getElem?_map, List.getElem?_eq_getElem hi, List.getD_eq_getElem?_getD, List.getElem?_eq_getElem hi] <;> rfl
  rw [← g]
  refine el_lcNL (fun _ => true) (fun i => f (ns.getD i 0)) h (by rw [List.length_map]; exact hz) hw (fun i x H1 e1 hx => ?_) (fun i x H1 e1 hx _ => ?_)
  · exact fun H2 e2 Q q => q H2 (Ex.refl H2)
  · rw [List.getElem?_map] at hx
    cases e : ns[i]? with
    | none =>
      rw [e] at hx
      cases hx
    | some n =>
      rw [e] at hx
      have ex : x = .int n := (Option.some.inj hx).symm
      rw [ex, List.getD_eq_getElem?_getD, e]
      exact he n (List.mem_of_getElem? e) H1 e1
theorem atI_of {xs : List V} {n : Int} {v : V} (h0 : 0 ≤ n) (h : xs[n.toNat]? = some v) : atI xs n = some v := by
  have e : n = ((n.toNat : Nat) : Int) := by omega
  rw [e]
  exact atI_nat (by simpa using h)
theorem at_cps {z : Str} {l : List Nat} (h : z.cps.toList = l) {n : Int} (h0 : 0 ≤ n) (h1 : n < l.length) : atI z.cps.toList n = some (l.getD n.toNat 0) := by
  rw [h]
  have e : n = ((n.toNat : Nat) : Int) := by omega
  have h3 : n.toNat < l.length := by omega
  have h4 : ixN l.length n = some n.toNat := by rw [e]; exact ixN_nat (by omega)
  unfold atI
  rw [h4]
  show l[n.toNat]? = some (l.getD n.toNat 0)
  rw [List.getElem?_eq_getElem h3, List.getD_eq_getElem?_getD, List.getElem?_eq_getElem h3]
  all_goals rfl

/-- the join of texts by their codes -/
theorem join_codes (l : List (List Nat)) : Txt.join (Str.ofString "") (l.map fun c => (⟨c.toArray⟩ : Str)) = ⟨l.flatten.toArray⟩ := by
  rw [TL.join_eq]
  refine str_ext ?_
  have key : ∀ l : List (List Nat), TL.joinL [] l = l.flatten := fun l => by
    induction l with
    | nil => rfl
    | cons a r ih =>
      cases r with
      | nil => simp [TL.joinL]
      | cons b r =>
        show a ++ ([] ++ TL.joinL [] (b :: r)) = (a :: b :: r).flatten
        rw [ih, List.nil_append]
        exact List.flatten_cons.symm
  have h := TL.tl_join (Str.ofString "") (l.map fun c => (⟨c.toArray⟩ : Str))
  have e1 : TL.tl (Str.ofString "") = [] := by decide +kernel
  have e2 : (l.map fun c => (⟨c.toArray⟩ : Str)).map TL.tl = l := by
    rw [List.map_map]
    exact List.map_id l
  rw [e1, e2] at h
  exact h.trans (key l)
theorem sum_codes (l : List (List Nat)) : ((l.map fun c => (⟨c.toArray⟩ : Str)).map (·.length)).sum = l.flatten.length := by
  induction l with
  | nil => rfl
  | cons a r ih =>
    rw [List.map_cons, List.map_cons, List.sum_cons, ih, List.flatten_cons, List.length_append] <;> rfl
/-- [f(x) for x in a tuple] -/
theorem el_mapT {K : PySem.W.Frag} {σ : L2.St} {H : Hp} {tl te : TE} {j : Nat} {vs : List Nat} {a : Addr} {xs ys : List V} (h : Ev tl σ H (.ref a)) (hx : SqT K H a xs) (hz : xs.length ≤ 40000) (hw : ∀ x, wipe ((wipe σ vs).set j (some x)) vs = wipe σ vs) (hl : ys.length = xs.length)
    (he : ∀ (i : Nat) (x y : V), xs[i]? = some x → ys[i]? = some y → ∀ H1, Ex H H1 → Ev te ((wipe σ vs).set j (some x)) H1 y) : EvL (tLc (iTup K tl) (gName j) tYes te vs) σ H ys := by
  intro H0 e Q q
  refine h H0 e _ fun H1 e1 => ⟨a, rfl, ⟨xs, ex_t (e.trans e1) hx⟩, fun Dl hD => ?_⟩
  refine lc_tup (xs := xs) (fun i H' => H1 Dl = none ∧ Ex H1 H' ∧ H' Dl = some (.lst (ys.take i))) ⟨hD, Ex.new hD, upd_same⟩ (fun i H' _ p => ex_t ((e.trans e1).trans p.2.1) hx) (fun i x H' hi p => ⟨hw x, ?_⟩) (fun H' p => ?_)
  · obtain ⟨p1, p2, p3⟩ := p
    have hi2 : i < ys.length := by
      have := (List.getElem?_eq_some_iff.mp hi).1
      omega
    have hy : ys[i]? = some ys[i] := List.getElem?_eq_getElem hi2
    show te ((wipe σ vs).set j (some x)) H' _
    refine he i x ys[i] hi hy H1 (e.trans e1) H' p2 _ fun H4 e4 => ⟨ys.take i, e4 Dl _ p3, sz_lt (by rw [List.length_take]; omega), p1, (p2.trans e4).mut p1, ?_⟩
    rw [upd_same, List.take_add_one, hy] <;> rfl
  · obtain ⟨p1, p2, p3⟩ := p
    rw [← hl, List.take_length] at p3
    exact q Dl H' (fresh_back e1 p1) (e1.trans p2) p3
/-- [f(x) for x in a list] -/
theorem el_mapL {K : PySem.W.Frag} {σ : L2.St} {H : Hp} {tl te : TE} {j : Nat} {vs : List Nat} {a : Addr} {xs ys : List V} (h : Ev tl σ H (.ref a)) (hx : SqL K H a xs) (hz : xs.length ≤ 40000) (hw : ∀ x, wipe ((wipe σ vs).set j (some x)) vs = wipe σ vs) (hl : ys.length = xs.length)
    (he : ∀ (i : Nat) (x y : V), xs[i]? = some x → ys[i]? = some y → ∀ H1, Ex H H1 → Ev te ((wipe σ vs).set j (some x)) H1 y) : EvL (tLc (iList K tl) (gName j) tYes te vs) σ H ys := by
  intro H0 e Q q
  refine h H0 e _ fun H1 e1 => ⟨a, rfl, ⟨xs, ex_l (e.trans e1) hx⟩, fun Dl hD => ?_⟩
  refine lc_list (xs := xs) (fun i H' => H1 Dl = none ∧ Ex H1 H' ∧ H' Dl = some (.lst (ys.take i))) ⟨hD, Ex.new hD, upd_same⟩ (fun i H' _ p => ex_l ((e.trans e1).trans p.2.1) hx) (fun i x H' hi p => ⟨hw x, ?_⟩) (fun H' p => ?_)
  · obtain ⟨p1, p2, p3⟩ := p
    have hi2 : i < ys.length := by
      have := (List.getElem?_eq_some_iff.mp hi).1
      omega
    have hy : ys[i]? = some ys[i] := List.getElem?_eq_getElem hi2
    show te ((wipe σ vs).set j (some x)) H' _
    refine he i x ys[i] hi hy H1 (e.trans e1) H' p2 _ fun H4 e4 => ⟨ys.take i, e4 Dl _ p3, sz_lt (by rw [List.length_take]; omega), p1, (p2.trans e4).mut p1, ?_⟩
    rw [upd_same, List.take_add_one, hy] <;> rfl
  · obtain ⟨p1, p2, p3⟩ := p
    rw [← hl, List.take_length] at p3
    exact q Dl H' (fresh_back e1 p1) (e1.trans p2) p3
/-- [f(k) for k in range(n)] -/
theorem el_mapR {σ : L2.St} {H : Hp} {ta : TA} {te : TE} {j : Nat} {vs : List Nat} {n : Nat} {ys : List V} (h : EvA ta σ H [.int (n : Int)]) (hz : n ≤ 40000) (hw : ∀ x, wipe ((wipe σ vs).set j (some x)) vs = wipe σ vs) (hl : ys.length = n)
    (he : ∀ (i : Nat) (y : V), i < n → ys[i]? = some y → ∀ H1, Ex H H1 → Ev te ((wipe σ vs).set j (some (.int (i : Int)))) H1 y) : EvL (tLc (iRng1 ta) (gName j) tYes te vs) σ H ys := by
  have g : given (n : Int).toNat (fun _ => true) (fun i => ys.getD i .non) = ys := given_all (by omega) fun i hi => by
    have hi2 : i < ys.length := by omega
    rw [List.getElem?_eq_getElem hi2, List.getD_eq_getElem?_getD, List.getElem?_eq_getElem hi2] <;> rfl
  rw [← g]
  refine el_lcR1 (fun _ => true) (fun i => ys.getD i .non) h (by omega) hw (fun i H1 e1 hi => ?_) (fun i H1 e1 hi _ => ?_)
  · exact fun H2 e2 Q q => q H2 (Ex.refl H2)
  · have hi2 : i < ys.length := by omega
    have hy : ys[i]? = some (ys.getD i .non) := by rw [List.getElem?_eq_getElem hi2, List.getD_eq_getElem?_getD, List.getElem?_eq_getElem hi2] <;> rfl
    exact he i _ (by omega) hy H1 e1
/-- for c in a text -/
theorem s_forS {σ : L2.St} {H : Hp} {te : TE} {tu : TS} {D : Ends} {j : Nat} {z : Str} (h : Ev te σ H (.str z)) (Pv : Nat → L2.St → Hp → Prop) (h0 : ∀ H1, Ex H H1 → Pv 0 σ H1)
    (hs : ∀ i c σ' H', z.cps.toList[i]? = some c → Pv i σ' H' → tu { D with nx := Pv (i + 1), ct := Pv (i + 1), bk := D.nx } (σ'.set j (some (.str ⟨#[c]⟩))) H') (hd : ∀ σ' H', Pv z.cps.toList.length σ' H' → D.nx σ' H') : tFor (iStr te) (gName j) tu D σ H := by
  refine h H (Ex.refl H) _ fun H1 e => ⟨z, rfl, fun i m σ' H' => m = z.cps.toList.length - i ∧ i ≤ z.cps.toList.length ∧ Pv i σ' H', ⟨_, rfl, Nat.zero_le _, h0 H1 e⟩, ?_⟩
  rintro i m σ' H' ⟨rfl, hi, p⟩
  by_cases hlt : i < z.cps.toList.length
  · refine .inr ⟨(by show i < z.cps.size; simpa using hlt), Pv (i + 1), fun σ2 H2 p2 => ⟨_, by omega, rfl, hlt, p2⟩, fun x H2 y => ?_⟩
    obtain ⟨rfl, c, hc, rfl⟩ := y
    exact hs i c σ' H2 (by simpa using hc) p
  · have ei : i = z.cps.toList.length := by omega
    subst ei
    exact .inl ⟨(by show z.cps.size ≤ z.cps.toList.length; simp), hd σ' H' p⟩
theorem q_forS {σ : L2.St} {H : Hp} {te : TE} {tu tz : TS} {D : Ends} {j : Nat} {z : Str} (h : Ev te σ H (.str z)) (Pv : Nat → L2.St → Hp → Prop) (h0 : ∀ H1, Ex H H1 → Pv 0 σ H1)
    (hs : ∀ i c σ' H', z.cps.toList[i]? = some c → Pv i σ' H' → tu { D with nx := Pv (i + 1), ct := Pv (i + 1), bk := tz D } (σ'.set j (some (.str ⟨#[c]⟩))) H') (hd : ∀ σ' H', Pv z.cps.toList.length σ' H' → tz D σ' H') : tSeq (tFor (iStr te) (gName j) tu) tz D σ H :=
  s_forS (D := { D with nx := tz D }) h Pv h0 hs hd
/-! ### isinstance against a built-in type; f-strings -/
theorem tyx_tup {K : PySem.W.Frag} {H : Hp} {a : Addr} {xs : List V} (h : SqT K H a xs) : TyX K H (.ref a) (.type "tuple") := by
  rcases h with (h | ⟨o, h⟩) | ⟨o, its, n, h, hc, _⟩
  · exact .base (.tup h)
  · exact .fTuple h
  · exact .kTuple h hc
theorem ev_isi {K : PySem.W.Frag} {σ : L2.St} {H : Hp} {te : TE} {x : V} {a b : String} {r : Bool} (h : Ev te σ H x) (ht : ∀ H1, Ex H H1 → TyX K H1 x (.type a)) (hk : kitB a b = some r) : Ev (tCB (rIsi K) (tCons te (tCons (tC (.ty b)) tNil))) σ H (.bl r) := fun H1 e Q q =>
  h H1 e _ fun H2 e2 => ⟨x, .ty b, .type a, .type b, r, rfl, .ty b, ht H2 (e.trans e2), kit_ty hk, q H2 e2⟩
/-- parts that evaluate to texts -/
inductive EvJ (σ : L2.St) (H : Hp) : List TE → List Str → Prop where
  | nil : EvJ σ H [] []
  | cons {t : TE} {ts : List TE} {y : Str} {ys : List Str} (h : Ev t σ H (.str y)) (r : EvJ σ H ts ys) : EvJ σ H (t :: ts) (y :: ys)
theorem evj_run {σ : L2.St} {H : Hp} {ts : List TE} {ys : List Str} (h : EvJ σ H ts ys) : ∀ (acc : Str) (H1 : Hp) (Q : Str → Hp → Prop), Ex H H1 → acc.length + (ys.map (·.length)).sum ≤ 16777216 → (∀ H2, Ex H1 H2 → Q (ys.foldl (· ++ ·) acc) H2) → tJs ts acc σ H1 Q := by
  induction h with
  | nil => exact fun acc H1 Q _ _ q => q H1 (Ex.refl H1)
  | @cons t ts y ys h r ih =>
    intro acc H1 Q e hz q
    rw [List.map_cons, List.sum_cons] at hz
    have el : (acc ++ y).length = acc.length + y.length := by
      show (acc.cps ++ y.cps).size = acc.cps.size + y.cps.size
      exact Array.size_append
    refine h H1 e _ fun H2 e2 => ⟨y, rfl, sizeOk (by rw [el]; omega), ih (acc ++ y) H2 Q (e.trans e2) (by rw [el]; omega) fun H3 e3 => q H3 (e2.trans e3)⟩
theorem ev_joined {σ : L2.St} {H : Hp} {ts : List TE} {ys : List Str} (h : EvJ σ H ts ys) (hz : (ys.map (·.length)).sum ≤ 16777216) : Ev (fun σ H Q => tJs ts Str.empty σ H fun out H1 => Q (.str out) H1) σ H (.str (ys.foldl (· ++ ·) Str.empty)) := fun H1 e Q q =>
  evj_run h Str.empty H1 _ e (by show 0 + _ ≤ _; omega) fun H2 e2 => q H2 e2
theorem ev_fmtS {σ : L2.St} {H : Hp} {te : TE} {y : Str} (h : Ev te σ H (.str y)) (hz : y.length ≤ 16777216) : Ev (tFmt te) σ H (.str y) := fun H1 e Q q => h H1 e _ fun H2 e2 => .inl ⟨y, rfl, sizeOk hz, q H2 e2⟩
theorem ev_fmtI {σ : L2.St} {H : Hp} {te : TE} {i : Int} (h : Ev te σ H (.int i)) (hz : i.natAbs.log2 < 1920) : Ev (tFmt te) σ H (.str (toString i)) := fun H1 e Q q => h H1 e _ fun H2 e2 => .inr ⟨i, rfl, hz, q H2 e2⟩
theorem ev_strI {σ : L2.St} {H : Hp} {te : TE} {i : Int} (h : Ev te σ H (.int i)) (hz : i.natAbs.log2 < 1920) : Ev (tCB (fun xs H Q => ∃ i : Int, xs = [V.int i] ∧ i.natAbs.log2 < 1920 ∧ Q (.str (toString i)) H) (tCons te tNil)) σ H (.str (toString i)) := fun H1 e Q q => h H1 e _ fun H2 e2 => ⟨i, rfl, hz, q H2 e2⟩
theorem ev_ordS {σ : L2.St} {H : Hp} {te : TE} {c : Nat} (h : Ev te σ H (.str ⟨#[c]⟩)) : Ev (tCB (fun xs H Q => ∃ x : Str, xs = [V.str x] ∧ x.length = 1 ∧ Q (.int (x.cps.getD 0 0 : Nat)) H) (tCons te tNil)) σ H (.int (c : Int)) := fun H1 e Q q => h H1 e _ fun H2 e2 => ⟨_, rfl, rfl, q H2 e2⟩
theorem ev_ends {σ : L2.St} {H : Hp} {to te : TE} {a b : Str} (h0 : Ev to σ H (.str a)) (h : Ev te σ H (.str b)) : Ev (tM1 (fun x xs H Q => ∃ a b, x = V.str a ∧ xs = [V.str b] ∧ Q (.bl (Txt.endswith a b)) H) to te) σ H (.bl (Txt.endswith a b)) := fun H1 e Q q =>
  h0 H1 e _ fun H2 e2 => ⟨⟨a, rfl⟩, h H2 (e.trans e2) _ fun H3 e3 => ⟨a, b, rfl, rfl, q H3 (e2.trans e3)⟩⟩
theorem ev_slS {σ : L2.St} {H : Hp} {te : TE} {tl th : TO} {z : Str} {lo hi : Option Int} (h : Ev te σ H (.str z)) (h1 : EvO tl σ H lo) (h2 : EvO th σ H hi) (hz : z.length ≤ 100000) : Ev (tSl rSlS te tl th) σ H (.str (cutS z lo hi)) := fun H1 e Q q =>
  h H1 e _ fun H2 e2 => h1 H2 (e.trans e2) _ fun H3 e3 => h2 H3 ((e.trans e2).trans e3) _ fun H4 e4 => ⟨z, rfl, sz_of hz, q H4 ((e2.trans e3).trans e4)⟩
/-- tuple(a new list) -/
theorem eu_ofN {K : PySem.W.Frag} {σ : L2.St} {H : Hp} {te : TE} {xs : List V} (h : EvL te σ H xs) : EvU (tCB (fun xs H Q => ∃ p ys, xs = [V.ref p] ∧ ((SqL K H p ys ∧ ∀ l, H l = none → Q (.ref l) (upd H l (.tup ys))) ∨ (SqT K H p ys ∧ Q (.ref p) H))) (tCons te tNil)) σ H xs := fun H1 e Q q =>
  h H1 e _ fun p H2 _ e2 hp => ⟨p, xs, rfl, .inl ⟨sq_of hp, fun l hl => q l _ (fresh_back e2 hl) (e2.trans (Ex.new hl)) upd_same⟩⟩
theorem eu_ofL {K : PySem.W.Frag} {σ : L2.St} {H : Hp} {te : TE} {p : Addr} {xs : List V} (h : Ev te σ H (.ref p)) (hx : SqL K H p xs) : EvU (tCB (fun xs H Q => ∃ p ys, xs = [V.ref p] ∧ ((SqL K H p ys ∧ ∀ l, H l = none → Q (.ref l) (upd H l (.tup ys))) ∨ (SqT K H p ys ∧ Q (.ref p) H))) (tCons te tNil)) σ H xs := fun H1 e Q q =>
  h H1 e _ fun H2 e2 => ⟨p, xs, rfl, .inl ⟨ex_l (e.trans e2) hx, fun l hl => q l _ (fresh_back e2 hl) (e2.trans (Ex.new hl)) upd_same⟩⟩
/-- a def that hands back a new tuple -/
def SpU (sp : Sp) (vs : List V) (H : Hp) (xs : List V) : Prop := ∀ H1, Ex H H1 → ∀ Q : VK, (∀ p H2, Ex H1 H2 → H2 p = some (.tup xs) → Q (.ref p) H2) → ∀ E : XK, sp vs H1 Q E
theorem q_callU {sp : Sp} {dvs vs xs : List V} {E : XK} {ta : TA} {σ : L2.St} {H : Hp} {tz : TS} {D : Ends} {i : Nat} (h : EvA ta σ H vs) (hs : SpU sp (vs ++ dvs) H xs) (k : ∀ p H1, Ex H H1 → H1 p = some (.tup xs) → tz D (σ.set i (some (.ref p))) H1) : tSeq (tAsg (tCall sp dvs E ta) (gName i)) tz D σ H :=
  h H (Ex.refl H) _ fun H2 e2 => hs H2 e2 _ (fun p H3 e3 hp => k p H3 (e2.trans e3) hp) E
theorem s_callU {sp : Sp} {dvs vs xs : List V} {E : XK} {ta : TA} {σ : L2.St} {H : Hp} {D : Ends} {i : Nat} (h : EvA ta σ H vs) (hs : SpU sp (vs ++ dvs) H xs) (k : ∀ p H1, Ex H H1 → H1 p = some (.tup xs) → D.nx (σ.set i (some (.ref p))) H1) : tAsg (tCall sp dvs E ta) (gName i) D σ H :=
  h H (Ex.refl H) _ fun H2 e2 => hs H2 e2 _ (fun p H3 e3 hp => k p H3 (e2.trans e3) hp) E
/-- a call whose one argument is a new tuple -/
theorem ev_callU {sp : Sp} {dvs xs : List V} {z : V} {E : XK} {te : TE} {σ : L2.St} {H : Hp} (h : EvU te σ H xs) (hs : ∀ p H1, H1 p = some (.tup xs) → Ex H H1 → SpV sp ([.ref p] ++ dvs) H1 z) : Ev (tCall sp dvs E (tCons te tNil)) σ H z := fun H1 e Q q =>
  h H1 e _ fun p H2 _ e2 hp => hs p H2 hp (e.trans e2) H2 (Ex.refl H2) Q (fun H3 e3 => q H3 (e2.trans e3)) E
/-- written tuples, one behind the other -/
def EvP (ta : TA) (σ : L2.St) (H : Hp) (xss : List (List V)) : Prop := ∀ H1, Ex H H1 → ∀ Q : List V → Hp → Prop, (∀ (ps : List Addr) H2, Ex H1 H2 → Paired (fun p xs => H2 p = some (.tup xs)) ps xss → Q (ps.map V.ref) H2) → ta σ H1 Q
theorem paired_mono {H H' : Hp} (e : Ex H H') : ∀ {ps : List Addr} {xss : List (List V)}, Paired (fun p xs => H p = some (.tup xs)) ps xss → Paired (fun p xs => H' p = some (.tup xs)) ps xss
  | _, _, .nil => .nil
  | _, _, .cons h r => .cons (e _ _ h) (paired_mono e r)
theorem ep_nil {σ : L2.St} {H : Hp} : EvP tNil σ H [] := fun H1 e Q q => q [] H1 (Ex.refl H1) .nil
theorem ep_cons {σ : L2.St} {H : Hp} {te : TE} {tr : TA} {xs : List V} {xss : List (List V)} (h : EvU te σ H xs) (r : EvP tr σ H xss) : EvP (tCons te tr) σ H (xs :: xss) := fun H1 e Q q =>
  h H1 e _ fun p H2 _ e2 hp => r H2 (e.trans e2) _ fun ps H3 e3 hr => q (p :: ps) H3 (e2.trans e3) (.cons (e3 p _ hp) hr)
theorem q_asgLP {ta : TA} {xss : List (List V)} {σ : L2.St} {H : Hp} {tz : TS} {D : Ends} {i : Nat} (h : EvP ta σ H xss) (hz : xss.length ≤ 100000) (k : ∀ p ps H1, Ex H H1 → H1 p = some (.lst (ps.map V.ref)) → Paired (fun p xs => H1 p = some (.tup xs)) ps xss → tz D (σ.set i (some (.ref p))) H1) :
    tSeq (tAsg (tLst ta) (gName i)) tz D σ H := h H (Ex.refl H) _ fun ps H1 e1 hps => by
  have el : ∀ {as : List Addr} {bs : List (List V)}, Paired (fun p xs => H1 p = some (.tup xs)) as bs → as.length = bs.length := fun h => by
    induction h with
    | nil => rfl
    | cons _ _ ih => exact congrArg (· + 1) ih
  exact ⟨sz_of (by rw [List.length_map, el hps]; exact hz), fun p hp => k p ps _ (e1.trans (Ex.new hp)) upd_same (paired_mono (Ex.new hp) hps)⟩
theorem paired_at {H : Hp} : ∀ {ps : List Addr} {xss : List (List V)}, Paired (fun p xs => H p = some (.tup xs)) ps xss → ∀ {i : Nat} {xs : List V}, xss[i]? = some xs → ∃ p, ps[i]? = some p ∧ H p = some (.tup xs)
  | _, _, .cons h _, 0, xs, e => by
    have e := Option.some.inj e
    subst e
    exact ⟨_, rfl, h⟩
  | _, _, .cons _ r, i + 1, xs, e => by
    obtain ⟨p, h1, h2⟩ := paired_at r (i := i) (by simpa using e)
    exact ⟨p, by simpa using h1, h2⟩
theorem paired_len {α β : Type} {R : α → β → Prop} : ∀ {as : List α} {bs : List β}, Paired R as bs → as.length = bs.length
  | _, _, .nil => rfl
  | _, _, .cons _ r => congrArg (· + 1) (paired_len r)
/-- a list that is tracked, and a new one behind it -/
theorem el_catV {K : PySem.W.Frag} {σ : L2.St} {H : Hp} {ta tb : TE} {p : Addr} {xs ys : List V} (ha : Ev ta σ H (.ref p)) (hp : H p = some (.lst xs)) (hb : EvL tb σ H ys) (hz : xs.length + ys.length ≤ 100000) : EvL (tOp rCat ta tb) σ H (xs ++ ys) := fun H1 e Q q =>
  ha H1 e _ fun H2 e2 => hb H2 (e.trans e2) _ fun r H3 hr e3 h3 => ⟨p, r, xs, ys, rfl, rfl, ((e.trans e2).trans e3) p _ hp, h3, sz_of hz, fun l hl => q l _ (fresh_back (e2.trans e3) hl) ((e2.trans e3).trans (Ex.new hl)) upd_same⟩
theorem codes_app {a b : Str} {x y : List Nat} (ha : a.cps.toList = x) (hb : b.cps.toList = y) : (a ++ b).cps.toList = x ++ y := by
  show (a.cps ++ b.cps).toList = x ++ y
  rw [Array.toList_append, ha, hb]
theorem str_len (z : Str) : z.length = z.cps.toList.length := by simp [Str.length]
theorem mk_of {z : Str} {l : List Nat} (h : z.cps.toList = l) : z = ⟨l.toArray⟩ := str_ext h
/-- long texts -/
theorem ev_lenB {σ : L2.St} {H : Hp} {te : TE} {z : Str} (h : Ev te σ H (.str z)) (hz : z.length ≤ 16777216) : Ev (tCB (fun xs H Q => ∃ z, xs = [V.str z] ∧ z.length ≤ sizeLine ∧ Q (.int z.length) H) (tCons te tNil)) σ H (.int (z.length : Int)) := fun H1 e Q q =>
  h H1 e _ fun H2 e2 => ⟨z, rfl, sizeOk hz, q H2 e2⟩
theorem ev_ixB {σ : L2.St} {H : Hp} {ta tb : TE} {z : Str} {i : Int} {c : Nat} (ha : Ev ta σ H (.str z)) (hb : Ev tb σ H (.int i)) (hz : z.length ≤ 16777216) (hi : atI z.cps.toList i = some c) : Ev (tOp rIxS ta tb) σ H (.str ⟨#[c]⟩) :=
  ev_op ha hb fun H1 _ _ q => ⟨z, i, c, rfl, rfl, sizeOk hz, hi, q H1 (Ex.refl H1)⟩
theorem ev_slB {σ : L2.St} {H : Hp} {te : TE} {tl th : TO} {z : Str} {lo hi : Option Int} (h : Ev te σ H (.str z)) (h1 : EvO tl σ H lo) (h2 : EvO th σ H hi) (hz : z.length ≤ 16777216) : Ev (tSl rSlS te tl th) σ H (.str (cutS z lo hi)) := fun H1 e Q q =>
  h H1 e _ fun H2 e2 => h1 H2 (e.trans e2) _ fun H3 e3 => h2 H3 ((e.trans e2).trans e3) _ fun H4 e4 => ⟨z, rfl, sizeOk hz, q H4 ((e2.trans e3).trans e4)⟩
theorem at_natS {l : List Nat} {j c : Nat} (h : l[j]? = some c) : atI l (j : Int) = some c := by
  have hj := (List.getElem?_eq_some_iff.mp h).1
  unfold atI
  rw [ixN_nat hj]
  exact h
theorem q_asgAug {σ : L2.St} {H : Hp} {te : TE} {tz : TS} {D : Ends} {i : Nat} {a b : Int} (hx : σ[i]? = some (some (.int a))) (h : Ev te σ H (.int b)) (k : ∀ H1, Ex H H1 → tz D (σ.set i (some (.int (a + b)))) H1) : tSeq (tAug i te (ipI fun i j => i + j)) tz D σ H := q_aug hx h k
theorem q_callV {sp : Sp} {dvs vs : List V} {E : XK} {ta : TA} {σ : L2.St} {H : Hp} {tz : TS} {D : Ends} {i : Nat} (h : EvA ta σ H vs) (k : ∀ H1, Ex H H1 → sp (vs ++ dvs) H1 (fun v H2 => tz D (σ.set i (some v)) H2) E) : tSeq (tAsg (tCall sp dvs E ta) (gName i)) tz D σ H := h H (Ex.refl H) _ fun H1 e1 => k H1 e1
/-! ### a small tactic: what an expression evaluates to -/
local macro_rules | `(tactic| walk_at "side") => `(tactic| first | assumption | decide | (show (0 : Int) < _; omega) | omega | (show CDivW _ _; exact ⟨by first | decide | omega, by decide⟩) | (show CPow _ _; exact ⟨by decide, by decide, by decide⟩) | (show CMulX _ _; (refine Wd.mul ?_ ?_ <;> walk_at "wd")))
local macro_rules | `(tactic| walk_at "wd") => `(tactic| first | assumption | exact Wd.lit (by decide) | exact Wd.small (by omega) (by omega) | (refine Wd.div ?_; walk_at "wd") | (refine Wd.mod ?_ ?_; (first | decide | omega); (walk_at "wd")) | (refine Wd.neg ?_; walk_at "wd"))
local macro_rules | `(tactic| walk_at "call") => `(tactic| fail "no call")
local macro_rules | `(tactic| walk_at "seq") => `(tactic| first | assumption | (refine ex_l ?_ ?_ <;> assumption) | exact sq_of (by assumption))
local macro_rules | `(tactic| walk_at "ev") => `(tactic| first
  | with_reducible exact ev_c
  | exact ev_var rfl
  | (refine ev_intI ?_; walk_at "ev")
  | (refine ev_bin0 ?_ ?_; (walk_at "ev"); (walk_at "ev"))
  | (refine ev_bin ?_ ?_ ?_; (walk_at "ev"); (walk_at "ev"); (walk_at "side"))
  | (refine ev_eqI ?_ ?_; (walk_at "ev"); (walk_at "ev"))
  | (refine ev_neI ?_ ?_; (walk_at "ev"); (walk_at "ev"))
  | (refine ev_eqS ?_ ?_; (walk_at "ev"); (walk_at "ev"))
  | (refine ev_neS ?_ ?_; (walk_at "ev"); (walk_at "ev"))
  | (refine ev_neg ?_; walk_at "ev")
  | walk_at "call")
local macro_rules | `(tactic| walk_at "et") => `(tactic| first
  | (refine et_test ?_; walk_at "ev")
  | (refine et_B ?_; walk_at "ev")
  | (refine et_not ?_; walk_at "et"))
local macro_rules | `(tactic| walk_at "ea") => `(tactic| first | exact ea_nil | (refine ea_cons ?_ ?_; (walk_at "ev"); (walk_at "ea")))


/-! ### items and their written form -/
inductive It where
  | non
  | int (i : Int)
  | str (z : Str)
  | tup (xs : List It)
def numC (i : Int) : List Nat := (toString i : Str).cps.toList
mutual
/-- the codes of the written item -/
def encC : It → List Nat
  | .non => [110]
  | .int i => 105 :: (numC i ++ [59])
  | .str z => 116 :: (numC (z.length : Int) ++ (58 :: z.cps.toList))
  | .tup xs => 40 :: (encL xs ++ [41])
def encL : List It → List Nat
  | [] => []
  | d :: ds => encC d ++ encL ds
end
theorem encL_flat : ∀ ds : List It, encL ds = (ds.map encC).flatten
  | [] => rfl
  | d :: ds => by
    show encC d ++ encL ds = _
    rw [encL_flat ds, List.map_cons, List.flatten_cons]
theorem encL_app : ∀ a b : List It, encL (a ++ b) = encL a ++ encL b
  | [], b => rfl
  | x :: a, b => by
    show encC x ++ encL (a ++ b) = encC x ++ encL a ++ encL b
    rw [encL_app a b, List.append_assoc]
theorem encC_pos (d : It) : 1 ≤ (encC d).length := by
  cases d with
  | non => exact Nat.le_refl 1
  | int i => show 1 ≤ (105 :: _).length; simp
  | str z => show 1 ≤ (116 :: _).length; simp
  | tup xs => show 1 ≤ (40 :: _).length; simp
theorem encL_mem : ∀ {ds : List It} {d : It}, d ∈ ds → (encC d).length ≤ (encL ds).length
  | d' :: ds, d, h => by
    show _ ≤ (encC d' ++ encL ds).length
    rw [List.length_append]
    rcases List.mem_cons.mp h with e | e
    · rw [e]; omega
    · have := encL_mem e; omega
mutual
/-- the value v of the heap is the item -/
inductive Dv (K : PySem.W.Frag) (H : Hp) : V → It → Prop
  | non : Dv K H .non .non
  | int (i : Int) : Dv K H (.int i) (.int i)
  | str (z : Str) : Dv K H (.str z) (.str z)
  | tup {a : Addr} {xs : List V} {ds : List It} (h : SqT K H a xs) (r : DvL K H xs ds) : Dv K H (.ref a) (.tup ds)
inductive DvL (K : PySem.W.Frag) (H : Hp) : List V → List It → Prop
  | nil : DvL K H [] []
  | cons {v : V} {vs : List V} {d : It} {ds : List It} (h : Dv K H v d) (r : DvL K H vs ds) : DvL K H (v :: vs) (d :: ds)
end
/-- all but lists stands as it stood -/
def ExN (H H' : Hp) : Prop := ∀ a o, H a = some o → (∀ xs, o ≠ .lst xs) → H' a = some o
theorem exN_t {K : PySem.W.Frag} {H H' : Hp} {a : Addr} {xs : List V} (e : ExN H H') (h : SqT K H a xs) : SqT K H' a xs := by
  rcases h with (h | ⟨o, h⟩) | h
  · exact .inl (.inl (e _ _ h fun _ z => nomatch z))
  · exact .inl (.inr ⟨o, e _ _ h fun _ z => nomatch z⟩)
  · exact .inr h
theorem Ex.n {H H' : Hp} (e : Ex H H') : ExN H H' := fun a o h _ => e a o h
theorem ExN.trans {H H1 H2 : Hp} (a : ExN H H1) (b : ExN H1 H2) : ExN H H2 := fun x o h n => b x o (a x o h n) n
theorem ExN.upd {H : Hp} {p : Addr} {xs : List V} {o : HO} (h : H p = some (.lst xs)) : ExN H (upd H p o) := fun a u e n => by
  rw [upd_ne (fun z => n xs (by rw [z, h] at e; exact (Option.some.inj e).symm))]
  exact e
mutual
theorem Dv.monoN {K : PySem.W.Frag} {H H' : Hp} (e : ExN H H') : ∀ {v : V} {d : It}, Dv K H v d → Dv K H' v d
  | _, _, .non => .non
  | _, _, .int i => .int i
  | _, _, .str z => .str z
  | _, _, .tup h r => .tup (exN_t e h) (DvL.monoN e r)
theorem DvL.monoN {K : PySem.W.Frag} {H H' : Hp} (e : ExN H H') : ∀ {vs : List V} {ds : List It}, DvL K H vs ds → DvL K H' vs ds
  | _, _, .nil => .nil
  | _, _, .cons h r => .cons (Dv.monoN e h) (DvL.monoN e r)
end
theorem Dv.mono {K : PySem.W.Frag} {H H' : Hp} (e : Ex H H') {v : V} {d : It} (h : Dv K H v d) : Dv K H' v d := h.monoN (Ex.n e)
theorem DvL.mono {K : PySem.W.Frag} {H H' : Hp} (e : Ex H H') {vs : List V} {ds : List It} (h : DvL K H vs ds) : DvL K H' vs ds := h.monoN (Ex.n e)
theorem DvL.app {K : PySem.W.Frag} {H : Hp} : ∀ {vs us : List V} {ds es : List It}, DvL K H vs ds → DvL K H us es → DvL K H (vs ++ us) (ds ++ es)
  | _, _, _, _, .nil, h => h
  | _, _, _, _, .cons a r, h => .cons a (r.app h)
theorem DvL.take {K : PySem.W.Frag} {H : Hp} : ∀ {vs : List V} {ds : List It} (n : Nat), DvL K H vs ds → DvL K H (vs.take n) (ds.take n)
  | _, _, 0, _ => .nil
  | _, _, _ + 1, .nil => .nil
  | _, _, n + 1, .cons a r => .cons a (r.take n)
theorem DvL.drop {K : PySem.W.Frag} {H : Hp} : ∀ {vs : List V} {ds : List It} (n : Nat), DvL K H vs ds → DvL K H (vs.drop n) (ds.drop n)
  | _, _, 0, h => h
  | _, _, _ + 1, .nil => .nil
  | _, _, n + 1, .cons _ r => r.drop n
theorem DvL.len {K : PySem.W.Frag} {H : Hp} : ∀ {vs : List V} {ds : List It}, DvL K H vs ds → vs.length = ds.length
  | _, _, .nil => rfl
  | _, _, .cons _ r => congrArg (· + 1) r.len
theorem DvL.at {K : PySem.W.Frag} {H : Hp} : ∀ {vs : List V} {ds : List It}, DvL K H vs ds → ∀ {i : Nat} {v : V} {d : It}, vs[i]? = some v → ds[i]? = some d → Dv K H v d
  | _, _, .cons h _, 0, v, d, e1, e2 => by
    have e1 := Option.some.inj e1
    have e2 := Option.some.inj e2
    subst e1 e2
    exact h
  | _, _, .cons _ r, i + 1, v, d, e1, e2 => r.at (i := i) (by simpa using e1) (by simpa using e2)
/-- depth, width and sizes -/
def It.fit : Nat → It → Prop
  | 0, x => match x with
    | .non => True
    | .int i => -(10 ^ 60) < i ∧ i < 10 ^ 60
    | .str z => z.length ≤ 999999
    | .tup _ => False
  | n + 1, x => match x with
    | .non => True
    | .int i => -(10 ^ 60) < i ∧ i < 10 ^ 60
    | .str z => z.length ≤ 999999
    | .tup xs => xs.length ≤ 1000 ∧ ∀ y ∈ xs, It.fit n y
theorem log60 {i : Int} (h : -(10 ^ 60) < i ∧ i < 10 ^ 60) : i.natAbs.log2 < 1920 := by
  have e60 : (10 : Int) ^ 60 = 1000000000000000000000000000000000000000000000000000000000000 := by decide
  rw [e60] at h
  exact Nat.lt_of_lt_of_le (PySem.Flt.log2_lt_of (k := 256) (by decide) (by omega)) (by decide)
theorem fit_int60 {n : Nat} {i : Int} (h : It.fit n (.int i)) : -(10 ^ 60) < i ∧ i < 10 ^ 60 := by cases n <;> exact h
theorem fit_int {n : Nat} {i : Int} (h : It.fit n (.int i)) : i.natAbs.log2 < 1920 := log60 (fit_int60 h)
theorem fit_str {n : Nat} {z : Str} (h : It.fit n (.str z)) : z.length ≤ 999999 := by cases n <;> exact h
theorem It.fit_mono : ∀ {n m : Nat} {d : It}, It.fit n d → n ≤ m → It.fit m d
  | n, m, .non, _, _ => by cases m <;> trivial
  | n, m, .int i, h, _ => by
    have := fit_int60 h
    cases m <;> exact this
  | n, m, .str z, h, _ => by
    have := fit_str h
    cases m <;> exact this
  | 0, m, .tup xs, h, _ => h.elim
  | n + 1, 0, .tup xs, h, e => by omega
  | n + 1, m + 1, .tup xs, h, e => ⟨h.1, fun y hy => It.fit_mono (h.2 y hy) (by omega)⟩
def spEnc (K : PySem.W.Frag) (n : Nat) : Sp := fun vs H Q _ => ∃ (v : V) (d : It), vs = [v] ∧ Dv K H v d ∧ d.fit n ∧ (encC d).length ≤ 16000000 ∧ ∀ H', Ex H H' → Q (.str ⟨(encC d).toArray⟩) H'
theorem cv_enc {K : PySem.W.Frag} {n : Nat} {v : V} {d : It} {H : Hp} (h : Dv K H v d) (hf : d.fit n) (hz : (encC d).length ≤ 16000000) : SpV (spEnc K n) [v] H (.str ⟨(encC d).toArray⟩) := fun H1 e Q q E => ⟨v, d, rfl, h.mono e, hf, hz, fun H2 e2 => q H2 e2⟩
/-- '(' + ''.join([f(part) for part in item]) + ')' -/
theorem ev_parts {K : PySem.W.Frag} {σ : L2.St} {H : Hp} {te tl : TE} {j : Nat} {vs : List Nat} {a : Addr} {xs : List V} {ds : List It} {n : Nat} (hl : Ev tl σ H (.ref a)) (h : SqT K H a xs) (r : DvL K H xs ds) (hf : It.fit (n + 1) (.tup ds)) (hz : (encC (.tup ds)).length ≤ 16000000)
    (hw : ∀ x, wipe ((wipe σ vs).set j (some x)) vs = wipe σ vs)
    (he : ∀ (x : V) (d : It) H1, Ex H H1 → Dv K H1 x d → d.fit n → (encC d).length ≤ 16000000 → Ev te ((wipe σ vs).set j (some x)) H1 (.str ⟨(encC d).toArray⟩)) :
    Ev (tOp (fun x y H Q => ∃ i j, x = V.str i ∧ y = V.str j ∧ i.length + j.length ≤ sizeLine ∧ Q (.str (i ++ j)) H) (tOp (fun x y H Q => ∃ i j, x = V.str i ∧ y = V.str j ∧ i.length + j.length ≤ sizeLine ∧ Q (.str (i ++ j)) H) (tC (.str (Str.ofString "(")))
      (tM1 (fun x xs H Q => ∃ a p, ∃ ys : List Str, x = .str a ∧ xs = [.ref p] ∧ (SqL K H p (ys.map V.str) ∨ SqT K H p (ys.map V.str)) ∧ (ys.map (·.length)).sum + ys.length * a.length ≤ 16777216 ∧ Q (.str (Txt.join a ys)) H) (tC (.str (Str.ofString ""))) (tLc (iTup K tl) (gName j) tYes te vs)))
      (tC (.str (Str.ofString ")")))) σ H (.str ⟨(encC (.tup ds)).toArray⟩) := by
  have ez : (encC (.tup ds)).length = (encL ds).length + 2 := by
    show (40 :: (encL ds ++ [41])).length = _
    rw [List.length_cons, List.length_append] <;> rfl
  have ef : (encL ds) = (ds.map encC).flatten := encL_flat ds
  have ej : Txt.join (Str.ofString "") ((ds.map encC).map fun c => (⟨c.toArray⟩ : Str)) = ⟨(encL ds).toArray⟩ := by rw [join_codes, ef]
  have e1 : (⟨(encC (.tup ds)).toArray⟩ : Str) = Str.ofString "(" ++ Txt.join (Str.ofString "") ((ds.map encC).map fun c => (⟨c.toArray⟩ : Str)) ++ Str.ofString ")" := by
    refine str_ext ?_
    rw [ej]
    have a1 : (Str.ofString "(").cps.toList = [40] := by decide +kernel
    have a2 : (Str.ofString ")").cps.toList = [41] := by decide +kernel
    rw [codes_app (codes_app a1 rfl) a2]
    show 40 :: (encL ds ++ [41]) = _
    simp
  rw [e1]
  have l1 : (Str.ofString "(").length = 1 := by decide +kernel
  have l2 : (Str.ofString ")").length = 1 := by decide +kernel
  have l3 : (Str.ofString "(" ++ Txt.join (Str.ofString "") ((ds.map encC).map fun c => (⟨c.toArray⟩ : Str))).length = 1 + (encL ds).length := by
    rw [ej, str_len, codes_app (x := [40]) (by decide +kernel) rfl, List.length_append]
    simp
  have l4 : (Txt.join (Str.ofString "") ((ds.map encC).map fun c => (⟨c.toArray⟩ : Str))).length = (encL ds).length := by
    rw [ej, str_len]
  refine ev_addS (ev_addS ev_c (ev_joinN (K := K) ev_c (el_mapT (K := K) hl h ?_ hw ?_ fun i x y hx hy H1 ex => ?_) ?_) ?_) ev_c ?_
  · have := hf.1
    rw [r.len]; omega
  · rw [List.length_map, List.length_map, List.length_map, r.len]
  · rw [List.getElem?_map, List.getElem?_map, List.getElem?_map] at hy
    cases e : ds[i]? with
    | none =>
      rw [e] at hy
      cases hy
    | some d =>
      rw [e] at hy
      have ey : y = .str ⟨(encC d).toArray⟩ := (Option.some.inj hy).symm
      have hm := List.mem_of_getElem? e
      rw [ey]
      have := encL_mem hm
      exact he x d H1 ex ((r.at hx e).mono ex) (hf.2 d hm) (by omega)
  · rw [sum_codes, ← ef]
    show _ + _ * 0 ≤ 16777216
    omega
  · rw [l1, l4]; omega
  · rw [l3, l2]; omega
/-- return f'i{item};' -/
theorem enc_int {n : Nat} {i : Int} {σ : L2.St} {H : Hp} {D : Ends} (hf : It.fit n (.int i)) (hz : (encC (.int i)).length ≤ 16000000) (q : ∀ H1, Ex H H1 → D.rt (.str ⟨(encC (.int i)).toArray⟩) H1) {te : TE} (he : Ev te σ H (.int i) := by exact ev_var rfl) :
    tRet (fun σ H Q => tJs [tC (.str (Str.ofString "i")), tFmt te, tC (.str (Str.ofString ";"))] Str.empty σ H fun out H1 => Q (.str out) H1) D σ H := by
  have a1 : (Str.ofString "i").cps.toList = [105] := by decide +kernel
  have a2 : (Str.ofString ";").cps.toList = [59] := by decide +kernel
  have a0 : (Str.empty).cps.toList = [] := by decide +kernel
  have ey : ([Str.ofString "i", (toString i : Str), Str.ofString ";"].foldl (· ++ ·) Str.empty : Str) = ⟨(encC (.int i)).toArray⟩ := mk_of (by
    show (((Str.empty ++ Str.ofString "i") ++ (toString i : Str)) ++ Str.ofString ";").cps.toList = _
    rw [codes_app (codes_app (codes_app a0 a1) rfl) a2]
    show _ = 105 :: (numC i ++ [59])
    simp [numC])
  refine s_ret (ev_is (ev_joined (.cons ev_c (.cons (ev_fmtI he (fit_int hf)) (.cons ev_c .nil))) ?_) (congrArg V.str ey)) q
  have e1 : (encC (.int i)).length = 2 + (numC i).length := by
    show (105 :: (numC i ++ [59])).length = _
    rw [List.length_cons, List.length_append, List.length_singleton]
    omega
  have e2 : ([Str.ofString "i", (toString i : Str), Str.ofString ";"].map (·.length)).sum = 1 + ((numC i).length + (1 + 0)) := by
    show (Str.ofString "i").length + ((toString i : Str).length + ((Str.ofString ";").length + 0)) = _
    rw [str_len, str_len, str_len, a1, a2] <;> rfl
  omega
/-- return f't{len(item)}:{item}' -/
theorem enc_str {n : Nat} {z : Str} {σ : L2.St} {H : Hp} {D : Ends} (hf : It.fit n (.str z)) (hz : (encC (.str z)).length ≤ 16000000) (q : ∀ H1, Ex H H1 → D.rt (.str ⟨(encC (.str z)).toArray⟩) H1) {te : TE} (he : Ev te σ H (.str z) := by exact ev_var rfl) :
    tRet (fun σ H Q => tJs [tC (.str (Str.ofString "t")), tFmt (tCB (fun xs H Q => ∃ z, xs = [V.str z] ∧ z.length ≤ sizeLine ∧ Q (.int z.length) H) (tCons te tNil)), tC (.str (Str.ofString ":")), tFmt te] Str.empty σ H fun out H1 => Q (.str out) H1) D σ H := by
  have a1 : (Str.ofString "t").cps.toList = [116] := by decide +kernel
  have a2 : (Str.ofString ":").cps.toList = [58] := by decide +kernel
  have a0 : (Str.empty).cps.toList = [] := by decide +kernel
  have hl := fit_str hf
  have hl2 : z.length ≤ sizeLine := sizeOk (by omega)
  have hs : ((z.length : Int)).natAbs.log2 < 1920 := Nat.lt_of_lt_of_le (PySem.Flt.log2_lt_of (k := 64) (by decide) (by omega)) (by decide)
  have ey : ([Str.ofString "t", (toString (z.length : Int) : Str), Str.ofString ":", z].foldl (· ++ ·) Str.empty : Str) = ⟨(encC (.str z)).toArray⟩ := mk_of (by
    show ((((Str.empty ++ Str.ofString "t") ++ (toString (z.length : Int) : Str)) ++ Str.ofString ":") ++ z).cps.toList = _
    rw [codes_app (codes_app (codes_app (codes_app a0 a1) rfl) a2) rfl]
    show _ = 116 :: (numC (z.length : Int) ++ (58 :: z.cps.toList))
    simp [numC])
  refine s_ret (ev_is (ev_joined (.cons ev_c (.cons (ev_fmtI (fun H1 e Q q => he H1 e _ fun H2 e2 => ⟨z, rfl, hl2, q H2 e2⟩) hs) (.cons ev_c (.cons (ev_fmtS he (by omega)) .nil)))) ?_) (congrArg V.str ey)) q
  have e1 : (encC (.str z)).length = 2 + (numC (z.length : Int)).length + z.cps.toList.length := by
    show (116 :: (numC (z.length : Int) ++ (58 :: z.cps.toList))).length = _
    rw [List.length_cons, List.length_append, List.length_cons]
    omega
  have e2 : ([Str.ofString "t", (toString (z.length : Int) : Str), Str.ofString ":", z].map (·.length)).sum = 1 + ((numC (z.length : Int)).length + (1 + (z.cps.toList.length + 0))) := by
    show (Str.ofString "t").length + ((toString (z.length : Int) : Str).length + ((Str.ofString ":").length + (z.length + 0))) = _
    rw [str_len, str_len (toString _ : Str), str_len (Str.ofString ":"), str_len z, a1, a2] <;> rfl
  omega

def rCatS' : R2 := fun x y H Q => ∃ i j, x = V.str i ∧ y = V.str j ∧ i.length + j.length ≤ sizeLine ∧ Q (.str (i ++ j)) H
/-- return 'i' + str(item) + ';' -/
theorem wr_int {n : Nat} {i : Int} {σ : L2.St} {H : Hp} {D : Ends} (hf : It.fit n (.int i)) (hz : (encC (.int i)).length ≤ 16000000) (q : ∀ H1, Ex H H1 → D.rt (.str ⟨(encC (.int i)).toArray⟩) H1) {te : TE} (he : Ev te σ H (.int i) := by exact ev_var rfl) :
    tRet (tOp rCatS' (tOp rCatS' (tC (.str (Str.ofString "i"))) (tCB (fun xs H Q => ∃ i : Int, xs = [V.int i] ∧ i.natAbs.log2 < 1920 ∧ Q (.str (toString i)) H) (tCons te tNil))) (tC (.str (Str.ofString ";")))) D σ H := by
  have a1 : (Str.ofString "i").cps.toList = [105] := by decide +kernel
  have a2 : (Str.ofString ";").cps.toList = [59] := by decide +kernel
  have ey : ((Str.ofString "i" ++ (toString i : Str)) ++ Str.ofString ";") = (⟨(encC (.int i)).toArray⟩ : Str) := mk_of (by
    rw [codes_app (codes_app a1 rfl) a2]
    show _ = 105 :: (numC i ++ [59])
    simp [numC])
  have e1 : (encC (.int i)).length = 2 + (numC i).length := by
    show (105 :: (numC i ++ [59])).length = _
    rw [List.length_cons, List.length_append, List.length_singleton]
    omega
  have e3 : (toString i : Str).length = (numC i).length := str_len _
  have e2 : (Str.ofString "i" ++ (toString i : Str)).length = 1 + (numC i).length := by
    rw [str_len, codes_app a1 rfl, List.length_append] <;> rfl
  have l1 : (Str.ofString "i").length = 1 := by decide +kernel
  have l2 : (Str.ofString ";").length = 1 := by decide +kernel
  refine s_ret (ev_is (ev_addS (ev_addS ev_c (ev_strI he (fit_int hf)) ?_) ev_c ?_) (congrArg V.str ey)) q
  · rw [l1, e3]; omega
  · rw [e2, l2]; omega
/-- return 't' + str(len(item)) + ':' + item -/
theorem wr_str {n : Nat} {z : Str} {σ : L2.St} {H : Hp} {D : Ends} (hf : It.fit n (.str z)) (hz : (encC (.str z)).length ≤ 16000000) (q : ∀ H1, Ex H H1 → D.rt (.str ⟨(encC (.str z)).toArray⟩) H1) {te : TE} (he : Ev te σ H (.str z) := by exact ev_var rfl) :
    tRet (tOp rCatS' (tOp rCatS' (tOp rCatS' (tC (.str (Str.ofString "t"))) (tCB (fun xs H Q => ∃ i : Int, xs = [V.int i] ∧ i.natAbs.log2 < 1920 ∧ Q (.str (toString i)) H) (tCons (tCB (fun xs H Q => ∃ z, xs = [V.str z] ∧ z.length ≤ sizeLine ∧ Q (.int z.length) H) (tCons te tNil)) tNil))) (tC (.str (Str.ofString ":")))) te) D σ H := by
  have a1 : (Str.ofString "t").cps.toList = [116] := by decide +kernel
  have a2 : (Str.ofString ":").cps.toList = [58] := by decide +kernel
  have hl := fit_str hf
  have hl2 : z.length ≤ sizeLine := sizeOk (by omega)
  have hs : ((z.length : Int)).natAbs.log2 < 1920 := Nat.lt_of_lt_of_le (PySem.Flt.log2_lt_of (k := 64) (by decide) (by omega)) (by decide)
  have ey : (((Str.ofString "t" ++ (toString (z.length : Int) : Str)) ++ Str.ofString ":") ++ z) = (⟨(encC (.str z)).toArray⟩ : Str) := mk_of (by
    rw [codes_app (codes_app (codes_app a1 rfl) a2) rfl]
    show _ = 116 :: (numC (z.length : Int) ++ (58 :: z.cps.toList))
    simp [numC])
  have e1 : (encC (.str z)).length = 2 + (numC (z.length : Int)).length + z.cps.toList.length := by
    show (116 :: (numC (z.length : Int) ++ (58 :: z.cps.toList))).length = _
    rw [List.length_cons, List.length_append, List.length_cons]
    omega
  have e3 : (toString (z.length : Int) : Str).length = (numC (z.length : Int)).length := str_len _
  have e2 : (Str.ofString "t" ++ (toString (z.length : Int) : Str)).length = 1 + (numC (z.length : Int)).length := by
    rw [str_len, codes_app a1 rfl, List.length_append] <;> rfl
  have e4 : ((Str.ofString "t" ++ (toString (z.length : Int) : Str)) ++ Str.ofString ":").length = 2 + (numC (z.length : Int)).length := by
    rw [str_len, codes_app (codes_app a1 rfl) a2, List.length_append, List.length_append]
    show 1 + _ + 1 = _
    unfold numC
    omega
  have l1 : (Str.ofString "t").length = 1 := by decide +kernel
  have l2 : (Str.ofString ":").length = 1 := by decide +kernel
  have l4 := str_len z
  refine s_ret (ev_is (ev_addS (ev_addS (ev_addS ev_c (ev_strI (fun H1 e Q q => he H1 e _ fun H2 e2 => ⟨z, rfl, hl2, q H2 e2⟩) hs) ?_) ev_c ?_) he ?_) (congrArg V.str ey)) q
  · rw [l1, e3]; omega
  · rw [e2, l2]; omega
  · rw [e4]; omega
/-! ### sizes -/
theorem numC_len {i : Int} (h : i.natAbs.log2 < 1920) : (numC i).length ≤ 1921 := by
  have e := int_text_length_le (k := 1920) (by decide) h
  have e2 : (numC i).length = (toString i : Str).length := (str_len _).symm
  rw [e2]
  show (Str.ofString (toString i)).length ≤ 1921
  rw [PySem.ofString_length]
  exact e
theorem enc_int_len {i : Int} (h : i.natAbs.log2 < 1920) : (encC (.int i)).length ≤ 1923 := by
  have := numC_len h
  show (105 :: (numC i ++ [59])).length ≤ _
  rw [List.length_cons, List.length_append, List.length_singleton]
  omega
theorem enc_str_len {z : Str} (h : z.length ≤ 1000000) : (encC (.str z)).length ≤ 1923 + z.length := by
  have hs : ((z.length : Int)).natAbs.log2 < 1920 := Nat.lt_of_lt_of_le (PySem.Flt.log2_lt_of (k := 64) (by decide) (by omega)) (by decide)
  have := numC_len hs
  have e := str_len z
  show (116 :: (numC (z.length : Int) ++ (58 :: z.cps.toList))).length ≤ _
  rw [List.length_cons, List.length_append, List.length_cons]
  omega
/-- a value of the document: None, an int below 10 ** 60, a text of some signs -/
def It.sc : It → Prop
  | .non => True
  | .int i => -(10 ^ 60) < i ∧ i < 10 ^ 60
  | .str z => z.length ≤ 200
  | .tup _ => False
def vz : It → V
  | .non => .non
  | .int i => .int i
  | .str z => .str z
  | .tup _ => .non
theorem It.sc_fit {d : It} (h : d.sc) (n : Nat) : d.fit n := by
  cases d with
  | non => cases n <;> trivial
  | int i => cases n <;> exact h
  | str z =>
    have h : z.length ≤ 200 := h
    cases n <;> (show z.length ≤ 999999; omega)
  | tup xs => exact h.elim
theorem It.sc_len {d : It} (h : d.sc) : (encC d).length ≤ 2200 := by
  cases d with
  | non => show 1 ≤ 2200; decide
  | int i => exact Nat.le_trans (enc_int_len (log60 h)) (by decide)
  | str z =>
    have h : z.length ≤ 200 := h
    have := enc_str_len (z := z) (by omega)
    omega
  | tup xs => exact h.elim
theorem Dv.sc {K : PySem.W.Frag} {H : Hp} {d : It} (h : d.sc) : Dv K H (vz d) d := by
  cases d with
  | non => exact .non
  | int i => exact .int i
  | str z => exact .str z
  | tup xs => exact h.elim
theorem DvL.sc {K : PySem.W.Frag} {H : Hp} : ∀ {ds : List It}, (∀ d ∈ ds, d.sc) → DvL K H (ds.map vz) ds
  | [], _ => .nil
  | d :: ds, h => .cons (.sc (h d (List.mem_cons_self ..))) (.sc fun x hx => h x (List.mem_cons_of_mem _ hx))
theorem encL_len : ∀ {ds : List It} {m : Nat}, (∀ d ∈ ds, (encC d).length ≤ m) → (encL ds).length ≤ ds.length * m
  | [], m, _ => Nat.zero_le _
  | d :: ds, m, h => by
    have h1 := h d (List.mem_cons_self ..)
    have h2 := encL_len (ds := ds) (m := m) fun x hx => h x (List.mem_cons_of_mem _ hx)
    show (encC d ++ encL ds).length ≤ (ds.length + 1) * m
    rw [List.length_append, Nat.add_mul]
    omega
theorem enc_tup_len (ds : List It) : (encC (.tup ds)).length = (encL ds).length + 2 := by
  show (40 :: (encL ds ++ [41])).length = _
  rw [List.length_cons, List.length_append] <;> rfl


/-- the digest -/
def digS (t : Int) (c : Nat) : Int := (31 * t + (c : Int)) % 1000003
def digZ (l : List Nat) : Int := l.foldl digS 7
theorem digZ_succ {l : List Nat} {i c : Nat} (h : l[i]? = some c) : digZ (l.take (i + 1)) = (31 * digZ (l.take i) + (c : Int)) % 1000003 := by
  unfold digZ
  rw [List.take_add_one, h]
  show ((l.take i) ++ [c]).foldl digS 7 = _
  rw [List.foldl_append] <;> rfl
theorem digZ_ge : ∀ (l : List Nat), 0 ≤ digZ l ∧ digZ l < 1000003 := by
  intro l
  unfold digZ
  have key : ∀ (l : List Nat) (t : Int), 0 ≤ t ∧ t < 1000003 → 0 ≤ l.foldl digS t ∧ l.foldl digS t < 1000003 := by
    intro l
    induction l with
    | nil => exact fun t h => h
    | cons a r ih => exact fun t _ => ih (digS t a) ⟨Int.emod_nonneg (31 * t + (a : Int)) (by decide : (1000003 : Int) ≠ 0), Int.emod_lt_of_pos (31 * t + (a : Int)) (by decide : (0 : Int) < 1000003)⟩
  exact key l 7 ⟨by decide, by decide⟩
def spDig : Sp := fun vs H Q _ => ∃ z : Str, vs = [.str z] ∧ ∀ H', Ex H H' → Q (.int (digZ z.cps.toList)) H'
theorem cv_dig {z : Str} {H : Hp} : SpV spDig [.str z] H (.int (digZ z.cps.toList)) := fun H1 e Q q E => ⟨z, rfl, fun H2 e2 => q H2 e2⟩


section
variable {P : Program} {w : World} {K : PySem.W.Frag} {mg : Str → Option Value} {base : Heap}

/-! ### _law_cell -/
def cellZ (ns : List Int) (k : Nat) : Int := ns.getD k 0
def sp_cell (K : PySem.W.Frag) : Sp := fun vs H Q _ => ∃ (a : Addr) (ns : List Int) (k : Nat), vs = [.ref a, .int (k : Int)] ∧ SqL K H a (ns.map V.int) ∧ ∀ H', Ex H H' → Q (.int (cellZ ns k)) H'
theorem ok_law_cell (T : Txt K mg) : FnOk P w K mg base CX0 1 T.f_law_cell T.d_law_cell ["script", "k"] (sp_cell K) := by
  refine T.F_law_cell.ok sc_law_cell (fun vs H Q E h => ?_) (fun cdv A outer s H vs Q E hr h => ?_)
  · obtain ⟨a, ns, k, rfl, _⟩ := h
    rfl
  · obtain ⟨a, ns, k, rfl, hS, q⟩ := h
    refine ⟨_, pss_cons (ps_if (pt_cmpR op_lt (pv 1) (pe_callB (r := rLenQ K) call_len_seq (by rfl) T.m_len (by decide +kernel) (pa_cons (pv 0) (pa_nil))) (nomark _))
      (pss_one (ps_ret (pe_ix (r := rIxL K) ix_list (pv 0) (pv 1) (fun _ _ => rfl))))
      (pss_nil))
      (pss_one (ps_ret (pe_int))), ?_⟩
    refine q_when (b := decide ((k : Int) < ((ns.map V.int).length : Int))) (et_test (ev_bin0 (ev_var rfl) (ev_lenQ (K := K) (ev_var rfl) hS))) (fun hb H1 e1 => ?_) (fun hb H1 e1 => ?_)
    · have hk : k < ns.length := by
        have := of_decide_eq_true hb
        rw [List.length_map] at this
        omega
      refine s_ret (ev_ixL (K := K) (ev_var rfl) (ev_var rfl) (ex_l e1 hS) (at_nat (v := .int (cellZ ns k)) ?_)) fun H2 e2 => q H2 (e1.trans e2)
      rw [List.getElem?_map, List.getElem?_eq_getElem hk]
      unfold cellZ
      rw [List.getD_eq_getElem?_getD, List.getElem?_eq_getElem hk] <;> rfl
    · have hk : ¬ k < ns.length := by
        have := of_decide_eq_false hb
        rw [List.length_map] at this
        omega
      have e0 : cellZ ns k = 0 := by
        unfold cellZ
        rw [List.getD_eq_getElem?_getD, List.getElem?_eq_none (by omega)] <;> rfl
      refine s_ret ev_c fun H2 e2 => ?_
      rw [e0] at q
      exact q H2 (e1.trans e2)
theorem cv_cell {a : Addr} {ns : List Int} {k : Nat} {H : Hp} (h : SqL K H a (ns.map V.int)) : SpV (sp_cell K) [.ref a, .int (k : Int)] H (.int (cellZ ns k)) := fun H1 e Q q E => ⟨a, ns, k, rfl, ex_l e h, fun H2 e2 => q H2 e2⟩
theorem Wd.cell {ns : List Int} (h : ∀ n ∈ ns, Wd n) (k : Nat) : Wd (cellZ ns k) := by
  unfold cellZ
  rw [List.getD_eq_getElem?_getD]
  cases e : ns[k]? with
  | none => exact Wd.lit (by decide)
  | some x => exact h x (List.mem_of_getElem? e)


/-! ### _law_dense_place -/
def denseNs (number : Int) (n : Nat) : List Int := if n = 2 then [number / 6, number % 6] else [number]
def denseAt (shape : List Str) (number start : Int) (k : Nat) : It :=
  if shape.getD k Str.empty = Str.ofString "int" then .int ((denseNs number shape.length).getD k 0 * 3 + start % 1000 - 500) else .str (Str.ofString "ab" ++ (toString ((denseNs number shape.length).getD k 0 * 3 + start % 1000) : Str))
def denseZ (shape : List Str) (number start : Int) : List It := (List.range shape.length).map (denseAt shape number start)
theorem dense_ns {number : Int} {n k : Nat} (h : 0 ≤ number ∧ number ≤ 1000) : 0 ≤ (denseNs number n).getD k 0 ∧ (denseNs number n).getD k 0 ≤ 1000 := by
  unfold denseNs
  split
  · match k with
    | 0 => show 0 ≤ number / 6 ∧ number / 6 ≤ 1000; omega
    | 1 => show 0 ≤ number % 6 ∧ number % 6 ≤ 1000; omega
    | k + 2 => exact ⟨Int.le_refl 0, (by decide : (0 : Int) ≤ 1000)⟩
  · match k with
    | 0 => exact h
    | k + 1 => exact ⟨Int.le_refl 0, (by decide : (0 : Int) ≤ 1000)⟩
theorem denseAt_sc {shape : List Str} {number start : Int} (h : 0 ≤ number ∧ number ≤ 1000) (k : Nat) : (denseAt shape number start k).sc := by
  have h1 := dense_ns (n := shape.length) (k := k) h
  have h2 := Int.emod_nonneg start (by decide : (1000 : Int) ≠ 0)
  have h3 := Int.emod_lt_of_pos start (by decide : (0 : Int) < 1000)
  have e60 : (10 : Int) ^ 60 = 1000000000000000000000000000000000000000000000000000000000000 := by decide
  unfold denseAt
  split
  · show -(10 ^ 60) < _ ∧ _ < 10 ^ 60
    rw [e60]
    omega
  · have hb : ((denseNs number shape.length).getD k 0 * 3 + start % 1000).natAbs.log2 < 64 := PySem.Flt.log2_lt_of (by decide) (by omega)
    have e := int_text_length_le (k := 64) (by decide) hb
    show (Str.ofString "ab" ++ (toString ((denseNs number shape.length).getD k 0 * 3 + start % 1000)   : Str)).length ≤ 200
    rw [str_len, codes_app (x := [97, 98]) (by decide +kernel) rfl, List.length_append, ← str_len]
    have e2 : (Str.ofString (toString ((denseNs number shape.length).getD k 0 * 3 + start % 1000))).length = _ := PySem.ofString_length _
    show 2 + (Str.ofString (toString ((denseNs number shape.length).getD k 0 * 3 + start % 1000))).length ≤ 200
    omega
def sp_dense (K : PySem.W.Frag) : Sp := fun vs H Q _ => ∃ (a : Addr) (shape : List Str) (number start : Int), vs = [.ref a, .int number, .int start] ∧ SqT K H a (shape.map V.str) ∧ (shape.length = 1 ∨ shape.length = 2) ∧ (0 ≤ number ∧ number ≤ 1000) ∧
  ∀ p H', Ex H H' → H' p = some (.tup ((denseZ shape number start).map vz)) → Q (.ref p) H'
theorem cu_dense {a : Addr} {shape : List Str} {number start : Int} {H : Hp} (h : SqT K H a (shape.map V.str)) (hl : shape.length = 1 ∨ shape.length = 2) (hn : 0 ≤ number ∧ number ≤ 1000) : SpU (sp_dense K) [.ref a, .int number, .int start] H ((denseZ shape number start).map vz) := fun H1 e Q q E => ⟨a, shape, number, start, rfl, ex_t e h, hl, hn, fun p H2 e2 hp => q p H2 e2 hp⟩
theorem ok_law_dense_place (T : Txt K mg) : FnOk P w K mg base CX0 1 T.f_law_dense_place T.d_law_dense_place ["shape", "number", "start"] (sp_dense K) := by
  refine T.F_law_dense_place.ok sc_law_dense_place (fun vs H Q E h => ?_) (fun cdv A outer s H vs Q E hr h => ?_)
  · obtain ⟨a, sh, n, st, rfl, _⟩ := h
    rfl
  · obtain ⟨a, sh, n, st, rfl, hA, hl, hn, q⟩ := h
    have h2 := Int.emod_nonneg st (by decide : (1000 : Int) ≠ 0)
    have h3 := Int.emod_lt_of_pos st (by decide : (0 : Int) < 1000)
    refine ⟨_, pss_cons (ps_set (i := 3) sc_law_dense_place.nd rfl (by first | exact Or.inl rfl | exact Or.inr rfl) (pe_lst (pa_cons (pv 1) (pa_nil))))
      (pss_cut (ps_if (pt_cmpR op_eq (pe_callB (r := rLenQ K) call_len_seq (by rfl) T.m_len (by decide +kernel) (pa_cons (pv 0) (pa_nil))) (pe_int) (nomark _))
      (pss_one (ps_set (i := 3) sc_law_dense_place.nd rfl (by first | exact Or.inl rfl | exact Or.inr rfl) (pe_lst (pa_cons (pe_op op_fdivW (pv 1) (pe_int)) (pa_cons (pe_op op_mod (pe_callTy call_int1 (by rfl) T.m_int (by decide +kernel) (pa_cons (pv 1) (pa_nil))) (pe_int)) (pa_nil))))))
      (pss_nil))
      (pss_cons (ps_set (i := 4) sc_law_dense_place.nd rfl (by first | exact Or.inl rfl | exact Or.inr rfl) (pe_lst (pa_nil)))
      (pss_cons (ps_for PassesOwn.never rfl (pi_range1 (by rfl) T.m_range (pa_cons (pe_callB (r := rLenQ K) call_len_seq (by rfl) T.m_len (by decide +kernel) (pa_cons (pv 0) (pa_nil))) (pa_nil))) (pg_name (i := 5) sc_law_dense_place.nd rfl (by first | exact Or.inl rfl | exact Or.inr rfl))
      (pss_one (ps_if (pt_cmpR op_eq (pe_ix (r := rIxT K) ix_tup (pv 0) (pv 5) (fun _ _ => rfl)) (pe_str) (nomark _))
      (pss_one (ps_expr (pe_bm PySem.F.plainAttrs_list PySem.F.slot_list_append PySem.F.type_list_append mt_append (pv 4) (pa_cons (pe_op op_sub (pe_op op_add (pe_op op_mulX (pe_ix (r := rIxL K) ix_list (pv 3) (pv 5) (fun _ _ => rfl)) (pe_int)) (pe_op op_mod (pe_callTy call_int1 (by rfl) T.m_int (by decide +kernel) (pa_cons (pv 2) (pa_nil))) (pe_int))) (pe_int)) (pa_nil)))))
      (pss_one (ps_expr (pe_bm PySem.F.plainAttrs_list PySem.F.slot_list_append PySem.F.type_list_append mt_append (pv 4) (pa_cons (pe_op op_add_str (pe_str) (pe_callTy call_str_int (by rfl) T.m_str (by decide +kernel) (pa_cons (pe_op op_add (pe_op op_mulX (pe_ix (r := rIxL K) ix_list (pv 3) (pv 5) (fun _ _ => rfl)) (pe_int)) (pe_op op_mod (pe_callTy call_int1 (by rfl) T.m_int (by decide +kernel) (pa_cons (pv 2) (pa_nil))) (pe_int))) (pa_nil)))) (pa_nil))))))))
      (pss_one (ps_ret (pe_callTy (r := rTupOf K) call_tuple_of (by rfl) T.m_tuple (by decide +kernel) (pa_cons (pv 4) (pa_nil)))))))), ?_⟩
    refine q_asgL (el_lst (ea_cons (ev_var rfl) ea_nil) (by show 1 ≤ 100000; decide)) fun l H1 hl1 e1 h1 => ?_
    refine q_cut (M := fun σ' H' => ∃ l2 : Addr, σ' = [some (.ref a), some (.int n), some (.int st), some (.ref l2), none, none] ∧ Ex H H' ∧ H' l2 = some (.lst ((denseNs n sh.length).map V.int))) ?_ fun σ' H' hM => ?_
    · refine s_if (b := decide (sh.length = 2)) (et_test (ev_is (ev_eqI (ev_lenT (K := K) (ev_var rfl) (ex_t e1 hA)) ev_c) (by rw [List.length_map]; exact congrArg V.bl (decide_eq_decide.mpr (by omega))))) (fun hb H2 e2 => ?_) (fun hb H2 e2 => ?_)
      · have hb := of_decide_eq_true hb
        refine s_asgL (el_lst (ea_cons (ev_bin (ev_var rfl) ev_c ⟨by decide, by decide⟩) (ea_cons (ev_bin (ev_intI (ev_var rfl)) ev_c (by decide)) ea_nil)) (by show 2 ≤ 100000; decide)) fun l2 H3 _ e3 h3 => ⟨l2, rfl, (e1.trans e2).trans e3, ?_⟩
        unfold denseNs
        rw [if_pos hb]
        exact h3
      · have hb := of_decide_eq_false hb
        refine ⟨l, rfl, e1.trans e2, ?_⟩
        unfold denseNs
        rw [if_neg hb]
        exact e2 l _ h1
    · obtain ⟨l2, rfl, eH, hl2⟩ := hM
      refine q_asgL (el_lst ea_nil (by decide)) fun p H3 hp e3 h3 => ?_
      have hp0 : H p = none := fresh_back eH hp
      have nl : l2 ≠ p := ne_of_none hl2 hp
      refine q_forR1 (n := (sh.length : Int)) (ea_cons (ev_is (ev_lenT (K := K) (ev_var rfl) (ex_t (eH.trans e3) hA)) (by rw [List.length_map])) ea_nil) (by omega)
        (fun i σ' H' => ∃ kv : Option V, σ' = [some (.ref a), some (.int n), some (.int st), some (.ref l2), some (.ref p), kv] ∧ Ex H H' ∧ H' l2 = some (.lst ((denseNs n sh.length).map V.int)) ∧ H' p = some (.lst (((denseZ sh n st).take i).map vz)))
        (fun H4 e4 => ⟨none, rfl, (eH.trans e3).trans e4, e4 _ _ (e3 _ _ hl2), e4 _ _ h3⟩) (fun i σ' H' hi hP => ?_) (fun σ' H' hP => ?_)
      · obtain ⟨kv, rfl, eH, hL, hP⟩ := hP
        have hi2 : i < sh.length := by omega
        have a1 : (sh.map V.str)[i]? = some (.str (sh.getD i Str.empty)) := by
          rw [List.getElem?_map, List.getElem?_eq_getElem hi2, List.getD_eq_getElem?_getD, List.getElem?_eq_getElem hi2] <;> rfl
        have hi3 : i < (denseNs n sh.length).length := by
          unfold denseNs
          split <;> simp <;> omega
        have a2 : ((denseNs n sh.length).map V.int)[i]? = some (.int ((denseNs n sh.length).getD i 0)) := by
          rw [List.getElem?_map, List.getElem?_eq_getElem hi3, List.getD_eq_getElem?_getD, List.getElem?_eq_getElem hi3] <;> rfl
        have hns := dense_ns (n := sh.length) (k := i) hn
        have ed : (denseZ sh n st)[i]? = some (denseAt sh n st i) := by
          unfold denseZ
          rw [List.getElem?_map, List.getElem?_range hi2] <;> rfl
        have hz : (((denseZ sh n st).take i).map vz).length < 100000 := by
          rw [List.length_map, List.length_take]
          omega
        have fin : ∀ H1, Ex H' H1 → ∀ y, y = vz (denseAt sh n st i) → ∃ kv : Option V, ([some (.ref a), some (.int n), some (.int st), some (.ref l2), some (.ref p), kv] : L2.St) = [some (.ref a), some (.int n), some (.int st), some (.ref l2), some (.ref p), some (.int (i : Int))] ∧ Ex H (upd H1 p (.lst (((denseZ sh n st).take i).map vz ++ [y]))) ∧
            upd H1 p (.lst (((denseZ sh n st).take i).map vz ++ [y])) l2 = some (.lst ((denseNs n sh.length).map V.int)) ∧ upd H1 p (.lst (((denseZ sh n st).take i).map vz ++ [y])) p = some (.lst (((denseZ sh n st).take (i + 1)).map vz)) := fun H1 e1 y hy => by
          refine ⟨_, rfl, (eH.trans e1).mut hp0, ?_, ?_⟩
          · rw [upd_ne nl]
            exact e1 _ _ hL
          · rw [upd_same, List.take_add_one, ed, List.map_append, hy] <;> rfl
        refine s_if (b := decide (sh.getD i Str.empty = Str.ofString "int")) (et_test (ev_eqS (ev_ixT (K := K) (ev_var rfl) (ev_var rfl) (ex_t eH hA) (at_nat a1)) ev_c)) (fun hb H1 e1 => ?_) (fun hb H1 e1 => ?_)
        · have eD : denseAt sh n st i = .int ((denseNs n sh.length).getD i 0 * 3 + st % 1000 - 500) := if_pos (of_decide_eq_true hb)
          refine s_app (K := K) (e1 p _ hP) (ev_var rfl) (ev_bin0 (ev_bin0 (ev_bin (ev_ixL (K := K) (ev_var rfl) (ev_var rfl) (sq_of (e1 _ _ hL)) (at_nat a2)) ev_c (Wd.mul (Wd.small (by omega) (by omega)) (Wd.lit (by decide)))) (ev_bin (ev_intI (ev_var rfl)) ev_c (by decide))) ev_c) hz fun H2 e2 => ?_
          obtain ⟨kv, ek, f⟩ := fin H2 (e1.trans e2) _ (by rw [eD] <;> rfl)
          exact ⟨some (.int (i : Int)), rfl, f⟩
        · have eD : denseAt sh n st i = .str (Str.ofString "ab" ++ (toString ((denseNs n sh.length).getD i 0 * 3 + st % 1000) : Str)) := if_neg (of_decide_eq_false hb)
          have hb : ((denseNs n sh.length).getD i 0 * 3 + st % 1000).natAbs.log2 < 64 := PySem.Flt.log2_lt_of (by decide) (by omega)
          have e := int_text_length_le (k := 64) (by decide) hb
          have e3 : (Str.ofString (toString ((denseNs n sh.length).getD i 0 * 3 + st % 1000))).length = _ := PySem.ofString_length _
          refine s_app (K := K) (e1 p _ hP) (ev_var rfl) (ev_addS ev_c (ev_strI (ev_bin0 (ev_bin (ev_ixL (K := K) (ev_var rfl) (ev_var rfl) (sq_of (e1 _ _ hL)) (at_nat a2)) ev_c (Wd.mul (Wd.small (by omega) (by omega)) (Wd.lit (by decide)))) (ev_bin (ev_intI (ev_var rfl)) ev_c (by decide))) (by omega)) ?_) hz fun H2 e2 => ?_
          · show (Str.ofString "ab").length + (Str.ofString (toString ((denseNs n sh.length).getD i 0 * 3 + st % 1000))).length ≤ 16777216
            rw [e3, show (Str.ofString "ab").length = 2 by decide +kernel]
            omega
          · obtain ⟨kv, ek, f⟩ := fin H2 (e1.trans e2) _ (by rw [eD] <;> rfl)
            exact ⟨some (.int (i : Int)), rfl, f⟩
      · obtain ⟨kv, rfl, eH, hL, hP⟩ := hP
        have ec : ((sh.length : Int)).toNat = (denseZ sh n st).length := by
          unfold denseZ
          rw [List.length_map, List.length_range]
          omega
        rw [ec, List.take_length] at hP
        exact s_retU (eu_ofL (K := K) (ev_var rfl) (sq_of hP)) fun p2 H1 _ e1 h1 => q p2 H1 (eH.trans e1) h1


/-! ### _law_digest -/
theorem ok_law_digest (T : Txt K mg) : FnOk P w K mg base CX0 1 T.f_law_digest T.d_law_digest ["text"] spDig := by
  refine T.F_law_digest.ok sc_law_digest (fun vs H Q E h => ?_) (fun cdv A outer s H vs Q E hr h => ?_)
  · obtain ⟨z, rfl, _⟩ := h
    rfl
  · obtain ⟨z, rfl, q⟩ := h
    refine ⟨_, pss_cons (ps_set (i := 1) sc_law_digest.nd rfl (by first | exact Or.inl rfl | exact Or.inr rfl) (pe_int))
      (pss_cons (ps_for PassesOwn.never rfl (pi_str (pv 0)) (pg_name (i := 2) sc_law_digest.nd rfl (by first | exact Or.inl rfl | exact Or.inr rfl))
      (pss_one (ps_set (i := 1) sc_law_digest.nd rfl (by first | exact Or.inl rfl | exact Or.inr rfl) (pe_op op_mod (pe_callTy call_int1 (by rfl) T.m_int (by decide +kernel) (pa_cons (pe_op op_add (pe_op op_mulX (pv 1) (pe_int)) (pe_callB call_ord (by rfl) T.m_ord (by decide +kernel) (pa_cons (pv 2) (pa_nil)))) (pa_nil))) (pe_int)))))
      (pss_one (ps_ret (pv 1)))), ?_⟩
    refine q_asg ev_c fun H1 e1 => ?_
    refine q_forS (ev_var rfl) (fun i σ' H' => ∃ cv : Option V, σ' = [some (.str z), some (.int (digZ (z.cps.toList.take i))), cv] ∧ Ex H H') (fun H2 e2 => ⟨none, rfl, e1.trans e2⟩) (fun i c σ' H' hc hP => ?_) (fun σ' H' hP => ?_)
    · obtain ⟨cv, rfl, eH⟩ := hP
      have hd := digZ_ge (z.cps.toList.take i)
      refine s_asg (v := .int (digZ (z.cps.toList.take (i + 1)))) ?_ fun H2 e2 => ⟨some (.str ⟨#[c]⟩), rfl, eH.trans e2⟩
      rw [digZ_succ hc, Int.mul_comm]
      exact ev_bin (ev_intI (ev_bin0 (ev_bin (ev_var rfl) ev_c (Wd.mul (Wd.small (by omega) (by omega)) (Wd.lit (by decide)))) (ev_ordS (ev_var rfl)))) ev_c (by decide)
    · obtain ⟨cv, rfl, eH⟩ := hP
      rw [List.take_length]
      exact s_ret (ev_var rfl) fun H2 e2 => q H2 (eH.trans e2)


/-! ### _law_integer -/
def integerZ (cell : Int) : Int :=
  if cell % 8 = 0 then 0 else if cell % 8 = 1 then 1 + cell / 8 % 12 else if cell % 8 = 2 then -1 - cell / 8 % 12 else if cell % 8 = 3 then 10 ^ 60 - 1 - cell / 8 % 3 else
  if cell % 8 = 4 then 1 - 10 ^ 60 + cell / 8 % 3 else if cell % 8 = 5 then (cell / 8 * 10 ^ 52 + cell / 8) % 10 ^ 60 else if cell % 8 = 6 then -(cell / 8 % 10 ^ 60) else cell / 8 % 2001 - 1000
theorem integerZ_lt (cell : Int) : -(10 ^ 60) < integerZ cell ∧ integerZ cell < 10 ^ 60 := by
  unfold integerZ
  have h1 := Int.emod_nonneg (cell / 8) (by decide : (12 : Int) ≠ 0)
  have h2 := Int.emod_lt_of_pos (cell / 8) (by decide : (0 : Int) < 12)
  have h3 := Int.emod_nonneg (cell / 8) (by decide : (3 : Int) ≠ 0)
  have h4 := Int.emod_lt_of_pos (cell / 8) (by decide : (0 : Int) < 3)
  have h5 := Int.emod_nonneg (cell / 8 * 10 ^ 52 + cell / 8) (by decide : (10 ^ 60 : Int) ≠ 0)
  have h6 := Int.emod_lt_of_pos (cell / 8 * 10 ^ 52 + cell / 8) (by decide : (0 : Int) < 10 ^ 60)
  have h7 := Int.emod_nonneg (cell / 8) (by decide : (10 ^ 60 : Int) ≠ 0)
  have h8 := Int.emod_lt_of_pos (cell / 8) (by decide : (0 : Int) < 10 ^ 60)
  have h9 := Int.emod_nonneg (cell / 8) (by decide : (2001 : Int) ≠ 0)
  have h10 := Int.emod_lt_of_pos (cell / 8) (by decide : (0 : Int) < 2001)
  generalize (cell / 8 * 10 ^ 52 + cell / 8) % 10 ^ 60 = a at *
  generalize cell / 8 % 10 ^ 60 = b at *
  generalize cell / 8 % 2001 = c at *
  generalize cell / 8 % 12 = d at *
  generalize cell / 8 % 3 = e at *
  have e60 : (10 : Int) ^ 60 = 1000000000000000000000000000000000000000000000000000000000000 := by decide
  rw [e60] at *
  repeat' split
  all_goals omega
theorem integerZ_log (cell : Int) : (integerZ cell).natAbs.log2 < 1920 := by
  have h := integerZ_lt cell
  have e60 : (10 : Int) ^ 60 = 1000000000000000000000000000000000000000000000000000000000000 := by decide
  rw [e60] at h
  refine Nat.lt_of_lt_of_le (PySem.Flt.log2_lt_of (k := 256) (by decide) ?_) (by decide)
  omega
def sp_integer : Sp := fun vs H Q _ => ∃ cell : Int, vs = [.int cell] ∧ Wd cell ∧ ∀ H', Ex H H' → Q (.int (integerZ cell)) H'
theorem cv_integer {cell : Int} {H : Hp} (hc : Wd cell) : SpV sp_integer [.int cell] H (.int (integerZ cell)) := fun H1 e Q q E => ⟨cell, rfl, hc, fun H2 e2 => q H2 e2⟩
theorem ok_law_integer (T : Txt K mg) : FnOk P w K mg base CX0 1 T.f_law_integer T.d_law_integer ["cell"] sp_integer := by
  refine T.F_law_integer.ok sc_law_integer (fun vs H Q E h => ?_) (fun cdv A outer s H vs Q E hr h => ?_)
  · obtain ⟨n, rfl, _⟩ := h
    rfl
  · obtain ⟨n, rfl, hW, q⟩ := h
    unfold integerZ at q
    refine ⟨_, pss_cons (ps_set (i := 1) sc_law_integer.nd rfl (by first | exact Or.inl rfl | exact Or.inr rfl) (pe_op op_mod (pe_callTy call_int1 (by rfl) T.m_int (by decide +kernel) (pa_cons (pv 0) (pa_nil))) (pe_int)))
      (pss_cons (ps_set (i := 2) sc_law_integer.nd rfl (by first | exact Or.inl rfl | exact Or.inr rfl) (pe_op op_fdivW (pv 0) (pe_int)))
      (pss_cons (ps_if (pt_cmpR op_eq (pv 1) (pe_int) (nomark _))
      (pss_one (ps_ret (pe_int)))
      (pss_nil))
      (pss_cons (ps_if (pt_cmpR op_eq (pv 1) (pe_int) (nomark _))
      (pss_one (ps_ret (pe_op op_add (pe_int) (pe_op op_mod (pe_callTy call_int1 (by rfl) T.m_int (by decide +kernel) (pa_cons (pv 2) (pa_nil))) (pe_int)))))
      (pss_nil))
      (pss_cons (ps_if (pt_cmpR op_eq (pv 1) (pe_int) (nomark _))
      (pss_one (ps_ret (pe_op op_sub (pe_un un_neg (pe_int)) (pe_op op_mod (pe_callTy call_int1 (by rfl) T.m_int (by decide +kernel) (pa_cons (pv 2) (pa_nil))) (pe_int)))))
      (pss_nil))
      (pss_cons (ps_if (pt_cmpR op_eq (pv 1) (pe_int) (nomark _))
      (pss_one (ps_ret (pe_op op_sub (pe_op op_sub (pe_op op_pow (pe_int) (pe_int)) (pe_int)) (pe_op op_mod (pe_callTy call_int1 (by rfl) T.m_int (by decide +kernel) (pa_cons (pv 2) (pa_nil))) (pe_int)))))
      (pss_nil))
      (pss_cons (ps_if (pt_cmpR op_eq (pv 1) (pe_int) (nomark _))
      (pss_one (ps_ret (pe_op op_add (pe_op op_sub (pe_int) (pe_op op_pow (pe_int) (pe_int))) (pe_op op_mod (pe_callTy call_int1 (by rfl) T.m_int (by decide +kernel) (pa_cons (pv 2) (pa_nil))) (pe_int)))))
      (pss_nil))
      (pss_cons (ps_if (pt_cmpR op_eq (pv 1) (pe_int) (nomark _))
      (pss_one (ps_ret (pe_op op_mod (pe_callTy call_int1 (by rfl) T.m_int (by decide +kernel) (pa_cons (pe_op op_add (pe_op op_mulX (pv 2) (pe_op op_pow (pe_int) (pe_int))) (pv 2)) (pa_nil))) (pe_op op_pow (pe_int) (pe_int)))))
      (pss_nil))
      (pss_cons (ps_if (pt_cmpR op_eq (pv 1) (pe_int) (nomark _))
      (pss_one (ps_ret (pe_un un_neg (pe_op op_mod (pe_callTy call_int1 (by rfl) T.m_int (by decide +kernel) (pa_cons (pv 2) (pa_nil))) (pe_op op_pow (pe_int) (pe_int))))))
      (pss_nil))
      (pss_one (ps_ret (pe_op op_sub (pe_op op_mod (pe_callTy call_int1 (by rfl) T.m_int (by decide +kernel) (pa_cons (pv 2) (pa_nil))) (pe_int)) (pe_int)))))))))))), ?_⟩
    have p60 : ∀ {σ : L2.St} {H : Hp}, Ev (tOp (rI CPow fun i j => V.int (i ^ j.toNat)) (tC (.int 10)) (tC (.int 60))) σ H (.int (10 ^ 60)) := ev_bin ev_c ev_c ⟨by decide, by decide, by decide⟩
    have p52 : ∀ {σ : L2.St} {H : Hp}, Ev (tOp (rI CPow fun i j => V.int (i ^ j.toNat)) (tC (.int 10)) (tC (.int 52))) σ H (.int (10 ^ 52)) := ev_bin ev_c ev_c ⟨by decide, by decide, by decide⟩
    refine q_asg (ev_bin (ev_intI (ev_var rfl)) ev_c (by decide)) fun H1 e1 => ?_
    refine q_asg (ev_bin (ev_var rfl) ev_c ⟨by decide, by decide⟩) fun H2 e2 => ?_
    have e := e1.trans e2
    refine q_when (et_test (ev_eqI (ev_var rfl) ev_c)) (fun hb H3 e3 => ?_) (fun hb H3 e3 => ?_)
    · rw [if_pos (of_decide_eq_true hb)] at q
      exact s_ret ev_c fun H4 e4 => q H4 ((e.trans e3).trans e4)
    rw [if_neg (of_decide_eq_false hb)] at q
    have e := e.trans e3
    refine q_when (et_test (ev_eqI (ev_var rfl) ev_c)) (fun hb H3 e3 => ?_) (fun hb H3 e3 => ?_)
    · rw [if_pos (of_decide_eq_true hb)] at q
      exact s_ret (ev_bin0 ev_c (ev_bin (ev_intI (ev_var rfl)) ev_c (by decide))) fun H4 e4 => q H4 ((e.trans e3).trans e4)
    rw [if_neg (of_decide_eq_false hb)] at q
    have e := e.trans e3
    refine q_when (et_test (ev_eqI (ev_var rfl) ev_c)) (fun hb H3 e3 => ?_) (fun hb H3 e3 => ?_)
    · rw [if_pos (of_decide_eq_true hb)] at q
      exact s_ret (ev_bin0 (ev_neg ev_c) (ev_bin (ev_intI (ev_var rfl)) ev_c (by decide))) fun H4 e4 => q H4 ((e.trans e3).trans e4)
    rw [if_neg (of_decide_eq_false hb)] at q
    have e := e.trans e3
    refine q_when (et_test (ev_eqI (ev_var rfl) ev_c)) (fun hb H3 e3 => ?_) (fun hb H3 e3 => ?_)
    · rw [if_pos (of_decide_eq_true hb)] at q
      exact s_ret (ev_bin0 (ev_bin0 p60 ev_c) (ev_bin (ev_intI (ev_var rfl)) ev_c (by decide))) fun H4 e4 => q H4 ((e.trans e3).trans e4)
    rw [if_neg (of_decide_eq_false hb)] at q
    have e := e.trans e3
    refine q_when (et_test (ev_eqI (ev_var rfl) ev_c)) (fun hb H3 e3 => ?_) (fun hb H3 e3 => ?_)
    · rw [if_pos (of_decide_eq_true hb)] at q
      exact s_ret (ev_bin0 (ev_bin0 ev_c p60) (ev_bin (ev_intI (ev_var rfl)) ev_c (by decide))) fun H4 e4 => q H4 ((e.trans e3).trans e4)
    rw [if_neg (of_decide_eq_false hb)] at q
    have e := e.trans e3
    refine q_when (et_test (ev_eqI (ev_var rfl) ev_c)) (fun hb H3 e3 => ?_) (fun hb H3 e3 => ?_)
    · rw [if_pos (of_decide_eq_true hb)] at q
      exact s_ret (ev_bin (ev_intI (ev_bin0 (ev_bin (ev_var rfl) p52 (Wd.mul (Wd.div hW) (Wd.lit (by decide)))) (ev_var rfl))) p60 (by decide)) fun H4 e4 => q H4 ((e.trans e3).trans e4)
    rw [if_neg (of_decide_eq_false hb)] at q
    have e := e.trans e3
    refine q_when (et_test (ev_eqI (ev_var rfl) ev_c)) (fun hb H3 e3 => ?_) (fun hb H3 e3 => ?_)
    · rw [if_pos (of_decide_eq_true hb)] at q
      exact s_ret (ev_neg (ev_bin (ev_intI (ev_var rfl)) p60 (by decide))) fun H4 e4 => q H4 ((e.trans e3).trans e4)
    rw [if_neg (of_decide_eq_false hb)] at q
    have e := e.trans e3
    exact s_ret (ev_bin0 (ev_bin (ev_intI (ev_var rfl)) ev_c (by decide)) ev_c) fun H4 e4 => q H4 (e.trans e4)


/-! ### _law_char -/
/-- the law's signs -/
def signsZ : List Nat := [32, 33, 34, 35, 36] ++ (List.range 89).map (· + 38)
theorem signs_len : signsZ.length = 94 := by decide +kernel
theorem signs_ok : ∀ c ∈ signsZ, 32 ≤ c ∧ c ≤ 126 ∧ c ≠ 37 := by decide +kernel
theorem signs_eq : (Str.ofString " !\"#$&'()*+,-./0123456789:;<=>?@ABCDEFGHIJKLMNOPQRSTUVWXYZ[\\]^_`" ++ Str.ofString "abcdefghijklmnopqrstuvwxyz{|}~" : Str) = ⟨signsZ.toArray⟩ := by decide +kernel
def charC (n : Int) : Nat := signsZ.getD (n % 94).toNat 0
def charZ (n : Int) : Str := ⟨#[charC n]⟩
theorem charC_mem (n : Int) : charC n ∈ signsZ := by
  have h1 := Int.emod_nonneg n (by decide : (94 : Int) ≠ 0)
  have h2 := Int.emod_lt_of_pos n (by decide : (0 : Int) < 94)
  have h3 : (n % 94).toNat < signsZ.length := by rw [signs_len]; omega
  unfold charC
  rw [List.getD_eq_getElem?_getD, List.getElem?_eq_getElem h3]
  exact List.getElem_mem h3
def sp_char : Sp := fun vs H Q _ => ∃ n : Int, vs = [.int n] ∧ ∀ H', Ex H H' → Q (.str (charZ n)) H'
theorem cv_char {n : Int} {H : Hp} : SpV sp_char [.int n] H (.str (charZ n)) := fun H1 e Q q E => ⟨n, rfl, fun H2 e2 => q H2 e2⟩
theorem ok_law_char (T : Txt K mg) : FnOk P w K mg base CX0 1 T.f_law_char T.d_law_char ["number"] sp_char := by
  refine T.F_law_char.ok sc_law_char (fun vs H Q E h => ?_) (fun cdv A outer s H vs Q E hr h => ?_)
  · obtain ⟨n, rfl, _⟩ := h
    rfl
  · obtain ⟨n, rfl, q⟩ := h
    have h1 := Int.emod_nonneg n (by decide : (94 : Int) ≠ 0)
    have h2 := Int.emod_lt_of_pos n (by decide : (0 : Int) < 94)
    refine ⟨_, pss_cons (ps_set (i := 1) sc_law_char.nd rfl (by first | exact Or.inl rfl | exact Or.inr rfl) (pe_str))
      (pss_cons (ps_set (i := 1) sc_law_char.nd rfl (by first | exact Or.inl rfl | exact Or.inr rfl) (pe_op op_add_str (pv 1) (pe_str)))
      (pss_one (ps_ret (pe_ix ix_str (pv 1) (pe_op op_mod (pe_callTy call_int1 (by rfl) T.m_int (by decide +kernel) (pa_cons (pv 0) (pa_nil))) (pe_int)) (fun _ _ => rfl))))), ?_⟩
    refine q_asg ev_c fun H1 e1 => ?_
    refine q_asg (ev_addS (ev_var rfl) ev_c (by decide +kernel)) fun H2 e2 => ?_
    refine s_ret (ev_ixS (z := ⟨signsZ.toArray⟩) (c := charC n) (ev_is (ev_var rfl) (congrArg V.str signs_eq)) (ev_bin (ev_intI (ev_var rfl)) ev_c (by decide)) (by decide +kernel) (at_cps rfl h1 (by rw [signs_len]; exact h2))) fun H3 e3 => q H3 ((e1.trans e2).trans e3)


/-! ### _law_draws -/
def drawMix (cell salt : Int) (k : Nat) : Int :=
  ((cell * 48271 + (salt * 97 + (k : Int)) * 69621) % 2147483647 / 8 * ((cell * 48271 + (salt * 97 + (k : Int)) * 69621) % 2147483647 % 50021 + 16807) + (k : Int)) % 998244353 / 11
def drawSt (cell salt base : Int) : Nat → Int × List Int
  | 0 => (if 10 ^ 18 ≤ cell then cell else 0, [])
  | k + 1 => if 0 < (drawSt cell salt base k).1 then ((drawSt cell salt base k).1 / base, (drawSt cell salt base k).2 ++ [(drawSt cell salt base k).1 % base]) else ((drawSt cell salt base k).1, (drawSt cell salt base k).2 ++ [drawMix cell salt k])
theorem drawSt_succ (cell salt base : Int) (k : Nat) : drawSt cell salt base (k + 1) = if 0 < (drawSt cell salt base k).1 then ((drawSt cell salt base k).1 / base, (drawSt cell salt base k).2 ++ [(drawSt cell salt base k).1 % base]) else ((drawSt cell salt base k).1, (drawSt cell salt base k).2 ++ [drawMix cell salt k]) := rfl
def draws (cell salt : Int) (count : Nat) (base : Int) : List Int := (drawSt cell salt base count).2
theorem drawSt_len (cell salt base : Int) : ∀ k, (drawSt cell salt base k).2.length = k
  | 0 => rfl
  | k + 1 => by
    have ih := drawSt_len cell salt base k
    rw [drawSt_succ]
    split <;> simp [ih]
theorem draws_len (cell salt : Int) (n : Nat) (base : Int) : (draws cell salt n base).length = n := drawSt_len cell salt base n
theorem drawMix_ge (cell salt : Int) (k : Nat) : 0 ≤ drawMix cell salt k ∧ drawMix cell salt k < 998244353 := by
  unfold drawMix
  generalize (((cell * 48271 + (salt * 97 + (k : Int)) * 69621) % 2147483647 / 8 * ((cell * 48271 + (salt * 97 + (k : Int)) * 69621) % 2147483647 % 50021 + 16807) + (k : Int))) = m
  omega
theorem drawSt_ok {cell salt base : Int} (hc : Wd cell) (hb : 0 < base) (hbw : Wd base) : ∀ k, Wd (drawSt cell salt base k).1 ∧ ∀ n ∈ (drawSt cell salt base k).2, 0 ≤ n ∧ Wd n
  | 0 => by
    refine ⟨?_, fun n hn => by cases hn⟩
    show Wd (if _ then _ else _)
    split
    · exact hc
    · exact Wd.lit (by decide)
  | k + 1 => by
    obtain ⟨h1, h2⟩ := drawSt_ok (salt := salt) hc hb hbw k
    rw [drawSt_succ]
    split
    · refine ⟨Wd.div h1, fun n hn => ?_⟩
      rcases List.mem_append.mp hn with e | e
      · exact h2 n e
      · rw [List.mem_singleton.mp e]
        exact ⟨Int.emod_nonneg _ (by omega), Wd.mod hb hbw⟩
    · refine ⟨h1, fun n hn => ?_⟩
      rcases List.mem_append.mp hn with e | e
      · exact h2 n e
      · rw [List.mem_singleton.mp e]
        have := drawMix_ge cell salt k
        exact ⟨this.1, Wd.small (by omega) (by omega)⟩
theorem draws_ok {cell salt base : Int} (hc : Wd cell) (hb : 0 < base) (hbw : Wd base) (n : Nat) : ∀ x ∈ draws cell salt n base, 0 ≤ x ∧ Wd x := (drawSt_ok hc hb hbw n).2
theorem drawSt_lt {cell salt base : Int} (hb : 0 < base) (hB : base ≤ 1000000000) : ∀ k, ∀ n ∈ (drawSt cell salt base k).2, 0 ≤ n ∧ n < 1000000000
  | 0 => fun n hn => by cases hn
  | k + 1 => by
    have h2 := drawSt_lt (cell := cell) (salt := salt) hb hB k
    rw [drawSt_succ]
    split
    · intro n hn
      rcases List.mem_append.mp hn with e | e
      · exact h2 n e
      · rw [List.mem_singleton.mp e]
        have a1 := Int.emod_nonneg (drawSt cell salt base k).1 (by omega : base ≠ 0)
        have a2 := Int.emod_lt_of_pos (drawSt cell salt base k).1 hb
        omega
    · intro n hn
      rcases List.mem_append.mp hn with e | e
      · exact h2 n e
      · rw [List.mem_singleton.mp e]
        have := drawMix_ge cell salt k
        omega
theorem draws_lt {cell salt base : Int} (hb : 0 < base) (hB : base ≤ 1000000000) (n : Nat) : ∀ x ∈ draws cell salt n base, 0 ≤ x ∧ x < 1000000000 := drawSt_lt hb hB n
def sp_draws (K : PySem.W.Frag) : Sp := fun vs H Q _ => ∃ (cell salt : Int) (count : Nat) (base : Int), vs = [.int cell, .int salt, .int (count : Int), .int base] ∧ Wd cell ∧ (-100000 ≤ salt ∧ salt ≤ 100000) ∧ count ≤ 90000 ∧ 0 < base ∧ base.natAbs.log2 < 9000 ∧
  ∀ p H', H p = none → Ex H H' → H' p = some (.lst ((draws cell salt count base).map V.int)) → Q (.ref p) H'
theorem cl_draws {cell salt base : Int} {count : Nat} {H : Hp} (h1 : Wd cell) (h2 : -100000 ≤ salt ∧ salt ≤ 100000) (h3 : count ≤ 90000) (h4 : 0 < base) (h5 : base.natAbs.log2 < 9000) :
    SpL (sp_draws K) [.int cell, .int salt, .int (count : Int), .int base] H ((draws cell salt count base).map V.int) := fun H1 e Q q E => ⟨cell, salt, count, base, rfl, h1, h2, h3, h4, h5, fun p H2 hp e2 hl => q p H2 hp e2 hl⟩
theorem ok_law_draws (T : Txt K mg) : FnOk P w K mg base CX0 1 T.f_law_draws T.d_law_draws ["cell", "salt", "count", "base"] (sp_draws K) := by
  refine T.F_law_draws.ok sc_law_draws (fun vs H Q E h => ?_) (fun cdv A outer s H vs Q E hr h => ?_)
  · obtain ⟨cell, salt, count, base, rfl, _⟩ := h
    rfl
  · obtain ⟨cell, salt, count, b, rfl, hc, hs, hn, hb, hbl, q⟩ := h
    have hbw : Wd b := ⟨by omega⟩
    refine ⟨_, pss_cons (ps_set (i := 4) sc_law_draws.nd rfl (by first | exact Or.inl rfl | exact Or.inr rfl) (pe_int))
      (pss_cons (ps_if (pt_cmpR op_ge (pv 0) (pe_op op_pow (pe_int) (pe_int)) (nomark _))
      (pss_one (ps_set (i := 4) sc_law_draws.nd rfl (by first | exact Or.inl rfl | exact Or.inr rfl) (pv 0)))
      (pss_nil))
      (pss_cons (ps_set (i := 5) sc_law_draws.nd rfl (by first | exact Or.inl rfl | exact Or.inr rfl) (pe_lst (pa_nil)))
      (pss_cons (ps_for PassesOwn.never rfl (pi_range1 (by rfl) T.m_range (pa_cons (pv 2) (pa_nil))) (pg_name (i := 6) sc_law_draws.nd rfl (by first | exact Or.inl rfl | exact Or.inr rfl))
      (pss_one (ps_if (pt_cmpR op_gt (pv 4) (pe_int) (nomark _))
      (pss_cons (ps_expr (pe_bm PySem.F.plainAttrs_list PySem.F.slot_list_append PySem.F.type_list_append mt_append (pv 5) (pa_cons (pe_op op_mod (pe_callTy call_int1 (by rfl) T.m_int (by decide +kernel) (pa_cons (pv 4) (pa_nil))) (pv 3)) (pa_nil))))
      (pss_one (ps_set (i := 4) sc_law_draws.nd rfl (by first | exact Or.inl rfl | exact Or.inr rfl) (pe_op op_fdivW (pv 4) (pv 3)))))
      (pss_cons (ps_set (i := 7) sc_law_draws.nd rfl (by first | exact Or.inl rfl | exact Or.inr rfl) (pe_op op_mod (pe_callTy call_int1 (by rfl) T.m_int (by decide +kernel) (pa_cons (pe_op op_add (pe_op op_mulX (pv 0) (pe_int)) (pe_op op_mulX (pe_op op_add (pe_op op_mulX (pv 1) (pe_int)) (pv 6)) (pe_int))) (pa_nil))) (pe_int)))
      (pss_cons (ps_set (i := 7) sc_law_draws.nd rfl (by first | exact Or.inl rfl | exact Or.inr rfl) (pe_op op_mod (pe_callTy call_int1 (by rfl) T.m_int (by decide +kernel) (pa_cons (pe_op op_add (pe_op op_mulX (pe_op op_fdivW (pv 7) (pe_int)) (pe_op op_add (pe_op op_mod (pe_callTy call_int1 (by rfl) T.m_int (by decide +kernel) (pa_cons (pv 7) (pa_nil))) (pe_int)) (pe_int))) (pv 6)) (pa_nil))) (pe_int)))
      (pss_one (ps_expr (pe_bm PySem.F.plainAttrs_list PySem.F.slot_list_append PySem.F.type_list_append mt_append (pv 5) (pa_cons (pe_op op_fdivW (pv 7) (pe_int)) (pa_nil))))))))))
      (pss_one (ps_ret (pv 5)))))), ?_⟩
    refine q_asg ev_c fun H1 e1 => ?_
    refine q_ifAsg (v := .int (drawSt cell salt b 0).1) (b := decide (10 ^ 18 ≤ cell)) (et_test (ev_bin0 (j := 10 ^ 18) (ev_var rfl) (ev_is (ev_bin ev_c ev_c ⟨by decide, by decide, by decide⟩) (by decide)))) (fun h => ?_) (fun h => ?_) fun H2 e2 => ?_
    · have e0 : (drawSt cell salt b 0).1 = cell := if_pos (of_decide_eq_true h)
      rw [e0]
      exact ev_var rfl
    · have e0 : (drawSt cell salt b 0).1 = 0 := if_neg (of_decide_eq_false h)
      rw [e0]
      rfl
    refine q_asgL (el_lst ea_nil (by decide)) fun p H3 hp e3 h3 => ?_
    have hp0 : H p = none := fresh_back (e1.trans e2) hp
    refine q_forR1 (n := (count : Int)) (ea_cons (ev_var rfl) ea_nil) (by omega) (fun i σ' H' => ∃ kv mv : Option V, σ' = [some (.int cell), some (.int salt), some (.int (count : Int)), some (.int b), some (.int (drawSt cell salt b i).1), some (.ref p), kv, mv] ∧ Ex H H' ∧ H' p = some (.lst ((drawSt cell salt b i).2.map V.int)))
      (fun H4 e4 => ⟨none, none, rfl, ((e1.trans e2).trans e3).trans e4, e4 p _ h3⟩) (fun i σ' H' hi hP => ?_) (fun σ' H' hP => ?_)
    · obtain ⟨kv, mv, rfl, eH, hl⟩ := hP
      have hW := (drawSt_ok (salt := salt) hc hb hbw i).1
      have hz : ((drawSt cell salt b i).2.map V.int).length < 100000 := by
        rw [List.length_map, drawSt_len]
        omega
      refine s_if (b := decide (0 < (drawSt cell salt b i).1)) (et_test (ev_bin0 (ev_var rfl) ev_c)) (fun h H1 e1 => ?_) (fun h H1 e1 => ?_)
      · have e0 : drawSt cell salt b (i + 1) = ((drawSt cell salt b i).1 / b, (drawSt cell salt b i).2 ++ [(drawSt cell salt b i).1 % b]) := if_pos (of_decide_eq_true h)
        refine q_app (K := K) (e1 p _ hl) (ev_var rfl) (ev_bin (ev_intI (ev_var rfl)) (ev_var rfl) hb) hz fun H2 e2 => ?_
        refine s_asg (ev_bin (ev_var rfl) (ev_var rfl) ⟨hb, hbl⟩) fun H3 e3 => ⟨some (.int (i : Int)), mv, ?_, (((eH.trans e1).trans e2).mut hp0).trans e3, ?_⟩
        · rw [e0]; rfl
        · rw [e3 p _ upd_same, e0, List.map_append] <;> rfl
      · have e0 : drawSt cell salt b (i + 1) = ((drawSt cell salt b i).1, (drawSt cell salt b i).2 ++ [drawMix cell salt i]) := if_neg (of_decide_eq_false h)
        have hm := Int.emod_nonneg (cell * 48271 + (salt * 97 + (i : Int)) * 69621) (by decide : (2147483647 : Int) ≠ 0)
        have hm2 := Int.emod_lt_of_pos (cell * 48271 + (salt * 97 + (i : Int)) * 69621) (by decide : (0 : Int) < 2147483647)
        refine q_asg (v := .int ((cell * 48271 + (salt * 97 + (i : Int)) * 69621) % 2147483647)) (ev_bin (ev_intI (ev_bin0 (ev_bin (ev_var rfl) ev_c (Wd.mul hc (Wd.lit (by decide)))) (ev_bin (ev_bin0 (ev_bin (ev_var rfl) ev_c (Wd.mul (Wd.small (by omega) (by omega)) (Wd.lit (by decide)))) (ev_var rfl)) ev_c (Wd.mul (Wd.small (by omega) (by omega)) (Wd.lit (by decide)))))) ev_c (by decide)) fun H2 e2 => ?_
        refine q_asg (v := .int (((cell * 48271 + (salt * 97 + (i : Int)) * 69621) % 2147483647 / 8 * ((cell * 48271 + (salt * 97 + (i : Int)) * 69621) % 2147483647 % 50021 + 16807) + (i : Int)) % 998244353)) (ev_bin (ev_intI (ev_bin0 (ev_bin (ev_bin (ev_var rfl) ev_c ⟨by decide, by decide⟩) (ev_bin0 (ev_bin (ev_intI (ev_var rfl)) ev_c (by decide)) ev_c) (Wd.mul (Wd.div (Wd.small (by omega) (by omega))) (Wd.small (by omega) (by omega)))) (ev_var rfl))) ev_c (by decide)) fun H3 e3 => ?_
        refine s_app (K := K) (((e1.trans e2).trans e3) p _ hl) (ev_var rfl) (v := .int (drawMix cell salt i)) (ev_bin (ev_var rfl) ev_c ⟨by decide, by decide⟩) hz fun H4 e4 => ⟨some (.int (i : Int)), some (.int (((cell * 48271 + (salt * 97 + (i : Int)) * 69621) % 2147483647 / 8 * ((cell * 48271 + (salt * 97 + (i : Int)) * 69621) % 2147483647 % 50021 + 16807) + (i : Int)) % 998244353)), ?_, ((((eH.trans e1).trans e2).trans e3).trans e4).mut hp0, ?_⟩
        · rw [e0]; rfl
        · rw [upd_same, e0, List.map_append] <;> rfl
    · obtain ⟨kv, mv, rfl, eH, hl⟩ := hP
      have ec : (count : Int).toNat = count := by omega
      rw [ec] at hl
      exact s_ret (ev_var rfl) fun H1 e1 => q p H1 hp0 (eH.trans e1) (e1 p _ hl)


/-! ### _law_text -/
def textLen (cell : Int) : Nat := ([0, 1, 2, 3, 4, 6, (cell / 8 % 61).toNat, 60] : List Nat).getD (cell % 8).toNat 0
theorem textLen_le (cell : Int) : textLen cell ≤ 60 := by
  have h1 := Int.emod_nonneg (cell / 8) (by decide : (61 : Int) ≠ 0)
  have h2 := Int.emod_lt_of_pos (cell / 8) (by decide : (0 : Int) < 61)
  have h3 : ∀ x ∈ ([0, 1, 2, 3, 4, 6, (cell / 8 % 61).toNat, 60] : List Nat), x ≤ 60 := by
    intro x hx
    simp only [List.mem_cons, List.not_mem_nil, or_false] at hx
    omega
  unfold textLen
  rw [List.getD_eq_getElem?_getD]
  cases e : ([0, 1, 2, 3, 4, 6, (cell / 8 % 61).toNat, 60] : List Nat)[(cell % 8).toNat]? with
  | none => exact Nat.zero_le _
  | some x => exact h3 x (List.mem_of_getElem? e)
def textC (cell : Int) : List Nat := (draws (cell / 8) (cell % 8) (textLen cell) 94).map charC
def textZ (cell : Int) : Str := ⟨(textC cell).toArray⟩
theorem textC_len (cell : Int) : (textC cell).length ≤ 60 := by
  unfold textC
  rw [List.length_map, draws_len]
  exact textLen_le cell
theorem textZ_len (cell : Int) : (textZ cell).length ≤ 60 := textC_len cell
theorem textC_ok (cell : Int) : ∀ c ∈ textC cell, c ∈ signsZ := fun c hc => by
  obtain ⟨n, _, e⟩ := List.mem_map.mp hc
  rw [← e]
  exact charC_mem n
def sp_text : Sp := fun vs H Q _ => ∃ cell : Int, vs = [.int cell] ∧ Wd cell ∧ ∀ H', Ex H H' → Q (.str (textZ cell)) H'
theorem cv_text {cell : Int} {H : Hp} (hc : Wd cell) : SpV sp_text [.int cell] H (.str (textZ cell)) := fun H1 e Q q E => ⟨cell, rfl, hc, fun H2 e2 => q H2 e2⟩
theorem ok_law_text (T : Txt K mg) : FnOk P w K mg base CX0 2 T.f_law_text T.d_law_text ["cell"] sp_text := by
  refine T.F_law_text.ok sc_law_text (fun vs H Q E h => ?_) (fun cdv A outer s H vs Q E hr h => ?_)
  · obtain ⟨n, rfl, _⟩ := h
    rfl
  · obtain ⟨n, rfl, hW, q⟩ := h
    have h1 := Int.emod_nonneg n (by decide : (8 : Int) ≠ 0)
    have h2 := Int.emod_lt_of_pos n (by decide : (0 : Int) < 8)
    have h3 := Int.emod_nonneg (n / 8) (by decide : (61 : Int) ≠ 0)
    have hL := textLen_le n
    refine ⟨_, pss_cons (ps_set (i := 1) sc_law_text.nd rfl (by first | exact Or.inl rfl | exact Or.inr rfl) (pe_op op_mod (pe_callTy call_int1 (by rfl) T.m_int (by decide +kernel) (pa_cons (pv 0) (pa_nil))) (pe_int)))
      (pss_cons (ps_set (i := 2) sc_law_text.nd rfl (by first | exact Or.inl rfl | exact Or.inr rfl) (pe_op op_fdivW (pv 0) (pe_int)))
      (pss_cons (ps_set (i := 3) sc_law_text.nd rfl (by first | exact Or.inl rfl | exact Or.inr rfl) (pe_ix (r := rIxL K) ix_list (pe_lst (pa_cons (pe_int) (pa_cons (pe_int) (pa_cons (pe_int) (pa_cons (pe_int) (pa_cons (pe_int) (pa_cons (pe_int) (pa_cons (pe_op op_mod (pe_callTy call_int1 (by rfl) T.m_int (by decide +kernel) (pa_cons (pv 2) (pa_nil))) (pe_int)) (pa_cons (pe_int) (pa_nil)))))))))) (pv 1) (fun _ _ => rfl)))
      (pss_one (ps_ret (pe_join (pe_str) (pe_lc (own := [("number", 4)]) (g := gName 4) (tt := tYes) rfl sc_law_text.nd (pi_list (pe_call (ok_law_draws T) (hr.mono (by first | decide | omega)) (by rfl) T.g_law_draws T.F_law_draws.kp T.b_law_draws .nil pass0 (pa_cons (pv 2) (pa_cons (pv 1) (pa_cons (pv 3) (pa_cons (pe_int) (pa_nil))))))) (blkOk_by (N := ["cell", "choice", "rest", "length", "number"]) (sc := defScope s_law_text) (by decide +kernel)) (fun _ _ _ _ _ => pg_name (i := 4) sc_law_text.nd rfl (Or.inl rfl)) (fun _ _ _ _ _ => pts_nil) (fun _ _ _ _ _ => pe_call (ok_law_char T) (hr.mono (by first | decide | omega)) (by rfl) T.g_law_char T.F_law_char.kp T.b_law_char .nil pass0 (pa_cons (pv 4) (pa_nil))))))))), ?_⟩
    refine q_asg (ev_bin (ev_intI (ev_var rfl)) ev_c (by decide)) fun H1 e1 => ?_
    refine q_asg (ev_bin (ev_var rfl) ev_c ⟨by decide, by decide⟩) fun H2 e2 => ?_
    refine q_asg (v := .int (textLen n : Int)) (ev_ixN (el_lst (ea_cons ev_c (ea_cons ev_c (ea_cons ev_c (ea_cons ev_c (ea_cons ev_c (ea_cons ev_c (ea_cons (ev_bin (ev_intI (ev_var rfl)) ev_c (by decide)) (ea_cons ev_c ea_nil)))))))) (by show 8 ≤ 100000; decide)) (fun _ _ => ev_var rfl) (atI_of h1 ?_)) fun H3 e3 => ?_
    · unfold textLen
      have hh : n % 8 = 0 ∨ n % 8 = 1 ∨ n % 8 = 2 ∨ n % 8 = 3 ∨ n % 8 = 4 ∨ n % 8 = 5 ∨ n % 8 = 6 ∨ n % 8 = 7 := by omega
      rcases hh with e | e | e | e | e | e | e | e <;> rw [e]
      all_goals first | rfl | skip
      show some (V.int (n / 8 % 61)) = some (V.int (((n / 8 % 61).toNat : Nat) : Int))
      rw [Int.toNat_of_nonneg h3]
    · have et : textZ n = Txt.join (Str.ofString "") ((textC n).map fun c => (⟨#[c]⟩ : Str)) := (join_signs (textC n)).symm
      refine s_ret (v := .str (textZ n)) ?_ fun H4 e4 => q H4 (((e1.trans e2).trans e3).trans e4)
      rw [et]
      refine ev_joinN (K := K) ev_c ?_ ?_
      · have em : ((textC n).map fun c => (⟨#[c]⟩ : Str)).map V.str = (draws (n / 8) (n % 8) (textLen n) 94).map fun m => V.str (charZ m) := by
          unfold textC
          rw [List.map_map, List.map_map] <;> rfl
        rw [em]
        refine el_mapN (K := K) (el_call (ea_cons (ev_var rfl) (ea_cons (ev_var rfl) (ea_cons (ev_var rfl) (ea_cons ev_c ea_nil)))) (cl_draws (Wd.div hW) (by omega) (by omega) (by decide) (by decide))) (by rw [draws_len]; omega) (fun x => rfl) fun m _ H5 e5 => ev_call (ea_cons (ev_var rfl) ea_nil) cv_char
      · rw [sum_ones, List.length_map]
        have := textC_len n
        show (textC n).length + (textC n).length * 0 ≤ 16777216
        omega


/-! ### _law_value -/
def valZ (kind : Str) (cell : Int) : It := if (Txt.endswith kind (Str.ofString "?") && decide (cell % 4 = 3)) = true then .non else if cutS kind none (some 3) = Str.ofString "int" then .int (integerZ (cell / 4)) else .str (textZ (cell / 4))
theorem valZ_sc (kind : Str) (cell : Int) : (valZ kind cell).sc := by
  unfold valZ
  split
  · trivial
  · split
    · exact integerZ_lt _
    · have := textZ_len (cell / 4)
      show (textZ (cell / 4)).length ≤ 200
      omega
def sp_value : Sp := fun vs H Q _ => ∃ (kind : Str) (cell : Int), vs = [.str kind, .int cell] ∧ Wd cell ∧ kind.length ≤ 100000 ∧ ∀ H', Ex H H' → Q (vz (valZ kind cell)) H'
theorem cv_value {kind : Str} {cell : Int} {H : Hp} (hc : Wd cell) (hk : kind.length ≤ 100000) : SpV sp_value [.str kind, .int cell] H (vz (valZ kind cell)) := fun H1 e Q q E => ⟨kind, cell, rfl, hc, hk, fun H2 e2 => q H2 e2⟩
theorem ok_law_value (T : Txt K mg) : FnOk P w K mg base CX0 3 T.f_law_value T.d_law_value ["kind", "cell"] sp_value := by
  refine T.F_law_value.ok sc_law_value (fun vs H Q E h => ?_) (fun cdv A outer s H vs Q E hr h => ?_)
  · obtain ⟨kind, n, rfl, _⟩ := h
    rfl
  · obtain ⟨kind, n, rfl, hW, hk, q⟩ := h
    unfold valZ at q
    refine ⟨_, pss_cons (ps_if (PW.pt (pw_and (pt_val (pe_m1 PySem.F.slot_str_endswith PySem.F.type_str_endswith mt_endswith (pv 0) (pe_str))) (pw_and1 (pt_cmpR op_eq (pe_op op_mod (pe_callTy call_int1 (by rfl) T.m_int (by decide +kernel) (pa_cons (pv 1) (pa_nil))) (pe_int)) (pe_int) (nomark _)))))
      (pss_one (ps_ret (pe_non)))
      (pss_nil))
      (pss_cons (ps_if (pt_cmpR op_eq (pe_slice sl_str (pv 0) (po_none) (po_some (pe_int))) (pe_str) (nomark _))
      (pss_one (ps_ret (pe_call (ok_law_integer T) (hr.mono (by first | decide | omega)) (by rfl) T.g_law_integer T.F_law_integer.kp T.b_law_integer .nil pass0 (pa_cons (pe_op op_fdivW (pv 1) (pe_int)) (pa_nil)))))
      (pss_nil))
      (pss_one (ps_ret (pe_call (ok_law_text T) (hr.mono (by first | decide | omega)) (by rfl) T.g_law_text T.F_law_text.kp T.b_law_text .nil pass0 (pa_cons (pe_op op_fdivW (pv 1) (pe_int)) (pa_nil)))))), ?_⟩
    refine q_when (et_and (et_B (ev_ends (ev_var rfl) ev_c)) fun _ => et_test (ev_eqI (ev_bin (ev_intI (ev_var rfl)) ev_c (by decide)) ev_c)) (fun hb H1 e1 => ?_) (fun hb H1 e1 => ?_)
    · rw [if_pos hb] at q
      exact s_ret ev_c fun H2 e2 => q H2 (e1.trans e2)
    rw [if_neg (by rw [hb]; exact Bool.false_ne_true)] at q
    refine q_when (et_test (ev_eqS (ev_slS (ev_var rfl) eo_none (eo_some ev_c) hk) ev_c)) (fun hb H2 e2 => ?_) (fun hb H2 e2 => ?_)
    · rw [if_pos (of_decide_eq_true hb)] at q
      exact s_ret (ev_call (ea_cons (ev_bin (ev_var rfl) ev_c ⟨by decide, by decide⟩) ea_nil) (cv_integer (Wd.div hW))) fun H3 e3 => q H3 ((e1.trans e2).trans e3)
    · rw [if_neg (of_decide_eq_false hb)] at q
      exact s_ret (ev_call (ea_cons (ev_bin (ev_var rfl) ev_c ⟨by decide, by decide⟩) ea_nil) (cv_text (Wd.div hW))) fun H3 e3 => q H3 ((e1.trans e2).trans e3)


/-! ### _law_drawn_place -/
def drawnZ (shape : List Str) (parts : List Int) : List It := (List.range shape.length).map fun k => valZ (shape.getD k Str.empty) (parts.getD k 0)
theorem drawnZ_sc (shape : List Str) (parts : List Int) : ∀ d ∈ drawnZ shape parts, d.sc := fun d hd => by
  obtain ⟨k, _, e⟩ := List.mem_map.mp hd
  rw [← e]
  exact valZ_sc _ _
def sp_drawn (K : PySem.W.Frag) : Sp := fun vs H Q _ => ∃ (a b : Addr) (shape : List Str) (parts : List Int), vs = [.ref a, .ref b] ∧ SqT K H a (shape.map V.str) ∧ SqL K H b (parts.map V.int) ∧ shape.length ≤ parts.length ∧ shape.length ≤ 100 ∧ (∀ n ∈ parts, Wd n) ∧ (∀ z ∈ shape, z.length ≤ 100000) ∧
  ∀ p H', Ex H H' → H' p = some (.tup ((drawnZ shape parts).map vz)) → Q (.ref p) H'
/-- key = _law_drawn_place(shape, a new list of ints) -/
theorem q_drawn {E : XK} {σ : L2.St} {H : Hp} {te : TE} {a : Addr} {shape : List Str} {parts : List Int} {tz : TS} {D : Ends} {i j : Nat} (hl : EvL te σ H (parts.map V.int)) (h : SqT K H a (shape.map V.str)) (h1 : shape.length ≤ parts.length) (h2 : shape.length ≤ 100) (h3 : ∀ n ∈ parts, Wd n) (h4 : ∀ z ∈ shape, z.length ≤ 100000)
    (k : ∀ p H1, Ex H H1 → H1 p = some (.tup ((drawnZ shape parts).map vz)) → tz D (σ.set i (some (.ref p))) H1) (hσ : σ[j]? = some (some (.ref a)) := by rfl) : tSeq (tAsg (tCall (sp_drawn K) [] E (tCons (tVar j) (tCons te tNil))) (gName i)) tz D σ H :=
  ⟨.ref a, hσ, hl H (Ex.refl H) _ fun b H1 _ e1 hb => ⟨a, b, shape, parts, rfl, ex_t e1 h, sq_of hb, h1, h2, h3, h4, fun p H2 e2 hp => k p H2 (e1.trans e2) hp⟩⟩
theorem ok_law_drawn_place (T : Txt K mg) : FnOk P w K mg base CX0 4 T.f_law_drawn_place T.d_law_drawn_place ["shape", "parts"] (sp_drawn K) := by
  refine T.F_law_drawn_place.ok sc_law_drawn_place (fun vs H Q E h => ?_) (fun cdv A outer s H vs Q E hr h => ?_)
  · obtain ⟨a, b, sh, pa, rfl, _⟩ := h
    rfl
  · obtain ⟨a, b, sh, pa, rfl, hA, hB, hl, h100, hW, hz, q⟩ := h
    refine ⟨_, pss_one (ps_ret (pe_callTy (r := rTupOf K) call_tuple_of (by rfl) T.m_tuple (by decide +kernel) (pa_cons (pe_lc (own := [("k", 2)]) (g := gName 2) (tt := tYes) rfl sc_law_drawn_place.nd (pi_range1 (by rfl) T.m_range (pa_cons (pe_callB (r := rLenQ K) call_len_seq (by rfl) T.m_len (by decide +kernel) (pa_cons (pv 0) (pa_nil))) (pa_nil))) (blkOk_by (N := ["shape", "parts", "k"]) (sc := defScope s_law_drawn_place) (by decide +kernel)) (fun _ _ _ _ _ => pg_name (i := 2) sc_law_drawn_place.nd rfl (Or.inl rfl)) (fun _ _ _ _ _ => pts_nil) (fun _ _ _ _ _ => pe_call (ok_law_value T) (hr.mono (by first | decide | omega)) (by rfl) T.g_law_value T.F_law_value.kp T.b_law_value .nil pass0 (pa_cons (pe_ix (r := rIxT K) ix_tup (pv 0) (pv 2) (fun _ _ => rfl)) (pa_cons (pe_ix (r := rIxL K) ix_list (pv 1) (pv 2) (fun _ _ => rfl)) (pa_nil))))) (pa_nil)))), ?_⟩
    refine s_retU (eu_ofN (K := K) (xs := (drawnZ sh pa).map vz) ?_) fun p H1 _ e1 hp => q p H1 e1 hp
    refine el_mapR (n := sh.length) (ea_cons (ev_is (ev_lenT (K := K) (ev_var rfl) hA) (by rw [List.length_map])) ea_nil) (by omega) (fun x => rfl) (by rw [List.length_map]; unfold drawnZ; rw [List.length_map, List.length_range]) fun i y hi hy H1 e1 => ?_
    have hi2 : i < pa.length := by omega
    have a1 : (sh.map V.str)[i]? = some (.str (sh.getD i Str.empty)) := by
      rw [List.getElem?_map, List.getElem?_eq_getElem hi, List.getD_eq_getElem?_getD, List.getElem?_eq_getElem hi] <;> rfl
    have a2 : (pa.map V.int)[i]? = some (.int (pa.getD i 0)) := by
      rw [List.getElem?_map, List.getElem?_eq_getElem hi2, List.getD_eq_getElem?_getD, List.getElem?_eq_getElem hi2] <;> rfl
    have ey : y = vz (valZ (sh.getD i Str.empty) (pa.getD i 0)) := by
      unfold drawnZ at hy
      rw [List.getElem?_map, List.getElem?_map, List.getElem?_range hi] at hy
      exact (Option.some.inj hy).symm
    rw [ey]
    refine ev_call (ea_cons (ev_ixT (K := K) (ev_var rfl) (ev_var rfl) (ex_t e1 hA) (at_nat a1)) (ea_cons (ev_ixL (K := K) (ev_var rfl) (ev_var rfl) (ex_l e1 hB) (at_nat a2)) ea_nil)) (cv_value ?_ ?_)
    · refine hW _ ?_
      rw [List.getD_eq_getElem?_getD, List.getElem?_eq_getElem hi2]
      exact List.getElem_mem hi2
    · refine hz _ ?_
      rw [List.getD_eq_getElem?_getD, List.getElem?_eq_getElem hi]
      exact List.getElem_mem hi


/-! ### _law_written -/
theorem ok_law_written_at (T : Txt K mg) : ∀ n : Nat, FnOk P w K mg base CX0 (n + 1) T.f_law_written T.d_law_written ["item"] (spEnc K n)
  | 0 => by
    refine T.F_law_written.ok sc_law_written (fun vs H Q E h => ?_) (fun cdv A outer s H vs Q E hr h => ?_)
    · obtain ⟨v, d, rfl, _⟩ := h
      rfl
    · obtain ⟨v, d, rfl, hD, hf, hz, q⟩ := h
      refine ⟨_, pss_cons (ps_if (pt_cmpR op_isN (pv 0) (pe_non) (nomark _))
      (pss_one (ps_ret (pe_str)))
      (pss_nil))
      (pss_cons (ps_if (pt_val (pe_callB (r := rIsi K) call_isi (by rfl) T.m_isinstance (by decide +kernel) (pa_cons (pv 0) (pa_cons (pe_bltn (v := .ty "str") (by rfl) T.m_str (by decide +kernel) rfl) (pa_nil)))))
      (pss_one (ps_ret (pe_op op_add_str (pe_op op_add_str (pe_op op_add_str (pe_str) (pe_callTy call_str_int (by rfl) T.m_str (by decide +kernel) (pa_cons (pe_callB call_len_str (by rfl) T.m_len (by decide +kernel) (pa_cons (pv 0) (pa_nil))) (pa_nil)))) (pe_str)) (pv 0))))
      (pss_nil))
      (pss_cons (ps_if (pt_val (pe_callB (r := rIsi K) call_isi (by rfl) T.m_isinstance (by decide +kernel) (pa_cons (pv 0) (pa_cons (pe_bltn (v := .ty "tuple") (by rfl) T.m_tuple (by decide +kernel) rfl) (pa_nil)))))
      (pss_one (ps_never))
      (pss_nil))
      (pss_one (ps_ret (pe_op op_add_str (pe_op op_add_str (pe_str) (pe_callTy call_str_int (by rfl) T.m_str (by decide +kernel) (pa_cons (pv 0) (pa_nil)))) (pe_str)))))), ?_⟩
      cases hD with
      | tup hS r => exact hf.elim
      | non => exact q_when (b := true) (et_test (ev_isNt (ev_var rfl))) (fun _ H1 e1 => s_ret ev_c fun H2 e2 => q H2 (e1.trans e2)) (fun z => nomatch z)
      | int i =>
        refine q_when (b := false) (et_test (ev_isNf (ev_var rfl))) (fun z => nomatch z) fun _ H1 e1 => ?_
        refine q_when (b := false) (et_B (ev_isi (K := K) (a := "int") (ev_var rfl) (fun _ _ => .base (.int i)) (by decide +kernel))) (fun z => nomatch z) fun _ H2 e2 => ?_
        refine q_when (b := false) (et_B (ev_isi (K := K) (a := "int") (ev_var rfl) (fun _ _ => .base (.int i)) (by decide +kernel))) (fun z => nomatch z) fun _ H3 e3 => ?_
        exact wr_int hf hz fun H4 e4 => q H4 (((e1.trans e2).trans e3).trans e4)
      | str z =>
        refine q_when (b := false) (et_test (ev_isNf (ev_var rfl))) (fun z => nomatch z) fun _ H1 e1 => ?_
        refine q_when (b := true) (et_B (ev_isi (K := K) (a := "str") (ev_var rfl) (fun _ _ => .base (.str z)) (by decide +kernel))) (fun _ H2 e2 => ?_) (fun z => nomatch z)
        exact wr_str hf hz fun H4 e4 => q H4 ((e1.trans e2).trans e4)
  | n + 1 => by
    have IH := ok_law_written_at T n
    refine T.F_law_written.ok sc_law_written (fun vs H Q E h => ?_) (fun cdv A outer s H vs Q E hr h => ?_)
    · obtain ⟨v, d, rfl, _⟩ := h
      rfl
    · obtain ⟨v, d, rfl, hD, hf, hz, q⟩ := h
      refine ⟨_, pss_cons (ps_if (pt_cmpR op_isN (pv 0) (pe_non) (nomark _))
      (pss_one (ps_ret (pe_str)))
      (pss_nil))
      (pss_cons (ps_if (pt_val (pe_callB (r := rIsi K) call_isi (by rfl) T.m_isinstance (by decide +kernel) (pa_cons (pv 0) (pa_cons (pe_bltn (v := .ty "str") (by rfl) T.m_str (by decide +kernel) rfl) (pa_nil)))))
      (pss_one (ps_ret (pe_op op_add_str (pe_op op_add_str (pe_op op_add_str (pe_str) (pe_callTy call_str_int (by rfl) T.m_str (by decide +kernel) (pa_cons (pe_callB call_len_str (by rfl) T.m_len (by decide +kernel) (pa_cons (pv 0) (pa_nil))) (pa_nil)))) (pe_str)) (pv 0))))
      (pss_nil))
      (pss_cons (ps_if (pt_val (pe_callB (r := rIsi K) call_isi (by rfl) T.m_isinstance (by decide +kernel) (pa_cons (pv 0) (pa_cons (pe_bltn (v := .ty "tuple") (by rfl) T.m_tuple (by decide +kernel) rfl) (pa_nil)))))
      (pss_one (ps_ret (pe_op op_add_str (pe_op op_add_str (pe_str) (pe_join (pe_str) (pe_lc (own := [("part", 1)]) (g := gName 1) (tt := tYes) rfl sc_law_written.nd (pi_tup (pv 0)) (blkOk_by (N := ["item", "part"]) (sc := defScope s_law_written) (by decide +kernel)) (fun _ _ _ _ _ => pg_name (i := 1) sc_law_written.nd rfl (Or.inl rfl)) (fun _ _ _ _ _ => pts_nil) (fun _ _ _ _ _ => pe_call IH (hr.mono (by omega)) (by rfl) T.g_law_written T.F_law_written.kp T.b_law_written .nil pass0 (pa_cons (pv 1) (pa_nil)))))) (pe_str))))
      (pss_nil))
      (pss_one (ps_ret (pe_op op_add_str (pe_op op_add_str (pe_str) (pe_callTy call_str_int (by rfl) T.m_str (by decide +kernel) (pa_cons (pv 0) (pa_nil)))) (pe_str)))))), ?_⟩
      cases hD with
      | non => exact q_when (b := true) (et_test (ev_isNt (ev_var rfl))) (fun _ H1 e1 => s_ret ev_c fun H2 e2 => q H2 (e1.trans e2)) (fun z => nomatch z)
      | int i =>
        refine q_when (b := false) (et_test (ev_isNf (ev_var rfl))) (fun z => nomatch z) fun _ H1 e1 => ?_
        refine q_when (b := false) (et_B (ev_isi (K := K) (a := "int") (ev_var rfl) (fun _ _ => .base (.int i)) (by decide +kernel))) (fun z => nomatch z) fun _ H2 e2 => ?_
        refine q_when (b := false) (et_B (ev_isi (K := K) (a := "int") (ev_var rfl) (fun _ _ => .base (.int i)) (by decide +kernel))) (fun z => nomatch z) fun _ H3 e3 => ?_
        exact wr_int hf hz fun H4 e4 => q H4 (((e1.trans e2).trans e3).trans e4)
      | str z =>
        refine q_when (b := false) (et_test (ev_isNf (ev_var rfl))) (fun z => nomatch z) fun _ H1 e1 => ?_
        refine q_when (b := true) (et_B (ev_isi (K := K) (a := "str") (ev_var rfl) (fun _ _ => .base (.str z)) (by decide +kernel))) (fun _ H2 e2 => ?_) (fun z => nomatch z)
        exact wr_str hf hz fun H4 e4 => q H4 ((e1.trans e2).trans e4)
      | @tup a xs ds hS r =>
        refine q_when (b := false) (et_test (ev_isNf (ev_var rfl))) (fun z => nomatch z) fun _ H1 e1 => ?_
        refine q_when (b := false) (et_B (ev_isi (K := K) (a := "tuple") (ev_var rfl) (fun H2 e2 => tyx_tup (ex_t (e1.trans e2) hS)) (by decide +kernel))) (fun z => nomatch z) fun _ H2 e2 => ?_
        refine q_when (b := true) (et_B (ev_isi (K := K) (a := "tuple") (ev_var rfl) (fun H3 e3 => tyx_tup (ex_t ((e1.trans e2).trans e3) hS)) (by decide +kernel))) (fun _ H3 e3 => ?_) (fun z => nomatch z)
        refine s_ret (ev_parts (K := K) (ev_var rfl) (ex_t ((e1.trans e2).trans e3) hS) (r.mono ((e1.trans e2).trans e3)) hf hz (fun x => rfl) fun x d H4 e4 hd hf2 hz2 => ev_call (ea_cons (ev_var rfl) ea_nil) (cv_enc hd hf2 hz2)) fun H4 e4 => q H4 (((e1.trans e2).trans e3).trans e4)
theorem ok_law_written (T : Txt K mg) : FnOk P w K mg base CX0 3 T.f_law_written T.d_law_written ["item"] (spEnc K 2) := ok_law_written_at T 2


/-! ### digest -/
theorem ok_digest (T : Txt K mg) : FnOk P w K mg base CX0 1 T.f_digest T.d_digest ["text"] spDig := by
  refine T.F_digest.ok sc_digest (fun vs H Q E h => ?_) (fun cdv A outer s H vs Q E hr h => ?_)
  · obtain ⟨z, rfl, _⟩ := h
    rfl
  · obtain ⟨z, rfl, q⟩ := h
    refine ⟨_, pss_cons (ps_set (i := 1) sc_digest.nd rfl (by first | exact Or.inl rfl | exact Or.inr rfl) (pe_int))
      (pss_cons (ps_for PassesOwn.never rfl (pi_str (pv 0)) (pg_name (i := 2) sc_digest.nd rfl (by first | exact Or.inl rfl | exact Or.inr rfl))
      (pss_one (ps_set (i := 1) sc_digest.nd rfl (by first | exact Or.inl rfl | exact Or.inr rfl) (pe_op op_mod (pe_op op_add (pe_op op_mulX (pe_int) (pv 1)) (pe_callB call_ord (by rfl) T.m_ord (by decide +kernel) (pa_cons (pv 2) (pa_nil)))) (pe_int)))))
      (pss_one (ps_ret (pv 1)))), ?_⟩
    refine q_asg ev_c fun H1 e1 => ?_
    refine q_forS (ev_var rfl) (fun i σ' H' => ∃ cv : Option V, σ' = [some (.str z), some (.int (digZ (z.cps.toList.take i))), cv] ∧ Ex H H') (fun H2 e2 => ⟨none, rfl, e1.trans e2⟩) (fun i c σ' H' hc hP => ?_) (fun σ' H' hP => ?_)
    · obtain ⟨cv, rfl, eH⟩ := hP
      have hd := digZ_ge (z.cps.toList.take i)
      refine s_asg (v := .int (digZ (z.cps.toList.take (i + 1)))) ?_ fun H2 e2 => ⟨some (.str ⟨#[c]⟩), rfl, eH.trans e2⟩
      rw [digZ_succ hc]
      exact ev_bin (ev_bin0 (ev_bin ev_c (ev_var rfl) (Wd.mul (Wd.lit (by decide)) (Wd.small (by omega) (by omega)))) (ev_ordS (ev_var rfl))) ev_c (by decide)
    · obtain ⟨cv, rfl, eH⟩ := hP
      rw [List.take_length]
      exact s_ret (ev_var rfl) fun H2 e2 => q H2 (eH.trans e2)


/-! ### encode -/
theorem ok_encode_at (T : Txt K mg) : ∀ n : Nat, FnOk P w K mg base CX0 (n + 1) T.f_encode T.d_encode ["item"] (spEnc K n)
  | 0 => by
    refine T.F_encode.ok sc_encode (fun vs H Q E h => ?_) (fun cdv A outer s H vs Q E hr h => ?_)
    · obtain ⟨v, d, rfl, _⟩ := h
      rfl
    · obtain ⟨v, d, rfl, hD, hf, hz, q⟩ := h
      refine ⟨_, pss_cons (ps_if (pt_cmpR op_isN (pv 0) (pe_non) (nomark _))
      (pss_one (ps_ret (pe_str)))
      (pss_nil))
      (pss_cons (ps_if (pt_val (pe_callB (r := rIsi K) call_isi (by rfl) T.m_isinstance (by decide +kernel) (pa_cons (pv 0) (pa_cons (pe_bltn (v := .ty "int") (by rfl) T.m_int (by decide +kernel) rfl) (pa_nil)))))
      (pss_one (ps_ret (pe_joined (.cons (pe_str) (.cons (pe_fmt (pv 0)) (.cons (pe_str) (.nil)))))))
      (pss_nil))
      (pss_cons (ps_if (pt_val (pe_callB (r := rIsi K) call_isi (by rfl) T.m_isinstance (by decide +kernel) (pa_cons (pv 0) (pa_cons (pe_bltn (v := .ty "str") (by rfl) T.m_str (by decide +kernel) rfl) (pa_nil)))))
      (pss_one (ps_ret (pe_joined (.cons (pe_str) (.cons (pe_fmt (pe_callB call_len_str (by rfl) T.m_len (by decide +kernel) (pa_cons (pv 0) (pa_nil)))) (.cons (pe_str) (.cons (pe_fmt (pv 0)) (.nil))))))))
      (pss_nil))
      (pss_one (ps_never)))), ?_⟩
      cases hD with
      | tup hS r => exact hf.elim
      | non => exact q_when (b := true) (et_test (ev_isNt (ev_var rfl))) (fun _ H1 e1 => s_ret ev_c fun H2 e2 => q H2 (e1.trans e2)) (fun z => nomatch z)
      | int i =>
        refine q_when (b := false) (et_test (ev_isNf (ev_var rfl))) (fun z => nomatch z) fun _ H1 e1 => ?_
        refine q_when (b := true) (et_B (ev_isi (K := K) (a := "int") (ev_var rfl) (fun _ _ => .base (.int i)) (by decide +kernel))) (fun _ H2 e2 => ?_) (fun z => nomatch z)
        exact enc_int hf hz fun H3 e3 => q H3 ((e1.trans e2).trans e3)
      | str z =>
        refine q_when (b := false) (et_test (ev_isNf (ev_var rfl))) (fun z => nomatch z) fun _ H1 e1 => ?_
        refine q_when (b := false) (et_B (ev_isi (K := K) (a := "str") (ev_var rfl) (fun _ _ => .base (.str z)) (by decide +kernel))) (fun z => nomatch z) fun _ H2 e2 => ?_
        refine q_when (b := true) (et_B (ev_isi (K := K) (a := "str") (ev_var rfl) (fun _ _ => .base (.str z)) (by decide +kernel))) (fun _ H3 e3 => ?_) (fun z => nomatch z)
        exact enc_str hf hz fun H4 e4 => q H4 (((e1.trans e2).trans e3).trans e4)
  | n + 1 => by
    have IH := ok_encode_at T n
    refine T.F_encode.ok sc_encode (fun vs H Q E h => ?_) (fun cdv A outer s H vs Q E hr h => ?_)
    · obtain ⟨v, d, rfl, _⟩ := h
      rfl
    · obtain ⟨v, d, rfl, hD, hf, hz, q⟩ := h
      refine ⟨_, pss_cons (ps_if (pt_cmpR op_isN (pv 0) (pe_non) (nomark _))
      (pss_one (ps_ret (pe_str)))
      (pss_nil))
      (pss_cons (ps_if (pt_val (pe_callB (r := rIsi K) call_isi (by rfl) T.m_isinstance (by decide +kernel) (pa_cons (pv 0) (pa_cons (pe_bltn (v := .ty "int") (by rfl) T.m_int (by decide +kernel) rfl) (pa_nil)))))
      (pss_one (ps_ret (pe_joined (.cons (pe_str) (.cons (pe_fmt (pv 0)) (.cons (pe_str) (.nil)))))))
      (pss_nil))
      (pss_cons (ps_if (pt_val (pe_callB (r := rIsi K) call_isi (by rfl) T.m_isinstance (by decide +kernel) (pa_cons (pv 0) (pa_cons (pe_bltn (v := .ty "str") (by rfl) T.m_str (by decide +kernel) rfl) (pa_nil)))))
      (pss_one (ps_ret (pe_joined (.cons (pe_str) (.cons (pe_fmt (pe_callB call_len_str (by rfl) T.m_len (by decide +kernel) (pa_cons (pv 0) (pa_nil)))) (.cons (pe_str) (.cons (pe_fmt (pv 0)) (.nil))))))))
      (pss_nil))
      (pss_one (ps_ret (pe_op op_add_str (pe_op op_add_str (pe_str) (pe_join (pe_str) (pe_lc (own := [("part", 1)]) (g := gName 1) (tt := tYes) rfl sc_encode.nd (pi_tup (pv 0)) (blkOk_by (N := ["item", "part"]) (sc := defScope s_encode) (by decide +kernel)) (fun _ _ _ _ _ => pg_name (i := 1) sc_encode.nd rfl (Or.inl rfl)) (fun _ _ _ _ _ => pts_nil) (fun _ _ _ _ _ => pe_call IH (hr.mono (by omega)) (by rfl) T.g_encode T.F_encode.kp T.b_encode .nil pass0 (pa_cons (pv 1) (pa_nil)))))) (pe_str)))))), ?_⟩
      cases hD with
      | non => exact q_when (b := true) (et_test (ev_isNt (ev_var rfl))) (fun _ H1 e1 => s_ret ev_c fun H2 e2 => q H2 (e1.trans e2)) (fun z => nomatch z)
      | int i =>
        refine q_when (b := false) (et_test (ev_isNf (ev_var rfl))) (fun z => nomatch z) fun _ H1 e1 => ?_
        refine q_when (b := true) (et_B (ev_isi (K := K) (a := "int") (ev_var rfl) (fun _ _ => .base (.int i)) (by decide +kernel))) (fun _ H2 e2 => ?_) (fun z => nomatch z)
        exact enc_int hf hz fun H3 e3 => q H3 ((e1.trans e2).trans e3)
      | str z =>
        refine q_when (b := false) (et_test (ev_isNf (ev_var rfl))) (fun z => nomatch z) fun _ H1 e1 => ?_
        refine q_when (b := false) (et_B (ev_isi (K := K) (a := "str") (ev_var rfl) (fun _ _ => .base (.str z)) (by decide +kernel))) (fun z => nomatch z) fun _ H2 e2 => ?_
        refine q_when (b := true) (et_B (ev_isi (K := K) (a := "str") (ev_var rfl) (fun _ _ => .base (.str z)) (by decide +kernel))) (fun _ H3 e3 => ?_) (fun z => nomatch z)
        exact enc_str hf hz fun H4 e4 => q H4 (((e1.trans e2).trans e3).trans e4)
      | @tup a xs ds hS r =>
        refine q_when (b := false) (et_test (ev_isNf (ev_var rfl))) (fun z => nomatch z) fun _ H1 e1 => ?_
        refine q_when (b := false) (et_B (ev_isi (K := K) (a := "tuple") (ev_var rfl) (fun H2 e2 => tyx_tup (ex_t (e1.trans e2) hS)) (by decide +kernel))) (fun z => nomatch z) fun _ H2 e2 => ?_
        refine q_when (b := false) (et_B (ev_isi (K := K) (a := "tuple") (ev_var rfl) (fun H3 e3 => tyx_tup (ex_t ((e1.trans e2).trans e3) hS)) (by decide +kernel))) (fun z => nomatch z) fun _ H3 e3 => ?_
        refine s_ret (ev_parts (K := K) (ev_var rfl) (ex_t ((e1.trans e2).trans e3) hS) (r.mono ((e1.trans e2).trans e3)) hf hz (fun x => rfl) fun x d H4 e4 hd hf2 hz2 => ev_call (ea_cons (ev_var rfl) ea_nil) (cv_enc hd hf2 hz2)) fun H4 e4 => q H4 (((e1.trans e2).trans e3).trans e4)
theorem ok_encode (T : Txt K mg) : FnOk P w K mg base CX0 3 T.f_encode T.d_encode ["item"] (spEnc K 2) := ok_encode_at T 2


/-! ### ends_chunk -/
def endsZ (level : Int) (d : It) (count : Int) : Bool := if count = 8 then true else if 0 < level ∧ count < 2 then false else decide (digZ (encC (.tup [.int level, d])) % 4 = 0)
theorem fit_pair {level : Int} {d : It} (hl : -(10 ^ 60) < level ∧ level < 10 ^ 60) {n : Nat} (hd : d.fit n) : It.fit (n + 1) (.tup [.int level, d]) := by
  refine ⟨by show 2 ≤ 1000; decide, fun y hy => ?_⟩
  simp only [List.mem_cons, List.not_mem_nil, or_false] at hy
  rcases hy with e | e
  · subst e
    cases n <;> exact hl
  · subst e
    exact hd
theorem pair_len {level : Int} {d : It} (hl : -(10 ^ 60) < level ∧ level < 10 ^ 60) (hd : (encC d).length ≤ 15000000) : (encC (.tup [.int level, d])).length ≤ 16000000 := by
  have h1 := enc_int_len (log60 hl)
  rw [enc_tup_len]
  show (encC (.int level) ++ (encC d ++ [])).length + 2 ≤ _
  rw [List.length_append, List.append_nil]
  omega
/-- key: an item of the heap -/
def spEnds (K : PySem.W.Frag) : Sp := fun vs H Q _ => ∃ (level count : Int) (kv : V) (d : It), vs = [.int level, kv, .int count] ∧ Dv K H kv d ∧ d.fit 1 ∧ (encC d).length ≤ 15000000 ∧ (-(10 ^ 60) < level ∧ level < 10 ^ 60) ∧ ∀ H', Ex H H' → Q (.bl (endsZ level d count)) H'
theorem cv_ends {level count : Int} {kv : V} {d : It} {H : Hp} (h : Dv K H kv d) (hf : d.fit 1) (hz : (encC d).length ≤ 15000000) (hl : -(10 ^ 60) < level ∧ level < 10 ^ 60) : SpV (spEnds K) [.int level, kv, .int count] H (.bl (endsZ level d count)) := fun H1 e Q q E => ⟨level, count, kv, d, rfl, h.mono e, hf, hz, hl, fun H2 e2 => q H2 e2⟩
/-- f(g((level, key))): a pair is laid, written, and its digest taken -/
theorem ev_digPair {K : PySem.W.Frag} {σ : L2.St} {H : Hp} {ta tb : TE} {E E2 : XK} {level : Int} {kv : V} {d : It} (ha : Ev ta σ H (.int level)) (hb : Ev tb σ H kv) (h : Dv K H kv d) (hf : d.fit 1) (hz : (encC d).length ≤ 15000000) (hl : -(10 ^ 60) < level ∧ level < 10 ^ 60) :
    Ev (tCall spDig [] E (tCons (tCall (spEnc K 2) [] E2 (tCons (tTup (tCons ta (tCons tb tNil))) tNil)) tNil)) σ H (.int (digZ (encC (.tup [.int level, d])))) := by
  have h2 : Ev (tCall (spEnc K 2) [] E2 (tCons (tTup (tCons ta (tCons tb tNil))) tNil)) σ H (.str ⟨(encC (.tup [.int level, d])).toArray⟩) :=
    ev_callU (eu_tup (ea_cons ha (ea_cons hb ea_nil)) (by show 2 ≤ 100000; decide)) fun p H2 hp e2 => cv_enc (K := K) (n := 2) (.tup (st_of hp) (.cons (.int level) (.cons (h.mono e2) .nil))) (fit_pair hl hf) (pair_len hl hz)
  exact ev_call (ea_cons h2 ea_nil) cv_dig
theorem ok_ends_chunk (T : Txt K mg) : FnOk P w K mg base CX0 4 T.f_ends_chunk T.d_ends_chunk ["level", "key", "count"] (spEnds K) := by
  refine T.F_ends_chunk.ok sc_ends_chunk (fun vs H Q E h => ?_) (fun cdv A outer s H vs Q E hr h => ?_)
  · obtain ⟨l, c, kv, d, rfl, _⟩ := h
    rfl
  · obtain ⟨l, c, kv, d, rfl, hD, hf, hz, hl, q⟩ := h
    unfold endsZ at q
    refine ⟨_, pss_cons (ps_if (pt_cmpR op_eq (pv 2) (pe_glob (v := .int 8) rfl T.k_MOST_ENTRIES ⟨_, rfl⟩) (nomark _))
      (pss_one (ps_ret (pe_bl)))
      (pss_nil))
      (pss_cons (ps_if (PW.pt (pw_and (pt_cmpR op_gt (pv 0) (pe_int) (nomark _)) (pw_and1 (pt_cmpR op_lt (pv 2) (pe_int) (nomark _)))))
      (pss_one (ps_ret (pe_bl)))
      (pss_nil))
      (pss_one (ps_ret (pe_cmpR op_eq (pe_op op_mod (pe_call (ok_digest T) (hr.mono (by first | decide | omega)) (by rfl) T.g_digest T.F_digest.kp T.b_digest .nil pass0 (pa_cons (pe_call (ok_encode T) (hr.mono (by first | decide | omega)) (by rfl) T.g_encode T.F_encode.kp T.b_encode .nil pass0 (pa_cons (pe_tup (pa_cons (pv 0) (pa_cons (pv 1) (pa_nil)))) (pa_nil))) (pa_nil))) (pe_int)) (pe_int) (nomark _))))), ?_⟩
    refine q_when (et_test (ev_eqI (ev_var rfl) ev_c)) (fun hb H1 e1 => ?_) (fun hb H1 e1 => ?_)
    · rw [if_pos (of_decide_eq_true hb)] at q
      exact s_ret ev_c fun H2 e2 => q H2 (e1.trans e2)
    rw [if_neg (of_decide_eq_false hb)] at q
    refine q_when (et_and (et_test (ev_bin0 (ev_var rfl) ev_c)) fun _ => et_test (ev_bin0 (ev_var rfl) ev_c)) (fun hb H2 e2 => ?_) (fun hb H2 e2 => ?_)
    · rw [if_pos (by simpa using hb)] at q
      exact s_ret ev_c fun H3 e3 => q H3 ((e1.trans e2).trans e3)
    · rw [if_neg (by simpa using hb)] at q
      exact s_ret (ev_eqI (ev_bin (ev_digPair (K := K) (ev_var rfl) (ev_var rfl) (hD.mono (e1.trans e2)) hf hz hl) ev_c (by decide)) ev_c) fun H3 e3 => q H3 ((e1.trans e2).trans e3)


/-! ### _law_is_right -/
def spRight (K : PySem.W.Frag) : Sp := fun vs H Q _ => ∃ (level : Int) (kv : V) (d : It), vs = [.int level, kv] ∧ Dv K H kv d ∧ d.fit 1 ∧ (encC d).length ≤ 15000000 ∧ (0 ≤ level ∧ level < 10 ^ 60) ∧ ∀ H', Ex H H' → Q (.bl true) H'
theorem cv_right {level : Int} {kv : V} {d : It} {H : Hp} (h : Dv K H kv d) (hf : d.fit 1) (hz : (encC d).length ≤ 15000000) (hl : 0 ≤ level ∧ level < 10 ^ 60) : SpV (spRight K) [.int level, kv] H (.bl true) := fun H1 e Q q E => ⟨level, kv, d, rfl, h.mono e, hf, hz, hl, fun H2 e2 => q H2 e2⟩
theorem ok_law_is_right (T : Txt K mg) : FnOk P w K mg base CX0 5 T.f_law_is_right T.d_law_is_right ["level", "key"] (spRight K) := by
  refine T.F_law_is_right.ok sc_law_is_right (fun vs H Q E h => ?_) (fun cdv A outer s H vs Q E hr h => ?_)
  · obtain ⟨l, kv, d, rfl, _⟩ := h
    rfl
  · obtain ⟨l, kv, d, rfl, hD, hf, hz, hl, q⟩ := h
    have hl2 : -(10 ^ 60) < l ∧ l < 10 ^ 60 := ⟨Int.lt_of_lt_of_le (by decide) hl.1, hl.2⟩
    refine ⟨_, pss_cons (ps_set (i := 2) sc_law_is_right.nd rfl (by first | exact Or.inl rfl | exact Or.inr rfl) (pe_cmpR op_eq (pe_op op_mod (pe_callTy call_int1 (by rfl) T.m_int (by decide +kernel) (pa_cons (pe_call (ok_law_digest T) (hr.mono (by first | decide | omega)) (by rfl) T.g_law_digest T.F_law_digest.kp T.b_law_digest .nil pass0 (pa_cons (pe_call (ok_law_written T) (hr.mono (by first | decide | omega)) (by rfl) T.g_law_written T.F_law_written.kp T.b_law_written .nil pass0 (pa_cons (pe_tup (pa_cons (pv 0) (pa_cons (pv 1) (pa_nil)))) (pa_nil))) (pa_nil))) (pa_nil))) (pe_int)) (pe_int) (nomark _)))
      (pss_cons (ps_for PassesOwn.never rfl (pi_range2 (by rfl) T.m_range (pa_cons (pe_int) (pa_cons (pe_int) (pa_nil)))) (pg_name (i := 3) sc_law_is_right.nd rfl (by first | exact Or.inl rfl | exact Or.inr rfl))
      (pss_cons (ps_set (i := 4) sc_law_is_right.nd rfl (by first | exact Or.inl rfl | exact Or.inr rfl) (pe_or (pe_cmpR op_eq (pv 3) (pe_int) (nomark _)) (pe_one (pe_and (pv 2) (pe_one (pe_or (pe_cmpR op_eq (pv 0) (pe_int) (nomark _)) (pe_one (pe_cmpR op_gt (pv 3) (pe_int) (nomark _)))))))))
      (pss_cons (ps_set (i := 5) sc_law_is_right.nd rfl (by first | exact Or.inl rfl | exact Or.inr rfl) (pe_call (ok_ends_chunk T) (hr.mono (by first | decide | omega)) (by rfl) T.g_ends_chunk T.F_ends_chunk.kp T.b_ends_chunk .nil pass0 (pa_cons (pv 0) (pa_cons (pv 1) (pa_cons (pv 3) (pa_nil))))))
      (pss_one (ps_if (PW.pt (pw_or (pt_not (pt_val (pe_callB (r := rIsi K) call_isi (by rfl) T.m_isinstance (by decide +kernel) (pa_cons (pv 5) (pa_cons (pe_bltn (v := .ty "bool") (by rfl) T.m_bool (by decide +kernel) rfl) (pa_nil)))))) (pw_or1 (pt_cmpR op_ne (pv 5) (pv 4) (nomark _)))))
      (pss_one (ps_ret (pe_bl)))
      (pss_nil))))))
      (pss_one (ps_ret (pe_bl)))), ?_⟩
    refine q_asg (ev_eqI (ev_bin (ev_intI (ev_digPair (K := K) (ev_var rfl) (ev_var rfl) hD hf hz hl2)) ev_c (by decide)) ev_c) fun H1 e1 => ?_
    refine q_forR2 (lo := 1) (n := 9) (ea_cons ev_c (ea_cons ev_c ea_nil)) (by decide) (fun i σ' H' => ∃ cv ev av : Option V, σ' = [some (.int l), some kv, some (.bl (decide (digZ (encC (.tup [.int l, d])) % 4 = 0))), cv, ev, av] ∧ Ex H H') (fun H2 e2 => ⟨none, none, none, rfl, e1.trans e2⟩) (fun i σ' H' hi hP => ?_) (fun σ' H' hP => ?_)
    · obtain ⟨cv, ev, av, rfl, eH⟩ := hP
      have exp : Ev (tOrV (tOp rEq (tVar 3) (tC (.int 8))) (tAndV (tVar 2) (tOrV (tOp rEq (tVar 0) (tC (.int 0))) (tOp (rI0 fun i j => .bl (decide (j < i))) (tVar 3) (tC (.int 1))))))
          [some (.int l), some kv, some (.bl (decide (digZ (encC (.tup [.int l, d])) % 4 = 0))), some (.int (1 + (i : Int))), ev, av] H' (.bl (endsZ l d (1 + (i : Int)))) := by
        refine ev_is (ev_orV (ev_eqI (ev_var rfl) ev_c) fun _ => ev_andV (ev_var rfl) fun _ => ev_orV (ev_eqI (ev_var rfl) ev_c) fun _ => ev_bin0 (ev_var rfl) ev_c) (congrArg V.bl ?_)
        unfold endsZ
        by_cases h8 : 1 + (i : Int) = 8
        · rw [if_pos h8, decide_eq_true h8] <;> rfl
        · rw [if_neg h8, decide_eq_false h8]
          by_cases h0 : 0 < l ∧ 1 + (i : Int) < 2
          · rw [if_pos h0, decide_eq_false (by omega : ¬ l = 0), decide_eq_false (by omega : ¬ 1 < 1 + (i : Int))]
            simp
          · rw [if_neg h0]
            have : (decide (l = 0) || decide (1 < 1 + (i : Int))) = true := by
              simp only [Bool.or_eq_true, decide_eq_true_eq]
              omega
            rw [this]
            simp
      refine q_asg exp fun H2 e2 => ?_
      refine q_asg (ev_call (ea_cons (ev_var rfl) (ea_cons (ev_var rfl) (ea_cons (ev_var rfl) ea_nil))) (cv_ends (hD.mono (eH.trans e2)) hf hz hl2)) fun H3 e3 => ?_
      refine s_when (b := false) (et_is (et_or (a := false) (b := false) (et_is (et_not (et_B (ev_isi (K := K) (a := "bool") (r := true) (ev_var rfl) (fun _ _ => .base (.bl _)) (by decide +kernel)))) rfl) fun _ => et_is (et_test (ev_neB (ev_var rfl) (ev_var rfl))) (by simp)) rfl) (fun z => nomatch z) fun _ H4 e4 => ⟨_, _, _, rfl, ((eH.trans e2).trans e3).trans e4⟩
    · obtain ⟨cv, ev, av, rfl, eH⟩ := hP
      exact s_ret ev_c fun H2 e2 => q H2 (eH.trans e2)


/-! ### _law_shape -/
def shapesZ : List (List Str) := [["int"], ["text"], ["int", "text"], ["int"], ["text", "int"], ["int", "int"], ["text", "text"]]
def shapeZ (n : Int) : List Str := shapesZ.getD (n % 7).toNat []
theorem shapeZ_in (n : Int) : shapeZ n ∈ shapesZ := by
  have h1 := Int.emod_nonneg n (by decide : (7 : Int) ≠ 0)
  have h2 := Int.emod_lt_of_pos n (by decide : (0 : Int) < 7)
  have h3 : (n % 7).toNat < shapesZ.length := by show _ < 7; omega
  unfold shapeZ
  rw [List.getD_eq_getElem?_getD, List.getElem?_eq_getElem h3]
  exact List.getElem_mem h3
theorem shapes_ok : ∀ l ∈ shapesZ, (l.length = 1 ∨ l.length = 2) ∧ ∀ z ∈ l, z = Str.ofString "int" ∨ z = Str.ofString "text" := by decide +kernel
def sp_shape : Sp := fun vs H Q _ => ∃ n : Int, vs = [.int n] ∧ ∀ p H', Ex H H' → H' p = some (.tup ((shapeZ n).map V.str)) → Q (.ref p) H'
theorem cu_shape {n : Int} {H : Hp} : SpU sp_shape [.int n] H ((shapeZ n).map V.str) := fun H1 e Q q E => ⟨n, rfl, fun p H2 e2 hp => q p H2 e2 hp⟩
theorem ok_law_shape (T : Txt K mg) : FnOk P w K mg base CX0 1 T.f_law_shape T.d_law_shape ["number"] sp_shape := by
  refine T.F_law_shape.ok sc_law_shape (fun vs H Q E h => ?_) (fun cdv A outer s H vs Q E hr h => ?_)
  · obtain ⟨n, rfl, _⟩ := h
    rfl
  · obtain ⟨n, rfl, q⟩ := h
    refine ⟨_, pss_cons (ps_set (i := 1) sc_law_shape.nd rfl (by first | exact Or.inl rfl | exact Or.inr rfl) (pe_lst (pa_cons (pe_tup (pa_cons (pe_str) (pa_nil))) (pa_cons (pe_tup (pa_cons (pe_str) (pa_nil))) (pa_cons (pe_tup (pa_cons (pe_str) (pa_cons (pe_str) (pa_nil)))) (pa_cons (pe_tup (pa_cons (pe_str) (pa_nil))) (pa_cons (pe_tup (pa_cons (pe_str) (pa_cons (pe_str) (pa_nil)))) (pa_cons (pe_tup (pa_cons (pe_str) (pa_cons (pe_str) (pa_nil)))) (pa_cons (pe_tup (pa_cons (pe_str) (pa_cons (pe_str) (pa_nil)))) (pa_nil))))))))))
      (pss_one (ps_ret (pe_ix (r := rIxL K) ix_list (pv 1) (pe_op op_mod (pe_callTy call_int1 (by rfl) T.m_int (by decide +kernel) (pa_cons (pv 0) (pa_nil))) (pe_int)) (fun _ _ => rfl)))), ?_⟩
    have t1 : ∀ {σ : L2.St} {H : Hp} {a : Str}, EvU (tTup (tCons (tC (.str a)) tNil)) σ H ([a].map V.str) := eu_tup (ea_cons ev_c ea_nil) (by show 1 ≤ 100000; decide)
    have t2 : ∀ {σ : L2.St} {H : Hp} {a b : Str}, EvU (tTup (tCons (tC (.str a)) (tCons (tC (.str b)) tNil))) σ H ([a, b].map V.str) := eu_tup (ea_cons ev_c (ea_cons ev_c ea_nil)) (by show 2 ≤ 100000; decide)
    refine q_asgLP (xss := shapesZ.map fun l => l.map V.str) (ep_cons t1 (ep_cons t1 (ep_cons t2 (ep_cons t1 (ep_cons t2 (ep_cons t2 (ep_cons t2 ep_nil))))))) (by show 7 ≤ 100000; decide) fun p ps H1 e1 hp hps => ?_
    have h1 := Int.emod_nonneg n (by decide : (7 : Int) ≠ 0)
    have h2 := Int.emod_lt_of_pos n (by decide : (0 : Int) < 7)
    have h3 : (n % 7).toNat < shapesZ.length := by show _ < 7; omega
    have hs : (shapesZ.map fun l => l.map V.str)[(n % 7).toNat]? = some ((shapeZ n).map V.str) := by
      rw [List.getElem?_map, List.getElem?_eq_getElem h3]
      unfold shapeZ
      rw [List.getD_eq_getElem?_getD, List.getElem?_eq_getElem h3] <;> rfl
    obtain ⟨a, ha, hH⟩ := paired_at (xss := shapesZ.map fun l => l.map V.str) hps hs
    refine s_ret (v := .ref a) (ev_ixL (K := K) (ev_var rfl) (ev_bin (ev_intI (ev_var rfl)) ev_c (by decide)) (sq_of hp) (atI_of h1 (by rw [List.getElem?_map, ha] <;> rfl))) fun H2 e2 => q a H2 (e1.trans e2) (e2 a _ hH)


/-! ### _law_thing -/
def thingZ (ns : List Int) (k : Nat) : Int := if k < ns.length then cellZ ns k else if ns.length = 0 then (k : Int) else (cellZ ns (k % ns.length) * 48271 + (k : Int) * 69621) % 2147483647
theorem Wd.thing {ns : List Int} (h : ∀ n ∈ ns, Wd n) {k : Nat} (hk : k ≤ 100000) : Wd (thingZ ns k) := by
  unfold thingZ
  split
  · exact Wd.cell h k
  · split
    · exact Wd.small (by omega) (by omega)
    · exact Wd.mod (by decide) (Wd.lit (by decide))
def sp_thing (K : PySem.W.Frag) : Sp := fun vs H Q _ => ∃ (a : Addr) (ns : List Int) (k : Nat), vs = [.ref a, .int (k : Int)] ∧ SqL K H a (ns.map V.int) ∧ (∀ n ∈ ns, Wd n) ∧ k ≤ 100000 ∧ ∀ H', Ex H H' → Q (.int (thingZ ns k)) H'
theorem cv_thing {a : Addr} {ns : List Int} {k : Nat} {H : Hp} (h : SqL K H a (ns.map V.int)) (hw : ∀ n ∈ ns, Wd n) (hk : k ≤ 100000) : SpV (sp_thing K) [.ref a, .int (k : Int)] H (.int (thingZ ns k)) := fun H1 e Q q E => ⟨a, ns, k, rfl, ex_l e h, hw, hk, fun H2 e2 => q H2 e2⟩
theorem ok_law_thing (T : Txt K mg) : FnOk P w K mg base CX0 1 T.f_law_thing T.d_law_thing ["script", "k"] (sp_thing K) := by
  refine T.F_law_thing.ok sc_law_thing (fun vs H Q E h => ?_) (fun cdv A outer s H vs Q E hr h => ?_)
  · obtain ⟨a, ns, k, rfl, _⟩ := h
    rfl
  · obtain ⟨a, ns, k, rfl, hS, hw, hk1, q⟩ := h
    have el : (ns.map V.int).length = ns.length := List.length_map ..
    have item : ∀ j : Nat, j < ns.length → (ns.map V.int)[j]? = some (.int (cellZ ns j)) := fun j hj => by
      rw [List.getElem?_map, List.getElem?_eq_getElem hj]
      unfold cellZ
      rw [List.getD_eq_getElem?_getD, List.getElem?_eq_getElem hj] <;> rfl
    refine ⟨_, pss_cons (ps_if (pt_cmpR op_lt (pv 1) (pe_callB (r := rLenQ K) call_len_seq (by rfl) T.m_len (by decide +kernel) (pa_cons (pv 0) (pa_nil))) (nomark _))
      (pss_one (ps_ret (pe_ix (r := rIxL K) ix_list (pv 0) (pv 1) (fun _ _ => rfl))))
      (pss_nil))
      (pss_cons (ps_if (pt_cmpR op_eq (pe_callB (r := rLenQ K) call_len_seq (by rfl) T.m_len (by decide +kernel) (pa_cons (pv 0) (pa_nil))) (pe_int) (nomark _))
      (pss_one (ps_ret (pv 1)))
      (pss_nil))
      (pss_one (ps_ret (pe_op op_mod (pe_callTy call_int1 (by rfl) T.m_int (by decide +kernel) (pa_cons (pe_op op_add (pe_op op_mulX (pe_ix (r := rIxL K) ix_list (pv 0) (pe_op op_mod (pe_callTy call_int1 (by rfl) T.m_int (by decide +kernel) (pa_cons (pv 1) (pa_nil))) (pe_callB (r := rLenQ K) call_len_seq (by rfl) T.m_len (by decide +kernel) (pa_cons (pv 0) (pa_nil)))) (fun _ _ => rfl)) (pe_int)) (pe_op op_mulX (pv 1) (pe_int))) (pa_nil))) (pe_int))))), ?_⟩
    refine q_when (b := decide ((k : Int) < ((ns.map V.int).length : Int))) (et_test (ev_bin0 (ev_var rfl) (ev_lenQ (K := K) (ev_var rfl) hS))) (fun hb H1 e1 => ?_) (fun hb H1 e1 => ?_)
    · have hk : k < ns.length := by
        have := of_decide_eq_true hb
        rw [el] at this
        omega
      refine s_ret (ev_ixL (K := K) (ev_var rfl) (ev_var rfl) (ex_l e1 hS) (at_nat (item k hk))) fun H2 e2 => ?_
      have e0 : thingZ ns k = cellZ ns k := if_pos hk
      rw [← e0]
      exact q H2 (e1.trans e2)
    · have hk : ¬ k < ns.length := by
        have := of_decide_eq_false hb
        rw [el] at this
        omega
      refine q_when (et_test (ev_eqI (ev_lenQ (K := K) (ev_var rfl) (ex_l e1 hS)) ev_c)) (fun hb H2 e2 => ?_) (fun hb H2 e2 => ?_)
      · have h0 : ns.length = 0 := by
          have := of_decide_eq_true hb
          rw [el] at this
          omega
        refine s_ret (ev_var rfl) fun H3 e3 => ?_
        have e0 : thingZ ns k = (k : Int) := by unfold thingZ; rw [if_neg hk, if_pos h0]
        rw [← e0]
        exact q H3 ((e1.trans e2).trans e3)
      · have h0 : ¬ ns.length = 0 := by
          have := of_decide_eq_false hb
          rw [el] at this
          omega
        have hm : k % ns.length < ns.length := Nat.mod_lt _ (by omega)
        refine s_ret (ev_bin (i := cellZ ns (k % ns.length) * 48271 + (k : Int) * 69621) (ev_intI (ev_bin0 (ev_bin (ev_ixL (K := K) (i := ((k % ns.length : Nat) : Int)) (ev_var rfl) (ev_is (ev_bin (ev_intI (ev_var rfl)) (ev_lenQ (K := K) (ev_var rfl) (ex_l (e1.trans e2) hS)) (by rw [el]; omega)) (by rw [el]; rfl)) (ex_l (e1.trans e2) hS) (at_nat (item _ hm))) ev_c (Wd.mul (Wd.cell hw _) (Wd.lit (by decide)))) (ev_bin (ev_var rfl) ev_c (Wd.mul (Wd.small (by omega) (by omega)) (Wd.lit (by decide)))))) ev_c (by decide)) fun H3 e3 => ?_
        have e0 : thingZ ns k = (cellZ ns (k % ns.length) * 48271 + (k : Int) * 69621) % 2147483647 := by unfold thingZ; rw [if_neg hk, if_neg h0]
        rw [← e0]
        exact q H3 ((e1.trans e2).trans e3)


/-! ### law -/
def levelZ (a b : Int) : Int := ([0, 1, a / 4 % 13, 2] : List Int).getD (a % 4).toNat 0
theorem levelZ_ok (a b : Int) : 0 ≤ levelZ a b ∧ levelZ a b ≤ 12 := by
  have h1 := Int.emod_nonneg (a / 4) (by decide : (13 : Int) ≠ 0)
  have h2 := Int.emod_lt_of_pos (a / 4) (by decide : (0 : Int) < 13)
  have hh : a % 4 = 0 ∨ a % 4 = 1 ∨ a % 4 = 2 ∨ a % 4 = 3 := by omega
  unfold levelZ
  rcases hh with e | e | e | e <;> rw [e]
  · show 0 ≤ (0 : Int) ∧ (0 : Int) ≤ 12; decide
  · show 0 ≤ (1 : Int) ∧ (1 : Int) ≤ 12; decide
  · show 0 ≤ a / 4 % 13 ∧ a / 4 % 13 ≤ 12; omega
  · show 0 ≤ (2 : Int) ∧ (2 : Int) ≤ 12; decide
theorem key_fit {ds : List It} (h : ∀ d ∈ ds, d.sc) (hl : ds.length ≤ 10) : It.fit 1 (.tup ds) ∧ (encC (.tup ds)).length ≤ 15000000 := by
  refine ⟨⟨by omega, fun y hy => It.sc_fit (h y hy) 0⟩, ?_⟩
  have := encL_len (ds := ds) (m := 2200) fun d hd => It.sc_len (h d hd)
  rw [enc_tup_len]
  omega
theorem tup_dv {K : PySem.W.Frag} {H : Hp} {p : Addr} {ds : List It} (h : ∀ d ∈ ds, d.sc) (hp : H p = some (.tup (ds.map vz))) : Dv K H (.ref p) (.tup ds) := .tup (st_of hp) (.sc h)
def spLaw (K : PySem.W.Frag) : Sp := fun vs H Q _ => ∃ (a : Addr) (ns : List Int), vs = [.ref a] ∧ SqL K H a (ns.map V.int) ∧ ns.length ≤ 63 ∧ (∀ z ∈ ns, Builtin.Int.intBits z ≤ 1048576) ∧ ∀ H', Q (.bl true) H'
theorem ok_law (T : Txt K mg) : FnOk P w K mg base CX0 6 T.f_law T.d_law ["script"] (spLaw K) := by
  refine T.F_law.ok sc_law (fun vs H Q E h => ?_) (fun cdv A outer s H vs Q E hr h => ?_)
  · obtain ⟨a, ns, rfl, _⟩ := h
    rfl
  · obtain ⟨a, ns, rfl, hS, hlen, hbits, q⟩ := h
    have hw : ∀ n ∈ ns, Wd n := fun n hn => Wd.bits (hbits n hn)
    refine ⟨_, pss_cons (ps_set (i := 1) sc_law.nd rfl (by first | exact Or.inl rfl | exact Or.inr rfl) (pe_call (ok_law_draws T) (hr.mono (by first | decide | omega)) (by rfl) T.g_law_draws T.F_law_draws.kp T.b_law_draws .nil pass0 (pa_cons (pe_call (ok_law_cell T) (hr.mono (by first | decide | omega)) (by rfl) T.g_law_cell T.F_law_cell.kp T.b_law_cell .nil pass0 (pa_cons (pv 0) (pa_cons (pe_int) (pa_nil)))) (pa_cons (pe_int) (pa_cons (pe_int) (pa_cons (pe_int) (pa_nil)))))))
      (pss_cons (ps_set (i := 2) sc_law.nd rfl (by first | exact Or.inl rfl | exact Or.inr rfl) (pe_ix (r := rIxL K) ix_list (pe_lst (pa_cons (pe_int) (pa_cons (pe_int) (pa_cons (pe_op op_mod (pe_callTy call_int1 (by rfl) T.m_int (by decide +kernel) (pa_cons (pe_op op_fdivW (pe_ix (r := rIxL K) ix_list (pv 1) (pe_int) (fun _ _ => rfl)) (pe_int)) (pa_nil))) (pe_int)) (pa_cons (pe_int) (pa_nil)))))) (pe_op op_mod (pe_callTy call_int1 (by rfl) T.m_int (by decide +kernel) (pa_cons (pe_ix (r := rIxL K) ix_list (pv 1) (pe_int) (fun _ _ => rfl)) (pa_nil))) (pe_int)) (fun _ _ => rfl)))
      (pss_cons (ps_set (i := 3) sc_law.nd rfl (by first | exact Or.inl rfl | exact Or.inr rfl) (pe_call (ok_law_shape T) (hr.mono (by first | decide | omega)) (by rfl) T.g_law_shape T.F_law_shape.kp T.b_law_shape .nil pass0 (pa_cons (pe_ix (r := rIxL K) ix_list (pv 1) (pe_int) (fun _ _ => rfl)) (pa_nil))))
      (pss_cons (ps_set (i := 4) sc_law.nd rfl (by first | exact Or.inl rfl | exact Or.inr rfl) (pe_int))
      (pss_cons (ps_for PassesOwn.never rfl (pi_range1 (by rfl) T.m_range (pa_cons (pe_int) (pa_nil))) (pg_name (i := 5) sc_law.nd rfl (by first | exact Or.inl rfl | exact Or.inr rfl))
      (pss_cons (ps_set (i := 6) sc_law.nd rfl (by first | exact Or.inl rfl | exact Or.inr rfl) (pe_call (ok_law_drawn_place T) (hr.mono (by first | decide | omega)) (by rfl) T.g_law_drawn_place T.F_law_drawn_place.kp T.b_law_drawn_place .nil pass0 (pa_cons (pv 3) (pa_cons (pe_call (ok_law_draws T) (hr.mono (by first | decide | omega)) (by rfl) T.g_law_draws T.F_law_draws.kp T.b_law_draws .nil pass0 (pa_cons (pe_call (ok_law_thing T) (hr.mono (by first | decide | omega)) (by rfl) T.g_law_thing T.F_law_thing.kp T.b_law_thing .nil pass0 (pa_cons (pv 0) (pa_cons (pe_op op_add (pe_int) (pv 5)) (pa_nil)))) (pa_cons (pe_int) (pa_cons (pe_int) (pa_cons (pe_op op_pow (pe_int) (pe_int)) (pa_nil)))))) (pa_nil)))))
      (pss_cut (ps_if (pt_cmpR op_eq (pe_op op_mod (pe_callTy call_int1 (by rfl) T.m_int (by decide +kernel) (pa_cons (pe_ix (r := rIxL K) ix_list (pv 1) (pe_int) (fun _ _ => rfl)) (pa_nil))) (pe_int)) (pe_int) (nomark _))
      (pss_one (ps_set (i := 6) sc_law.nd rfl (by first | exact Or.inl rfl | exact Or.inr rfl) (pe_call (ok_law_dense_place T) (hr.mono (by first | decide | omega)) (by rfl) T.g_law_dense_place T.F_law_dense_place.kp T.b_law_dense_place .nil pass0 (pa_cons (pv 3) (pa_cons (pv 5) (pa_cons (pe_ix (r := rIxL K) ix_list (pv 1) (pe_int) (fun _ _ => rfl)) (pa_nil)))))))
      (pss_nil))
      (pss_cons (ps_set (i := 7) sc_law.nd rfl (by first | exact Or.inl rfl | exact Or.inr rfl) (pe_cmpR op_lt (pv 5) (pe_int) (nomark _)))
      (pss_cut (ps_if (PW.pt (pw_and (pt_cmpR op_lt (pv 4) (pe_int) (nomark _)) (pw_and1 (pt_cmpR op_eq (pe_op op_mod (pe_callTy call_int1 (by rfl) T.m_int (by decide +kernel) (pa_cons (pe_call (ok_law_digest T) (hr.mono (by first | decide | omega)) (by rfl) T.g_law_digest T.F_law_digest.kp T.b_law_digest .nil pass0 (pa_cons (pe_call (ok_law_written T) (hr.mono (by first | decide | omega)) (by rfl) T.g_law_written T.F_law_written.kp T.b_law_written .nil pass0 (pa_cons (pe_tup (pa_cons (pv 2) (pa_cons (pv 6) (pa_nil)))) (pa_nil))) (pa_nil))) (pa_nil))) (pe_int)) (pe_int) (nomark _)))))
      (pss_cons (ps_set (i := 4) sc_law.nd rfl (by first | exact Or.inl rfl | exact Or.inr rfl) (pe_op op_add (pv 4) (pe_int)))
      (pss_one (ps_set (i := 7) sc_law.nd rfl (by first | exact Or.inl rfl | exact Or.inr rfl) (pe_bl))))
      (pss_nil))
      (pss_one (ps_if (PW.pt (pw_and (pt_val (pv 7)) (pw_and1 (pt_not (pt_val (pe_call (ok_law_is_right T) (hr.mono (by first | decide | omega)) (by rfl) T.g_law_is_right T.F_law_is_right.kp T.b_law_is_right .nil pass0 (pa_cons (pv 2) (pa_cons (pv 6) (pa_nil)))))))))
      (pss_one (ps_ret (pe_bl)))
      (pss_nil))))))))
      (pss_one (ps_ret (pe_bl))))))), ?_⟩
    have c0 : Wd (cellZ ns 0) := Wd.cell hw 0
    refine q_asgL (xs := (draws (cellZ ns 0) 0 4 1000).map V.int) (el_call (ea_cons (ev_call (ea_cons (ev_var rfl) (ea_cons ev_c ea_nil)) (cv_cell (k := 0) hS)) (ea_cons ev_c (ea_cons ev_c (ea_cons ev_c ea_nil)))) (cl_draws (count := 4) c0 (by decide) (by decide) (by decide) (by decide))) fun hd H1 hh0 e1 hh => ?_
    generalize hg : draws (cellZ ns 0) 0 4 1000 = gs at hh
    have gl : gs.length = 4 := by rw [← hg, draws_len]
    have gw : ∀ x ∈ gs, 0 ≤ x ∧ Wd x := by rw [← hg]; exact draws_ok c0 (by decide) (Wd.lit (by decide)) 4
    obtain ⟨g0, g1, g2, g3, rfl⟩ : ∃ g0 g1 g2 g3, gs = [g0, g1, g2, g3] := by
      match gs, gl with
      | [x0, x1, x2, x3], _ => exact ⟨x0, x1, x2, x3, rfl⟩
    have hg0 := gw g0 (by simp)
    have hg3 := gw g3 (by simp)
    have m0 := Int.emod_nonneg g0 (by decide : (4 : Int) ≠ 0)
    have it : ∀ {H' : Hp} {j : Nat} {x : Int} {σ : L2.St}, Ex H1 H' → σ[1]? = some (some (V.ref hd)) → [g0, g1, g2, g3][j]? = some x → Ev (tOp (rIxL K) (tVar 1) (tC (.int (j : Int)))) σ H' (.int x) := fun e hσ hx => ev_ixL (K := K) (ev_var hσ) ev_c (sq_of (e _ _ hh)) (at_nat (by rw [List.getElem?_map, hx] <;> rfl))
    refine q_asg (v := .int (levelZ g0 0)) (ev_ixN (xs := [.int 0, .int 1, .int (g0 / 4 % 13), .int 2]) (i := g0 % 4) (el_lst (ea_cons ev_c (ea_cons ev_c (ea_cons (ev_bin (ev_intI (ev_bin (it (j := 0) (Ex.refl H1) rfl rfl) ev_c ⟨by decide, by decide⟩)) ev_c (by decide)) (ea_cons ev_c ea_nil)))) (by show 4 ≤ 100000; decide)) (fun H2 e2 => ev_bin (ev_intI (it (j := 0) e2 rfl rfl)) ev_c (by decide)) (atI_of m0 ?_)) fun H2 e2 => ?_
    · have hh : g0 % 4 = 0 ∨ g0 % 4 = 1 ∨ g0 % 4 = 2 ∨ g0 % 4 = 3 := by omega
      unfold levelZ
      rcases hh with e | e | e | e <;> rw [e] <;> rfl
    have hL := levelZ_ok g0 0
    have hL2 : 0 ≤ levelZ g0 0 ∧ levelZ g0 0 < 10 ^ 60 := ⟨hL.1, Int.lt_of_le_of_lt hL.2 (by decide)⟩
    have hL3 : -(10 ^ 60) < levelZ g0 0 ∧ levelZ g0 0 < 10 ^ 60 := ⟨Int.lt_of_lt_of_le (by decide) hL.1, hL2.2⟩
    generalize levelZ g0 0 = lv at hL hL2 hL3
    refine q_callU (xs := (shapeZ g1).map V.str) (ea_cons (it (j := 1) e2 rfl rfl) ea_nil) cu_shape fun sp H3 e3 hsp => ?_
    have hsh := shapes_ok (shapeZ g1) (shapeZ_in g1)
    generalize shapeZ g1 = sh at hsp hsh
    refine q_asg ev_c fun H4 e4 => ?_
    have EZ := (e1.trans e2).trans (e3.trans e4)
    refine q_forR1 (n := 40) (ea_cons ev_c ea_nil) (by decide) (fun i σ' H' => ∃ (dv : Int) (kv kyv wv : Option V), σ' = [some (.ref a), some (.ref hd), some (.int lv), some (.ref sp), some (.int dv), kv, kyv, wv] ∧ Ex H4 H') (fun H5 e5 => ⟨0, none, none, none, rfl, e5⟩) (fun i σ' H' hi hP => ?_) (fun σ' H' hP => ?_)
    · obtain ⟨dv, kv, kyv, wv, rfl, eH⟩ := hP
      have EH := EZ.trans eH
      have E1 : Ex H1 H' := ((e2.trans e3).trans e4).trans eH
      have hsp' : SqT K H' sp (sh.map V.str) := st_of (eH _ _ (e4 _ _ hsp))
      have hi2 : i < 40 := by omega
      have ct : Wd (thingZ ns (1 + i)) := Wd.thing hw (by omega)
      have p64 : (10 : Int) ^ 64 = 10000000000000000000000000000000000000000000000000000000000000000 := by decide
      have dl : EvL (tCall (sp_draws K) [] E0 (tCons (tCall (sp_thing K) [] E0 (tCons (tVar 0) (tCons (tOp (rI0 fun i j => V.int (i + j)) (tC (.int 1)) (tVar 5)) tNil))) (tCons (tC (.int 2)) (tCons (tC (.int 2)) (tCons (tOp (rI CPow fun i j => V.int (i ^ j.toNat)) (tC (.int 10)) (tC (.int 64))) tNil)))))
          [some (.ref a), some (.ref hd), some (.int lv), some (.ref sp), some (.int dv), some (.int (i : Int)), kyv, wv] H' ((draws (thingZ ns (1 + i)) 2 2 (10 ^ 64)).map V.int) :=
        el_call (ea_cons (ev_call (ea_cons (ev_var rfl) (ea_cons (ev_is (ev_bin0 ev_c (ev_var rfl)) (congrArg V.int (show (1 : Int) + (i : Int) = ((1 + i : Nat) : Int) by omega))) ea_nil)) (cv_thing (ex_l EH hS) hw (by omega))) (ea_cons ev_c (ea_cons ev_c (ea_cons (ev_bin ev_c ev_c ⟨by decide, by decide, by decide⟩) ea_nil)))) (cl_draws (count := 2) ct (by decide) (by decide) (by decide) (by decide))
      have dw := draws_ok (salt := 2) ct (by decide : (0 : Int) < 10 ^ 64) (Wd.lit (by decide)) 2
      have dn := draws_len (thingZ ns (1 + i)) 2 2 (10 ^ 64)
      generalize draws (thingZ ns (1 + i)) 2 2 (10 ^ 64) = dd at dl dw dn
      have sz : ∀ z ∈ sh, z.length ≤ 100000 := fun z hz => by
        rcases hsh.2 z hz with e | e <;> rw [e] <;> decide +kernel
      refine q_drawn dl hsp' (by omega) (by omega) (fun n hn => (dw n hn).2) sz fun kp H5 e5 hkp => ?_
      refine q_cut (M := fun σ' H' => ∃ (kp : Addr) (ds : List It), σ' = [some (.ref a), some (.ref hd), some (.int lv), some (.ref sp), some (.int dv), some (.int (i : Int)), some (.ref kp), wv] ∧ Ex H4 H' ∧ H' kp = some (.tup (ds.map vz)) ∧ (∀ d ∈ ds, d.sc) ∧ ds.length ≤ 10) ?_ fun σ' H' hM => ?_
      · refine s_when (b := decide (g2 % 2 = 0)) (et_test (ev_eqI (ev_bin (ev_intI (it (j := 2) (E1.trans e5) rfl rfl)) ev_c (by decide)) ev_c)) (fun hb H6 e6 => ?_) (fun hb H6 e6 => ?_)
        · refine s_callU (xs := (denseZ sh (i : Int) g3).map vz) (ea_cons (ev_var rfl) (ea_cons (ev_var rfl) (ea_cons (it (j := 3) ((E1.trans e5).trans e6) rfl rfl) ea_nil))) (cu_dense (ex_t (e5.trans e6) hsp') hsh.1 (by omega)) fun kp2 H7 e7 h7 => ⟨kp2, denseZ sh (i : Int) g3, rfl, ((eH.trans e5).trans e6).trans e7, h7, fun d hd => ?_, ?_⟩
          · obtain ⟨k, _, e⟩ := List.mem_map.mp hd
            rw [← e]
            exact denseAt_sc (by omega) k
          · unfold denseZ
            rw [List.length_map, List.length_range]
            omega
        · refine ⟨kp, drawnZ sh dd, rfl, (eH.trans e5).trans e6, e6 _ _ hkp, drawnZ_sc sh dd, ?_⟩
          unfold drawnZ
          rw [List.length_map, List.length_range]
          omega
      · obtain ⟨kp, ds, rfl, eK, hK, hsc, hl10⟩ := hM
        have fit := key_fit hsc hl10
        have fit2 := pair_len (d := .tup ds) hL3 fit.2
        refine q_asg (ev_bin0 (ev_var rfl) ev_c) fun H6 e6 => ?_
        have dv6 : ∀ {H'}, Ex H6 H' → Dv K H' (.ref kp) (.tup ds) := fun e => tup_dv hsc (e _ _ (e6 _ _ hK))
        refine q_cut (M := fun σ' H' => ∃ (dv : Int) (wv : Option V) (b : Bool), σ' = [some (.ref a), some (.ref hd), some (.int lv), some (.ref sp), some (.int dv), some (.int (i : Int)), some (.ref kp), some (.bl b)] ∧ Ex H6 H') ?_ fun σ' H' hM => ?_
        · refine s_when (b := decide (dv < 2) && decide (digZ (encC (.tup [.int lv, .tup ds])) % 4 = 0)) (et_and (et_test (ev_bin0 (ev_var rfl) ev_c)) fun _ => et_test (ev_eqI (ev_bin (ev_intI (ev_digPair (K := K) (ev_var rfl) (ev_var rfl) (dv6 (Ex.refl H6)) fit.1 fit.2 hL3)) ev_c (by decide)) ev_c)) (fun hb H7 e7 => ?_) (fun hb H7 e7 => ?_)
          · refine q_asg (ev_bin0 (ev_var rfl) ev_c) fun H8 e8 => ?_
            exact s_asg ev_c fun H9 e9 => ⟨_, none, _, rfl, (e7.trans e8).trans e9⟩
          · exact ⟨_, none, _, rfl, e7⟩
        · obtain ⟨dv, _, b, rfl, e7⟩ := hM
          refine s_when (b := false) (et_is (et_and (a := b) (b := false) (et_B (ev_var rfl)) fun _ => et_is (et_not (et_B (ev_call (ea_cons (ev_var rfl) (ea_cons (ev_var rfl) ea_nil)) (cv_right (dv6 e7) fit.1 fit.2 hL2)))) rfl) (by cases b <;> rfl)) (fun z => nomatch z) fun _ H8 e8 => ⟨_, _, _, _, rfl, (((eK.trans e6).trans e7).trans e8)⟩
    · obtain ⟨dv, kv, kyv, wv, rfl, eH⟩ := hP
      exact s_ret ev_c fun H2 e2 => q H2


end

theorem all_mk {l : PySem.W.OpenLaw} {w : World} {K : PySem.W.Frag} {h : Heap} {mg : Str → Option Value} {fa f_law_cell f_law_dense_place f_law_digest f_law_integer f_law_char f_law_draws f_law_text f_law_value f_law_drawn_place f_law_written f_digest f_encode f_ends_chunk f_law_is_right f_law_shape f_law_thing f_law : Addr} (X : K.In h) (G : h.Ns mainGlobals mg) (hfa : mg "law" = some (.ref fa))
    {od_law_cell an_law_cell : Option Addr} {sl_law_cell : Array (Option Value)} {oc_law_cell kV_law_cell dc_law_cell pm_law_cell cd_law_cell ct_law_cell : Value}
    {od_law_dense_place an_law_dense_place : Option Addr} {sl_law_dense_place : Array (Option Value)} {oc_law_dense_place kV_law_dense_place dc_law_dense_place pm_law_dense_place cd_law_dense_place ct_law_dense_place : Value}
    {od_law_digest an_law_digest : Option Addr} {sl_law_digest : Array (Option Value)} {oc_law_digest kV_law_digest dc_law_digest pm_law_digest cd_law_digest ct_law_digest : Value}
    {od_law_integer an_law_integer : Option Addr} {sl_law_integer : Array (Option Value)} {oc_law_integer kV_law_integer dc_law_integer pm_law_integer cd_law_integer ct_law_integer : Value}
    {od_law_char an_law_char : Option Addr} {sl_law_char : Array (Option Value)} {oc_law_char kV_law_char dc_law_char pm_law_char cd_law_char ct_law_char : Value}
    {od_law_draws an_law_draws : Option Addr} {sl_law_draws : Array (Option Value)} {oc_law_draws kV_law_draws dc_law_draws pm_law_draws cd_law_draws ct_law_draws : Value}
    {od_law_text an_law_text : Option Addr} {sl_law_text : Array (Option Value)} {oc_law_text kV_law_text dc_law_text pm_law_text cd_law_text ct_law_text : Value}
    {od_law_value an_law_value : Option Addr} {sl_law_value : Array (Option Value)} {oc_law_value kV_law_value dc_law_value pm_law_value cd_law_value ct_law_value : Value}
    {od_law_drawn_place an_law_drawn_place : Option Addr} {sl_law_drawn_place : Array (Option Value)} {oc_law_drawn_place kV_law_drawn_place dc_law_drawn_place pm_law_drawn_place cd_law_drawn_place ct_law_drawn_place : Value}
    {od_law_written an_law_written : Option Addr} {sl_law_written : Array (Option Value)} {oc_law_written kV_law_written dc_law_written pm_law_written cd_law_written ct_law_written : Value}
    {od_digest an_digest : Option Addr} {sl_digest : Array (Option Value)} {oc_digest kV_digest dc_digest pm_digest cd_digest ct_digest : Value}
    {od_encode an_encode : Option Addr} {sl_encode : Array (Option Value)} {oc_encode kV_encode dc_encode pm_encode cd_encode ct_encode : Value}
    {od_ends_chunk an_ends_chunk : Option Addr} {sl_ends_chunk : Array (Option Value)} {oc_ends_chunk kV_ends_chunk dc_ends_chunk pm_ends_chunk cd_ends_chunk ct_ends_chunk : Value}
    {od_law_is_right an_law_is_right : Option Addr} {sl_law_is_right : Array (Option Value)} {oc_law_is_right kV_law_is_right dc_law_is_right pm_law_is_right cd_law_is_right ct_law_is_right : Value}
    {od_law_shape an_law_shape : Option Addr} {sl_law_shape : Array (Option Value)} {oc_law_shape kV_law_shape dc_law_shape pm_law_shape cd_law_shape ct_law_shape : Value}
    {od_law_thing an_law_thing : Option Addr} {sl_law_thing : Array (Option Value)} {oc_law_thing kV_law_thing dc_law_thing pm_law_thing cd_law_thing ct_law_thing : Value}
    {od_law an_law : Option Addr} {sl_law : Array (Option Value)} {oc_law kV_law dc_law pm_law cd_law ct_law : Value}
    {t_MOST_ENTRIES : Tok}
    (a_law_cell : PySem.W.nsIn K mainGlobals "_law_cell" = some (some (.ref f_law_cell))) (l_law_cell : K.lookup f_law_cell = some ⟨oc_law_cell, od_law_cell, .func (PySem.W.fnOf "_law_cell" "_law_cell" (defArgs s_law_cell) (defBody s_law_cell) (defScope s_law_cell) .none kV_law_cell dc_law_cell pm_law_cell an_law_cell cd_law_cell ct_law_cell), sl_law_cell⟩) (c_law_cell : PySem.W.codeIn K cd_law_cell "_law_cell" = true) (k_law_cell : PySem.W.keepIn K (.ref f_law_cell) = true)
    (a_law_dense_place : PySem.W.nsIn K mainGlobals "_law_dense_place" = some (some (.ref f_law_dense_place))) (l_law_dense_place : K.lookup f_law_dense_place = some ⟨oc_law_dense_place, od_law_dense_place, .func (PySem.W.fnOf "_law_dense_place" "_law_dense_place" (defArgs s_law_dense_place) (defBody s_law_dense_place) (defScope s_law_dense_place) .none kV_law_dense_place dc_law_dense_place pm_law_dense_place an_law_dense_place cd_law_dense_place ct_law_dense_place), sl_law_dense_place⟩) (c_law_dense_place : PySem.W.codeIn K cd_law_dense_place "_law_dense_place" = true) (k_law_dense_place : PySem.W.keepIn K (.ref f_law_dense_place) = true)
    (a_law_digest : PySem.W.nsIn K mainGlobals "_law_digest" = some (some (.ref f_law_digest))) (l_law_digest : K.lookup f_law_digest = some ⟨oc_law_digest, od_law_digest, .func (PySem.W.fnOf "_law_digest" "_law_digest" (defArgs s_law_digest) (defBody s_law_digest) (defScope s_law_digest) .none kV_law_digest dc_law_digest pm_law_digest an_law_digest cd_law_digest ct_law_digest), sl_law_digest⟩) (c_law_digest : PySem.W.codeIn K cd_law_digest "_law_digest" = true) (k_law_digest : PySem.W.keepIn K (.ref f_law_digest) = true)
    (a_law_integer : PySem.W.nsIn K mainGlobals "_law_integer" = some (some (.ref f_law_integer))) (l_law_integer : K.lookup f_law_integer = some ⟨oc_law_integer, od_law_integer, .func (PySem.W.fnOf "_law_integer" "_law_integer" (defArgs s_law_integer) (defBody s_law_integer) (defScope s_law_integer) .none kV_law_integer dc_law_integer pm_law_integer an_law_integer cd_law_integer ct_law_integer), sl_law_integer⟩) (c_law_integer : PySem.W.codeIn K cd_law_integer "_law_integer" = true) (k_law_integer : PySem.W.keepIn K (.ref f_law_integer) = true)
    (a_law_char : PySem.W.nsIn K mainGlobals "_law_char" = some (some (.ref f_law_char))) (l_law_char : K.lookup f_law_char = some ⟨oc_law_char, od_law_char, .func (PySem.W.fnOf "_law_char" "_law_char" (defArgs s_law_char) (defBody s_law_char) (defScope s_law_char) .none kV_law_char dc_law_char pm_law_char an_law_char cd_law_char ct_law_char), sl_law_char⟩) (c_law_char : PySem.W.codeIn K cd_law_char "_law_char" = true) (k_law_char : PySem.W.keepIn K (.ref f_law_char) = true)
    (a_law_draws : PySem.W.nsIn K mainGlobals "_law_draws" = some (some (.ref f_law_draws))) (l_law_draws : K.lookup f_law_draws = some ⟨oc_law_draws, od_law_draws, .func (PySem.W.fnOf "_law_draws" "_law_draws" (defArgs s_law_draws) (defBody s_law_draws) (defScope s_law_draws) .none kV_law_draws dc_law_draws pm_law_draws an_law_draws cd_law_draws ct_law_draws), sl_law_draws⟩) (c_law_draws : PySem.W.codeIn K cd_law_draws "_law_draws" = true) (k_law_draws : PySem.W.keepIn K (.ref f_law_draws) = true)
    (a_law_text : PySem.W.nsIn K mainGlobals "_law_text" = some (some (.ref f_law_text))) (l_law_text : K.lookup f_law_text = some ⟨oc_law_text, od_law_text, .func (PySem.W.fnOf "_law_text" "_law_text" (defArgs s_law_text) (defBody s_law_text) (defScope s_law_text) .none kV_law_text dc_law_text pm_law_text an_law_text cd_law_text ct_law_text), sl_law_text⟩) (c_law_text : PySem.W.codeIn K cd_law_text "_law_text" = true) (k_law_text : PySem.W.keepIn K (.ref f_law_text) = true)
    (a_law_value : PySem.W.nsIn K mainGlobals "_law_value" = some (some (.ref f_law_value))) (l_law_value : K.lookup f_law_value = some ⟨oc_law_value, od_law_value, .func (PySem.W.fnOf "_law_value" "_law_value" (defArgs s_law_value) (defBody s_law_value) (defScope s_law_value) .none kV_law_value dc_law_value pm_law_value an_law_value cd_law_value ct_law_value), sl_law_value⟩) (c_law_value : PySem.W.codeIn K cd_law_value "_law_value" = true) (k_law_value : PySem.W.keepIn K (.ref f_law_value) = true)
    (a_law_drawn_place : PySem.W.nsIn K mainGlobals "_law_drawn_place" = some (some (.ref f_law_drawn_place))) (l_law_drawn_place : K.lookup f_law_drawn_place = some ⟨oc_law_drawn_place, od_law_drawn_place, .func (PySem.W.fnOf "_law_drawn_place" "_law_drawn_place" (defArgs s_law_drawn_place) (defBody s_law_drawn_place) (defScope s_law_drawn_place) .none kV_law_drawn_place dc_law_drawn_place pm_law_drawn_place an_law_drawn_place cd_law_drawn_place ct_law_drawn_place), sl_law_drawn_place⟩) (c_law_drawn_place : PySem.W.codeIn K cd_law_drawn_place "_law_drawn_place" = true) (k_law_drawn_place : PySem.W.keepIn K (.ref f_law_drawn_place) = true)
    (a_law_written : PySem.W.nsIn K mainGlobals "_law_written" = some (some (.ref f_law_written))) (l_law_written : K.lookup f_law_written = some ⟨oc_law_written, od_law_written, .func (PySem.W.fnOf "_law_written" "_law_written" (defArgs s_law_written) (defBody s_law_written) (defScope s_law_written) .none kV_law_written dc_law_written pm_law_written an_law_written cd_law_written ct_law_written), sl_law_written⟩) (c_law_written : PySem.W.codeIn K cd_law_written "_law_written" = true) (k_law_written : PySem.W.keepIn K (.ref f_law_written) = true)
    (a_digest : PySem.W.nsIn K mainGlobals "digest" = some (some (.ref f_digest))) (l_digest : K.lookup f_digest = some ⟨oc_digest, od_digest, .func (PySem.W.fnOf "digest" "digest" (defArgs s_digest) (defBody s_digest) (defScope s_digest) .none kV_digest dc_digest pm_digest an_digest cd_digest ct_digest), sl_digest⟩) (c_digest : PySem.W.codeIn K cd_digest "digest" = true) (k_digest : PySem.W.keepIn K (.ref f_digest) = true)
    (a_encode : PySem.W.nsIn K mainGlobals "encode" = some (some (.ref f_encode))) (l_encode : K.lookup f_encode = some ⟨oc_encode, od_encode, .func (PySem.W.fnOf "encode" "encode" (defArgs s_encode) (defBody s_encode) (defScope s_encode) .none kV_encode dc_encode pm_encode an_encode cd_encode ct_encode), sl_encode⟩) (c_encode : PySem.W.codeIn K cd_encode "encode" = true) (k_encode : PySem.W.keepIn K (.ref f_encode) = true)
    (a_ends_chunk : PySem.W.nsIn K mainGlobals "ends_chunk" = some (some (.ref f_ends_chunk))) (l_ends_chunk : K.lookup f_ends_chunk = some ⟨oc_ends_chunk, od_ends_chunk, .func (PySem.W.fnOf "ends_chunk" "ends_chunk" (defArgs s_ends_chunk) (defBody s_ends_chunk) (defScope s_ends_chunk) .none kV_ends_chunk dc_ends_chunk pm_ends_chunk an_ends_chunk cd_ends_chunk ct_ends_chunk), sl_ends_chunk⟩) (c_ends_chunk : PySem.W.codeIn K cd_ends_chunk "ends_chunk" = true) (k_ends_chunk : PySem.W.keepIn K (.ref f_ends_chunk) = true)
    (a_law_is_right : PySem.W.nsIn K mainGlobals "_law_is_right" = some (some (.ref f_law_is_right))) (l_law_is_right : K.lookup f_law_is_right = some ⟨oc_law_is_right, od_law_is_right, .func (PySem.W.fnOf "_law_is_right" "_law_is_right" (defArgs s_law_is_right) (defBody s_law_is_right) (defScope s_law_is_right) .none kV_law_is_right dc_law_is_right pm_law_is_right an_law_is_right cd_law_is_right ct_law_is_right), sl_law_is_right⟩) (c_law_is_right : PySem.W.codeIn K cd_law_is_right "_law_is_right" = true) (k_law_is_right : PySem.W.keepIn K (.ref f_law_is_right) = true)
    (a_law_shape : PySem.W.nsIn K mainGlobals "_law_shape" = some (some (.ref f_law_shape))) (l_law_shape : K.lookup f_law_shape = some ⟨oc_law_shape, od_law_shape, .func (PySem.W.fnOf "_law_shape" "_law_shape" (defArgs s_law_shape) (defBody s_law_shape) (defScope s_law_shape) .none kV_law_shape dc_law_shape pm_law_shape an_law_shape cd_law_shape ct_law_shape), sl_law_shape⟩) (c_law_shape : PySem.W.codeIn K cd_law_shape "_law_shape" = true) (k_law_shape : PySem.W.keepIn K (.ref f_law_shape) = true)
    (a_law_thing : PySem.W.nsIn K mainGlobals "_law_thing" = some (some (.ref f_law_thing))) (l_law_thing : K.lookup f_law_thing = some ⟨oc_law_thing, od_law_thing, .func (PySem.W.fnOf "_law_thing" "_law_thing" (defArgs s_law_thing) (defBody s_law_thing) (defScope s_law_thing) .none kV_law_thing dc_law_thing pm_law_thing an_law_thing cd_law_thing ct_law_thing), sl_law_thing⟩) (c_law_thing : PySem.W.codeIn K cd_law_thing "_law_thing" = true) (k_law_thing : PySem.W.keepIn K (.ref f_law_thing) = true)
    (a_law : PySem.W.nsIn K mainGlobals "law" = some (some (.ref f_law))) (l_law : K.lookup f_law = some ⟨oc_law, od_law, .func (PySem.W.fnOf "law" "law" (defArgs s_law) (defBody s_law) (defScope s_law) .none kV_law dc_law pm_law an_law cd_law ct_law), sl_law⟩) (c_law : PySem.W.codeIn K cd_law "law" = true) (k_law : PySem.W.keepIn K (.ref f_law) = true)
    (z_bool : PySem.W.nsIn K mainGlobals "bool" = some none)
    (z_int : PySem.W.nsIn K mainGlobals "int" = some none)
    (z_isinstance : PySem.W.nsIn K mainGlobals "isinstance" = some none)
    (z_len : PySem.W.nsIn K mainGlobals "len" = some none)
    (z_ord : PySem.W.nsIn K mainGlobals "ord" = some none)
    (z_range : PySem.W.nsIn K mainGlobals "range" = some none)
    (z_str : PySem.W.nsIn K mainGlobals "str" = some none)
    (z_tuple : PySem.W.nsIn K mainGlobals "tuple" = some none)
    (z_MOST_ENTRIES : PySem.W.nsIn K mainGlobals "MOST_ENTRIES" = some (some (.int 8 t_MOST_ENTRIES))) :
    ∃ fd : FuncData, (∀ (s : Shared) (v : Value), BindsTo s fd ⟨[v], []⟩ [("script", v)]) ∧ ∀ base : Heap, K.In base → base.Ns mainGlobals mg → FnOk l.prog w K mg base CX0 6 fa fd ["script"] (spLaw K) := by
  have e := hfa.symm.trans (PySem.W.mg_of X G a_law)
  cases e
  have F_law_cell := fun_mk (st := s_law_cell) l_law_cell c_law_cell k_law_cell
  have F_law_dense_place := fun_mk (st := s_law_dense_place) l_law_dense_place c_law_dense_place k_law_dense_place
  have F_law_digest := fun_mk (st := s_law_digest) l_law_digest c_law_digest k_law_digest
  have F_law_integer := fun_mk (st := s_law_integer) l_law_integer c_law_integer k_law_integer
  have F_law_char := fun_mk (st := s_law_char) l_law_char c_law_char k_law_char
  have F_law_draws := fun_mk (st := s_law_draws) l_law_draws c_law_draws k_law_draws
  have F_law_text := fun_mk (st := s_law_text) l_law_text c_law_text k_law_text
  have F_law_value := fun_mk (st := s_law_value) l_law_value c_law_value k_law_value
  have F_law_drawn_place := fun_mk (st := s_law_drawn_place) l_law_drawn_place c_law_drawn_place k_law_drawn_place
  have F_law_written := fun_mk (st := s_law_written) l_law_written c_law_written k_law_written
  have F_digest := fun_mk (st := s_digest) l_digest c_digest k_digest
  have F_encode := fun_mk (st := s_encode) l_encode c_encode k_encode
  have F_ends_chunk := fun_mk (st := s_ends_chunk) l_ends_chunk c_ends_chunk k_ends_chunk
  have F_law_is_right := fun_mk (st := s_law_is_right) l_law_is_right c_law_is_right k_law_is_right
  have F_law_shape := fun_mk (st := s_law_shape) l_law_shape c_law_shape k_law_shape
  have F_law_thing := fun_mk (st := s_law_thing) l_law_thing c_law_thing k_law_thing
  have F_law := fun_mk (st := s_law) l_law c_law k_law
  let T : Txt K mg := {
    f_law_cell := f_law_cell, d_law_cell := _, F_law_cell := F_law_cell, b_law_cell := (F_law_cell.binds (ps := ["script", "k"]) fun _ _ _ _ _ _ us hl => match us, hl with | [_, _], _ => rfl),
    g_law_cell := PySem.W.mg_of X G a_law_cell,
    f_law_dense_place := f_law_dense_place, d_law_dense_place := _, F_law_dense_place := F_law_dense_place, b_law_dense_place := (F_law_dense_place.binds (ps := ["shape", "number", "start"]) fun _ _ _ _ _ _ us hl => match us, hl with | [_, _, _], _ => rfl),
    g_law_dense_place := PySem.W.mg_of X G a_law_dense_place,
    f_law_digest := f_law_digest, d_law_digest := _, F_law_digest := F_law_digest, b_law_digest := (F_law_digest.binds (ps := ["text"]) fun _ _ _ _ _ _ us hl => match us, hl with | [_], _ => rfl),
    g_law_digest := PySem.W.mg_of X G a_law_digest,
    f_law_integer := f_law_integer, d_law_integer := _, F_law_integer := F_law_integer, b_law_integer := (F_law_integer.binds (ps := ["cell"]) fun _ _ _ _ _ _ us hl => match us, hl with | [_], _ => rfl),
    g_law_integer := PySem.W.mg_of X G a_law_integer,
    f_law_char := f_law_char, d_law_char := _, F_law_char := F_law_char, b_law_char := (F_law_char.binds (ps := ["number"]) fun _ _ _ _ _ _ us hl => match us, hl with | [_], _ => rfl),
    g_law_char := PySem.W.mg_of X G a_law_char,
    f_law_draws := f_law_draws, d_law_draws := _, F_law_draws := F_law_draws, b_law_draws := (F_law_draws.binds (ps := ["cell", "salt", "count", "base"]) fun _ _ _ _ _ _ us hl => match us, hl with | [_, _, _, _], _ => rfl),
    g_law_draws := PySem.W.mg_of X G a_law_draws,
    f_law_text := f_law_text, d_law_text := _, F_law_text := F_law_text, b_law_text := (F_law_text.binds (ps := ["cell"]) fun _ _ _ _ _ _ us hl => match us, hl with | [_], _ => rfl),
    g_law_text := PySem.W.mg_of X G a_law_text,
    f_law_value := f_law_value, d_law_value := _, F_law_value := F_law_value, b_law_value := (F_law_value.binds (ps := ["kind", "cell"]) fun _ _ _ _ _ _ us hl => match us, hl with | [_, _], _ => rfl),
    g_law_value := PySem.W.mg_of X G a_law_value,
    f_law_drawn_place := f_law_drawn_place, d_law_drawn_place := _, F_law_drawn_place := F_law_drawn_place, b_law_drawn_place := (F_law_drawn_place.binds (ps := ["shape", "parts"]) fun _ _ _ _ _ _ us hl => match us, hl with | [_, _], _ => rfl),
    g_law_drawn_place := PySem.W.mg_of X G a_law_drawn_place,
    f_law_written := f_law_written, d_law_written := _, F_law_written := F_law_written, b_law_written := (F_law_written.binds (ps := ["item"]) fun _ _ _ _ _ _ us hl => match us, hl with | [_], _ => rfl),
    g_law_written := PySem.W.mg_of X G a_law_written,
    f_digest := f_digest, d_digest := _, F_digest := F_digest, b_digest := (F_digest.binds (ps := ["text"]) fun _ _ _ _ _ _ us hl => match us, hl with | [_], _ => rfl),
    g_digest := PySem.W.mg_of X G a_digest,
    f_encode := f_encode, d_encode := _, F_encode := F_encode, b_encode := (F_encode.binds (ps := ["item"]) fun _ _ _ _ _ _ us hl => match us, hl with | [_], _ => rfl),
    g_encode := PySem.W.mg_of X G a_encode,
    f_ends_chunk := f_ends_chunk, d_ends_chunk := _, F_ends_chunk := F_ends_chunk, b_ends_chunk := (F_ends_chunk.binds (ps := ["level", "key", "count"]) fun _ _ _ _ _ _ us hl => match us, hl with | [_, _, _], _ => rfl),
    g_ends_chunk := PySem.W.mg_of X G a_ends_chunk,
    f_law_is_right := f_law_is_right, d_law_is_right := _, F_law_is_right := F_law_is_right, b_law_is_right := (F_law_is_right.binds (ps := ["level", "key"]) fun _ _ _ _ _ _ us hl => match us, hl with | [_, _], _ => rfl),
    g_law_is_right := PySem.W.mg_of X G a_law_is_right,
    f_law_shape := f_law_shape, d_law_shape := _, F_law_shape := F_law_shape, b_law_shape := (F_law_shape.binds (ps := ["number"]) fun _ _ _ _ _ _ us hl => match us, hl with | [_], _ => rfl),
    g_law_shape := PySem.W.mg_of X G a_law_shape,
    f_law_thing := f_law_thing, d_law_thing := _, F_law_thing := F_law_thing, b_law_thing := (F_law_thing.binds (ps := ["script", "k"]) fun _ _ _ _ _ _ us hl => match us, hl with | [_, _], _ => rfl),
    g_law_thing := PySem.W.mg_of X G a_law_thing,
    f_law := fa, d_law := _, F_law := F_law, b_law := (F_law.binds (ps := ["script"]) fun _ _ _ _ _ _ us hl => match us, hl with | [_], _ => rfl),
    g_law := PySem.W.mg_of X G a_law,
    m_bool := PySem.W.mg_none_of X G z_bool,
    m_int := PySem.W.mg_none_of X G z_int,
    m_isinstance := PySem.W.mg_none_of X G z_isinstance,
    m_len := PySem.W.mg_none_of X G z_len,
    m_ord := PySem.W.mg_none_of X G z_ord,
    m_range := PySem.W.mg_none_of X G z_range,
    m_str := PySem.W.mg_none_of X G z_str,
    m_tuple := PySem.W.mg_none_of X G z_tuple,
    t_MOST_ENTRIES := t_MOST_ENTRIES, k_MOST_ENTRIES := PySem.W.mg_of X G z_MOST_ENTRIES }
  exact ⟨PySem.W.fnOf "law" "law" (defArgs s_law) (defBody s_law) (defScope s_law) .none kV_law dc_law pm_law an_law cd_law ct_law, fun s v => .of_eq rfl, fun base _ _ => ok_law T⟩

end Vt

open PySem PySem.W PyProof.Rows
set_option maxHeartbeats 0 in
theorem PySem.Challenge.cw_versiontables_k11_ends_chunk_holds : PySem.Challenge.rw_versiontables_k11_ends_chunk.Holds := by
  w_on; o_law; k_head; (case hw => w_witness2)
  k_fill
  refine L2.walk_ofB (l := PySem.Challenge.rw_versiontables_k11_ends_chunk) (n := 63) (k := 6) (x := "script") (CX := fun _ => L2.CX0) (sp := fun w => Vt.spLaw _) rfl (by decide) rfl ⟨rfl, by decide, by decide⟩ (fun w h Y => PySem.W.kIn_of Y) ?F (fun _ _ a ns hl hb _ hS => ⟨a, ns, rfl, hS, hl, hb, fun _ => rfl⟩) (fun _ _ _ _ _ h => h)
  case F =>
    intro w mg fa h KX G hmg
    refine' Vt.all_mk KX G hmg ?a_law_cell ?l_law_cell ?c_law_cell ?k_law_cell ?a_law_dense_place ?l_law_dense_place ?c_law_dense_place ?k_law_dense_place ?a_law_digest ?l_law_digest ?c_law_digest ?k_law_digest ?a_law_integer ?l_law_integer ?c_law_integer ?k_law_integer ?a_law_char ?l_law_char ?c_law_char ?k_law_char ?a_law_draws ?l_law_draws ?c_law_draws ?k_law_draws ?a_law_text ?l_law_text ?c_law_text ?k_law_text ?a_law_value ?l_law_value ?c_law_value ?k_law_value ?a_law_drawn_place ?l_law_drawn_place ?c_law_drawn_place ?k_law_drawn_place ?a_law_written ?l_law_written ?c_law_written ?k_law_written ?a_digest ?l_digest ?c_digest ?k_digest ?a_encode ?l_encode ?c_encode ?k_encode ?a_ends_chunk ?l_ends_chunk ?c_ends_chunk ?k_ends_chunk ?a_law_is_right ?l_law_is_right ?c_law_is_right ?k_law_is_right ?a_law_shape ?l_law_shape ?c_law_shape ?k_law_shape ?a_law_thing ?l_law_thing ?c_law_thing ?k_law_thing ?a_law ?l_law ?c_law ?k_law ?z_bool ?z_int ?z_isinstance ?z_len ?z_ord ?z_range ?z_str ?z_tuple ?z_MOST_ENTRIES
    (case a_law_cell => k_is)
    (case l_law_cell => k_is)
    (case c_law_cell => k_is)
    (case k_law_cell => k_is)
    (case a_law_dense_place => k_is)
    (case l_law_dense_place => k_is)
    (case c_law_dense_place => k_is)
    (case k_law_dense_place => k_is)
    (case a_law_digest => k_is)
    (case l_law_digest => k_is)
    (case c_law_digest => k_is)
    (case k_law_digest => k_is)
    (case a_law_integer => k_is)
    (case l_law_integer => k_is)
    (case c_law_integer => k_is)
    (case k_law_integer => k_is)
    (case a_law_char => k_is)
    (case l_law_char => k_is)
    (case c_law_char => k_is)
    (case k_law_char => k_is)
    (case a_law_draws => k_is)
    (case l_law_draws => k_is)
    (case c_law_draws => k_is)
    (case k_law_draws => k_is)
    (case a_law_text => k_is)
    (case l_law_text => k_is)
    (case c_law_text => k_is)
    (case k_law_text => k_is)
    (case a_law_value => k_is)
    (case l_law_value => k_is)
    (case c_law_value => k_is)
    (case k_law_value => k_is)
    (case a_law_drawn_place => k_is)
    (case l_law_drawn_place => k_is)
    (case c_law_drawn_place => k_is)
    (case k_law_drawn_place => k_is)
    (case a_law_written => k_is)
    (case l_law_written => k_is)
    (case c_law_written => k_is)
    (case k_law_written => k_is)
    (case a_digest => k_is)
    (case l_digest => k_is)
    (case c_digest => k_is)
    (case k_digest => k_is)
    (case a_encode => k_is)
    (case l_encode => k_is)
    (case c_encode => k_is)
    (case k_encode => k_is)
    (case a_ends_chunk => k_is)
    (case l_ends_chunk => k_is)
    (case c_ends_chunk => k_is)
    (case k_ends_chunk => k_is)
    (case a_law_is_right => k_is)
    (case l_law_is_right => k_is)
    (case c_law_is_right => k_is)
    (case k_law_is_right => k_is)
    (case a_law_shape => k_is)
    (case l_law_shape => k_is)
    (case c_law_shape => k_is)
    (case k_law_shape => k_is)
    (case a_law_thing => k_is)
    (case l_law_thing => k_is)
    (case c_law_thing => k_is)
    (case k_law_thing => k_is)
    (case a_law => k_is)
    (case l_law => k_is)
    (case c_law => k_is)
    (case k_law => k_is)
    (case z_bool => k_is)
    (case z_int => k_is)
    (case z_isinstance => k_is)
    (case z_len => k_is)
    (case z_ord => k_is)
    (case z_range => k_is)
    (case z_str => k_is)
    (case z_tuple => k_is)
    (case z_MOST_ENTRIES => k_is)
