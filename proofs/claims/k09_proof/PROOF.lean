import PyProof.Rows.All
import Wide.All
import OpenK.AllK
import Wide.FinOn
import HandS.ForMost
import HandS.Evl
import HandS.IsInst
import HandS.FStr
import HandS.WideBits
import HandS.Wide
import HandS.EndBits
import HandS.Exc
import HandS.TupAny
import PyProof.StrOps2
import HandS.ExcOwn
import HandS.ExcIs
import HandS.ExcCtx
import HandS.SuiteRaise
import HandS.RaiseFrom
import HandS.ExcValue
import HandS.ExcValueFrom
import HandS.WordsExc
import HandS.Replace
import HandS.ReplaceLit
import HandS.NoneIn
import HandS.StrMore
import HandS.TupLe
import HandS.Sort
import HandS.SortKw
import HandS.Lambda
import HandS.EndTab
import KE.KNestM
import KE.SortKeyHeap
import KE.SortData
import HandS.Iter
import KE.GoesMore
import KE.GoesEnum
import HandS.SetTxt0
import HandS.Set
import HandS.Strs
import HandS.Star
import HandS.Zip
import KE.KDictZip
import PySem.Challenge.RW_versiontables_k09_book_addresses


set_option Elab.async false
set_option linter.all false
set_option maxRecDepth 100000
set_option maxHeartbeats 400000

namespace Vt
open PySem PySem.Spec PyProof.Rows L2 Evl

def topS (i : Nat) : Stmt := PySem.Challenge.pw_versiontables_k09_book_addresses.main.body.getD i (.Pass ⟨0, 0, 0, 0⟩)

abbrev s_Book___init : Stmt := inClass (topS 1) 0

theorem sc_Book___init : FnScope ["self"] ["self"] (defScope s_Book___init) := ⟨rfl, rfl, rfl, by decide +kernel, rfl, by decide +kernel, by decide +kernel⟩

abbrev s_Book___len : Stmt := inClass (topS 1) 3

theorem sc_Book___len : FnScope ["self"] ["self"] (defScope s_Book___len) := ⟨rfl, rfl, rfl, by decide +kernel, rfl, by decide +kernel, by decide +kernel⟩

abbrev s_Book_address : Stmt := inClass (topS 1) 1

theorem sc_Book_address : FnScope ["self", "text"] ["self", "text"] (defScope s_Book_address) := ⟨rfl, rfl, rfl, by decide +kernel, rfl, by decide +kernel, by decide +kernel⟩

abbrev s_Book_find : Stmt := inClass (topS 1) 2

theorem sc_Book_find : FnScope ["self", "text"] ["self", "text"] (defScope s_Book_find) := ⟨rfl, rfl, rfl, by decide +kernel, rfl, by decide +kernel, by decide +kernel⟩

abbrev s_law_cell : Stmt := topS 3

theorem sc_law_cell : FnScope ["script", "k"] ["script", "k"] (defScope s_law_cell) := ⟨rfl, rfl, rfl, by decide +kernel, rfl, by decide +kernel, by decide +kernel⟩

abbrev s_law_draws : Stmt := topS 5

theorem sc_law_draws : FnScope ["cell", "salt", "count", "base", "rest", "numbers", "k", "mixed"] ["cell", "salt", "count", "base"] (defScope s_law_draws) := ⟨rfl, rfl, rfl, by decide +kernel, rfl, by decide +kernel, by decide +kernel⟩

abbrev s_law_is : Stmt := topS 8

theorem sc_law_is : FnScope ["actual", "expected"] ["actual", "expected"] (defScope s_law_is) := ⟨rfl, rfl, rfl, by decide +kernel, rfl, by decide +kernel, by decide +kernel⟩

abbrev s_law_char : Stmt := topS 6

theorem sc_law_char : FnScope ["number", "chars"] ["number"] (defScope s_law_char) := ⟨rfl, rfl, rfl, by decide +kernel, rfl, by decide +kernel, by decide +kernel⟩

abbrev s_law_text : Stmt := topS 7

theorem sc_law_text : FnScope ["cell", "choice", "rest", "length", "number"] ["cell"] (defScope s_law_text) := ⟨rfl, rfl, rfl, by decide +kernel, rfl, by decide +kernel, by decide +kernel⟩

abbrev s_law_thing : Stmt := topS 4

theorem sc_law_thing : FnScope ["script", "k"] ["script", "k"] (defScope s_law_thing) := ⟨rfl, rfl, rfl, by decide +kernel, rfl, by decide +kernel, by decide +kernel⟩

abbrev s_law_pool : Stmt := topS 9

theorem sc_law_pool : FnScope ["script", "long", "pool", "k"] ["script"] (defScope s_law_pool) := ⟨rfl, rfl, rfl, by decide +kernel, rfl, by decide +kernel, by decide +kernel⟩

abbrev s_law : Stmt := topS 10

theorem sc_law : FnScope ["script", "pool", "books", "known", "k", "numbers", "which", "text", "book", "names"] ["script"] (defScope s_law) := ⟨rfl, rfl, rfl, by decide +kernel, rfl, by decide +kernel, by decide +kernel⟩

structure Txt (K : PySem.W.Frag) (mg : Str → Option Value) where
  C_Book : Addr
  g_Book : mg "Book" = some (.ref C_Book)
  cl_Book : Cls K C_Book
  na_Book__addresses : NoAttr K C_Book "_addresses"
  f_Book___init : Addr
  d_Book___init : FuncData
  F_Book___init : Fun K "__init__" "Book.__init__" s_Book___init f_Book___init d_Book___init
  b_Book___init : Binds K d_Book___init ["self"] []
  mk_Book : Mk K C_Book f_Book___init
  f_Book___len : Addr
  d_Book___len : FuncData
  F_Book___len : Fun K "__len__" "Book.__len__" s_Book___len f_Book___len d_Book___len
  b_Book___len : Binds K d_Book___len ["self"] []
  me_Book___len : Meth K C_Book "__len__" f_Book___len
  f_Book_address : Addr
  d_Book_address : FuncData
  F_Book_address : Fun K "address" "Book.address" s_Book_address f_Book_address d_Book_address
  b_Book_address : Binds K d_Book_address ["self", "text"] []
  me_Book_address : Meth K C_Book "address" f_Book_address
  f_Book_find : Addr
  d_Book_find : FuncData
  F_Book_find : Fun K "find" "Book.find" s_Book_find f_Book_find d_Book_find
  b_Book_find : Binds K d_Book_find ["self", "text"] []
  me_Book_find : Meth K C_Book "find" f_Book_find
  f_law_cell : Addr
  d_law_cell : FuncData
  F_law_cell : Fun K "_law_cell" "_law_cell" s_law_cell f_law_cell d_law_cell
  b_law_cell : Binds K d_law_cell ["script", "k"] []
  g_law_cell : mg "_law_cell" = some (.ref f_law_cell)
  f_law_draws : Addr
  d_law_draws : FuncData
  F_law_draws : Fun K "_law_draws" "_law_draws" s_law_draws f_law_draws d_law_draws
  b_law_draws : Binds K d_law_draws ["cell", "salt", "count", "base"] []
  g_law_draws : mg "_law_draws" = some (.ref f_law_draws)
  f_law_is : Addr
  d_law_is : FuncData
  F_law_is : Fun K "_law_is" "_law_is" s_law_is f_law_is d_law_is
  b_law_is : Binds K d_law_is ["actual", "expected"] []
  g_law_is : mg "_law_is" = some (.ref f_law_is)
  f_law_char : Addr
  d_law_char : FuncData
  F_law_char : Fun K "_law_char" "_law_char" s_law_char f_law_char d_law_char
  b_law_char : Binds K d_law_char ["number"] []
  g_law_char : mg "_law_char" = some (.ref f_law_char)
  f_law_text : Addr
  d_law_text : FuncData
  F_law_text : Fun K "_law_text" "_law_text" s_law_text f_law_text d_law_text
  b_law_text : Binds K d_law_text ["cell"] []
  g_law_text : mg "_law_text" = some (.ref f_law_text)
  f_law_thing : Addr
  d_law_thing : FuncData
  F_law_thing : Fun K "_law_thing" "_law_thing" s_law_thing f_law_thing d_law_thing
  b_law_thing : Binds K d_law_thing ["script", "k"] []
  g_law_thing : mg "_law_thing" = some (.ref f_law_thing)
  f_law_pool : Addr
  d_law_pool : FuncData
  F_law_pool : Fun K "_law_pool" "_law_pool" s_law_pool f_law_pool d_law_pool
  b_law_pool : Binds K d_law_pool ["script"] []
  g_law_pool : mg "_law_pool" = some (.ref f_law_pool)
  f_law : Addr
  d_law : FuncData
  F_law : Fun K "law" "law" s_law f_law d_law
  b_law : Binds K d_law ["script"] []
  g_law : mg "law" = some (.ref f_law)
  m_bool : mg "bool" = none
  m_int : mg "int" = none
  m_isinstance : mg "isinstance" = none
  m_len : mg "len" = none
  m_range : mg "range" = none

/-! ### sizes of ints -/
/-- an int of at most some million bits -/
structure Wd (n : Int) : Prop where
  h : n.natAbs.log2 < 1100000
theorem log2_mono {a b : Nat} (h : a ≤ b) : a.log2 ≤ b.log2 := by
  by_cases ha : a = 0
  · subst ha
    exact Nat.le_trans (Nat.le_of_eq (by decide)) (Nat.zero_le _)
  · refine Nat.lt_succ_iff.mp ((Nat.log2_lt ha).mpr (Nat.lt_of_le_of_lt h Nat.lt_log2_self))
theorem Wd.le {n m : Int} (h : Wd n) (e : m.natAbs ≤ n.natAbs) : Wd m := ⟨Nat.lt_of_le_of_lt (log2_mono e) h.h⟩
theorem Wd.lt {n : Int} (h : n.natAbs < 2 ^ 9000) : Wd n := ⟨Nat.lt_trans (PySem.Flt.log2_lt_of (by decide) h) (by decide)⟩
theorem Wd.lit {n : Int} (h : n.natAbs < 2 ^ 256) : Wd n := ⟨Nat.lt_trans (PySem.Flt.log2_lt_of (by decide) h) (by decide)⟩
theorem Wd.bits {n : Int} (h : Builtin.Int.intBits n ≤ 1048576) : Wd n := by
  unfold Builtin.Int.intBits at h
  by_cases e : n = 0
  · subst e
    exact Wd.lit (by decide)
  · rw [if_neg (by simpa using e)] at h
    exact ⟨by omega⟩
theorem Wd.small {n : Int} (h1 : -(2 ^ 64) < n) (h2 : n < 2 ^ 64) : Wd n := Wd.lit (by
  have : n.natAbs < 2 ^ 64 := by omega
  exact Nat.lt_of_lt_of_le this (by decide))
theorem Wd.div {n b : Int} (h : Wd n) : Wd (n / b) := h.le (Int.natAbs_ediv_le_natAbs n b)
theorem Wd.mod {n b : Int} (hb : 0 < b) (h : Wd b) : Wd (n % b) := h.le (by
  have h1 := Int.emod_nonneg n (by omega : b ≠ 0)
  have h2 := Int.emod_lt_of_pos n hb
  omega)
theorem Wd.neg {n : Int} (h : Wd n) : Wd (-n) := h.le (by omega)
theorem bits_log (n : Int) : Builtin.Int.intBits n ≤ n.natAbs.log2 + 1 := by
  unfold Builtin.Int.intBits
  split <;> omega
theorem Wd.mul {i j : Int} (hi : Wd i) (hj : Wd j) : CMulX i j := by
  have a := bits_log i
  have b := bits_log j
  have c := hi.h
  have d := hj.h
  unfold CMulX
  omega
/-- what falls to a comparison of two ints -/
theorem dec_int {i j : Int} : decide (V.int i = V.int j) = decide (i = j) := by
  by_cases h : i = j
  · rw [decide_eq_true h, decide_eq_true (congrArg V.int h)]
  · rw [decide_eq_false h, decide_eq_false fun e => h (V.int.inj e)]
theorem dec_str {i j : Str} : decide (V.str i = V.str j) = decide (i = j) := by
  by_cases h : i = j
  · rw [decide_eq_true h, decide_eq_true (congrArg V.str h)]
  · rw [decide_eq_false h, decide_eq_false fun e => h (V.str.inj e)]
theorem dec_bl {i j : Bool} : decide (V.bl i = V.bl j) = decide (i = j) := by
  by_cases h : i = j
  · rw [decide_eq_true h, decide_eq_true (congrArg V.bl h)]
  · rw [decide_eq_false h, decide_eq_false fun e => h (V.bl.inj e)]
/-- len, tuple of a list or tuple -/
abbrev rLenQ (K : PySem.W.Frag) : List V → Hp → VK → Prop := fun xs H Q => ∃ p ys, xs = [V.ref p] ∧ (SqL K H p ys ∨ SqT K H p ys) ∧ Q (.int ys.length) H
abbrev rTupOf (K : PySem.W.Frag) : List V → Hp → VK → Prop := fun xs H Q => ∃ p ys, xs = [V.ref p] ∧ ((SqL K H p ys ∧ ∀ l, H l = none → Q (.ref l) (upd H l (.tup ys))) ∨ (SqT K H p ys ∧ Q (.ref p) H))
/-! ### more of what evaluates -/
section
variable {K : PySem.W.Frag} {σ : L2.St} {H : Hp} {ta tb te : TE}
theorem ev_eqI {i j : Int} (ha : Ev ta σ H (.int i)) (hb : Ev tb σ H (.int j)) : Ev (tOp rEq ta tb) σ H (.bl (decide (i = j))) := ev_is (ev_op ha hb (rv_eq rfl)) (congrArg V.bl dec_int)
theorem ev_neI {i j : Int} (ha : Ev ta σ H (.int i)) (hb : Ev tb σ H (.int j)) : Ev (tOp rNe ta tb) σ H (.bl (!decide (i = j))) := ev_is (ev_op ha hb (rv_ne rfl)) (congrArg (fun b => V.bl (!b)) dec_int)
theorem ev_eqS {i j : Str} (ha : Ev ta σ H (.str i)) (hb : Ev tb σ H (.str j)) : Ev (tOp rEq ta tb) σ H (.bl (decide (i = j))) := ev_is (ev_op ha hb (rv_eq rfl)) (congrArg V.bl dec_str)
theorem ev_neS {i j : Str} (ha : Ev ta σ H (.str i)) (hb : Ev tb σ H (.str j)) : Ev (tOp rNe ta tb) σ H (.bl (!decide (i = j))) := ev_is (ev_op ha hb (rv_ne rfl)) (congrArg (fun b => V.bl (!b)) dec_str)
theorem ev_eqB {i j : Bool} (ha : Ev ta σ H (.bl i)) (hb : Ev tb σ H (.bl j)) : Ev (tOp rEq ta tb) σ H (.bl (decide (i = j))) := ev_is (ev_op ha hb (rv_eq rfl)) (congrArg V.bl dec_bl)
theorem ev_neB {i j : Bool} (ha : Ev ta σ H (.bl i)) (hb : Ev tb σ H (.bl j)) : Ev (tOp rNe ta tb) σ H (.bl (!decide (i = j))) := ev_is (ev_op ha hb (rv_ne rfl)) (congrArg (fun b => V.bl (!b)) dec_bl)
theorem ev_bin {C : Int → Int → Prop} {g : Int → Int → V} {i j : Int} (ha : Ev ta σ H (.int i)) (hb : Ev tb σ H (.int j)) (hc : C i j) : Ev (tOp (rI C g) ta tb) σ H (g i j) := ev_op ha hb (rv_I hc)
theorem ev_bin0 {g : Int → Int → V} {i j : Int} (ha : Ev ta σ H (.int i)) (hb : Ev tb σ H (.int j)) : Ev (tOp (rI0 g) ta tb) σ H (g i j) := ev_op ha hb rv_I0
theorem ev_intI {i : Int} (h : Ev te σ H (.int i)) : Ev (tCB (fun xs H Q => (∃ i, xs = [V.int i] ∧ Q (.int i) H) ∨ ∃ k, xs = [V.bl k] ∧ Q (.int (if k = true then 1 else 0)) H) (tCons te tNil)) σ H (.int i) := fun H1 e Q q =>
  h H1 e _ fun H2 e2 => .inl ⟨i, rfl, q H2 e2⟩
theorem ev_lenS {z : Str} (h : Ev te σ H (.str z)) (hz : z.length ≤ 100000) : Ev (tCB (fun xs H Q => ∃ z, xs = [V.str z] ∧ z.length ≤ sizeLine ∧ Q (.int z.length) H) (tCons te tNil)) σ H (.int (z.length : Int)) := fun H1 e Q q =>
  h H1 e _ fun H2 e2 => ⟨z, rfl, sz_of hz, q H2 e2⟩
theorem ev_lenQ {p : Addr} {xs : List V} (ha : Ev ta σ H (.ref p)) (h : SqL K H p xs) : Ev (tCB (fun xs H Q => ∃ p ys, xs = [V.ref p] ∧ (SqL K H p ys ∨ SqT K H p ys) ∧ Q (.int ys.length) H) (tCons ta tNil)) σ H (.int (xs.length : Int)) := fun H1 e Q q =>
  ha H1 e _ fun H2 e2 => ⟨p, xs, rfl, Or.inl (ex_l (e.trans e2) h), q H2 e2⟩
theorem ev_lenT {p : Addr} {xs : List V} (ha : Ev ta σ H (.ref p)) (h : SqT K H p xs) : Ev (tCB (fun xs H Q => ∃ p ys, xs = [V.ref p] ∧ (SqL K H p ys ∨ SqT K H p ys) ∧ Q (.int ys.length) H) (tCons ta tNil)) σ H (.int (xs.length : Int)) := fun H1 e Q q =>
  ha H1 e _ fun H2 e2 => ⟨p, xs, rfl, Or.inr (ex_t (e.trans e2) h), q H2 e2⟩
theorem ev_ixL {p : Addr} {xs : List V} {i : Int} {v : V} (ha : Ev ta σ H (.ref p)) (hb : Ev tb σ H (.int i)) (h : SqL K H p xs) (hi : atI xs i = some v) : Ev (tOp (rIxL K) ta tb) σ H v := ev_op ha hb (rv_ixL h hi)
theorem ev_ixT {p : Addr} {xs : List V} {i : Int} {v : V} (ha : Ev ta σ H (.ref p)) (hb : Ev tb σ H (.int i)) (h : SqT K H p xs) (hi : atI xs i = some v) : Ev (tOp (rIxT K) ta tb) σ H v := ev_op ha hb (rv_ixT h hi)
/-- an item of a list that is written there -/
theorem ev_ixN {xs : List V} {i : Int} {v : V} (ha : EvL ta σ H xs) (hb : ∀ H1, Ex H H1 → Ev tb σ H1 (.int i)) (hi : atI xs i = some v) : Ev (tOp (rIxL K) ta tb) σ H v := ev_opL1 ha hb fun p H1 h1 _ => rv_ixL (sq_of h1) hi
theorem ev_ixS {z : Str} {i : Int} {c : Nat} (ha : Ev ta σ H (.str z)) (hb : Ev tb σ H (.int i)) (hz : z.length ≤ 100000) (hi : atI z.cps.toList i = some c) : Ev (tOp rIxS ta tb) σ H (.str ⟨#[c]⟩) := ev_op ha hb (rv_ixS hz hi)
theorem ev_addS {x y : Str} (ha : Ev ta σ H (.str x)) (hb : Ev tb σ H (.str y)) (hz : x.length + y.length ≤ 16777216) : Ev (tOp (fun x y H Q => ∃ i j, x = V.str i ∧ y = V.str j ∧ i.length + j.length ≤ sizeLine ∧ Q (.str (i ++ j)) H) ta tb) σ H (.str (x ++ y)) :=
  ev_op ha hb fun H1 _ Q q => ⟨x, y, rfl, rfl, by rw [sizeLine_eq]; exact hz, q H1 (Ex.refl H1)⟩
theorem ev_neg {i : Int} (h : Ev te σ H (.int i)) : Ev (tUn (rU fun i => .int (-i)) te) σ H (.int (-i)) := ev_un h ru_neg
theorem ev_isN {v : V} (h : Ev te σ H v) : Ev (tOp (fun x y H Q => y = .non ∧ Q (.bl (decide (x = .non))) H) te (tC .non)) σ H (.bl (decide (v = .non))) := fun H1 e Q q => h H1 e _ fun H2 e2 => ⟨rfl, q H2 e2⟩
end
section
variable {σ : L2.St} {H : Hp} {te : TE}
theorem ev_isNt (h : Ev te σ H .non) : Ev (tOp (fun x y H Q => y = .non ∧ Q (.bl (decide (x = .non))) H) te (tC .non)) σ H (.bl true) := ev_is (ev_isN h) (congrArg V.bl (decide_eq_true rfl))
theorem ev_isNf {v : V} (h : Ev te σ H v) (hv : v ≠ .non := by intro z; cases z) : Ev (tOp (fun x y H Q => y = .non ∧ Q (.bl (decide (x = .non))) H) te (tC .non)) σ H (.bl false) := ev_is (ev_isN h) (congrArg V.bl (decide_eq_false hv))
end
theorem at_nat {xs : List V} {j : Nat} {v : V} (h : xs[j]? = some v) : atI xs (j : Int) = some v := atI_nat h
theorem sizeOk {n : Nat} (h : n ≤ 16777216) : n ≤ sizeLine := by rw [sizeLine_eq]; exact h

/-! ### texts, joins, comprehensions -/
theorem str_ext {a b : Str} (h : a.cps.toList = b.cps.toList) : a = b := by
  obtain ⟨a⟩ := a
  obtain ⟨b⟩ := b
  exact congrArg Str.mk (Array.toList_inj.mp h)
/-- the join of one-sign texts -/
theorem join_signs (l : List Nat) : Txt.join (Str.ofString "") (l.map fun c => (⟨#[c]⟩ : Str)) = ⟨l.toArray⟩ := by
  rw [TL.join_eq]
  refine str_ext ?_
  have key : ∀ l : List Nat, TL.joinL [] (l.map fun c => [c]) = l := fun l => by
    induction l with
    | nil => rfl
    | cons a r ih =>
      cases r with
      | nil => rfl
      | cons b r =>
        show [a] ++ ([] ++ TL.joinL [] ((b :: r).map fun c => [c])) = a :: b :: r
        rw [ih] <;> rfl
  have h := TL.tl_join (Str.ofString "") (l.map fun c => (⟨#[c]⟩ : Str))
  have e1 : TL.tl (Str.ofString "") = [] := by decide +kernel
  rw [e1, List.map_map] at h
  exact h.trans (key l)
theorem sum_ones (l : List Nat) : ((l.map fun c => (⟨#[c]⟩ : Str)).map (·.length)).sum = l.length := by
  induction l with
  | nil => rfl
  | cons a r ih =>
    rw [List.map_cons, List.map_cons, List.sum_cons, ih, List.length_cons]
    show 1 + r.length = r.length + 1
    omega
/-- a join of a new list of texts -/
theorem ev_joinN {K : PySem.W.Frag} {σ : L2.St} {H : Hp} {to te : TE} {a : Str} {ys : List Str} (h0 : Ev to σ H (.str a)) (h : EvL te σ H (ys.map V.str)) (hz : (ys.map (·.length)).sum + ys.length * a.length ≤ 16777216) :
    Ev (tM1 (fun x xs H Q => ∃ a p, ∃ ys : List Str, x = .str a ∧ xs = [.ref p] ∧ (SqL K H p (ys.map V.str) ∨ SqT K H p (ys.map V.str)) ∧ (ys.map (·.length)).sum + ys.length * a.length ≤ 16777216 ∧ Q (.str (Txt.join a ys)) H) to te) σ H (.str (Txt.join a ys)) :=
  fun H1 e Q q => h0 H1 e _ fun H2 e2 => ⟨⟨a, rfl⟩, h H2 (e.trans e2) _ fun p H3 hp e3 hl => ⟨a, p, ys, rfl, rfl, .inl (sq_of hl), hz, q H3 (e2.trans e3)⟩⟩
theorem given_all {n : Nat} {v : Nat → V} {xs : List V} (hn : xs.length = n) (h : ∀ i, i < n → xs[i]? = some (v i)) : given n (fun _ => true) v = xs := by
  unfold given
  rw [List.filter_eq_self.mpr (fun _ _ => rfl)]
  refine List.ext_getElem? fun i => ?_
  rw [List.getElem?_map]
  by_cases hi : i < n
  · rw [List.getElem?_range hi, h i hi] <;> rfl
  · rw [List.getElem?_eq_none (by rw [List.length_range]; omega), List.getElem?_eq_none (by omega)] <;> rfl
/-- [f(x) for x in a new list of ints] -/
theorem el_mapN {K : PySem.W.Frag} {σ : L2.St} {H : Hp} {tl te : TE} {j : Nat} {vs : List Nat} {ns : List Int} {f : Int → V} (h : EvL tl σ H (ns.map V.int)) (hz : ns.length ≤ 40000) (hw : ∀ x, wipe ((wipe σ vs).set j (some x)) vs = wipe σ vs)
    (he : ∀ n ∈ ns, ∀ H1, Ex H H1 → Ev te ((wipe σ vs).set j (some (.int n))) H1 (f n)) : EvL (tLc (iList K tl) (gName j) tYes te vs) σ H (ns.map f) := by
  have g : given (ns.map V.int).length (fun _ => true) (fun i => f (ns.getD i 0)) = ns.map f := given_all (by rw [List.length_map, List.length_map]) fun i hi => by
    rw [List.length_map] at hi
    rw [List.getElem?_map, List.getElem?_eq_getElem hi, List.getD_eq_getElem?_getD, List.getElem?_eq_getElem hi] <;> rfl
  rw [← g]
  refine el_lcNL (fun _ => true) (fun i => f (ns.getD i 0)) h (by rw [List.length_map]; exact hz) hw (fun i x H1 e1 hx => ?_) (fun i x H1 e1 hx _ => ?_)
  · exact fun H2 e2 Q q => q H2 (Ex.refl H2)
  · rw [List.getElem?_map] at hx
    cases e : ns[i]? with
    | none =>
      rw [e] at hx
      cases hx
    | some n =>
      rw [e] at hx
      have ex : x = .int n := (Option.some.inj hx).symm
      rw [ex, List.getD_eq_getElem?_getD, e]
      exact he n (List.mem_of_getElem? e) H1 e1
theorem atI_of {xs : List V} {n : Int} {v : V} (h0 : 0 ≤ n) (h : xs[n.toNat]? = some v) : atI xs n = some v := by
  have e : n = ((n.toNat : Nat) : Int) := by omega
  rw [e]
  exact atI_nat (by simpa using h)
theorem at_cps {z : Str} {l : List Nat} (h : z.cps.toList = l) {n : Int} (h0 : 0 ≤ n) (h1 : n < l.length) : atI z.cps.toList n = some (l.getD n.toNat 0) := by
  rw [h]
  have e : n = ((n.toNat : Nat) : Int) := by omega
  have h3 : n.toNat < l.length := by omega
  have h4 : ixN l.length n = some n.toNat := by rw [e]; exact ixN_nat (by omega)
  unfold atI
  rw [h4]
  show l[n.toNat]? = some (l.getD n.toNat 0)
  rw [List.getElem?_eq_getElem h3, List.getD_eq_getElem?_getD, List.getElem?_eq_getElem h3]
  all_goals rfl

/-- the join of texts by their codes -/
theorem join_codes (l : List (List Nat)) : Txt.join (Str.ofString "") (l.map fun c => (⟨c.toArray⟩ : Str)) = ⟨l.flatten.toArray⟩ := by
  rw [TL.join_eq]
  refine str_ext ?_
  have key : ∀ l : List (List Nat), TL.joinL [] l = l.flatten := fun l => by
    induction l with
    | nil => rfl
    | cons a r ih =>
      cases r with
      | nil => simp [TL.joinL]
      | cons b r =>
        show a ++ ([] ++ TL.joinL [] (b :: r)) = (a :: b :: r).flatten
        rw [ih, List.nil_append]
        exact List.flatten_cons.symm
  have h := TL.tl_join (Str.ofString "") (l.map fun c => (⟨c.toArray⟩ : Str))
  have e1 : TL.tl (Str.ofString "") = [] := by decide +kernel
  have e2 : (l.map fun c => (⟨c.toArray⟩ : Str)).map TL.tl = l := by
    rw [List.map_map]
    exact List.map_id l
  rw [e1, e2] at h
  exact h.trans (key l)
theorem sum_codes (l : List (List Nat)) : ((l.map fun c => (⟨c.toArray⟩ : Str)).map (·.length)).sum = l.flatten.length := by
  induction l with
  | nil => rfl
  | cons a r ih =>
    rw [List.map_cons, List.map_cons, List.sum_cons, ih, List.flatten_cons, List.length_append] <;> rfl
/-- [f(x) for x in a tuple] -/
theorem el_mapT {K : PySem.W.Frag} {σ : L2.St} {H : Hp} {tl te : TE} {j : Nat} {vs : List Nat} {a : Addr} {xs ys : List V} (h : Ev tl σ H (.ref a)) (hx : SqT K H a xs) (hz : xs.length ≤ 40000) (hw : ∀ x, wipe ((wipe σ vs).set j (some x)) vs = wipe σ vs) (hl : ys.length = xs.length)
    (he : ∀ (i : Nat) (x y : V), xs[i]? = some x → ys[i]? = some y → ∀ H1, Ex H H1 → Ev te ((wipe σ vs).set j (some x)) H1 y) : EvL (tLc (iTup K tl) (gName j) tYes te vs) σ H ys := by
  intro H0 e Q q
  refine h H0 e _ fun H1 e1 => ⟨a, rfl, ⟨xs, ex_t (e.trans e1) hx⟩, fun Dl hD => ?_⟩
  refine lc_tup (xs := xs) (fun i H' => H1 Dl = none ∧ Ex H1 H' ∧ H' Dl = some (.lst (ys.take i))) ⟨hD, Ex.new hD, upd_same⟩ (fun i H' _ p => ex_t ((e.trans e1).trans p.2.1) hx) (fun i x H' hi p => ⟨hw x, ?_⟩) (fun H' p => ?_)
  · obtain ⟨p1, p2, p3⟩ := p
    have hi2 : i < ys.length := by
      have := (List.getElem?_eq_some_iff.mp hi).1
      omega
    have hy : ys[i]? = some ys[i] := List.getElem?_eq_getElem hi2
    show te ((wipe σ vs).set j (some x)) H' _
    refine he i x ys[i] hi hy H1 (e.trans e1) H' p2 _ fun H4 e4 => ⟨ys.take i, e4 Dl _ p3, sz_lt (by rw [List.length_take]; omega), p1, (p2.trans e4).mut p1, ?_⟩
    rw [upd_same, List.take_add_one, hy] <;> rfl
  · obtain ⟨p1, p2, p3⟩ := p
    rw [← hl, List.take_length] at p3
    exact q Dl H' (fresh_back e1 p1) (e1.trans p2) p3
/-- [f(x) for x in a list] -/
theorem el_mapL {K : PySem.W.Frag} {σ : L2.St} {H : Hp} {tl te : TE} {j : Nat} {vs : List Nat} {a : Addr} {xs ys : List V} (h : Ev tl σ H (.ref a)) (hx : SqL K H a xs) (hz : xs.length ≤ 40000) (hw : ∀ x, wipe ((wipe σ vs).set j (some x)) vs = wipe σ vs) (hl : ys.length = xs.length)
    (he : ∀ (i : Nat) (x y : V), xs[i]? = some x → ys[i]? = some y → ∀ H1, Ex H H1 → Ev te ((wipe σ vs).set j (some x)) H1 y) : EvL (tLc (iList K tl) (gName j) tYes te vs) σ H ys := by
  intro H0 e Q q
  refine h H0 e _ fun H1 e1 => ⟨a, rfl, ⟨xs, ex_l (e.trans e1) hx⟩, fun Dl hD => ?_⟩
  refine lc_list (xs := xs) (fun i H' => H1 Dl = none ∧ Ex H1 H' ∧ H' Dl = some (.lst (ys.take i))) ⟨hD, Ex.new hD, upd_same⟩ (fun i H' _ p => ex_l ((e.trans e1).trans p.2.1) hx) (fun i x H' hi p => ⟨hw x, ?_⟩) (fun H' p => ?_)
  · obtain ⟨p1, p2, p3⟩ := p
    have hi2 : i < ys.length := by
      have := (List.getElem?_eq_some_iff.mp hi).1
      omega
    have hy : ys[i]? = some ys[i] := List.getElem?_eq_getElem hi2
    show te ((wipe σ vs).set j (some x)) H' _
    refine he i x ys[i] hi hy H1 (e.trans e1) H' p2 _ fun H4 e4 => ⟨ys.take i, e4 Dl _ p3, sz_lt (by rw [List.length_take]; omega), p1, (p2.trans e4).mut p1, ?_⟩
    rw [upd_same, List.take_add_one, hy] <;> rfl
  · obtain ⟨p1, p2, p3⟩ := p
    rw [← hl, List.take_length] at p3
    exact q Dl H' (fresh_back e1 p1) (e1.trans p2) p3
/-- [f(k) for k in range(n)] -/
theorem el_mapR {σ : L2.St} {H : Hp} {ta : TA} {te : TE} {j : Nat} {vs : List Nat} {n : Nat} {ys : List V} (h : EvA ta σ H [.int (n : Int)]) (hz : n ≤ 40000) (hw : ∀ x, wipe ((wipe σ vs).set j (some x)) vs = wipe σ vs) (hl : ys.length = n)
    (he : ∀ (i : Nat) (y : V), i < n → ys[i]? = some y → ∀ H1, Ex H H1 → Ev te ((wipe σ vs).set j (some (.int (i : Int)))) H1 y) : EvL (tLc (iRng1 ta) (gName j) tYes te vs) σ H ys := by
  have g : given (n : Int).toNat (fun _ => true) (fun i => ys.getD i .non) = ys := given_all (by omega) fun i hi => by
    have hi2 : i < ys.length := by omega
    rw [List.getElem?_eq_getElem hi2, List.getD_eq_getElem?_getD, List.getElem?_eq_getElem hi2] <;> rfl
  rw [← g]
  refine el_lcR1 (fun _ => true) (fun i => ys.getD i .non) h (by omega) hw (fun i H1 e1 hi => ?_) (fun i H1 e1 hi _ => ?_)
  · exact fun H2 e2 Q q => q H2 (Ex.refl H2)
  · have hi2 : i < ys.length := by omega
    have hy : ys[i]? = some (ys.getD i .non) := by rw [List.getElem?_eq_getElem hi2, List.getD_eq_getElem?_getD, List.getElem?_eq_getElem hi2] <;> rfl
    exact he i _ (by omega) hy H1 e1
/-- for c in a text -/
theorem s_forS {σ : L2.St} {H : Hp} {te : TE} {tu : TS} {D : Ends} {j : Nat} {z : Str} (h : Ev te σ H (.str z)) (Pv : Nat → L2.St → Hp → Prop) (h0 : ∀ H1, Ex H H1 → Pv 0 σ H1)
    (hs : ∀ i c σ' H', z.cps.toList[i]? = some c → Pv i σ' H' → tu { D with nx := Pv (i + 1), ct := Pv (i + 1), bk := D.nx } (σ'.set j (some (.str ⟨#[c]⟩))) H') (hd : ∀ σ' H', Pv z.cps.toList.length σ' H' → D.nx σ' H') : tFor (iStr te) (gName j) tu D σ H := by
  refine h H (Ex.refl H) _ fun H1 e => ⟨z, rfl, fun i m σ' H' => m = z.cps.toList.length - i ∧ i ≤ z.cps.toList.length ∧ Pv i σ' H', ⟨_, rfl, Nat.zero_le _, h0 H1 e⟩, ?_⟩
  rintro i m σ' H' ⟨rfl, hi, p⟩
  by_cases hlt : i < z.cps.toList.length
  · refine .inr ⟨(by show i < z.cps.size; simpa using hlt), Pv (i + 1), fun σ2 H2 p2 => ⟨_, by omega, rfl, hlt, p2⟩, fun x H2 y => ?_⟩
    obtain ⟨rfl, c, hc, rfl⟩ := y
    exact hs i c σ' H2 (by simpa using hc) p
  · have ei : i = z.cps.toList.length := by omega
    subst ei
    exact .inl ⟨(by show z.cps.size ≤ z.cps.toList.length; simp), hd σ' H' p⟩
theorem q_forS {σ : L2.St} {H : Hp} {te : TE} {tu tz : TS} {D : Ends} {j : Nat} {z : Str} (h : Ev te σ H (.str z)) (Pv : Nat → L2.St → Hp → Prop) (h0 : ∀ H1, Ex H H1 → Pv 0 σ H1)
    (hs : ∀ i c σ' H', z.cps.toList[i]? = some c → Pv i σ' H' → tu { D with nx := Pv (i + 1), ct := Pv (i + 1), bk := tz D } (σ'.set j (some (.str ⟨#[c]⟩))) H') (hd : ∀ σ' H', Pv z.cps.toList.length σ' H' → tz D σ' H') : tSeq (tFor (iStr te) (gName j) tu) tz D σ H :=
  s_forS (D := { D with nx := tz D }) h Pv h0 hs hd
/-! ### isinstance against a built-in type; f-strings -/
theorem tyx_tup {K : PySem.W.Frag} {H : Hp} {a : Addr} {xs : List V} (h : SqT K H a xs) : TyX K H (.ref a) (.type "tuple") := by
  rcases h with (h | ⟨o, h⟩) | ⟨o, its, n, h, hc, _⟩
  · exact .base (.tup h)
  · exact .fTuple h
  · exact .kTuple h hc
theorem ev_isi {K : PySem.W.Frag} {σ : L2.St} {H : Hp} {te : TE} {x : V} {a b : String} {r : Bool} (h : Ev te σ H x) (ht : ∀ H1, Ex H H1 → TyX K H1 x (.type a)) (hk : kitB a b = some r) : Ev (tCB (rIsi K) (tCons te (tCons (tC (.ty b)) tNil))) σ H (.bl r) := fun H1 e Q q =>
  h H1 e _ fun H2 e2 => ⟨x, .ty b, .type a, .type b, r, rfl, .ty b, ht H2 (e.trans e2), kit_ty hk, q H2 e2⟩
/-- parts that evaluate to texts -/
inductive EvJ (σ : L2.St) (H : Hp) : List TE → List Str → Prop where
  | nil : EvJ σ H [] []
  | cons {t : TE} {ts : List TE} {y : Str} {ys : List Str} (h : Ev t σ H (.str y)) (r : EvJ σ H ts ys) : EvJ σ H (t :: ts) (y :: ys)
theorem evj_run {σ : L2.St} {H : Hp} {ts : List TE} {ys : List Str} (h : EvJ σ H ts ys) : ∀ (acc : Str) (H1 : Hp) (Q : Str → Hp → Prop), Ex H H1 → acc.length + (ys.map (·.length)).sum ≤ 16777216 → (∀ H2, Ex H1 H2 → Q (ys.foldl (· ++ ·) acc) H2) → tJs ts acc σ H1 Q := by
  induction h with
  | nil => exact fun acc H1 Q _ _ q => q H1 (Ex.refl H1)
  | @cons t ts y ys h r ih =>
    intro acc H1 Q e hz q
    rw [List.map_cons, List.sum_cons] at hz
    have el : (acc ++ y).length = acc.length + y.length := by
      show (acc.cps ++ y.cps).size = acc.cps.size + y.cps.size
      exact Array.size_append
    refine h H1 e _ fun H2 e2 => ⟨y, rfl, sizeOk (by rw [el]; omega), ih (acc ++ y) H2 Q (e.trans e2) (by rw [el]; omega) fun H3 e3 => q H3 (e2.trans e3)⟩
theorem ev_joined {σ : L2.St} {H : Hp} {ts : List TE} {ys : List Str} (h : EvJ σ H ts ys) (hz : (ys.map (·.length)).sum ≤ 16777216) : Ev (fun σ H Q => tJs ts Str.empty σ H fun out H1 => Q (.str out) H1) σ H (.str (ys.foldl (· ++ ·) Str.empty)) := fun H1 e Q q =>
  evj_run h Str.empty H1 _ e (by show 0 + _ ≤ _; omega) fun H2 e2 => q H2 e2
theorem ev_fmtS {σ : L2.St} {H : Hp} {te : TE} {y : Str} (h : Ev te σ H (.str y)) (hz : y.length ≤ 16777216) : Ev (tFmt te) σ H (.str y) := fun H1 e Q q => h H1 e _ fun H2 e2 => .inl ⟨y, rfl, sizeOk hz, q H2 e2⟩
theorem ev_fmtI {σ : L2.St} {H : Hp} {te : TE} {i : Int} (h : Ev te σ H (.int i)) (hz : i.natAbs.log2 < 1920) : Ev (tFmt te) σ H (.str (toString i)) := fun H1 e Q q => h H1 e _ fun H2 e2 => .inr ⟨i, rfl, hz, q H2 e2⟩
theorem ev_strI {σ : L2.St} {H : Hp} {te : TE} {i : Int} (h : Ev te σ H (.int i)) (hz : i.natAbs.log2 < 1920) : Ev (tCB (fun xs H Q => ∃ i : Int, xs = [V.int i] ∧ i.natAbs.log2 < 1920 ∧ Q (.str (toString i)) H) (tCons te tNil)) σ H (.str (toString i)) := fun H1 e Q q => h H1 e _ fun H2 e2 => ⟨i, rfl, hz, q H2 e2⟩
theorem ev_ordS {σ : L2.St} {H : Hp} {te : TE} {c : Nat} (h : Ev te σ H (.str ⟨#[c]⟩)) : Ev (tCB (fun xs H Q => ∃ x : Str, xs = [V.str x] ∧ x.length = 1 ∧ Q (.int (x.cps.getD 0 0 : Nat)) H) (tCons te tNil)) σ H (.int (c : Int)) := fun H1 e Q q => h H1 e _ fun H2 e2 => ⟨_, rfl, rfl, q H2 e2⟩
theorem ev_ends {σ : L2.St} {H : Hp} {to te : TE} {a b : Str} (h0 : Ev to σ H (.str a)) (h : Ev te σ H (.str b)) : Ev (tM1 (fun x xs H Q => ∃ a b, x = V.str a ∧ xs = [V.str b] ∧ Q (.bl (Txt.endswith a b)) H) to te) σ H (.bl (Txt.endswith a b)) := fun H1 e Q q =>
  h0 H1 e _ fun H2 e2 => ⟨⟨a, rfl⟩, h H2 (e.trans e2) _ fun H3 e3 => ⟨a, b, rfl, rfl, q H3 (e2.trans e3)⟩⟩
theorem ev_slS {σ : L2.St} {H : Hp} {te : TE} {tl th : TO} {z : Str} {lo hi : Option Int} (h : Ev te σ H (.str z)) (h1 : EvO tl σ H lo) (h2 : EvO th σ H hi) (hz : z.length ≤ 100000) : Ev (tSl rSlS te tl th) σ H (.str (cutS z lo hi)) := fun H1 e Q q =>
  h H1 e _ fun H2 e2 => h1 H2 (e.trans e2) _ fun H3 e3 => h2 H3 ((e.trans e2).trans e3) _ fun H4 e4 => ⟨z, rfl, sz_of hz, q H4 ((e2.trans e3).trans e4)⟩
/-- tuple(a new list) -/
theorem eu_ofN {K : PySem.W.Frag} {σ : L2.St} {H : Hp} {te : TE} {xs : List V} (h : EvL te σ H xs) : EvU (tCB (fun xs H Q => ∃ p ys, xs = [V.ref p] ∧ ((SqL K H p ys ∧ ∀ l, H l = none → Q (.ref l) (upd H l (.tup ys))) ∨ (SqT K H p ys ∧ Q (.ref p) H))) (tCons te tNil)) σ H xs := fun H1 e Q q =>
  h H1 e _ fun p H2 _ e2 hp => ⟨p, xs, rfl, .inl ⟨sq_of hp, fun l hl => q l _ (fresh_back e2 hl) (e2.trans (Ex.new hl)) upd_same⟩⟩
theorem eu_ofL {K : PySem.W.Frag} {σ : L2.St} {H : Hp} {te : TE} {p : Addr} {xs : List V} (h : Ev te σ H (.ref p)) (hx : SqL K H p xs) : EvU (tCB (fun xs H Q => ∃ p ys, xs = [V.ref p] ∧ ((SqL K H p ys ∧ ∀ l, H l = none → Q (.ref l) (upd H l (.tup ys))) ∨ (SqT K H p ys ∧ Q (.ref p) H))) (tCons te tNil)) σ H xs := fun H1 e Q q =>
  h H1 e _ fun H2 e2 => ⟨p, xs, rfl, .inl ⟨ex_l (e.trans e2) hx, fun l hl => q l _ (fresh_back e2 hl) (e2.trans (Ex.new hl)) upd_same⟩⟩
/-- a def that hands back a new tuple -/
def SpU (sp : Sp) (vs : List V) (H : Hp) (xs : List V) : Prop := ∀ H1, Ex H H1 → ∀ Q : VK, (∀ p H2, Ex H1 H2 → H2 p = some (.tup xs) → Q (.ref p) H2) → ∀ E : XK, sp vs H1 Q E
theorem q_callU {sp : Sp} {dvs vs xs : List V} {E : XK} {ta : TA} {σ : L2.St} {H : Hp} {tz : TS} {D : Ends} {i : Nat} (h : EvA ta σ H vs) (hs : SpU sp (vs ++ dvs) H xs) (k : ∀ p H1, Ex H H1 → H1 p = some (.tup xs) → tz D (σ.set i (some (.ref p))) H1) : tSeq (tAsg (tCall sp dvs E ta) (gName i)) tz D σ H :=
  h H (Ex.refl H) _ fun H2 e2 => hs H2 e2 _ (fun p H3 e3 hp => k p H3 (e2.trans e3) hp) E
theorem s_callU {sp : Sp} {dvs vs xs : List V} {E : XK} {ta : TA} {σ : L2.St} {H : Hp} {D : Ends} {i : Nat} (h : EvA ta σ H vs) (hs : SpU sp (vs ++ dvs) H xs) (k : ∀ p H1, Ex H H1 → H1 p = some (.tup xs) → D.nx (σ.set i (some (.ref p))) H1) : tAsg (tCall sp dvs E ta) (gName i) D σ H :=
  h H (Ex.refl H) _ fun H2 e2 => hs H2 e2 _ (fun p H3 e3 hp => k p H3 (e2.trans e3) hp) E
/-- a call whose one argument is a new tuple -/
theorem ev_callU {sp : Sp} {dvs xs : List V} {z : V} {E : XK} {te : TE} {σ : L2.St} {H : Hp} (h : EvU te σ H xs) (hs : ∀ p H1, H1 p = some (.tup xs) → Ex H H1 → SpV sp ([.ref p] ++ dvs) H1 z) : Ev (tCall sp dvs E (tCons te tNil)) σ H z := fun H1 e Q q =>
  h H1 e _ fun p H2 _ e2 hp => hs p H2 hp (e.trans e2) H2 (Ex.refl H2) Q (fun H3 e3 => q H3 (e2.trans e3)) E
/-- written tuples, one behind the other -/
def EvP (ta : TA) (σ : L2.St) (H : Hp) (xss : List (List V)) : Prop := ∀ H1, Ex H H1 → ∀ Q : List V → Hp → Prop, (∀ (ps : List Addr) H2, Ex H1 H2 → Paired (fun p xs => H2 p = some (.tup xs)) ps xss → Q (ps.map V.ref) H2) → ta σ H1 Q
theorem paired_mono {H H' : Hp} (e : Ex H H') : ∀ {ps : List Addr} {xss : List (List V)}, Paired (fun p xs => H p = some (.tup xs)) ps xss → Paired (fun p xs => H' p = some (.tup xs)) ps xss
  | _, _, .nil => .nil
  | _, _, .cons h r => .cons (e _ _ h) (paired_mono e r)
theorem ep_nil {σ : L2.St} {H : Hp} : EvP tNil σ H [] := fun H1 e Q q => q [] H1 (Ex.refl H1) .nil
theorem ep_cons {σ : L2.St} {H : Hp} {te : TE} {tr : TA} {xs : List V} {xss : List (List V)} (h : EvU te σ H xs) (r : EvP tr σ H xss) : EvP (tCons te tr) σ H (xs :: xss) := fun H1 e Q q =>
  h H1 e _ fun p H2 _ e2 hp => r H2 (e.trans e2) _ fun ps H3 e3 hr => q (p :: ps) H3 (e2.trans e3) (.cons (e3 p _ hp) hr)
theorem q_asgLP {ta : TA} {xss : List (List V)} {σ : L2.St} {H : Hp} {tz : TS} {D : Ends} {i : Nat} (h : EvP ta σ H xss) (hz : xss.length ≤ 100000) (k : ∀ p ps H1, Ex H H1 → H1 p = some (.lst (ps.map V.ref)) → Paired (fun p xs => H1 p = some (.tup xs)) ps xss → tz D (σ.set i (some (.ref p))) H1) :
    tSeq (tAsg (tLst ta) (gName i)) tz D σ H := h H (Ex.refl H) _ fun ps H1 e1 hps => by
  have el : ∀ {as : List Addr} {bs : List (List V)}, Paired (fun p xs => H1 p = some (.tup xs)) as bs → as.length = bs.length := fun h => by
    induction h with
    | nil => rfl
    | cons _ _ ih => exact congrArg (· + 1) ih
  exact ⟨sz_of (by rw [List.length_map, el hps]; exact hz), fun p hp => k p ps _ (e1.trans (Ex.new hp)) upd_same (paired_mono (Ex.new hp) hps)⟩
theorem paired_at {H : Hp} : ∀ {ps : List Addr} {xss : List (List V)}, Paired (fun p xs => H p = some (.tup xs)) ps xss → ∀ {i : Nat} {xs : List V}, xss[i]? = some xs → ∃ p, ps[i]? = some p ∧ H p = some (.tup xs)
  | _, _, .cons h _, 0, xs, e => by
    have e := Option.some.inj e
    subst e
    exact ⟨_, rfl, h⟩
  | _, _, .cons _ r, i + 1, xs, e => by
    obtain ⟨p, h1, h2⟩ := paired_at r (i := i) (by simpa using e)
    exact ⟨p, by simpa using h1, h2⟩
theorem paired_len {α β : Type} {R : α → β → Prop} : ∀ {as : List α} {bs : List β}, Paired R as bs → as.length = bs.length
  | _, _, .nil => rfl
  | _, _, .cons _ r => congrArg (· + 1) (paired_len r)
/-- a list that is tracked, and a new one behind it -/
theorem el_catV {K : PySem.W.Frag} {σ : L2.St} {H : Hp} {ta tb : TE} {p : Addr} {xs ys : List V} (ha : Ev ta σ H (.ref p)) (hp : H p = some (.lst xs)) (hb : EvL tb σ H ys) (hz : xs.length + ys.length ≤ 100000) : EvL (tOp rCat ta tb) σ H (xs ++ ys) := fun H1 e Q q =>
  ha H1 e _ fun H2 e2 => hb H2 (e.trans e2) _ fun r H3 hr e3 h3 => ⟨p, r, xs, ys, rfl, rfl, ((e.trans e2).trans e3) p _ hp, h3, sz_of hz, fun l hl => q l _ (fresh_back (e2.trans e3) hl) ((e2.trans e3).trans (Ex.new hl)) upd_same⟩
theorem codes_app {a b : Str} {x y : List Nat} (ha : a.cps.toList = x) (hb : b.cps.toList = y) : (a ++ b).cps.toList = x ++ y := by
  show (a.cps ++ b.cps).toList = x ++ y
  rw [Array.toList_append, ha, hb]
theorem str_len (z : Str) : z.length = z.cps.toList.length := by simp [Str.length]
theorem mk_of {z : Str} {l : List Nat} (h : z.cps.toList = l) : z = ⟨l.toArray⟩ := str_ext h
/-- long texts -/
theorem ev_lenB {σ : L2.St} {H : Hp} {te : TE} {z : Str} (h : Ev te σ H (.str z)) (hz : z.length ≤ 16777216) : Ev (tCB (fun xs H Q => ∃ z, xs = [V.str z] ∧ z.length ≤ sizeLine ∧ Q (.int z.length) H) (tCons te tNil)) σ H (.int (z.length : Int)) := fun H1 e Q q =>
  h H1 e _ fun H2 e2 => ⟨z, rfl, sizeOk hz, q H2 e2⟩
theorem ev_ixB {σ : L2.St} {H : Hp} {ta tb : TE} {z : Str} {i : Int} {c : Nat} (ha : Ev ta σ H (.str z)) (hb : Ev tb σ H (.int i)) (hz : z.length ≤ 16777216) (hi : atI z.cps.toList i = some c) : Ev (tOp rIxS ta tb) σ H (.str ⟨#[c]⟩) :=
  ev_op ha hb fun H1 _ _ q => ⟨z, i, c, rfl, rfl, sizeOk hz, hi, q H1 (Ex.refl H1)⟩
theorem ev_slB {σ : L2.St} {H : Hp} {te : TE} {tl th : TO} {z : Str} {lo hi : Option Int} (h : Ev te σ H (.str z)) (h1 : EvO tl σ H lo) (h2 : EvO th σ H hi) (hz : z.length ≤ 16777216) : Ev (tSl rSlS te tl th) σ H (.str (cutS z lo hi)) := fun H1 e Q q =>
  h H1 e _ fun H2 e2 => h1 H2 (e.trans e2) _ fun H3 e3 => h2 H3 ((e.trans e2).trans e3) _ fun H4 e4 => ⟨z, rfl, sizeOk hz, q H4 ((e2.trans e3).trans e4)⟩
theorem at_natS {l : List Nat} {j c : Nat} (h : l[j]? = some c) : atI l (j : Int) = some c := by
  have hj := (List.getElem?_eq_some_iff.mp h).1
  unfold atI
  rw [ixN_nat hj]
  exact h
theorem q_asgAug {σ : L2.St} {H : Hp} {te : TE} {tz : TS} {D : Ends} {i : Nat} {a b : Int} (hx : σ[i]? = some (some (.int a))) (h : Ev te σ H (.int b)) (k : ∀ H1, Ex H H1 → tz D (σ.set i (some (.int (a + b)))) H1) : tSeq (tAug i te (ipI fun i j => i + j)) tz D σ H := q_aug hx h k
theorem q_callV {sp : Sp} {dvs vs : List V} {E : XK} {ta : TA} {σ : L2.St} {H : Hp} {tz : TS} {D : Ends} {i : Nat} (h : EvA ta σ H vs) (k : ∀ H1, Ex H H1 → sp (vs ++ dvs) H1 (fun v H2 => tz D (σ.set i (some v)) H2) E) : tSeq (tAsg (tCall sp dvs E ta) (gName i)) tz D σ H := h H (Ex.refl H) _ fun H1 e1 => k H1 e1
/-! ### a small tactic: what an expression evaluates to -/
local macro_rules | `(tactic| walk_at "side") => `(tactic| first | assumption | decide | (show (0 : Int) < _; omega) | omega | (show CDivW _ _; exact ⟨by first | decide | omega, by decide⟩) | (show CPow _ _; exact ⟨by decide, by decide, by decide⟩) | (show CMulX _ _; (refine Wd.mul ?_ ?_ <;> walk_at "wd")))
local macro_rules | `(tactic| walk_at "wd") => `(tactic| first | assumption | exact Wd.lit (by decide) | exact Wd.small (by omega) (by omega) | (refine Wd.div ?_; walk_at "wd") | (refine Wd.mod ?_ ?_; (first | decide | omega); (walk_at "wd")) | (refine Wd.neg ?_; walk_at "wd"))
local macro_rules | `(tactic| walk_at "call") => `(tactic| fail "no call")
local macro_rules | `(tactic| walk_at "seq") => `(tactic| first | assumption | (refine ex_l ?_ ?_ <;> assumption) | exact sq_of (by assumption))
local macro_rules | `(tactic| walk_at "ev") => `(tactic| first
  | with_reducible exact ev_c
  | exact ev_var rfl
  | (refine ev_intI ?_; walk_at "ev")
  | (refine ev_bin0 ?_ ?_; (walk_at "ev"); (walk_at "ev"))
  | (refine ev_bin ?_ ?_ ?_; (walk_at "ev"); (walk_at "ev"); (walk_at "side"))
  | (refine ev_eqI ?_ ?_; (walk_at "ev"); (walk_at "ev"))
  | (refine ev_neI ?_ ?_; (walk_at "ev"); (walk_at "ev"))
  | (refine ev_eqS ?_ ?_; (walk_at "ev"); (walk_at "ev"))
  | (refine ev_neS ?_ ?_; (walk_at "ev"); (walk_at "ev"))
  | (refine ev_neg ?_; walk_at "ev")
  | walk_at "call")
local macro_rules | `(tactic| walk_at "et") => `(tactic| first
  | (refine et_test ?_; walk_at "ev")
  | (refine et_B ?_; walk_at "ev")
  | (refine et_not ?_; walk_at "et"))
local macro_rules | `(tactic| walk_at "ea") => `(tactic| first | exact ea_nil | (refine ea_cons ?_ ?_; (walk_at "ev"); (walk_at "ea")))


/-! ### a text times a number -/
theorem foldl_reps (a : Array Nat) : ∀ (m : Nat) (acc : Array Nat), ((List.replicate m a).foldl (· ++ ·) acc).toList = acc.toList ++ (List.replicate m a.toList).flatten
  | 0, acc => by simp
  | m + 1, acc => by
    rw [List.replicate_succ, List.replicate_succ, List.foldl_cons, foldl_reps a m (acc ++ a), Array.toList_append, List.flatten_cons, List.append_assoc]
def repC (z : Str) (n : Nat) : List Nat := (List.replicate n z.cps.toList).flatten
theorem op_repS {X : Cx} : OpR X (binaryOp .Mult) (fun x y H Q => ∃ (z : Str) (k : Int), x = V.str z ∧ y = V.int k ∧ 0 ≤ k ∧ z.length * k.toNat ≤ 16777216 ∧ k < 2 ^ 60 ∧ Q (.str ⟨(repC z k.toNat).toArray⟩) H) := by
  intro pins s σ H x y v u Q I rx ry h
  obtain ⟨z, k, rfl, rfl, h0, hz, hk, q⟩ := h
  obtain ⟨t, rfl⟩ := rx
  obtain ⟨t', rfl⟩ := ry
  have ez : z.length = z.cps.toList.length := by simp [Str.length]
  have hzi : (z.length : Int) * k ≤ 16777216 := by
    have e : ((z.length * k.toNat : Nat) : Int) = (z.length : Int) * k := by
      rw [Int.natCast_mul, Int.toNat_of_nonneg h0]
    omega
  refine PySem.P.mul_str ?_ (fun h1 _ z2 => ?_) (fun h1 _ => ?_) ?_
  · rw [decide_eq_false (by omega), decide_eq_false (by omega)] <;> rfl
  · have h3 : (z.length : Int) ≤ (2 ^ 63 - 1) / k := Int.le_ediv_of_mul_le (by omega) (by omega)
    omega
  · have : ¬ z.length * k.toNat > sizeLine := by
      rw [sizeLine_eq]
      omega
    unfold Builtin.Str.tooLong
    exact decide_eq_false this
  · have e1 : ∀ y : Str, y.cps.toList = repC z k.toNat → y = ⟨(repC z k.toNat).toArray⟩ := fun y hy => by
      obtain ⟨y⟩ := y
      exact congrArg Str.mk (Array.toList_inj.mp (hy.trans rfl))
    have er : (repC z k.toNat).length = k.toNat * z.length := by
      unfold repC
      rw [List.length_flatten, List.map_replicate, List.sum_replicate_nat, ez]
    split
    · have e2 : Str.empty = (⟨(repC z k.toNat).toArray⟩ : Str) := e1 _ (by
        have : k.toNat = 0 := by omega
        unfold repC
        rw [this] <;> rfl)
      refine ⟨by decide, ?_⟩
      rw [e2]
      exact ⟨.str ⟨(repC z k.toNat).toArray⟩, H, I.tok _, ⟨_, rfl⟩, q⟩
    · split
      · rename_i h1 h2
        have e2 : z = (⟨(repC z k.toNat).toArray⟩ : Str) := e1 _ (by
          unfold repC
          rw [Bool.or_eq_true, beq_iff_eq, beq_iff_eq] at h2
          rcases h2 with h2 | h2
          · rw [h2]
            show _ = (List.replicate 1 _).flatten
            simp
          · have : z.cps.toList = [] := List.length_eq_zero_iff.mp (by omega)
            rw [this]
            simp)
        show EP X pins σ Q _ _
        rw [← e2] at q
        exact ⟨.str z, H, I, ⟨t, rfl⟩, q⟩
      · have e2 : (⟨(List.replicate k.toNat z.cps).foldl (· ++ ·) #[]⟩ : Str) = ⟨(repC z k.toNat).toArray⟩ := e1 _ (by
          show ((List.replicate k.toNat z.cps).foldl (· ++ ·) #[]).toList = _
          rw [foldl_reps] <;> rfl)
        rw [e2]
        refine ⟨?_, ⟨.str ⟨(repC z k.toNat).toArray⟩, H, I.tok _, ⟨_, rfl⟩, q⟩⟩
        show (repC z k.toNat).toArray.size ≤ sizeLine
        rw [List.size_toArray, er, sizeLine_eq, Nat.mul_comm]
        exact hz
theorem ev_repS {σ : L2.St} {H : Hp} {ta tb : TE} {z : Str} {n : Nat} (ha : Ev ta σ H (.str z)) (hb : Ev tb σ H (.int (n : Int))) (hz : z.length * n ≤ 16777216) (hn : n ≤ 16777216) : Ev (tOp (fun x y H Q => ∃ (z : Str) (k : Int), x = V.str z ∧ y = V.int k ∧ 0 ≤ k ∧ z.length * k.toNat ≤ 16777216 ∧ k < 2 ^ 60 ∧ Q (.str ⟨(repC z k.toNat).toArray⟩) H) ta tb) σ H (.str ⟨(repC z n).toArray⟩) :=
  ev_op ha hb fun H1 _ Q q => ⟨z, n, rfl, rfl, by omega, hz, by omega, q H1 (Ex.refl H1)⟩


/-! ### len of an own object -/
theorem call_lenO {X : Cx} {C f : Addr} {fd : FuncData} {k : Nat} {sp : Sp} (ml : PySem.W.findIn X.K (.ref C) "__len__" = some (some (.ref f))) (mf : PySem.W.isFn X.K (.ref f) = true) (F : FnOk X.prog X.w X.K X.mg X.base CX0 k f fd ["self"] sp) (hr : Room (k + 1) X.A) (hb : Binds X.K fd ["self"] []) :
    CallR X (.builtin "len") (fun xs H Q => ∃ a dx fs, xs = [V.ref a] ∧ H a = some (.ins C dx fs) ∧ sp [.ref a] H (fun v H' => ∃ n : Int, v = .int n ∧ (0 ≤ n ∧ n < 2 ^ 63) ∧ Q (.int n) H') E0) := by
  intro pins s σ H xs us Q I r h
  obtain ⟨a, dx, fs, rfl, ha, q⟩ := h
  obtain ⟨u, rfl, rx⟩ := vals1 r
  cases (show u = Value.ref a from rx)
  obtain ⟨mA, O, _⟩ := ins_get I.hok ha
  obtain ⟨od, J, _⟩ := O.look
  refine Calls.call_function_entry PySem.kind_len PySem.plain_len PySem.entry_len (PySem.args_len1 _) ?_
  unfold Builtin.«len»
  refine wpAny_bind (wpAny_pure ?_)
  refine wpAny_bind (m := callSpecial? (.ref a) (Str.ofString "__len__")) (PySem.W.special_fn I.kIn J ml (beq_iff_eq.mp mf) ?_)
  refine wpAny_call (codeAny_mono (F.run X.A.in1 X.stack s H ⟨[.ref a], []⟩ [.ref a] [.ref a] _ E0 hr.in1 I.env0.in1 (hb s [.ref a] I.kIn rfl) (.cons rfl .nil) q) fun r s' hq => ?_)
  cases r with
  | error e => exact hq.elim
  | ok fl =>
    cases fl with
    | ret u =>
      obtain ⟨v, H', I', rv, n, rfl, ⟨h0, h1⟩, q⟩ := I.after hq
      obtain ⟨t, rfl⟩ := rv
      refine wpAny_bind (wpAny_holding (wpAny_pure ?_))
      refine wpAny_bind (wpAny_letGo ?_)
      show wpAny _ _ (if n < 0 then _ else _) _ _ _
      rw [if_neg (by omega)]
      show wpAny _ _ (if n ≥ 2 ^ 63 then _ else _) _ _ _
      rw [if_neg (by omega)]
      exact wpAny_bind (wpAny_mkInt (wpAny_pure ⟨_, rfl, ⟨.int n, H', I'.tok _, ⟨_, rfl⟩, q⟩⟩))
    | next => exact False.elim hq
    | brk => exact False.elim hq
    | cont => exact False.elim hq


/-! ### the book -/
abbrev aF (d : Addr) : List (Str × V) := [(("_addresses" : Str), V.ref d)]
theorem aF_get (d : Addr) : (aF d).lookup ("_addresses" : Str) = some (.ref d) := by simp [aF, List.lookup]
theorem aF_no (d : Addr) {m : Str} (h : (m == ("_addresses" : Str)) = false) : (aF d).lookup m = none := by simp [aF, List.lookup, h]
/-- a book stands at p, its dict at d -/
def BkAt (C : Addr) (H : Hp) (p d : Addr) (kvs : List (Key × V)) : Prop := (∃ dx, H p = some (.ins C dx (aF d))) ∧ H d = some (.dK kvs)
/-- what address leaves -/
def addK (kvs : List (Key × V)) (z : Str) : List (Key × V) := match valV kvs (Sum.inr z : Key) with
  | none => putK kvs (Sum.inr z : Key) (.int ((kvs.length : Int) + 1))
  | some _ => kvs
theorem addK_none {kvs : List (Key × V)} {z : Str} (h : valV kvs (Sum.inr z : Key) = none) : addK kvs z = putK kvs (Sum.inr z : Key) (.int ((kvs.length : Int) + 1)) := by
  unfold addK
  rw [h]
theorem addK_some {kvs : List (Key × V)} {z : Str} {v : V} (h : valV kvs (Sum.inr z : Key) = some v) : addK kvs z = kvs := by
  unfold addK
  rw [h]
theorem addK_len (kvs : List (Key × V)) (z : Str) : (addK kvs z).length ≤ kvs.length + 1 := by
  cases h : valV kvs (Sum.inr z : Key) with
  | none => rw [addK_none h, putK_new _ h, List.length_append]; exact Nat.le_refl _
  | some v => rw [addK_some h]; omega
/-- all values are ints -/
def Nums (kvs : List (Key × V)) : Prop := ∀ (k : Key) (v : V), valV kvs k = some v → ∃ i : Int, v = .int i
theorem nums_nil : Nums [] := fun k v h => by cases h
theorem nums_add {kvs : List (Key × V)} (h : Nums kvs) (z : Str) : Nums (addK kvs z) := by
  cases e : valV kvs (Sum.inr z : Key) with
  | none =>
    rw [addK_none e]
    intro k v hv
    rw [valV_put] at hv
    split at hv
    · exact ⟨_, (Option.some.inj hv).symm⟩
    · exact h k v hv
  | some v => rw [addK_some e]; exact h
theorem addK_val {kvs : List (Key × V)} (h : Nums kvs) (z : Str) : ∃ i : Int, valV (addK kvs z) (Sum.inr z : Key) = some (.int i) := by
  cases e : valV kvs (Sum.inr z : Key) with
  | none => exact ⟨_, by rw [addK_none e, valV_put, if_pos rfl]⟩
  | some v =>
    obtain ⟨i, rfl⟩ := h _ _ e
    exact ⟨i, by rw [addK_some e]; exact e⟩
def getK (kvs : List (Key × V)) (z : Str) : V := (valV kvs (Sum.inr z : Key)).getD (.int 0)
theorem getK_int {kvs : List (Key × V)} (h : Nums kvs) (z : Str) : ∃ i : Int, getK kvs z = .int i := by
  unfold getK
  cases e : valV kvs (Sum.inr z : Key) with
  | none => exact ⟨0, rfl⟩
  | some v => exact h _ _ e
theorem szk {n : Nat} (h : n ≤ 1000) : n < sizeLine := small1000 h


section
variable {P : Program} {w : World} {K : PySem.W.Frag} {mg : Str → Option Value} {base : Heap}

/-! ### Book.__init__ -/
def spBkI (C : Addr) : Sp := fun vs H Q _ => ∃ (p dx : Addr), vs = [.ref p] ∧ H p = some (.ins C dx []) ∧ ∀ (d : Addr) (H' : Hp), H d = none → d ≠ p → H' p = some (.ins C dx (aF d)) → H' d = some (.dK []) → (∀ b o, H b = some o → b ≠ p → H' b = some o) → Q .non H'
theorem ok_Book___init (T : Txt K mg) : FnOk P w K mg base CX0 1 T.f_Book___init T.d_Book___init ["self"] (spBkI T.C_Book) := by
  refine T.F_Book___init.ok sc_Book___init (fun vs H Q E h => ?_) (fun cdv A outer s H vs Q E hr h => ?_)
  · obtain ⟨p, dx, rfl, _⟩ := h
    rfl
  · obtain ⟨p, dx, rfl, hp, q⟩ := h
    refine ⟨_, pss_one (ps_fld (pv 0) (pe_dnewK) rfl), ?_⟩
    intro d hd
    have npd : p ≠ d := ne_of_none hp hd
    refine ⟨_, rfl, p, T.C_Book, dx, [], rfl, (by rw [upd_ne npd]; exact hp), T.cl_Book, T.na_Book__addresses, (by show 0 < 1000; decide), ?_⟩
    refine q d _ hd npd.symm upd_same (by rw [upd_ne npd.symm, upd_same]) fun b o e hb => ?_
    rw [upd_ne hb, upd_ne (ne_of_none e hd)]
    exact e


/-! ### Book.__len__ -/
def spBkL (C : Addr) : Sp := fun vs H Q _ => ∃ (p d : Addr) (kvs : List (Key × V)), vs = [.ref p] ∧ BkAt C H p d kvs ∧ Q (.int (kvs.length : Int)) H
theorem ok_Book___len (T : Txt K mg) : FnOk P w K mg base CX0 1 T.f_Book___len T.d_Book___len ["self"] (spBkL T.C_Book) := by
  refine T.F_Book___len.ok sc_Book___len (fun vs H Q E h => ?_) (fun cdv A outer s H vs Q E hr h => ?_)
  · obtain ⟨p, d, kvs, rfl, _⟩ := h
    rfl
  · obtain ⟨p, d, kvs, rfl, ⟨⟨dx, hp⟩, hd⟩, q⟩ := h
    refine ⟨_, pss_one (ps_ret (pe_callB call_lenD (by rfl) T.m_len (by decide +kernel) (pa_cons (pe_fld (pv 0) rfl) (pa_nil)))), ?_⟩
    exact ⟨_, rfl, p, T.C_Book, dx, _, _, rfl, hp, T.cl_Book, T.na_Book__addresses, aF_get d, d, kvs, rfl, hd, q⟩


/-! ### Book.address -/
def spBkA (C : Addr) : Sp := fun vs H Q _ => ∃ (p d : Addr) (kvs : List (Key × V)) (z : Str), vs = [.ref p, .str z] ∧ BkAt C H p d kvs ∧ kvs.length ≤ 900 ∧ ∀ v H', valV (addK kvs z) (Sum.inr z : Key) = some v → H' d = some (.dK (addK kvs z)) → (∀ b o, H b = some o → b ≠ d → H' b = some o) → Q v H'
theorem ok_Book_address (T : Txt K mg) : FnOk P w K mg base CX0 1 T.f_Book_address T.d_Book_address ["self", "text"] (spBkA T.C_Book) := by
  refine T.F_Book_address.ok sc_Book_address (fun vs H Q E h => ?_) (fun cdv A outer s H vs Q E hr h => ?_)
  · obtain ⟨p, d, kvs, z, rfl, _⟩ := h
    rfl
  · obtain ⟨p, d, kvs, z, rfl, ⟨⟨dx, hp⟩, hd⟩, hl, q⟩ := h
    have hu := hu_of hr
    have npd : p ≠ d := ne_of hp hd (by intro z; cases z)
    refine ⟨_, pss_cons (ps_if (pt_cmp (pc_dnotin hu (pv 1) (pe_fld (pv 0) rfl)))
      (pss_one (ps_dput hu (pe_fld (pv 0) rfl) (pv 1) (pe_op op_add (pe_callB call_lenD (by rfl) T.m_len (by decide +kernel) (pa_cons (pe_fld (pv 0) rfl) (pa_nil))) (pe_int)) rfl))
      (pss_nil))
      (pss_one (ps_ret (pe_dget hu (pe_fld (pv 0) rfl) (pv 1) (fun _ _ => rfl)))), ?_⟩
    refine ⟨_, rfl, _, rfl, p, T.C_Book, dx, _, _, rfl, hp, T.cl_Book, T.na_Book__addresses, aF_get d, d, _, rfl, DGet.k (k := Sum.inr z) hd, ?_⟩
    cases e : valV kvs (Sum.inr z : Key) with
    | some v =>
      refine ⟨_, rfl, ?_⟩
      refine iteF ?_
      have ea := addK_some e
      refine ⟨_, rfl, p, T.C_Book, dx, _, _, rfl, hp, T.cl_Book, T.na_Book__addresses, aF_get d, _, rfl, d, v, rfl, ?_, ?_⟩
      · rw [← e]
        exact DGet.k (k := Sum.inr z) hd
      · exact q v H (by rw [ea]; exact e) (by rw [ea]; exact hd) fun b o h _ => h
    | none =>
      refine ⟨_, rfl, ?_⟩
      refine iteT ?_
      have ea := addK_none e
      refine ⟨_, rfl, p, T.C_Book, dx, _, _, rfl, hp, T.cl_Book, T.na_Book__addresses, aF_get d, d, kvs, rfl, hd, _, _, rfl, rfl, ?_⟩
      refine ⟨_, rfl, p, T.C_Book, dx, _, _, rfl, hp, T.cl_Book, T.na_Book__addresses, aF_get d, _, rfl, d, _, rfl, DPut.k (k := Sum.inr z) hd (szk (by omega)), ?_⟩
      have hp' : (upd H d (.dK (putK kvs (Sum.inr z : Key) (.int ((kvs.length : Int) + 1))))) p = some (.ins T.C_Book dx (aF d)) := by rw [upd_ne npd]; exact hp
      refine ⟨_, rfl, p, T.C_Book, dx, _, _, rfl, hp', T.cl_Book, T.na_Book__addresses, aF_get d, _, rfl, d, .int ((kvs.length : Int) + 1), rfl, ?_, ?_⟩
      · have := DGet.k (k := Sum.inr z) (upd_same (H := H) (a := d) (o := .dK (putK kvs (Sum.inr z : Key) (.int ((kvs.length : Int) + 1)))))
        rw [valV_put, if_pos rfl] at this
        exact this
      · exact q _ _ (by rw [ea, valV_put, if_pos rfl]) (by rw [ea]; exact upd_same) fun b o h hb => by rw [upd_ne hb]; exact h


/-! ### Book.find -/
def spBkF (C : Addr) : Sp := fun vs H Q _ => ∃ (p d : Addr) (kvs : List (Key × V)) (z : Str), vs = [.ref p, .str z] ∧ BkAt C H p d kvs ∧ Q (getK kvs z) H
theorem ok_Book_find (T : Txt K mg) : FnOk P w K mg base CX0 1 T.f_Book_find T.d_Book_find ["self", "text"] (spBkF T.C_Book) := by
  refine T.F_Book_find.ok sc_Book_find (fun vs H Q E h => ?_) (fun cdv A outer s H vs Q E hr h => ?_)
  · obtain ⟨p, d, kvs, z, rfl, _⟩ := h
    rfl
  · obtain ⟨p, d, kvs, z, rfl, ⟨⟨dx, hp⟩, hd⟩, q⟩ := h
    have hu := hu_of hr
    refine ⟨_, pss_one (ps_ret (pe_dget2 hu (pe_fld (pv 0) rfl) (pv 1) (pe_int) ⟨rfl, rfl, rfl, rfl⟩)), ?_⟩
    exact ⟨_, rfl, p, T.C_Book, dx, _, _, rfl, hp, T.cl_Book, T.na_Book__addresses, aF_get d, d, rfl, .inl ⟨kvs, .inl hd⟩, _, rfl, _, DGet.k (k := Sum.inr z) hd, q⟩


/-! ### _law_cell -/
def cellZ (ns : List Int) (k : Nat) : Int := ns.getD k 0
def sp_cell (K : PySem.W.Frag) : Sp := fun vs H Q _ => ∃ (a : Addr) (ns : List Int) (k : Nat), vs = [.ref a, .int (k : Int)] ∧ SqL K H a (ns.map V.int) ∧ ∀ H', Ex H H' → Q (.int (cellZ ns k)) H'
theorem ok_law_cell (T : Txt K mg) : FnOk P w K mg base CX0 1 T.f_law_cell T.d_law_cell ["script", "k"] (sp_cell K) := by
  refine T.F_law_cell.ok sc_law_cell (fun vs H Q E h => ?_) (fun cdv A outer s H vs Q E hr h => ?_)
  · obtain ⟨a, ns, k, rfl, _⟩ := h
    rfl
  · obtain ⟨a, ns, k, rfl, hS, q⟩ := h
    refine ⟨_, pss_cons (ps_if (pt_cmpR op_lt (pv 1) (pe_callB (r := rLenQ K) call_len_seq (by rfl) T.m_len (by decide +kernel) (pa_cons (pv 0) (pa_nil))) (nomark _))
      (pss_one (ps_ret (pe_ix (r := rIxL K) ix_list (pv 0) (pv 1) (fun _ _ => rfl))))
      (pss_nil))
      (pss_one (ps_ret (pe_int))), ?_⟩
    refine q_when (b := decide ((k : Int) < ((ns.map V.int).length : Int))) (et_test (ev_bin0 (ev_var rfl) (ev_lenQ (K := K) (ev_var rfl) hS))) (fun hb H1 e1 => ?_) (fun hb H1 e1 => ?_)
    · have hk : k < ns.length := by
        have := of_decide_eq_true hb
        rw [List.length_map] at this
        omega
      refine s_ret (ev_ixL (K := K) (ev_var rfl) (ev_var rfl) (ex_l e1 hS) (at_nat (v := .int (cellZ ns k)) ?_)) fun H2 e2 => q H2 (e1.trans e2)
      rw [List.getElem?_map, List.getElem?_eq_getElem hk]
      unfold cellZ
      rw [List.getD_eq_getElem?_getD, List.getElem?_eq_getElem hk] <;> rfl
    · have hk : ¬ k < ns.length := by
        have := of_decide_eq_false hb
        rw [List.length_map] at this
        omega
      have e0 : cellZ ns k = 0 := by
        unfold cellZ
        rw [List.getD_eq_getElem?_getD, List.getElem?_eq_none (by omega)] <;> rfl
      refine s_ret ev_c fun H2 e2 => ?_
      rw [e0] at q
      exact q H2 (e1.trans e2)
theorem cv_cell {a : Addr} {ns : List Int} {k : Nat} {H : Hp} (h : SqL K H a (ns.map V.int)) : SpV (sp_cell K) [.ref a, .int (k : Int)] H (.int (cellZ ns k)) := fun H1 e Q q E => ⟨a, ns, k, rfl, ex_l e h, fun H2 e2 => q H2 e2⟩
theorem Wd.cell {ns : List Int} (h : ∀ n ∈ ns, Wd n) (k : Nat) : Wd (cellZ ns k) := by
  unfold cellZ
  rw [List.getD_eq_getElem?_getD]
  cases e : ns[k]? with
  | none => exact Wd.lit (by decide)
  | some x => exact h x (List.mem_of_getElem? e)


/-! ### _law_draws -/
def drawMix (cell salt : Int) (k : Nat) : Int :=
  ((cell * 48271 + (salt * 97 + (k : Int)) * 69621) % 2147483647 / 8 * ((cell * 48271 + (salt * 97 + (k : Int)) * 69621) % 2147483647 % 50021 + 16807) + (k : Int)) % 998244353 / 11
def drawSt (cell salt base : Int) : Nat → Int × List Int
  | 0 => (if 10 ^ 18 ≤ cell then cell else 0, [])
  | k + 1 => if 0 < (drawSt cell salt base k).1 then ((drawSt cell salt base k).1 / base, (drawSt cell salt base k).2 ++ [(drawSt cell salt base k).1 % base]) else ((drawSt cell salt base k).1, (drawSt cell salt base k).2 ++ [drawMix cell salt k])
theorem drawSt_succ (cell salt base : Int) (k : Nat) : drawSt cell salt base (k + 1) = if 0 < (drawSt cell salt base k).1 then ((drawSt cell salt base k).1 / base, (drawSt cell salt base k).2 ++ [(drawSt cell salt base k).1 % base]) else ((drawSt cell salt base k).1, (drawSt cell salt base k).2 ++ [drawMix cell salt k]) := rfl
def draws (cell salt : Int) (count : Nat) (base : Int) : List Int := (drawSt cell salt base count).2
theorem drawSt_len (cell salt base : Int) : ∀ k, (drawSt cell salt base k).2.length = k
  | 0 => rfl
  | k + 1 => by
    have ih := drawSt_len cell salt base k
    rw [drawSt_succ]
    split <;> simp [ih]
theorem draws_len (cell salt : Int) (n : Nat) (base : Int) : (draws cell salt n base).length = n := drawSt_len cell salt base n
theorem drawMix_ge (cell salt : Int) (k : Nat) : 0 ≤ drawMix cell salt k ∧ drawMix cell salt k < 998244353 := by
  unfold drawMix
  generalize (((cell * 48271 + (salt * 97 + (k : Int)) * 69621) % 2147483647 / 8 * ((cell * 48271 + (salt * 97 + (k : Int)) * 69621) % 2147483647 % 50021 + 16807) + (k : Int))) = m
  omega
theorem drawSt_ok {cell salt base : Int} (hc : Wd cell) (hb : 0 < base) (hbw : Wd base) : ∀ k, Wd (drawSt cell salt base k).1 ∧ ∀ n ∈ (drawSt cell salt base k).2, 0 ≤ n ∧ Wd n
  | 0 => by
    refine ⟨?_, fun n hn => by cases hn⟩
    show Wd (if _ then _ else _)
    split
    · exact hc
    · exact Wd.lit (by decide)
  | k + 1 => by
    obtain ⟨h1, h2⟩ := drawSt_ok (salt := salt) hc hb hbw k
    rw [drawSt_succ]
    split
    · refine ⟨Wd.div h1, fun n hn => ?_⟩
      rcases List.mem_append.mp hn with e | e
      · exact h2 n e
      · rw [List.mem_singleton.mp e]
        exact ⟨Int.emod_nonneg _ (by omega), Wd.mod hb hbw⟩
    · refine ⟨h1, fun n hn => ?_⟩
      rcases List.mem_append.mp hn with e | e
      · exact h2 n e
      · rw [List.mem_singleton.mp e]
        have := drawMix_ge cell salt k
        exact ⟨this.1, Wd.small (by omega) (by omega)⟩
theorem draws_ok {cell salt base : Int} (hc : Wd cell) (hb : 0 < base) (hbw : Wd base) (n : Nat) : ∀ x ∈ draws cell salt n base, 0 ≤ x ∧ Wd x := (drawSt_ok hc hb hbw n).2
theorem drawSt_lt {cell salt base : Int} (hb : 0 < base) (hB : base ≤ 1000000000) : ∀ k, ∀ n ∈ (drawSt cell salt base k).2, 0 ≤ n ∧ n < 1000000000
  | 0 => fun n hn => by cases hn
  | k + 1 => by
    have h2 := drawSt_lt (cell := cell) (salt := salt) hb hB k
    rw [drawSt_succ]
    split
    · intro n hn
      rcases List.mem_append.mp hn with e | e
      · exact h2 n e
      · rw [List.mem_singleton.mp e]
        have a1 := Int.emod_nonneg (drawSt cell salt base k).1 (by omega : base ≠ 0)
        have a2 := Int.emod_lt_of_pos (drawSt cell salt base k).1 hb
        omega
    · intro n hn
      rcases List.mem_append.mp hn with e | e
      · exact h2 n e
      · rw [List.mem_singleton.mp e]
        have := drawMix_ge cell salt k
        omega
theorem draws_lt {cell salt base : Int} (hb : 0 < base) (hB : base ≤ 1000000000) (n : Nat) : ∀ x ∈ draws cell salt n base, 0 ≤ x ∧ x < 1000000000 := drawSt_lt hb hB n
def sp_draws (K : PySem.W.Frag) : Sp := fun vs H Q _ => ∃ (cell salt : Int) (count : Nat) (base : Int), vs = [.int cell, .int salt, .int (count : Int), .int base] ∧ Wd cell ∧ (-100000 ≤ salt ∧ salt ≤ 100000) ∧ count ≤ 90000 ∧ 0 < base ∧ base.natAbs.log2 < 9000 ∧
  ∀ p H', H p = none → Ex H H' → H' p = some (.lst ((draws cell salt count base).map V.int)) → Q (.ref p) H'
theorem cl_draws {cell salt base : Int} {count : Nat} {H : Hp} (h1 : Wd cell) (h2 : -100000 ≤ salt ∧ salt ≤ 100000) (h3 : count ≤ 90000) (h4 : 0 < base) (h5 : base.natAbs.log2 < 9000) :
    SpL (sp_draws K) [.int cell, .int salt, .int (count : Int), .int base] H ((draws cell salt count base).map V.int) := fun H1 e Q q E => ⟨cell, salt, count, base, rfl, h1, h2, h3, h4, h5, fun p H2 hp e2 hl => q p H2 hp e2 hl⟩
theorem ok_law_draws (T : Txt K mg) : FnOk P w K mg base CX0 1 T.f_law_draws T.d_law_draws ["cell", "salt", "count", "base"] (sp_draws K) := by
  refine T.F_law_draws.ok sc_law_draws (fun vs H Q E h => ?_) (fun cdv A outer s H vs Q E hr h => ?_)
  · obtain ⟨cell, salt, count, base, rfl, _⟩ := h
    rfl
  · obtain ⟨cell, salt, count, b, rfl, hc, hs, hn, hb, hbl, q⟩ := h
    have hbw : Wd b := ⟨by omega⟩
    refine ⟨_, pss_cons (ps_set (i := 4) sc_law_draws.nd rfl (by first | exact Or.inl rfl | exact Or.inr rfl) (pe_int))
      (pss_cons (ps_if (pt_cmpR op_ge (pv 0) (pe_op op_pow (pe_int) (pe_int)) (nomark _))
      (pss_one (ps_set (i := 4) sc_law_draws.nd rfl (by first | exact Or.inl rfl | exact Or.inr rfl) (pv 0)))
      (pss_nil))
      (pss_cons (ps_set (i := 5) sc_law_draws.nd rfl (by first | exact Or.inl rfl | exact Or.inr rfl) (pe_lst (pa_nil)))
      (pss_cons (ps_for PassesOwn.never rfl (pi_range1 (by rfl) T.m_range (pa_cons (pv 2) (pa_nil))) (pg_name (i := 6) sc_law_draws.nd rfl (by first | exact Or.inl rfl | exact Or.inr rfl))
      (pss_one (ps_if (pt_cmpR op_gt (pv 4) (pe_int) (nomark _))
      (pss_cons (ps_expr (pe_bm PySem.F.plainAttrs_list PySem.F.slot_list_append PySem.F.type_list_append mt_append (pv 5) (pa_cons (pe_op op_mod (pe_callTy call_int1 (by rfl) T.m_int (by decide +kernel) (pa_cons (pv 4) (pa_nil))) (pv 3)) (pa_nil))))
      (pss_one (ps_set (i := 4) sc_law_draws.nd rfl (by first | exact Or.inl rfl | exact Or.inr rfl) (pe_op op_fdivW (pv 4) (pv 3)))))
      (pss_cons (ps_set (i := 7) sc_law_draws.nd rfl (by first | exact Or.inl rfl | exact Or.inr rfl) (pe_op op_mod (pe_callTy call_int1 (by rfl) T.m_int (by decide +kernel) (pa_cons (pe_op op_add (pe_op op_mulX (pv 0) (pe_int)) (pe_op op_mulX (pe_op op_add (pe_op op_mulX (pv 1) (pe_int)) (pv 6)) (pe_int))) (pa_nil))) (pe_int)))
      (pss_cons (ps_set (i := 7) sc_law_draws.nd rfl (by first | exact Or.inl rfl | exact Or.inr rfl) (pe_op op_mod (pe_callTy call_int1 (by rfl) T.m_int (by decide +kernel) (pa_cons (pe_op op_add (pe_op op_mulX (pe_op op_fdivW (pv 7) (pe_int)) (pe_op op_add (pe_op op_mod (pe_callTy call_int1 (by rfl) T.m_int (by decide +kernel) (pa_cons (pv 7) (pa_nil))) (pe_int)) (pe_int))) (pv 6)) (pa_nil))) (pe_int)))
      (pss_one (ps_expr (pe_bm PySem.F.plainAttrs_list PySem.F.slot_list_append PySem.F.type_list_append mt_append (pv 5) (pa_cons (pe_op op_fdivW (pv 7) (pe_int)) (pa_nil))))))))))
      (pss_one (ps_ret (pv 5)))))), ?_⟩
    refine q_asg ev_c fun H1 e1 => ?_
    refine q_ifAsg (v := .int (drawSt cell salt b 0).1) (b := decide (10 ^ 18 ≤ cell)) (et_test (ev_bin0 (j := 10 ^ 18) (ev_var rfl) (ev_is (ev_bin ev_c ev_c ⟨by decide, by decide, by decide⟩) (by decide)))) (fun h => ?_) (fun h => ?_) fun H2 e2 => ?_
    · have e0 : (drawSt cell salt b 0).1 = cell := if_pos (of_decide_eq_true h)
      rw [e0]
      exact ev_var rfl
    · have e0 : (drawSt cell salt b 0).1 = 0 := if_neg (of_decide_eq_false h)
      rw [e0]
      rfl
    refine q_asgL (el_lst ea_nil (by decide)) fun p H3 hp e3 h3 => ?_
    have hp0 : H p = none := fresh_back (e1.trans e2) hp
    refine q_forR1 (n := (count : Int)) (ea_cons (ev_var rfl) ea_nil) (by omega) (fun i σ' H' => ∃ kv mv : Option V, σ' = [some (.int cell), some (.int salt), some (.int (count : Int)), some (.int b), some (.int (drawSt cell salt b i).1), some (.ref p), kv, mv] ∧ Ex H H' ∧ H' p = some (.lst ((drawSt cell salt b i).2.map V.int)))
      (fun H4 e4 => ⟨none, none, rfl, ((e1.trans e2).trans e3).trans e4, e4 p _ h3⟩) (fun i σ' H' hi hP => ?_) (fun σ' H' hP => ?_)
    · obtain ⟨kv, mv, rfl, eH, hl⟩ := hP
      have hW := (drawSt_ok (salt := salt) hc hb hbw i).1
      have hz : ((drawSt cell salt b i).2.map V.int).length < 100000 := by
        rw [List.length_map, drawSt_len]
        omega
      refine s_if (b := decide (0 < (drawSt cell salt b i).1)) (et_test (ev_bin0 (ev_var rfl) ev_c)) (fun h H1 e1 => ?_) (fun h H1 e1 => ?_)
      · have e0 : drawSt cell salt b (i + 1) = ((drawSt cell salt b i).1 / b, (drawSt cell salt b i).2 ++ [(drawSt cell salt b i).1 % b]) := if_pos (of_decide_eq_true h)
        refine q_app (K := K) (e1 p _ hl) (ev_var rfl) (ev_bin (ev_intI (ev_var rfl)) (ev_var rfl) hb) hz fun H2 e2 => ?_
        refine s_asg (ev_bin (ev_var rfl) (ev_var rfl) ⟨hb, hbl⟩) fun H3 e3 => ⟨some (.int (i : Int)), mv, ?_, (((eH.trans e1).trans e2).mut hp0).trans e3, ?_⟩
        · rw [e0]; rfl
        · rw [e3 p _ upd_same, e0, List.map_append] <;> rfl
      · have e0 : drawSt cell salt b (i + 1) = ((drawSt cell salt b i).1, (drawSt cell salt b i).2 ++ [drawMix cell salt i]) := if_neg (of_decide_eq_false h)
        have hm := Int.emod_nonneg (cell * 48271 + (salt * 97 + (i : Int)) * 69621) (by decide : (2147483647 : Int) ≠ 0)
        have hm2 := Int.emod_lt_of_pos (cell * 48271 + (salt * 97 + (i : Int)) * 69621) (by decide : (0 : Int) < 2147483647)
        refine q_asg (v := .int ((cell * 48271 + (salt * 97 + (i : Int)) * 69621) % 2147483647)) (ev_bin (ev_intI (ev_bin0 (ev_bin (ev_var rfl) ev_c (Wd.mul hc (Wd.lit (by decide)))) (ev_bin (ev_bin0 (ev_bin (ev_var rfl) ev_c (Wd.mul (Wd.small (by omega) (by omega)) (Wd.lit (by decide)))) (ev_var rfl)) ev_c (Wd.mul (Wd.small (by omega) (by omega)) (Wd.lit (by decide)))))) ev_c (by decide)) fun H2 e2 => ?_
        refine q_asg (v := .int (((cell * 48271 + (salt * 97 + (i : Int)) * 69621) % 2147483647 / 8 * ((cell * 48271 + (salt * 97 + (i : Int)) * 69621) % 2147483647 % 50021 + 16807) + (i : Int)) % 998244353)) (ev_bin (ev_intI (ev_bin0 (ev_bin (ev_bin (ev_var rfl) ev_c ⟨by decide, by decide⟩) (ev_bin0 (ev_bin (ev_intI (ev_var rfl)) ev_c (by decide)) ev_c) (Wd.mul (Wd.div (Wd.small (by omega) (by omega))) (Wd.small (by omega) (by omega)))) (ev_var rfl))) ev_c (by decide)) fun H3 e3 => ?_
        refine s_app (K := K) (((e1.trans e2).trans e3) p _ hl) (ev_var rfl) (v := .int (drawMix cell salt i)) (ev_bin (ev_var rfl) ev_c ⟨by decide, by decide⟩) hz fun H4 e4 => ⟨some (.int (i : Int)), some (.int (((cell * 48271 + (salt * 97 + (i : Int)) * 69621) % 2147483647 / 8 * ((cell * 48271 + (salt * 97 + (i : Int)) * 69621) % 2147483647 % 50021 + 16807) + (i : Int)) % 998244353)), ?_, ((((eH.trans e1).trans e2).trans e3).trans e4).mut hp0, ?_⟩
        · rw [e0]; rfl
        · rw [upd_same, e0, List.map_append] <;> rfl
    · obtain ⟨kv, mv, rfl, eH, hl⟩ := hP
      have ec : (count : Int).toNat = count := by omega
      rw [ec] at hl
      exact s_ret (ev_var rfl) fun H1 e1 => q p H1 hp0 (eH.trans e1) (e1 p _ hl)


/-! ### _law_is -/
def spIs : Sp := fun vs H Q _ => ∃ i j : Int, vs = [.int i, .int j] ∧ ∀ H', Ex H H' → Q (.bl (decide (i = j))) H'
theorem ok_law_is (T : Txt K mg) : FnOk P w K mg base CX0 1 T.f_law_is T.d_law_is ["actual", "expected"] spIs := by
  refine T.F_law_is.ok sc_law_is (fun vs H Q E h => ?_) (fun cdv A outer s H vs Q E hr h => ?_)
  · obtain ⟨i, j, rfl, _⟩ := h
    rfl
  · obtain ⟨i, j, rfl, q⟩ := h
    refine ⟨_, pss_one (ps_ret (pe_and (pe_callB (r := rIsi K) call_isi (by rfl) T.m_isinstance (by decide +kernel) (pa_cons (pv 0) (pa_cons (pe_bltn (v := .ty "int") (by rfl) T.m_int (by decide +kernel) rfl) (pa_nil)))) (pe_and (pe_not (pe_callB (r := rIsi K) call_isi (by rfl) T.m_isinstance (by decide +kernel) (pa_cons (pv 0) (pa_cons (pe_bltn (v := .ty "bool") (by rfl) T.m_bool (by decide +kernel) rfl) (pa_nil))))) (pe_one (pe_cmpR op_eq (pv 0) (pv 1) (nomark _)))))), ?_⟩
    exact s_ret (ev_is (ev_andV (a := true) (ev_isi (K := K) (a := "int") (ev_var rfl) (fun _ _ => .base (.int i)) (by decide +kernel)) fun _ => ev_andV (a := true) (ev_is (ev_notV (ev_isi (K := K) (a := "int") (r := false) (ev_var rfl) (fun _ _ => .base (.int i)) (by decide +kernel))) rfl) fun _ => ev_eqI (ev_var rfl) (ev_var rfl)) (by simp)) q


/-! ### _law_char -/
/-- the law's signs -/
def signsZ : List Nat := [32, 33, 34, 35, 36] ++ (List.range 89).map (· + 38)
theorem signs_len : signsZ.length = 94 := by decide +kernel
theorem signs_ok : ∀ c ∈ signsZ, 32 ≤ c ∧ c ≤ 126 ∧ c ≠ 37 := by decide +kernel
theorem signs_eq : (Str.ofString " !\"#$&'()*+,-./0123456789:;<=>?@ABCDEFGHIJKLMNOPQRSTUVWXYZ[\\]^_`" ++ Str.ofString "abcdefghijklmnopqrstuvwxyz{|}~" : Str) = ⟨signsZ.toArray⟩ := by decide +kernel
def charC (n : Int) : Nat := signsZ.getD (n % 94).toNat 0
def charZ (n : Int) : Str := ⟨#[charC n]⟩
theorem charC_mem (n : Int) : charC n ∈ signsZ := by
  have h1 := Int.emod_nonneg n (by decide : (94 : Int) ≠ 0)
  have h2 := Int.emod_lt_of_pos n (by decide : (0 : Int) < 94)
  have h3 : (n % 94).toNat < signsZ.length := by rw [signs_len]; omega
  unfold charC
  rw [List.getD_eq_getElem?_getD, List.getElem?_eq_getElem h3]
  exact List.getElem_mem h3
def sp_char : Sp := fun vs H Q _ => ∃ n : Int, vs = [.int n] ∧ ∀ H', Ex H H' → Q (.str (charZ n)) H'
theorem cv_char {n : Int} {H : Hp} : SpV sp_char [.int n] H (.str (charZ n)) := fun H1 e Q q E => ⟨n, rfl, fun H2 e2 => q H2 e2⟩
theorem ok_law_char (T : Txt K mg) : FnOk P w K mg base CX0 1 T.f_law_char T.d_law_char ["number"] sp_char := by
  refine T.F_law_char.ok sc_law_char (fun vs H Q E h => ?_) (fun cdv A outer s H vs Q E hr h => ?_)
  · obtain ⟨n, rfl, _⟩ := h
    rfl
  · obtain ⟨n, rfl, q⟩ := h
    have h1 := Int.emod_nonneg n (by decide : (94 : Int) ≠ 0)
    have h2 := Int.emod_lt_of_pos n (by decide : (0 : Int) < 94)
    refine ⟨_, pss_cons (ps_set (i := 1) sc_law_char.nd rfl (by first | exact Or.inl rfl | exact Or.inr rfl) (pe_str))
      (pss_cons (ps_set (i := 1) sc_law_char.nd rfl (by first | exact Or.inl rfl | exact Or.inr rfl) (pe_op op_add_str (pv 1) (pe_str)))
      (pss_one (ps_ret (pe_ix ix_str (pv 1) (pe_op op_mod (pe_callTy call_int1 (by rfl) T.m_int (by decide +kernel) (pa_cons (pv 0) (pa_nil))) (pe_int)) (fun _ _ => rfl))))), ?_⟩
    refine q_asg ev_c fun H1 e1 => ?_
    refine q_asg (ev_addS (ev_var rfl) ev_c (by decide +kernel)) fun H2 e2 => ?_
    refine s_ret (ev_ixS (z := ⟨signsZ.toArray⟩) (c := charC n) (ev_is (ev_var rfl) (congrArg V.str signs_eq)) (ev_bin (ev_intI (ev_var rfl)) ev_c (by decide)) (by decide +kernel) (at_cps rfl h1 (by rw [signs_len]; exact h2))) fun H3 e3 => q H3 ((e1.trans e2).trans e3)


/-! ### _law_text -/
def textLen (cell : Int) : Nat := ([0, 1, 2, 3, 4, 6, (cell / 8 % 61).toNat, 60] : List Nat).getD (cell % 8).toNat 0
theorem textLen_le (cell : Int) : textLen cell ≤ 60 := by
  have h1 := Int.emod_nonneg (cell / 8) (by decide : (61 : Int) ≠ 0)
  have h2 := Int.emod_lt_of_pos (cell / 8) (by decide : (0 : Int) < 61)
  have h3 : ∀ x ∈ ([0, 1, 2, 3, 4, 6, (cell / 8 % 61).toNat, 60] : List Nat), x ≤ 60 := by
    intro x hx
    simp only [List.mem_cons, List.not_mem_nil, or_false] at hx
    omega
  unfold textLen
  rw [List.getD_eq_getElem?_getD]
  cases e : ([0, 1, 2, 3, 4, 6, (cell / 8 % 61).toNat, 60] : List Nat)[(cell % 8).toNat]? with
  | none => exact Nat.zero_le _
  | some x => exact h3 x (List.mem_of_getElem? e)
def textC (cell : Int) : List Nat := (draws (cell / 8) (cell % 8) (textLen cell) 94).map charC
def textZ (cell : Int) : Str := ⟨(textC cell).toArray⟩
theorem textC_len (cell : Int) : (textC cell).length ≤ 60 := by
  unfold textC
  rw [List.length_map, draws_len]
  exact textLen_le cell
theorem textZ_len (cell : Int) : (textZ cell).length ≤ 60 := textC_len cell
theorem textC_ok (cell : Int) : ∀ c ∈ textC cell, c ∈ signsZ := fun c hc => by
  obtain ⟨n, _, e⟩ := List.mem_map.mp hc
  rw [← e]
  exact charC_mem n
def sp_text : Sp := fun vs H Q _ => ∃ cell : Int, vs = [.int cell] ∧ Wd cell ∧ ∀ H', Ex H H' → Q (.str (textZ cell)) H'
theorem cv_text {cell : Int} {H : Hp} (hc : Wd cell) : SpV sp_text [.int cell] H (.str (textZ cell)) := fun H1 e Q q E => ⟨cell, rfl, hc, fun H2 e2 => q H2 e2⟩
theorem ok_law_text (T : Txt K mg) : FnOk P w K mg base CX0 2 T.f_law_text T.d_law_text ["cell"] sp_text := by
  refine T.F_law_text.ok sc_law_text (fun vs H Q E h => ?_) (fun cdv A outer s H vs Q E hr h => ?_)
  · obtain ⟨n, rfl, _⟩ := h
    rfl
  · obtain ⟨n, rfl, hW, q⟩ := h
    have h1 := Int.emod_nonneg n (by decide : (8 : Int) ≠ 0)
    have h2 := Int.emod_lt_of_pos n (by decide : (0 : Int) < 8)
    have h3 := Int.emod_nonneg (n / 8) (by decide : (61 : Int) ≠ 0)
    have hL := textLen_le n
    refine ⟨_, pss_cons (ps_set (i := 1) sc_law_text.nd rfl (by first | exact Or.inl rfl | exact Or.inr rfl) (pe_op op_mod (pe_callTy call_int1 (by rfl) T.m_int (by decide +kernel) (pa_cons (pv 0) (pa_nil))) (pe_int)))
      (pss_cons (ps_set (i := 2) sc_law_text.nd rfl (by first | exact Or.inl rfl | exact Or.inr rfl) (pe_op op_fdivW (pv 0) (pe_int)))
      (pss_cons (ps_set (i := 3) sc_law_text.nd rfl (by first | exact Or.inl rfl | exact Or.inr rfl) (pe_ix (r := rIxL K) ix_list (pe_lst (pa_cons (pe_int) (pa_cons (pe_int) (pa_cons (pe_int) (pa_cons (pe_int) (pa_cons (pe_int) (pa_cons (pe_int) (pa_cons (pe_op op_mod (pe_callTy call_int1 (by rfl) T.m_int (by decide +kernel) (pa_cons (pv 2) (pa_nil))) (pe_int)) (pa_cons (pe_int) (pa_nil)))))))))) (pv 1) (fun _ _ => rfl)))
      (pss_one (ps_ret (pe_join (pe_str) (pe_lc (own := [("number", 4)]) (g := gName 4) (tt := tYes) rfl sc_law_text.nd (pi_list (pe_call (ok_law_draws T) (hr.mono (by first | decide | omega)) (by rfl) T.g_law_draws T.F_law_draws.kp T.b_law_draws .nil pass0 (pa_cons (pv 2) (pa_cons (pv 1) (pa_cons (pv 3) (pa_cons (pe_int) (pa_nil))))))) (blkOk_by (N := ["cell", "choice", "rest", "length", "number"]) (sc := defScope s_law_text) (by decide +kernel)) (fun _ _ _ _ _ => pg_name (i := 4) sc_law_text.nd rfl (Or.inl rfl)) (fun _ _ _ _ _ => pts_nil) (fun _ _ _ _ _ => pe_call (ok_law_char T) (hr.mono (by first | decide | omega)) (by rfl) T.g_law_char T.F_law_char.kp T.b_law_char .nil pass0 (pa_cons (pv 4) (pa_nil))))))))), ?_⟩
    refine q_asg (ev_bin (ev_intI (ev_var rfl)) ev_c (by decide)) fun H1 e1 => ?_
    refine q_asg (ev_bin (ev_var rfl) ev_c ⟨by decide, by decide⟩) fun H2 e2 => ?_
    refine q_asg (v := .int (textLen n : Int)) (ev_ixN (el_lst (ea_cons ev_c (ea_cons ev_c (ea_cons ev_c (ea_cons ev_c (ea_cons ev_c (ea_cons ev_c (ea_cons (ev_bin (ev_intI (ev_var rfl)) ev_c (by decide)) (ea_cons ev_c ea_nil)))))))) (by show 8 ≤ 100000; decide)) (fun _ _ => ev_var rfl) (atI_of h1 ?_)) fun H3 e3 => ?_
    · unfold textLen
      have hh : n % 8 = 0 ∨ n % 8 = 1 ∨ n % 8 = 2 ∨ n % 8 = 3 ∨ n % 8 = 4 ∨ n % 8 = 5 ∨ n % 8 = 6 ∨ n % 8 = 7 := by omega
      rcases hh with e | e | e | e | e | e | e | e <;> rw [e]
      all_goals first | rfl | skip
      show some (V.int (n / 8 % 61)) = some (V.int (((n / 8 % 61).toNat : Nat) : Int))
      rw [Int.toNat_of_nonneg h3]
    · have et : textZ n = Txt.join (Str.ofString "") ((textC n).map fun c => (⟨#[c]⟩ : Str)) := (join_signs (textC n)).symm
      refine s_ret (v := .str (textZ n)) ?_ fun H4 e4 => q H4 (((e1.trans e2).trans e3).trans e4)
      rw [et]
      refine ev_joinN (K := K) ev_c ?_ ?_
      · have em : ((textC n).map fun c => (⟨#[c]⟩ : Str)).map V.str = (draws (n / 8) (n % 8) (textLen n) 94).map fun m => V.str (charZ m) := by
          unfold textC
          rw [List.map_map, List.map_map] <;> rfl
        rw [em]
        refine el_mapN (K := K) (el_call (ea_cons (ev_var rfl) (ea_cons (ev_var rfl) (ea_cons (ev_var rfl) (ea_cons ev_c ea_nil)))) (cl_draws (Wd.div hW) (by omega) (by omega) (by decide) (by decide))) (by rw [draws_len]; omega) (fun x => rfl) fun m _ H5 e5 => ev_call (ea_cons (ev_var rfl) ea_nil) cv_char
      · rw [sum_ones, List.length_map]
        have := textC_len n
        show (textC n).length + (textC n).length * 0 ≤ 16777216
        omega


/-! ### _law_thing -/
def thingZ (ns : List Int) (k : Nat) : Int := if k < ns.length then cellZ ns k else if ns.length = 0 then (k : Int) else (cellZ ns (k % ns.length) * 48271 + (k : Int) * 69621) % 2147483647
theorem Wd.thing {ns : List Int} (h : ∀ n ∈ ns, Wd n) {k : Nat} (hk : k ≤ 100000) : Wd (thingZ ns k) := by
  unfold thingZ
  split
  · exact Wd.cell h k
  · split
    · exact Wd.small (by omega) (by omega)
    · exact Wd.mod (by decide) (Wd.lit (by decide))
def sp_thing (K : PySem.W.Frag) : Sp := fun vs H Q _ => ∃ (a : Addr) (ns : List Int) (k : Nat), vs = [.ref a, .int (k : Int)] ∧ SqL K H a (ns.map V.int) ∧ (∀ n ∈ ns, Wd n) ∧ k ≤ 100000 ∧ ∀ H', Ex H H' → Q (.int (thingZ ns k)) H'
theorem cv_thing {a : Addr} {ns : List Int} {k : Nat} {H : Hp} (h : SqL K H a (ns.map V.int)) (hw : ∀ n ∈ ns, Wd n) (hk : k ≤ 100000) : SpV (sp_thing K) [.ref a, .int (k : Int)] H (.int (thingZ ns k)) := fun H1 e Q q E => ⟨a, ns, k, rfl, ex_l e h, hw, hk, fun H2 e2 => q H2 e2⟩
theorem ok_law_thing (T : Txt K mg) : FnOk P w K mg base CX0 1 T.f_law_thing T.d_law_thing ["script", "k"] (sp_thing K) := by
  refine T.F_law_thing.ok sc_law_thing (fun vs H Q E h => ?_) (fun cdv A outer s H vs Q E hr h => ?_)
  · obtain ⟨a, ns, k, rfl, _⟩ := h
    rfl
  · obtain ⟨a, ns, k, rfl, hS, hw, hk1, q⟩ := h
    have el : (ns.map V.int).length = ns.length := List.length_map ..
    have item : ∀ j : Nat, j < ns.length → (ns.map V.int)[j]? = some (.int (cellZ ns j)) := fun j hj => by
      rw [List.getElem?_map, List.getElem?_eq_getElem hj]
      unfold cellZ
      rw [List.getD_eq_getElem?_getD, List.getElem?_eq_getElem hj] <;> rfl
    refine ⟨_, pss_cons (ps_if (pt_cmpR op_lt (pv 1) (pe_callB (r := rLenQ K) call_len_seq (by rfl) T.m_len (by decide +kernel) (pa_cons (pv 0) (pa_nil))) (nomark _))
      (pss_one (ps_ret (pe_ix (r := rIxL K) ix_list (pv 0) (pv 1) (fun _ _ => rfl))))
      (pss_nil))
      (pss_cons (ps_if (pt_cmpR op_eq (pe_callB (r := rLenQ K) call_len_seq (by rfl) T.m_len (by decide +kernel) (pa_cons (pv 0) (pa_nil))) (pe_int) (nomark _))
      (pss_one (ps_ret (pv 1)))
      (pss_nil))
      (pss_one (ps_ret (pe_op op_mod (pe_callTy call_int1 (by rfl) T.m_int (by decide +kernel) (pa_cons (pe_op op_add (pe_op op_mulX (pe_ix (r := rIxL K) ix_list (pv 0) (pe_op op_mod (pe_callTy call_int1 (by rfl) T.m_int (by decide +kernel) (pa_cons (pv 1) (pa_nil))) (pe_callB (r := rLenQ K) call_len_seq (by rfl) T.m_len (by decide +kernel) (pa_cons (pv 0) (pa_nil)))) (fun _ _ => rfl)) (pe_int)) (pe_op op_mulX (pv 1) (pe_int))) (pa_nil))) (pe_int))))), ?_⟩
    refine q_when (b := decide ((k : Int) < ((ns.map V.int).length : Int))) (et_test (ev_bin0 (ev_var rfl) (ev_lenQ (K := K) (ev_var rfl) hS))) (fun hb H1 e1 => ?_) (fun hb H1 e1 => ?_)
    · have hk : k < ns.length := by
        have := of_decide_eq_true hb
        rw [el] at this
        omega
      refine s_ret (ev_ixL (K := K) (ev_var rfl) (ev_var rfl) (ex_l e1 hS) (at_nat (item k hk))) fun H2 e2 => ?_
      have e0 : thingZ ns k = cellZ ns k := if_pos hk
      rw [← e0]
      exact q H2 (e1.trans e2)
    · have hk : ¬ k < ns.length := by
        have := of_decide_eq_false hb
        rw [el] at this
        omega
      refine q_when (et_test (ev_eqI (ev_lenQ (K := K) (ev_var rfl) (ex_l e1 hS)) ev_c)) (fun hb H2 e2 => ?_) (fun hb H2 e2 => ?_)
      · have h0 : ns.length = 0 := by
          have := of_decide_eq_true hb
          rw [el] at this
          omega
        refine s_ret (ev_var rfl) fun H3 e3 => ?_
        have e0 : thingZ ns k = (k : Int) := by unfold thingZ; rw [if_neg hk, if_pos h0]
        rw [← e0]
        exact q H3 ((e1.trans e2).trans e3)
      · have h0 : ¬ ns.length = 0 := by
          have := of_decide_eq_false hb
          rw [el] at this
          omega
        have hm : k % ns.length < ns.length := Nat.mod_lt _ (by omega)
        refine s_ret (ev_bin (i := cellZ ns (k % ns.length) * 48271 + (k : Int) * 69621) (ev_intI (ev_bin0 (ev_bin (ev_ixL (K := K) (i := ((k % ns.length : Nat) : Int)) (ev_var rfl) (ev_is (ev_bin (ev_intI (ev_var rfl)) (ev_lenQ (K := K) (ev_var rfl) (ex_l (e1.trans e2) hS)) (by rw [el]; omega)) (by rw [el]; rfl)) (ex_l (e1.trans e2) hS) (at_nat (item _ hm))) ev_c (Wd.mul (Wd.cell hw _) (Wd.lit (by decide)))) (ev_bin (ev_var rfl) ev_c (Wd.mul (Wd.small (by omega) (by omega)) (Wd.lit (by decide)))))) ev_c (by decide)) fun H3 e3 => ?_
        have e0 : thingZ ns k = (cellZ ns (k % ns.length) * 48271 + (k : Int) * 69621) % 2147483647 := by unfold thingZ; rw [if_neg hk, if_neg h0]
        rw [← e0]
        exact q H3 ((e1.trans e2).trans e3)


/-! ### _law_pool -/
theorem cutS_len (z : Str) (lo hi : Option Int) : (cutS z lo hi).length ≤ z.length := by
  rw [str_len z]
  show (((z.cps.toList.drop _).take _).toArray).size ≤ _
  rw [List.size_toArray, List.length_take, List.length_drop]
  omega
theorem app_len (a b : Str) : (a ++ b).length = a.length + b.length := by
  show (a.cps ++ b.cps).size = a.cps.size + b.cps.size
  exact Array.size_append
def spPool (K : PySem.W.Frag) : Sp := fun vs H Q _ => ∃ (a : Addr) (ns : List Int), vs = [.ref a] ∧ SqL K H a (ns.map V.int) ∧ (∀ n ∈ ns, Wd n) ∧ ∀ p H' (zs : List Str), H p = none → Ex H H' → H' p = some (.lst (zs.map V.str)) → zs.length = 8 → Q (.ref p) H'
theorem ok_law_pool (T : Txt K mg) : FnOk P w K mg base CX0 3 T.f_law_pool T.d_law_pool ["script"] (spPool K) := by
  refine T.F_law_pool.ok sc_law_pool (fun vs H Q E h => ?_) (fun cdv A outer s H vs Q E hr h => ?_)
  · obtain ⟨a, ns, rfl, _⟩ := h
    rfl
  · obtain ⟨a, ns, rfl, hS, hw, q⟩ := h
    refine ⟨_, pss_cons (ps_set (i := 1) sc_law_pool.nd rfl (by first | exact Or.inl rfl | exact Or.inr rfl) (pe_op op_add_str (pe_op op_add_str (pe_call (ok_law_text T) (hr.mono (by first | decide | omega)) (by rfl) T.g_law_text T.F_law_text.kp T.b_law_text .nil pass0 (pa_cons (pe_call (ok_law_thing T) (hr.mono (by first | decide | omega)) (by rfl) T.g_law_thing T.F_law_thing.kp T.b_law_thing .nil pass0 (pa_cons (pv 0) (pa_cons (pe_int) (pa_nil)))) (pa_nil))) (pe_op op_repS (pe_str) (pe_int))) (pe_call (ok_law_text T) (hr.mono (by first | decide | omega)) (by rfl) T.g_law_text T.F_law_text.kp T.b_law_text .nil pass0 (pa_cons (pe_call (ok_law_thing T) (hr.mono (by first | decide | omega)) (by rfl) T.g_law_thing T.F_law_thing.kp T.b_law_thing .nil pass0 (pa_cons (pv 0) (pa_cons (pe_int) (pa_nil)))) (pa_nil)))))
      (pss_cons (ps_set (i := 2) sc_law_pool.nd rfl (by first | exact Or.inl rfl | exact Or.inr rfl) (pe_lst (pa_cons (pe_str) (pa_cons (pv 1) (pa_cons (pe_slice sl_str (pv 1) (po_none) (po_some (pe_un un_neg (pe_int)))) (pa_cons (pe_op op_add_str (pe_op op_add_str (pe_slice sl_str (pv 1) (po_none) (po_some (pe_int))) (pe_str)) (pe_slice sl_str (pv 1) (po_some (pe_int)) (po_none))) (pa_nil)))))))
      (pss_cons (ps_for PassesOwn.never rfl (pi_range1 (by rfl) T.m_range (pa_cons (pe_int) (pa_nil))) (pg_name (i := 3) sc_law_pool.nd rfl (by first | exact Or.inl rfl | exact Or.inr rfl))
      (pss_one (ps_expr (pe_bm PySem.F.plainAttrs_list PySem.F.slot_list_append PySem.F.type_list_append mt_append (pv 2) (pa_cons (pe_call (ok_law_text T) (hr.mono (by first | decide | omega)) (by rfl) T.g_law_text T.F_law_text.kp T.b_law_text .nil pass0 (pa_cons (pe_call (ok_law_thing T) (hr.mono (by first | decide | omega)) (by rfl) T.g_law_thing T.F_law_thing.kp T.b_law_thing .nil pass0 (pa_cons (pv 0) (pa_cons (pe_op op_add (pe_int) (pv 3)) (pa_nil)))) (pa_nil))) (pa_nil))))))
      (pss_one (ps_ret (pe_op op_cat (pv 2) (pe_lst (pa_cons (pe_op op_add_str (pe_ix (r := rIxL K) ix_list (pv 2) (pe_un un_neg (pe_int)) (fun _ _ => rfl)) (pe_str)) (pa_nil)))))))), ?_⟩
    have rx : ∀ {σ : L2.St} {H : Hp}, Ev (tOp (fun x y H Q => ∃ (z : Str) (k : Int), x = V.str z ∧ y = V.int k ∧ 0 ≤ k ∧ z.length * k.toNat ≤ 16777216 ∧ k < 2 ^ 60 ∧ Q (.str ⟨(repC z k.toNat).toArray⟩) H) (tC (.str (Str.ofString "x"))) (tC (.int 101))) σ H (.str ⟨(repC (Str.ofString "x") 101).toArray⟩) := fun {σ H} => ev_op ev_c ev_c fun H1 _ Q q => ⟨Str.ofString "x", 101, rfl, rfl, by decide, by decide +kernel, by decide, q H1 (Ex.refl H1)⟩
    have lx : (⟨(repC (Str.ofString "x") 101).toArray⟩ : Str).length = 101 := by decide +kernel
    have l1 := textZ_len (thingZ ns 1)
    have l2 := textZ_len (thingZ ns 2)
    refine q_asg (ev_addS (ev_addS (ev_call (ea_cons (ev_call (ea_cons (ev_var rfl) (ea_cons ev_c ea_nil)) (cv_thing (k := 1) hS hw (by decide))) ea_nil) (cv_text (Wd.thing hw (by decide)))) rx (by omega)) (ev_call (ea_cons (ev_call (ea_cons (ev_var rfl) (ea_cons ev_c ea_nil)) (cv_thing (k := 2) hS hw (by decide))) ea_nil) (cv_text (Wd.thing hw (by decide)))) (by rw [app_len]; omega)) fun H1 e1 => ?_
    have ll : (textZ (thingZ ns 1) ++ (⟨(repC (Str.ofString "x") 101).toArray⟩ : Str) ++ textZ (thingZ ns 2)).length ≤ 300 := by
      rw [app_len, app_len]
      omega
    generalize textZ (thingZ ns 1) ++ (⟨(repC (Str.ofString "x") 101).toArray⟩ : Str) ++ textZ (thingZ ns 2) = long at ll
    have c1 := cutS_len long none (some 100)
    have c2 := cutS_len long (some 101) none
    have ly : (Str.ofString "y").length = 1 := by decide +kernel
    refine q_asgL (el_lst (ea_cons ev_c (ea_cons (ev_var rfl) (ea_cons (ev_slS (ev_var rfl) eo_none (eo_some (ev_neg ev_c)) (by omega)) (ea_cons (ev_addS (ev_addS (ev_slS (ev_var rfl) eo_none (eo_some ev_c) (by omega)) ev_c (by omega)) (ev_slS (ev_var rfl) (eo_some ev_c) eo_none (by omega)) (by rw [app_len]; omega)) ea_nil)))) (by show 4 ≤ 100000; decide)) fun p H2 np e2 hp => ?_
    have np0 : H p = none := fresh_back e1 np
    refine q_forR1 (n := 3) (ea_cons ev_c ea_nil) (by decide) (fun i σ' H' => ∃ (zs : List Str) (kv : Option V), σ' = [some (.ref a), some (.str long), some (.ref p), kv] ∧ Ex H H' ∧ H' p = some (.lst (zs.map V.str)) ∧ zs.length = 4 + i ∧ ∀ z, zs.getLast? = some z → z.length ≤ 1000)
      (fun H3 e3 => ⟨[Str.ofString "", long, cutS long none (some (-1)), cutS long none (some 100) ++ Str.ofString "y" ++ cutS long (some 101) none], none, rfl, (e1.trans e2).trans e3, e3 _ _ hp, rfl, fun z hz => ?_⟩) (fun i σ' H' hi hP => ?_) (fun σ' H' hP => ?_)
    · have hz : cutS long none (some 100) ++ Str.ofString "y" ++ cutS long (some 101) none = z := by simpa using hz
      rw [← hz, app_len, app_len]
      omega
    · obtain ⟨zs, kv, rfl, eH, hp, hz, hla⟩ := hP
      have hW : Wd (thingZ ns (3 + i)) := Wd.thing hw (by omega)
      refine s_app (K := K) hp (ev_var rfl) (ev_call (ea_cons (ev_call (ea_cons (ev_var rfl) (ea_cons (ev_is (ev_bin0 ev_c (ev_var rfl)) (congrArg V.int (show (3 : Int) + (i : Int) = ((3 + i : Nat) : Int) by omega))) ea_nil)) (cv_thing (ex_l eH hS) hw (by omega))) ea_nil) (cv_text hW)) (by rw [List.length_map]; omega) fun H3 e3 => ⟨zs ++ [textZ (thingZ ns (3 + i))], some (.int (i : Int)), rfl, (eH.trans e3).mut np0, ?_, ?_, fun z hz => ?_⟩
      · rw [upd_same, List.map_append] <;> rfl
      · rw [List.length_append, List.length_singleton]; omega
      · have hz : textZ (thingZ ns (3 + i)) = z := by simpa using hz
        have := textZ_len (thingZ ns (3 + i))
        rw [← hz]
        omega
    · obtain ⟨zs, kv, rfl, eH, hp, hz, hla⟩ := hP
      have hz : zs.length = 7 := hz
      have hne : zs ≠ [] := fun z => by rw [z] at hz; cases hz
      have el := (List.dropLast_concat_getLast hne).symm
      have hl3 := hla _ (List.getLast?_eq_getLast hne)
      generalize hzl : zs.getLast hne = zl at el hl3
      have ls : (Str.ofString " ").length = 1 := by decide +kernel
      have hpl : SqL K H' p ((zs.dropLast.map V.str) ++ [V.str zl]) := by
        have := sq_of (K := K) hp
        rw [el, List.map_append] at this
        exact this
      refine s_retL (el_catV (K := K) (ev_var rfl) hp (el_lst (ea_cons (ev_addS (ev_ixL (K := K) (v := .str zl) (ev_var rfl) (ev_neg ev_c) hpl (atI_last _ _)) ev_c (by omega)) ea_nil) (by show 1 ≤ 100000; decide)) (by rw [List.length_map]; show _ + 1 ≤ _; omega)) fun r H3 nr e3 hr => ?_
      refine q r H3 (zs ++ [zl ++ Str.ofString " "]) (fresh_back eH nr) (eH.trans e3) (by rw [hr, List.map_append] <;> rfl) (by rw [List.length_append, List.length_singleton]; omega)


/-! ### law -/
theorem ev_lenO {σ : L2.St} {H : Hp} {te : TE} {C p d : Addr} {kvs : List (Key × V)} (h : Ev te σ H (.ref p)) (b : BkAt C H p d kvs) (hl : kvs.length ≤ 900) :
    Ev (tCB (fun xs H Q => ∃ a dx fs, xs = [V.ref a] ∧ H a = some (.ins C dx fs) ∧ spBkL C [.ref a] H (fun v H' => ∃ n : Int, v = .int n ∧ (0 ≤ n ∧ n < 2 ^ 63) ∧ Q (.int n) H') E0) (tCons te tNil)) σ H (.int (kvs.length : Int)) := fun H1 e Q q => by
  obtain ⟨⟨dx, hp⟩, hd⟩ := b
  exact h H1 e _ fun H2 e2 => ⟨p, dx, aF d, rfl, (e.trans e2) _ _ hp, p, d, kvs, rfl, ⟨⟨dx, (e.trans e2) _ _ hp⟩, (e.trans e2) _ _ hd⟩, _, rfl, ⟨by omega, by omega⟩, q H2 e2⟩
theorem ev_lenDv {σ : L2.St} {H : Hp} {te : TE} {n : Addr} {kvs : List (Key × V)} (h : Ev te σ H (.ref n)) (hn : H n = some (.dK kvs)) : Ev (tCB (fun xs H Q => ∃ a kvs, xs = [V.ref a] ∧ H a = some (.dK kvs) ∧ Q (.int kvs.length) H) (tCons te tNil)) σ H (.int (kvs.length : Int)) := fun H1 e Q q =>
  h H1 e _ fun H2 e2 => ⟨n, kvs, rfl, (e.trans e2) _ _ hn, q H2 e2⟩
theorem ev_bfind {σ : L2.St} {H : Hp} {to te : TE} {E : XK} {C p d : Addr} {kvs : List (Key × V)} {z : Str} (h : Ev to σ H (.ref p)) (h2 : Ev te σ H (.str z)) (b : BkAt C H p d kvs) : Ev (tMeth C "find" (spBkF C) [] E to (tCons te tNil)) σ H (getK kvs z) := fun H1 e Q q => by
  obtain ⟨⟨dx, hp⟩, hd⟩ := b
  exact h H1 e _ fun H2 e2 => ⟨p, dx, aF d, rfl, (e.trans e2) _ _ hp, aF_no _ (by decide +kernel), h2 H2 (e.trans e2) _ fun H3 e3 => ⟨p, d, kvs, z, rfl, ⟨⟨dx, ((e.trans e2).trans e3) _ _ hp⟩, ((e.trans e2).trans e3) _ _ hd⟩, q H3 (e2.trans e3)⟩⟩
theorem ev_dget2 {σ : L2.St} {H : Hp} {td ty tx : TE} {n : Addr} {kvs : List (Key × V)} {z : Str} (h : Ev td σ H (.ref n)) (h2 : Ev ty σ H (.str z)) (h3 : Ev tx σ H (.int 0)) (hn : H n = some (.dK kvs)) : Ev (tDGet2 td ty tx) σ H (getK kvs z) := fun H1 e Q q =>
  h H1 e _ fun H2 e2 => ⟨n, rfl, .inl ⟨kvs, .inl ((e.trans e2) _ _ hn)⟩, h2 H2 (e.trans e2) _ fun H3 e3 => h3 H3 ((e.trans e2).trans e3) _ fun H4 e4 => ⟨_, DGet.k (k := Sum.inr z) ((((e.trans e2).trans e3).trans e4) _ _ hn), q H4 ((e2.trans e3).trans e4)⟩⟩
theorem cv_is {v : V} {H : Hp} (h : ∃ i : Int, v = .int i) : SpV spIs [v, v] H (.bl true) := by
  obtain ⟨i, rfl⟩ := h
  exact fun H1 e Q q E => ⟨i, i, rfl, fun H2 e2 => by rw [decide_eq_true rfl]; exact q H2 e2⟩
structure BS (C : Addr) (H0 H' : Hp) (pl bl kl p0 d0 p1 d1 n0 n1 : Addr) (zs : List Str) (k0 k1 : List (Key × V)) : Prop where
  ex : Ex H0 H'
  pool : H' pl = some (.lst (zs.map V.str))
  books : H' bl = some (.lst [.ref p0, .ref p1])
  known : H' kl = some (.lst [.ref n0, .ref n1])
  b0 : BkAt C H' p0 d0 k0
  b1 : BkAt C H' p1 d1 k1
  h0 : H' n0 = some (.dK k0)
  h1 : H' n1 = some (.dK k1)
  w0 : H0 d0 = none
  w1 : H0 d1 = none
  w2 : H0 n0 = none
  w3 : H0 n1 = none
  q1 : d0 ≠ d1
  q2 : d0 ≠ n0
  q3 : d0 ≠ n1
  q4 : d1 ≠ n0
  q5 : d1 ≠ n1
  q6 : n0 ≠ n1
  u0 : Nums k0
  u1 : Nums k1
theorem BkAt.mono {C p d : Addr} {H H' : Hp} {kvs : List (Key × V)} (b : BkAt C H p d kvs) (e : Ex H H') : BkAt C H' p d kvs := by
  obtain ⟨⟨dx, hp⟩, hd⟩ := b
  exact ⟨⟨dx, e _ _ hp⟩, e _ _ hd⟩
theorem BS.mono {C : Addr} {H0 H' H'' : Hp} {pl bl kl p0 d0 p1 d1 n0 n1 : Addr} {zs : List Str} {k0 k1 : List (Key × V)} (b : BS C H0 H' pl bl kl p0 d0 p1 d1 n0 n1 zs k0 k1) (e : Ex H' H'') : BS C H0 H'' pl bl kl p0 d0 p1 d1 n0 n1 zs k0 k1 :=
  ⟨b.ex.trans e, e _ _ b.pool, e _ _ b.books, e _ _ b.known, b.b0.mono e, b.b1.mono e, e _ _ b.h0, e _ _ b.h1, b.w0, b.w1, b.w2, b.w3, b.q1, b.q2, b.q3, b.q4, b.q5, b.q6, b.u0, b.u1⟩
theorem BS.step0 {C : Addr} {H0 H' H'' : Hp} {pl bl kl p0 d0 p1 d1 n0 n1 : Addr} {zs : List Str} {k0 k1 k' : List (Key × V)} (b : BS C H0 H' pl bl kl p0 d0 p1 d1 n0 n1 zs k0 k1) (hd : H'' d0 = some (.dK k')) (hn : H'' n0 = some (.dK k')) (hu : Nums k')
    (f : ∀ c o, H' c = some o → c ≠ d0 → c ≠ n0 → H'' c = some o) : BS C H0 H'' pl bl kl p0 d0 p1 d1 n0 n1 zs k' k1 := by
  obtain ⟨⟨dx0, hp0⟩, hd0⟩ := b.b0
  obtain ⟨⟨dx1, hp1⟩, hd1⟩ := b.b1
  have z : ∀ {c : Addr} {o : HO}, H' c = some o → (∀ kvs, o ≠ .dK kvs) → H'' c = some o := fun h no => f _ _ h (ne_of h hd0 (no k0)) (ne_of h b.h0 (no k0))
  exact ⟨fun c o h => f c o (b.ex c o h) (ne_of_none h b.w0) (ne_of_none h b.w2), z b.pool (fun _ z => nomatch z), z b.books (fun _ z => nomatch z), z b.known (fun _ z => nomatch z), ⟨⟨dx0, z hp0 (fun _ z => nomatch z)⟩, hd⟩, ⟨⟨dx1, z hp1 (fun _ z => nomatch z)⟩, f _ _ hd1 b.q1.symm b.q4⟩, hn, f _ _ b.h1 b.q3.symm b.q6.symm,
    b.w0, b.w1, b.w2, b.w3, b.q1, b.q2, b.q3, b.q4, b.q5, b.q6, hu, b.u1⟩
theorem BS.step1 {C : Addr} {H0 H' H'' : Hp} {pl bl kl p0 d0 p1 d1 n0 n1 : Addr} {zs : List Str} {k0 k1 k' : List (Key × V)} (b : BS C H0 H' pl bl kl p0 d0 p1 d1 n0 n1 zs k0 k1) (hd : H'' d1 = some (.dK k')) (hn : H'' n1 = some (.dK k')) (hu : Nums k')
    (f : ∀ c o, H' c = some o → c ≠ d1 → c ≠ n1 → H'' c = some o) : BS C H0 H'' pl bl kl p0 d0 p1 d1 n0 n1 zs k0 k' := by
  obtain ⟨⟨dx0, hp0⟩, hd0⟩ := b.b0
  obtain ⟨⟨dx1, hp1⟩, hd1⟩ := b.b1
  have z : ∀ {c : Addr} {o : HO}, H' c = some o → (∀ kvs, o ≠ .dK kvs) → H'' c = some o := fun h no => f _ _ h (ne_of h hd1 (no k1)) (ne_of h b.h1 (no k1))
  exact ⟨fun c o h => f c o (b.ex c o h) (ne_of_none h b.w1) (ne_of_none h b.w3), z b.pool (fun _ z => nomatch z), z b.books (fun _ z => nomatch z), z b.known (fun _ z => nomatch z), ⟨⟨dx0, z hp0 (fun _ z => nomatch z)⟩, f _ _ hd0 b.q1 b.q3⟩, ⟨⟨dx1, z hp1 (fun _ z => nomatch z)⟩, hd⟩, f _ _ b.h0 b.q4.symm b.q6, hn,
    b.w0, b.w1, b.w2, b.w3, b.q1, b.q2, b.q3, b.q4, b.q5, b.q6, b.u0, hu⟩
theorem q_pool {K : PySem.W.Frag} {E : XK} {σ : L2.St} {H : Hp} {tz : TS} {D : Ends} {i : Nat} {a : Addr} {ns : List Int} (h0 : σ[0]? = some (some (.ref a))) (hS : SqL K H a (ns.map V.int)) (hw : ∀ n ∈ ns, Wd n)
    (k : ∀ p H' (zs : List Str), H p = none → Ex H H' → H' p = some (.lst (zs.map V.str)) → zs.length = 8 → tz D (σ.set i (some (.ref p))) H') : tSeq (tAsg (tCall (spPool K) [] E (tCons (tVar 0) tNil)) (gName i)) tz D σ H :=
  ⟨.ref a, h0, a, ns, rfl, hS, hw, fun pl H1 zs np e1 hp hz => k pl H1 zs np e1 hp hz⟩
theorem q_books {C : Addr} {E : XK} {σ : L2.St} {H : Hp} {tz : TS} {D : Ends} {i : Nat}
    (k : ∀ p0 d0 p1 d1 bl H', Ex H H' → H d0 = none → H d1 = none → d0 ≠ d1 → BkAt C H' p0 d0 [] → BkAt C H' p1 d1 [] → H' bl = some (.lst [.ref p0, .ref p1]) → tz D (σ.set i (some (.ref bl))) H') :
    tSeq (tAsg (tLst (tCons (tMake C (spBkI C) [] E tNil) (tCons (tMake C (spBkI C) [] E tNil) tNil))) (gName i)) tz D σ H := by
  intro p0 dx0 x1 x2 x3
  refine ⟨p0, dx0, rfl, upd_same, fun d0 H2 x4 x5 hp0 hd0 kp0 => ⟨rfl, ?_⟩⟩
  have e2 : Ex H H2 := fun b o e => kp0 b o (by rw [upd_ne (ne_of_none e x1), upd_ne (ne_of_none e x2)]; exact e) (ne_of_none e x1)
  have y0 : H d0 = none := by
    cases hh : H d0 with
    | none => rfl
    | some o =>
      by_cases hx : d0 = dx0
      · rw [hx, x2] at hh; cases hh
      · rw [upd_ne x5, upd_ne hx, hh] at x4; cases x4
  intro p1 dx1 x6 x7 x8
  refine ⟨p1, dx1, rfl, upd_same, fun d1 H3 x9 x10 hp1 hd1 kp1 => ⟨rfl, ?_⟩⟩
  have e3 : Ex H2 H3 := fun b o e => kp1 b o (by rw [upd_ne (ne_of_none e x6), upd_ne (ne_of_none e x7)]; exact e) (ne_of_none e x6)
  have y1 : H2 d1 = none := by
    cases hh : H2 d1 with
    | none => rfl
    | some o =>
      by_cases hx : d1 = dx1
      · rw [hx, x7] at hh; cases hh
      · rw [upd_ne x10, upd_ne hx, hh] at x9; cases x9
  refine ⟨by show 2 ≤ sizeLine; decide, fun bl hbl => ?_⟩
  have e4 : Ex H3 (upd H3 bl (.lst [.ref p0, .ref p1])) := Ex.new hbl
  exact k p0 d0 p1 d1 bl _ ((e2.trans e3).trans e4) y0 (fresh_back e2 y1) (ne_of_none hd0 y1) ⟨⟨dx0, (e3.trans e4) _ _ hp0⟩, (e3.trans e4) _ _ hd0⟩ ⟨⟨dx1, e4 _ _ hp1⟩, e4 _ _ hd1⟩ upd_same
theorem q_dicts {σ : L2.St} {H : Hp} {tz : TS} {D : Ends} {i : Nat}
    (k : ∀ n0 n1 kl H', Ex H H' → H n0 = none → H n1 = none → n0 ≠ n1 → H' n0 = some (.dK []) → H' n1 = some (.dK []) → H' kl = some (.lst [.ref n0, .ref n1]) → tz D (σ.set i (some (.ref kl))) H') :
    tSeq (tAsg (tLst (tCons tDNewK (tCons tDNewK tNil))) (gName i)) tz D σ H := by
  intro n0 hn0 n1 hn1
  refine ⟨by show 2 ≤ sizeLine; decide, fun kl hkl => ?_⟩
  have e5 : Ex H (upd H n0 (.dK [])) := Ex.new hn0
  have e6 : Ex (upd H n0 (.dK [])) (upd (upd H n0 (.dK [])) n1 (.dK [])) := Ex.new hn1
  have e7 := Ex.new (o := .lst [.ref n0, .ref n1]) hkl
  exact k n0 n1 kl _ ((e5.trans e6).trans e7) hn0 (fresh_back e5 hn1) (ne_of_none upd_same hn1) ((e6.trans e7) _ _ upd_same) (e7 _ _ upd_same) upd_same
def timesZ (c : Int) : Nat := if c / 30 % 2 = 0 then (c % 30).toNat else 57
theorem timesZ_le (c : Int) : timesZ c ≤ 57 := by
  unfold timesZ
  split <;> omega
def spLaw (K : PySem.W.Frag) : Sp := fun vs H Q _ => ∃ (a : Addr) (ns : List Int), vs = [.ref a] ∧ SqL K H a (ns.map V.int) ∧ ns.length ≤ 63 ∧ (∀ z ∈ ns, Builtin.Int.intBits z ≤ 1048576) ∧ ∀ H', Q (.bl true) H'
theorem ok_law (T : Txt K mg) : FnOk P w K mg base CX0 4 T.f_law T.d_law ["script"] (spLaw K) := by
  refine T.F_law.ok sc_law (fun vs H Q E h => ?_) (fun cdv A outer s H vs Q E hr h => ?_)
  · obtain ⟨a, ns, rfl, _⟩ := h
    rfl
  · obtain ⟨a, ns, rfl, hS, hlen, hbits, q⟩ := h
    have hw : ∀ n ∈ ns, Wd n := fun n hn => Wd.bits (hbits n hn)
    have hu := hu_of hr
    refine ⟨_, pss_cons (ps_set (i := 1) sc_law.nd rfl (by first | exact Or.inl rfl | exact Or.inr rfl) (pe_call (ok_law_pool T) (hr.mono (by first | decide | omega)) (by rfl) T.g_law_pool T.F_law_pool.kp T.b_law_pool .nil pass0 (pa_cons (pv 0) (pa_nil))))
      (pss_cons (ps_set (i := 2) sc_law.nd rfl (by first | exact Or.inl rfl | exact Or.inr rfl) (pe_lst (pa_cons (pe_make0 T.mk_Book (ok_Book___init T) (hr.mono (by first | decide | omega)) (by rfl) T.g_Book T.b_Book___init .nil pass0) (pa_cons (pe_make0 T.mk_Book (ok_Book___init T) (hr.mono (by first | decide | omega)) (by rfl) T.g_Book T.b_Book___init .nil pass0) (pa_nil)))))
      (pss_cons (ps_set (i := 3) sc_law.nd rfl (by first | exact Or.inl rfl | exact Or.inr rfl) (pe_lst (pa_cons (pe_dnewK) (pa_cons (pe_dnewK) (pa_nil)))))
      (pss_cons (ps_for PassesOwn.never rfl (pi_range1 (by rfl) T.m_range (pa_cons (pe_ix (r := rIxL K) ix_list (pe_lst (pa_cons (pe_op op_mod (pe_callTy call_int1 (by rfl) T.m_int (by decide +kernel) (pa_cons (pe_call (ok_law_cell T) (hr.mono (by first | decide | omega)) (by rfl) T.g_law_cell T.F_law_cell.kp T.b_law_cell .nil pass0 (pa_cons (pv 0) (pa_cons (pe_int) (pa_nil)))) (pa_nil))) (pe_int)) (pa_cons (pe_int) (pa_nil)))) (pe_op op_mod (pe_callTy call_int1 (by rfl) T.m_int (by decide +kernel) (pa_cons (pe_op op_fdivW (pe_call (ok_law_cell T) (hr.mono (by first | decide | omega)) (by rfl) T.g_law_cell T.F_law_cell.kp T.b_law_cell .nil pass0 (pa_cons (pv 0) (pa_cons (pe_int) (pa_nil)))) (pe_int)) (pa_nil))) (pe_int)) (fun _ _ => rfl)) (pa_nil))) (pg_name (i := 4) sc_law.nd rfl (by first | exact Or.inl rfl | exact Or.inr rfl))
      (pss_cons (ps_set (i := 5) sc_law.nd rfl (by first | exact Or.inl rfl | exact Or.inr rfl) (pe_call (ok_law_draws T) (hr.mono (by first | decide | omega)) (by rfl) T.g_law_draws T.F_law_draws.kp T.b_law_draws .nil pass0 (pa_cons (pe_call (ok_law_thing T) (hr.mono (by first | decide | omega)) (by rfl) T.g_law_thing T.F_law_thing.kp T.b_law_thing .nil pass0 (pa_cons (pv 0) (pa_cons (pe_op op_add (pe_int) (pv 4)) (pa_nil)))) (pa_cons (pe_int) (pa_cons (pe_int) (pa_cons (pe_int) (pa_nil)))))))
      (pss_cons (ps_set (i := 6) sc_law.nd rfl (by first | exact Or.inl rfl | exact Or.inr rfl) (pe_op op_mod (pe_callTy call_int1 (by rfl) T.m_int (by decide +kernel) (pa_cons (pe_ix (r := rIxL K) ix_list (pv 5) (pe_int) (fun _ _ => rfl)) (pa_nil))) (pe_int)))
      (pss_cons (ps_set (i := 7) sc_law.nd rfl (by first | exact Or.inl rfl | exact Or.inr rfl) (pe_ix (r := rIxL K) ix_list (pv 1) (pe_op op_mod (pe_callTy call_int1 (by rfl) T.m_int (by decide +kernel) (pa_cons (pe_ix (r := rIxL K) ix_list (pv 5) (pe_int) (fun _ _ => rfl)) (pa_nil))) (pe_int)) (fun _ _ => rfl)))
      (pss_cons (ps_set (i := 8) sc_law.nd rfl (by first | exact Or.inl rfl | exact Or.inr rfl) (pe_ix (r := rIxL K) ix_list (pv 2) (pv 6) (fun _ _ => rfl)))
      (pss_cons (ps_set (i := 9) sc_law.nd rfl (by first | exact Or.inl rfl | exact Or.inr rfl) (pe_ix (r := rIxL K) ix_list (pv 3) (pv 6) (fun _ _ => rfl)))
      (pss_cut (ps_if (pt_cmpR op_eq (pe_op op_mod (pe_callTy call_int1 (by rfl) T.m_int (by decide +kernel) (pa_cons (pe_ix (r := rIxL K) ix_list (pv 5) (pe_int) (fun _ _ => rfl)) (pa_nil))) (pe_int)) (pe_int) (nomark _))
      (pss_cut (ps_if (pt_cmp (pc_dnotin hu (pv 7) (pv 9)))
      (pss_one (ps_dput hu (pv 9) (pv 7) (pe_op op_add (pe_callB call_lenD (by rfl) T.m_len (by decide +kernel) (pa_cons (pv 9) (pa_nil))) (pe_int)) rfl))
      (pss_nil))
      (pss_one (ps_if (pt_not (pt_val (pe_call (ok_law_is T) (hr.mono (by first | decide | omega)) (by rfl) T.g_law_is T.F_law_is.kp T.b_law_is .nil pass0 (pa_cons (pe_meth (pv 8) T.cl_Book T.me_Book_address (ok_Book_address T) (hr.mono (by first | decide | omega)) T.b_Book_address .nil pass0 (pa_cons (pv 7) (pa_nil))) (pa_cons (pe_dget hu (pv 9) (pv 7) (fun _ _ => rfl)) (pa_nil))))))
      (pss_one (ps_ret (pe_bl)))
      (pss_nil))))
      (pss_one (ps_if (pt_not (pt_val (pe_call (ok_law_is T) (hr.mono (by first | decide | omega)) (by rfl) T.g_law_is T.F_law_is.kp T.b_law_is .nil pass0 (pa_cons (pe_meth (pv 8) T.cl_Book T.me_Book_find (ok_Book_find T) (hr.mono (by first | decide | omega)) T.b_Book_find .nil pass0 (pa_cons (pv 7) (pa_nil))) (pa_cons (pe_dget2 hu (pv 9) (pv 7) (pe_int) ⟨rfl, rfl, rfl, rfl⟩) (pa_nil))))))
      (pss_one (ps_ret (pe_bl)))
      (pss_nil))))
      (pss_one (ps_if (PW.pt (pw_or (pt_cmpR op_ne (pe_callB (call_lenO T.me_Book___len.at_ T.me_Book___len.fn (ok_Book___len T) (hr.mono (by first | decide | omega)) T.b_Book___len) (by rfl) T.m_len (by decide +kernel) (pa_cons (pe_ix (r := rIxL K) ix_list (pv 2) (pe_int) (fun _ _ => rfl)) (pa_nil))) (pe_callB call_lenD (by rfl) T.m_len (by decide +kernel) (pa_cons (pe_ix (r := rIxL K) ix_list (pv 3) (pe_int) (fun _ _ => rfl)) (pa_nil))) (nomark _)) (pw_or1 (pt_cmpR op_ne (pe_callB (call_lenO T.me_Book___len.at_ T.me_Book___len.fn (ok_Book___len T) (hr.mono (by first | decide | omega)) T.b_Book___len) (by rfl) T.m_len (by decide +kernel) (pa_cons (pe_ix (r := rIxL K) ix_list (pv 2) (pe_int) (fun _ _ => rfl)) (pa_nil))) (pe_callB call_lenD (by rfl) T.m_len (by decide +kernel) (pa_cons (pe_ix (r := rIxL K) ix_list (pv 3) (pe_int) (fun _ _ => rfl)) (pa_nil))) (nomark _)))))
      (pss_one (ps_ret (pe_bl)))
      (pss_nil))))))))))
      (pss_cons (ps_for PassesOwn.never rfl (pi_list (pv 1)) (pg_name (i := 7) sc_law.nd rfl (by first | exact Or.inl rfl | exact Or.inr rfl))
      (pss_cons (ps_if (pt_not (pt_val (pe_call (ok_law_is T) (hr.mono (by first | decide | omega)) (by rfl) T.g_law_is T.F_law_is.kp T.b_law_is .nil pass0 (pa_cons (pe_meth (pe_ix (r := rIxL K) ix_list (pv 2) (pe_int) (fun _ _ => rfl)) T.cl_Book T.me_Book_find (ok_Book_find T) (hr.mono (by first | decide | omega)) T.b_Book_find .nil pass0 (pa_cons (pv 7) (pa_nil))) (pa_cons (pe_dget2 hu (pe_ix (r := rIxL K) ix_list (pv 3) (pe_int) (fun _ _ => rfl)) (pv 7) (pe_int) ⟨rfl, rfl, rfl, rfl⟩) (pa_nil))))))
      (pss_one (ps_ret (pe_bl)))
      (pss_nil))
      (pss_one (ps_if (pt_not (pt_val (pe_call (ok_law_is T) (hr.mono (by first | decide | omega)) (by rfl) T.g_law_is T.F_law_is.kp T.b_law_is .nil pass0 (pa_cons (pe_meth (pe_ix (r := rIxL K) ix_list (pv 2) (pe_int) (fun _ _ => rfl)) T.cl_Book T.me_Book_find (ok_Book_find T) (hr.mono (by first | decide | omega)) T.b_Book_find .nil pass0 (pa_cons (pv 7) (pa_nil))) (pa_cons (pe_dget2 hu (pe_ix (r := rIxL K) ix_list (pv 3) (pe_int) (fun _ _ => rfl)) (pv 7) (pe_int) ⟨rfl, rfl, rfl, rfl⟩) (pa_nil))))))
      (pss_one (ps_ret (pe_bl)))
      (pss_nil)))))
      (pss_one (ps_ret (pe_bl))))))), ?_⟩
    refine q_pool (K := K) rfl hS hw fun pl H1 zs npl e1 hpl hz => ?_
    refine q_books fun p0 d0 p1 d1 bl H2 e2 y0 y1 y2 hb0 hb1 hB => ?_
    refine q_dicts fun n0 n1 kl H3 e3 y3 y4 y5 hN0 hN1 hK => ?_
    have b0 : BS T.C_Book H H3 pl bl kl p0 d0 p1 d1 n0 n1 zs [] [] := {
      ex := e1.trans (e2.trans e3), pool := (e2.trans e3) _ _ hpl, books := e3 _ _ hB, known := hK, b0 := hb0.mono e3, b1 := hb1.mono e3,
      h0 := hN0, h1 := hN1, w0 := fresh_back e1 y0, w1 := fresh_back e1 y1, w2 := fresh_back (e1.trans e2) y3, w3 := fresh_back (e1.trans e2) y4,
      q1 := y2, q2 := ne_of_none hb0.2 y3, q3 := ne_of_none hb0.2 y4, q4 := ne_of_none hb1.2 y3, q5 := ne_of_none hb1.2 y4, q6 := y5, u0 := nums_nil, u1 := nums_nil }
    have hc := timesZ_le (cellZ ns 0)
    have m2 := Int.emod_nonneg (cellZ ns 0 / 30) (by decide : (2 : Int) ≠ 0)
    have m30 := Int.emod_nonneg (cellZ ns 0) (by decide : (30 : Int) ≠ 0)
    have hat : ([.int (cellZ ns 0 % 30), .int 57] : List V)[(cellZ ns 0 / 30 % 2).toNat]? = some (.int (timesZ (cellZ ns 0) : Int)) := by
      unfold timesZ
      by_cases h2 : cellZ ns 0 / 30 % 2 = 0
      · rw [if_pos h2, h2, Int.toNat_of_nonneg m30] <;> rfl
      · have h1 : cellZ ns 0 / 30 % 2 = 1 := by omega
        rw [if_neg h2, h1] <;> rfl
    refine q_forR1 (n := (timesZ (cellZ ns 0) : Int)) ?hA (by omega)
      (fun i σ' H' => ∃ (k0 k1 : List (Key × V)) (x4 x5 x6 x7 x8 x9 : Option V), σ' = [some (.ref a), some (.ref pl), some (.ref bl), some (.ref kl), x4, x5, x6, x7, x8, x9] ∧ BS T.C_Book H H' pl bl kl p0 d0 p1 d1 n0 n1 zs k0 k1 ∧ k0.length ≤ i ∧ k1.length ≤ i)
      (fun H8 e8 => ⟨[], [], _, _, _, _, _, _, rfl, b0.mono e8, Nat.le_refl 0, Nat.le_refl 0⟩) (fun i σ' H' hi hP => ?_) (fun σ' H' hP => ?_)
    case hA => exact ea_cons (ev_ixN (xs := [.int (cellZ ns 0 % 30), .int 57]) (i := cellZ ns 0 / 30 % 2) (el_lst (ea_cons (ev_bin (ev_intI (ev_call (ea_cons (ev_var rfl) (ea_cons ev_c ea_nil)) (cv_cell (k := 0) (ex_l b0.ex hS)))) ev_c (by decide)) (ea_cons ev_c ea_nil)) (by show 2 ≤ 100000; decide)) (fun H8 e8 => ev_bin (ev_intI (ev_bin (ev_call (ea_cons (ev_var rfl) (ea_cons ev_c ea_nil)) (cv_cell (k := 0) (ex_l (b0.ex.trans e8) hS))) ev_c ⟨by decide, by decide⟩)) ev_c (by decide)) (atI_of m2 hat)) ea_nil
    · obtain ⟨k0, k1, x4, x5, x6, x7, x8, x9, rfl, b, hl0, hl1⟩ := hP
      have hi57 : i < 57 := by omega
      have ct : Wd (thingZ ns (6 + i)) := Wd.thing hw (by omega)
      refine q_asgL (xs := (draws (thingZ ns (6 + i)) 1 3 1000).map V.int) (el_call (ea_cons (ev_call (ea_cons (ev_var rfl) (ea_cons (ev_is (ev_bin0 ev_c (ev_var rfl)) (congrArg V.int (show (6 : Int) + (i : Int) = ((6 + i : Nat) : Int) by omega))) ea_nil)) (cv_thing (ex_l b.ex hS) hw (by omega))) (ea_cons ev_c (ea_cons ev_c (ea_cons ev_c ea_nil)))) (cl_draws (count := 3) ct (by decide) (by decide) (by decide) (by decide))) fun hd H1 _ e1 hh => ?_
      have gl : (draws (thingZ ns (6 + i)) 1 3 1000).length = 3 := draws_len _ _ _ _
      generalize draws (thingZ ns (6 + i)) 1 3 1000 = gs at hh gl
      obtain ⟨g0, g1, g2, rfl⟩ : ∃ g0 g1 g2, gs = [g0, g1, g2] := by
        match gs, gl with
        | [x0, x1, x2], _ => exact ⟨x0, x1, x2, rfl⟩
      have it : ∀ {H' : Hp} {j : Nat} {x : Int} {σ : L2.St}, Ex H1 H' → σ[5]? = some (some (V.ref hd)) → [g0, g1, g2][j]? = some x → Ev (tOp (rIxL K) (tVar 5) (tC (.int (j : Int)))) σ H' (.int x) := fun e hσ hx => ev_ixL (K := K) (ev_var hσ) ev_c (sq_of (e _ _ hh)) (at_nat (by rw [List.getElem?_map, hx] <;> rfl))
      have m0 := Int.emod_nonneg g0 (by decide : (2 : Int) ≠ 0)
      have m0' := Int.emod_lt_of_pos g0 (by decide : (0 : Int) < 2)
      have m8 := Int.emod_nonneg g1 (by decide : (8 : Int) ≠ 0)
      have m8' := Int.emod_lt_of_pos g1 (by decide : (0 : Int) < 8)
      have b1 := b.mono e1
      refine q_asg (ev_bin (ev_intI (it (j := 0) (Ex.refl H1) rfl rfl)) ev_c (by decide)) fun H2 e2 => ?_
      have b2 := b1.mono e2
      obtain ⟨z, hzz⟩ : ∃ z, zs[(g1 % 8).toNat]? = some z := ⟨_, List.getElem?_eq_getElem (by omega)⟩
      refine q_asg (ev_ixL (K := K) (v := .str z) (ev_var rfl) (ev_bin (ev_intI (it (j := 1) e2 rfl rfl)) ev_c (by decide)) (sq_of b2.pool) (atI_of m8 (by rw [List.getElem?_map, hzz] <;> rfl))) fun H3 e3 => ?_
      have b3 := b2.mono e3
      obtain ⟨ps, ds, nn, ks, hb, hk, hB, hN, hU, hL, hsel⟩ : ∃ ps ds nn ks, ([.ref p0, .ref p1] : List V)[(g0 % 2).toNat]? = some (.ref ps) ∧ ([.ref n0, .ref n1] : List V)[(g0 % 2).toNat]? = some (.ref nn) ∧ BkAt T.C_Book H3 ps ds ks ∧ H3 nn = some (.dK ks) ∧ Nums ks ∧ ks.length ≤ i ∧ ((ds = d0 ∧ nn = n0 ∧ ks = k0) ∨ (ds = d1 ∧ nn = n1 ∧ ks = k1)) := by
        have hh : g0 % 2 = 0 ∨ g0 % 2 = 1 := by omega
        rcases hh with h | h
        · rw [h]
          exact ⟨p0, d0, n0, k0, rfl, rfl, b3.b0, b3.h0, b3.u0, hl0, .inl ⟨rfl, rfl, rfl⟩⟩
        · rw [h]
          exact ⟨p1, d1, n1, k1, rfl, rfl, b3.b1, b3.h1, b3.u1, hl1, .inr ⟨rfl, rfl, rfl⟩⟩
      refine q_asg (ev_ixL (K := K) (ev_var rfl) (ev_var rfl) (sq_of b3.books) (atI_of m0 hb)) fun H4 e4 => ?_
      refine q_asg (ev_ixL (K := K) (ev_var rfl) (ev_var rfl) (sq_of ((b3.mono e4).known)) (atI_of m0 hk)) fun H5 e5 => ?_
      have b5 := (b3.mono e4).mono e5
      obtain ⟨⟨dxs, hps⟩, hds⟩ := hB.mono (e4.trans e5)
      have hN5 := (e4.trans e5) _ _ hN
      have nds : ds ≠ nn := by
        rcases hsel with ⟨r1, r2, _⟩ | ⟨r1, r2, _⟩ <;> rw [r1, r2]
        · exact b.q2
        · exact b.q5
      have E5 : Ex H1 H5 := (e2.trans e3).trans (e4.trans e5)
      refine q_cut (M := fun σ' H' => ∃ ks', σ' = [some (.ref a), some (.ref pl), some (.ref bl), some (.ref kl), some (.int (i : Int)), some (.ref hd), some (.int (g0 % 2)), some (.str z), some (.ref ps), some (.ref nn)] ∧ ks'.length ≤ i + 1 ∧ Nums ks' ∧ H' ds = some (.dK ks') ∧ H' nn = some (.dK ks') ∧ ∀ c o, H5 c = some o → c ≠ ds → c ≠ nn → H' c = some o) ?_ fun σ' H' hM => ?_
      · refine s_if (b := decide (g2 % 2 = 0)) (et_test (ev_eqI (ev_bin (ev_intI (it (j := 2) E5 rfl rfl)) ev_c (by decide)) ev_c)) (fun hb H6 e6 => ?_) (fun hb H6 e6 => ?_)
        · have hN6 := e6 _ _ hN5
          have hd6 := e6 _ _ hds
          have hp6 := e6 _ _ hps
          refine q_cut (M := fun σ' H' => σ' = [some (.ref a), some (.ref pl), some (.ref bl), some (.ref kl), some (.int (i : Int)), some (.ref hd), some (.int (g0 % 2)), some (.str z), some (.ref ps), some (.ref nn)] ∧ H' nn = some (.dK (addK ks z)) ∧ ∀ c o, H6 c = some o → c ≠ nn → H' c = some o) ?_ fun σ' H' hM => ?_
          · refine ⟨_, rfl, _, rfl, nn, _, rfl, DGet.k (k := Sum.inr z) hN6, ?_⟩
            cases e : valV ks (Sum.inr z : Key) with
            | some v =>
              refine ⟨_, rfl, iteF ⟨rfl, ?_, fun c o h _ => h⟩⟩
              rw [addK_some e]
              exact hN6
            | none =>
              refine ⟨_, rfl, iteT ?_⟩
              refine ⟨_, rfl, nn, ks, rfl, hN6, _, _, rfl, rfl, ?_⟩
              refine ⟨_, rfl, _, rfl, nn, _, rfl, DPut.k (k := Sum.inr z) hN6 (szk (by omega)), rfl, ?_, fun c o h hc => by rw [upd_ne hc]; exact h⟩
              rw [addK_none e]
              exact upd_same
          · obtain ⟨rfl, hN7, f7⟩ := hM
            have hd7 := f7 _ _ hd6 nds
            have hp7 := f7 _ _ hp6 (ne_of hp6 hN6 (by intro z; cases z))
            obtain ⟨iv, hiv⟩ := addK_val hU z
            refine ⟨_, rfl, ps, dxs, aF ds, rfl, hp7, aF_no _ (by decide +kernel), _, rfl, ps, ds, ks, z, rfl, ⟨⟨dxs, hp7⟩, hd7⟩, by omega, fun v H8 hv hd8 f8 => ?_⟩
            have hN8 := f8 _ _ hN7 nds.symm
            have ev : v = .int iv := Option.some.inj (hv.symm.trans hiv)
            subst ev
            refine ⟨_, rfl, _, rfl, nn, .int iv, rfl, ?_, iv, iv, rfl, fun H9 e9 => ⟨_, rfl, ?_⟩⟩
            · rw [← hiv]
              exact DGet.k (k := Sum.inr z) hN8
            · refine iteNS rfl ?_
              refine ⟨addK ks z, rfl, Nat.le_trans (addK_len ks z) (by omega), nums_add hU z, e9 _ _ hd8, e9 _ _ hN8, fun c o h h1 h2 => e9 _ _ (f8 _ _ (f7 _ _ (e6 _ _ h) h2) h1)⟩
        · have hN6 := e6 _ _ hN5
          have hB6 : BkAt T.C_Book H6 ps ds ks := (hB.mono (e4.trans e5)).mono e6
          refine s_when (b := false) (et_is (et_not (et_B (ev_call (ea_cons (ev_bfind (ev_var rfl) (ev_var rfl) hB6) (ea_cons (ev_dget2 (ev_var rfl) (ev_var rfl) ev_c hN6) ea_nil)) (cv_is (getK_int hU z))))) rfl) (fun z => nomatch z) fun _ H7 e7 => ⟨ks, rfl, by omega, hU, (e6.trans e7) _ _ hds, e7 _ _ hN6, fun c o h _ _ => (e6.trans e7) _ _ h⟩
      · obtain ⟨ks', rfl, hl', hU', hd', hn', f'⟩ := hM
        obtain ⟨k0', k1', b', l0', l1'⟩ : ∃ k0' k1', BS T.C_Book H H' pl bl kl p0 d0 p1 d1 n0 n1 zs k0' k1' ∧ k0'.length ≤ i + 1 ∧ k1'.length ≤ i + 1 := by
          rcases hsel with ⟨rfl, rfl, rfl⟩ | ⟨rfl, rfl, rfl⟩
          · exact ⟨ks', k1, b5.step0 hd' hn' hU' f', hl', by omega⟩
          · exact ⟨k0, ks', b5.step1 hd' hn' hU' f', by omega, hl'⟩
        refine s_when (b := false) (et_is (et_or (a := false) (b := false) (et_is (et_test (ev_neI (ev_lenO (ev_ixL (K := K) (i := 0) (ev_var rfl) ev_c (sq_of b'.books) rfl) b'.b0 (by omega)) (ev_lenDv (ev_ixL (K := K) (i := 0) (ev_var rfl) ev_c (sq_of b'.known) rfl) b'.h0))) (by simp)) fun _ => et_is (et_test (ev_neI (ev_lenO (ev_ixL (K := K) (i := 1) (ev_var rfl) ev_c (sq_of b'.books) rfl) b'.b1 (by omega)) (ev_lenDv (ev_ixL (K := K) (i := 1) (ev_var rfl) ev_c (sq_of b'.known) rfl) b'.h1))) (by simp)) rfl) (fun z => nomatch z) fun _ H7 e7 => ⟨k0', k1', _, _, _, _, _, _, rfl, b'.mono e7, l0', l1'⟩
    · obtain ⟨k0, k1, x4, x5, x6, x7, x8, x9, rfl, b, hl0, hl1⟩ := hP
      refine q_forLn (K := K) (ev_var rfl) (sq_of b.pool) (fun i σ' H' => ∃ (x4 x5 x6 x7 x8 x9 : Option V), σ' = [some (.ref a), some (.ref pl), some (.ref bl), some (.ref kl), x4, x5, x6, x7, x8, x9] ∧ BS T.C_Book H H' pl bl kl p0 d0 p1 d1 n0 n1 zs k0 k1)
        (fun H8 e8 => ⟨_, _, _, _, _, _, rfl, b.mono e8⟩) (fun i σ' H' _ hP => ?_) (fun i x σ' H' hx hP => ?_) (fun σ' H' hP => ?_)
      · obtain ⟨x4, x5, x6, x7, x8, x9, rfl, b⟩ := hP
        exact sq_of b.pool
      · obtain ⟨x4, x5, x6, x7, x8, x9, rfl, b⟩ := hP
        rw [List.getElem?_map] at hx
        obtain ⟨z, hz, rfl⟩ : ∃ z, zs[i]? = some z ∧ x = V.str z := by
          cases e : zs[i]? with
          | none => rw [e] at hx; cases hx
          | some z => rw [e] at hx; exact ⟨z, rfl, (Option.some.inj hx).symm⟩
        refine q_when (b := false) (et_is (et_not (et_B (ev_call (ea_cons (ev_bfind (ev_ixL (K := K) (i := 0) (ev_var rfl) ev_c (sq_of b.books) rfl) (ev_var rfl) b.b0) (ea_cons (ev_dget2 (ev_ixL (K := K) (i := 0) (ev_var rfl) ev_c (sq_of b.known) rfl) (ev_var rfl) ev_c b.h0) ea_nil)) (cv_is (getK_int b.u0 z))))) rfl) (fun z => nomatch z) fun _ H8 e8 => ?_
        have b8 := b.mono e8
        exact s_when (b := false) (et_is (et_not (et_B (ev_call (ea_cons (ev_bfind (ev_ixL (K := K) (i := 1) (ev_var rfl) ev_c (sq_of b8.books) rfl) (ev_var rfl) b8.b1) (ea_cons (ev_dget2 (ev_ixL (K := K) (i := 1) (ev_var rfl) ev_c (sq_of b8.known) rfl) (ev_var rfl) ev_c b8.h1) ea_nil)) (cv_is (getK_int b8.u1 z))))) rfl) (fun z => nomatch z) fun _ H9 e9 => ⟨_, _, _, _, _, _, rfl, b8.mono e9⟩
      · obtain ⟨x4, x5, x6, x7, x8, x9, rfl, b⟩ := hP
        exact s_ret ev_c fun H8 e8 => q H8


end

theorem all_mk {l : PySem.W.OpenLaw} {w : World} {K : PySem.W.Frag} {h : Heap} {mg : Str → Option Value} {fa C_Book f_Book___init f_Book___len f_Book_address f_Book_find f_law_cell f_law_draws f_law_is f_law_char f_law_text f_law_thing f_law_pool f_law : Addr} (X : K.In h) (G : h.Ns mainGlobals mg) (hfa : mg "law" = some (.ref fa))
    {od_Book___init an_Book___init : Option Addr} {sl_Book___init : Array (Option Value)} {oc_Book___init kV_Book___init dc_Book___init pm_Book___init cd_Book___init ct_Book___init : Value}
    {od_Book___len an_Book___len : Option Addr} {sl_Book___len : Array (Option Value)} {oc_Book___len kV_Book___len dc_Book___len pm_Book___len cd_Book___len ct_Book___len : Value}
    {od_Book_address an_Book_address : Option Addr} {sl_Book_address : Array (Option Value)} {oc_Book_address kV_Book_address dc_Book_address pm_Book_address cd_Book_address ct_Book_address : Value}
    {od_Book_find an_Book_find : Option Addr} {sl_Book_find : Array (Option Value)} {oc_Book_find kV_Book_find dc_Book_find pm_Book_find cd_Book_find ct_Book_find : Value}
    {od_law_cell an_law_cell : Option Addr} {sl_law_cell : Array (Option Value)} {oc_law_cell kV_law_cell dc_law_cell pm_law_cell cd_law_cell ct_law_cell : Value}
    {od_law_draws an_law_draws : Option Addr} {sl_law_draws : Array (Option Value)} {oc_law_draws kV_law_draws dc_law_draws pm_law_draws cd_law_draws ct_law_draws : Value}
    {od_law_is an_law_is : Option Addr} {sl_law_is : Array (Option Value)} {oc_law_is kV_law_is dc_law_is pm_law_is cd_law_is ct_law_is : Value}
    {od_law_char an_law_char : Option Addr} {sl_law_char : Array (Option Value)} {oc_law_char kV_law_char dc_law_char pm_law_char cd_law_char ct_law_char : Value}
    {od_law_text an_law_text : Option Addr} {sl_law_text : Array (Option Value)} {oc_law_text kV_law_text dc_law_text pm_law_text cd_law_text ct_law_text : Value}
    {od_law_thing an_law_thing : Option Addr} {sl_law_thing : Array (Option Value)} {oc_law_thing kV_law_thing dc_law_thing pm_law_thing cd_law_thing ct_law_thing : Value}
    {od_law_pool an_law_pool : Option Addr} {sl_law_pool : Array (Option Value)} {oc_law_pool kV_law_pool dc_law_pool pm_law_pool cd_law_pool ct_law_pool : Value}
    {od_law an_law : Option Addr} {sl_law : Array (Option Value)} {oc_law kV_law dc_law pm_law cd_law ct_law : Value}
    (aC_Book : PySem.W.nsIn K mainGlobals "Book" = some (some (.ref C_Book))) (pg_Book : PySem.W.plainGet K C_Book Str.empty = true) (hd_Book : PySem.W.hasDictIn K C_Book = true) (po_Book : PySem.W.plainOver K C_Book = true) (sa_Book : PySem.W.findIn K (.ref C_Book) "__setattr__" = some (some (.builtin "object.__setattr__"))) (mk_Book : PySem.W.makesIn K C_Book = true) (kc_Book : PySem.W.keepIn K (.ref C_Book) = true)
    (na_Book__addresses : PySem.W.findIn K (.ref C_Book) "_addresses" = some none)
    (a_Book___init : PySem.W.findIn K (.ref C_Book) "__init__" = some (some (.ref f_Book___init))) (i_Book___init : PySem.W.isFn K (.ref f_Book___init) = true) (l_Book___init : K.lookup f_Book___init = some ⟨oc_Book___init, od_Book___init, .func (PySem.W.fnOf "__init__" "Book.__init__" (defArgs s_Book___init) (defBody s_Book___init) (defScope s_Book___init) .none kV_Book___init dc_Book___init pm_Book___init an_Book___init cd_Book___init ct_Book___init), sl_Book___init⟩) (c_Book___init : PySem.W.codeIn K cd_Book___init "Book.__init__" = true) (k_Book___init : PySem.W.keepIn K (.ref f_Book___init) = true)
    (a_Book___len : PySem.W.findIn K (.ref C_Book) "__len__" = some (some (.ref f_Book___len))) (i_Book___len : PySem.W.isFn K (.ref f_Book___len) = true) (l_Book___len : K.lookup f_Book___len = some ⟨oc_Book___len, od_Book___len, .func (PySem.W.fnOf "__len__" "Book.__len__" (defArgs s_Book___len) (defBody s_Book___len) (defScope s_Book___len) .none kV_Book___len dc_Book___len pm_Book___len an_Book___len cd_Book___len ct_Book___len), sl_Book___len⟩) (c_Book___len : PySem.W.codeIn K cd_Book___len "Book.__len__" = true) (k_Book___len : PySem.W.keepIn K (.ref f_Book___len) = true)
    (a_Book_address : PySem.W.findIn K (.ref C_Book) "address" = some (some (.ref f_Book_address))) (i_Book_address : PySem.W.isFn K (.ref f_Book_address) = true) (l_Book_address : K.lookup f_Book_address = some ⟨oc_Book_address, od_Book_address, .func (PySem.W.fnOf "address" "Book.address" (defArgs s_Book_address) (defBody s_Book_address) (defScope s_Book_address) .none kV_Book_address dc_Book_address pm_Book_address an_Book_address cd_Book_address ct_Book_address), sl_Book_address⟩) (c_Book_address : PySem.W.codeIn K cd_Book_address "Book.address" = true) (k_Book_address : PySem.W.keepIn K (.ref f_Book_address) = true)
    (a_Book_find : PySem.W.findIn K (.ref C_Book) "find" = some (some (.ref f_Book_find))) (i_Book_find : PySem.W.isFn K (.ref f_Book_find) = true) (l_Book_find : K.lookup f_Book_find = some ⟨oc_Book_find, od_Book_find, .func (PySem.W.fnOf "find" "Book.find" (defArgs s_Book_find) (defBody s_Book_find) (defScope s_Book_find) .none kV_Book_find dc_Book_find pm_Book_find an_Book_find cd_Book_find ct_Book_find), sl_Book_find⟩) (c_Book_find : PySem.W.codeIn K cd_Book_find "Book.find" = true) (k_Book_find : PySem.W.keepIn K (.ref f_Book_find) = true)
    (a_law_cell : PySem.W.nsIn K mainGlobals "_law_cell" = some (some (.ref f_law_cell))) (l_law_cell : K.lookup f_law_cell = some ⟨oc_law_cell, od_law_cell, .func (PySem.W.fnOf "_law_cell" "_law_cell" (defArgs s_law_cell) (defBody s_law_cell) (defScope s_law_cell) .none kV_law_cell dc_law_cell pm_law_cell an_law_cell cd_law_cell ct_law_cell), sl_law_cell⟩) (c_law_cell : PySem.W.codeIn K cd_law_cell "_law_cell" = true) (k_law_cell : PySem.W.keepIn K (.ref f_law_cell) = true)
    (a_law_draws : PySem.W.nsIn K mainGlobals "_law_draws" = some (some (.ref f_law_draws))) (l_law_draws : K.lookup f_law_draws = some ⟨oc_law_draws, od_law_draws, .func (PySem.W.fnOf "_law_draws" "_law_draws" (defArgs s_law_draws) (defBody s_law_draws) (defScope s_law_draws) .none kV_law_draws dc_law_draws pm_law_draws an_law_draws cd_law_draws ct_law_draws), sl_law_draws⟩) (c_law_draws : PySem.W.codeIn K cd_law_draws "_law_draws" = true) (k_law_draws : PySem.W.keepIn K (.ref f_law_draws) = true)
    (a_law_is : PySem.W.nsIn K mainGlobals "_law_is" = some (some (.ref f_law_is))) (l_law_is : K.lookup f_law_is = some ⟨oc_law_is, od_law_is, .func (PySem.W.fnOf "_law_is" "_law_is" (defArgs s_law_is) (defBody s_law_is) (defScope s_law_is) .none kV_law_is dc_law_is pm_law_is an_law_is cd_law_is ct_law_is), sl_law_is⟩) (c_law_is : PySem.W.codeIn K cd_law_is "_law_is" = true) (k_law_is : PySem.W.keepIn K (.ref f_law_is) = true)
    (a_law_char : PySem.W.nsIn K mainGlobals "_law_char" = some (some (.ref f_law_char))) (l_law_char : K.lookup f_law_char = some ⟨oc_law_char, od_law_char, .func (PySem.W.fnOf "_law_char" "_law_char" (defArgs s_law_char) (defBody s_law_char) (defScope s_law_char) .none kV_law_char dc_law_char pm_law_char an_law_char cd_law_char ct_law_char), sl_law_char⟩) (c_law_char : PySem.W.codeIn K cd_law_char "_law_char" = true) (k_law_char : PySem.W.keepIn K (.ref f_law_char) = true)
    (a_law_text : PySem.W.nsIn K mainGlobals "_law_text" = some (some (.ref f_law_text))) (l_law_text : K.lookup f_law_text = some ⟨oc_law_text, od_law_text, .func (PySem.W.fnOf "_law_text" "_law_text" (defArgs s_law_text) (defBody s_law_text) (defScope s_law_text) .none kV_law_text dc_law_text pm_law_text an_law_text cd_law_text ct_law_text), sl_law_text⟩) (c_law_text : PySem.W.codeIn K cd_law_text "_law_text" = true) (k_law_text : PySem.W.keepIn K (.ref f_law_text) = true)
    (a_law_thing : PySem.W.nsIn K mainGlobals "_law_thing" = some (some (.ref f_law_thing))) (l_law_thing : K.lookup f_law_thing = some ⟨oc_law_thing, od_law_thing, .func (PySem.W.fnOf "_law_thing" "_law_thing" (defArgs s_law_thing) (defBody s_law_thing) (defScope s_law_thing) .none kV_law_thing dc_law_thing pm_law_thing an_law_thing cd_law_thing ct_law_thing), sl_law_thing⟩) (c_law_thing : PySem.W.codeIn K cd_law_thing "_law_thing" = true) (k_law_thing : PySem.W.keepIn K (.ref f_law_thing) = true)
    (a_law_pool : PySem.W.nsIn K mainGlobals "_law_pool" = some (some (.ref f_law_pool))) (l_law_pool : K.lookup f_law_pool = some ⟨oc_law_pool, od_law_pool, .func (PySem.W.fnOf "_law_pool" "_law_pool" (defArgs s_law_pool) (defBody s_law_pool) (defScope s_law_pool) .none kV_law_pool dc_law_pool pm_law_pool an_law_pool cd_law_pool ct_law_pool), sl_law_pool⟩) (c_law_pool : PySem.W.codeIn K cd_law_pool "_law_pool" = true) (k_law_pool : PySem.W.keepIn K (.ref f_law_pool) = true)
    (a_law : PySem.W.nsIn K mainGlobals "law" = some (some (.ref f_law))) (l_law : K.lookup f_law = some ⟨oc_law, od_law, .func (PySem.W.fnOf "law" "law" (defArgs s_law) (defBody s_law) (defScope s_law) .none kV_law dc_law pm_law an_law cd_law ct_law), sl_law⟩) (c_law : PySem.W.codeIn K cd_law "law" = true) (k_law : PySem.W.keepIn K (.ref f_law) = true)
    (z_bool : PySem.W.nsIn K mainGlobals "bool" = some none)
    (z_int : PySem.W.nsIn K mainGlobals "int" = some none)
    (z_isinstance : PySem.W.nsIn K mainGlobals "isinstance" = some none)
    (z_len : PySem.W.nsIn K mainGlobals "len" = some none)
    (z_range : PySem.W.nsIn K mainGlobals "range" = some none) :
    ∃ fd : FuncData, (∀ (s : Shared) (v : Value), BindsTo s fd ⟨[v], []⟩ [("script", v)]) ∧ ∀ base : Heap, K.In base → base.Ns mainGlobals mg → FnOk l.prog w K mg base CX0 4 fa fd ["script"] (spLaw K) := by
  have e := hfa.symm.trans (PySem.W.mg_of X G a_law)
  cases e
  have F_Book___init := fun_mk (st := s_Book___init) l_Book___init c_Book___init k_Book___init
  have F_Book___len := fun_mk (st := s_Book___len) l_Book___len c_Book___len k_Book___len
  have F_Book_address := fun_mk (st := s_Book_address) l_Book_address c_Book_address k_Book_address
  have F_Book_find := fun_mk (st := s_Book_find) l_Book_find c_Book_find k_Book_find
  have F_law_cell := fun_mk (st := s_law_cell) l_law_cell c_law_cell k_law_cell
  have F_law_draws := fun_mk (st := s_law_draws) l_law_draws c_law_draws k_law_draws
  have F_law_is := fun_mk (st := s_law_is) l_law_is c_law_is k_law_is
  have F_law_char := fun_mk (st := s_law_char) l_law_char c_law_char k_law_char
  have F_law_text := fun_mk (st := s_law_text) l_law_text c_law_text k_law_text
  have F_law_thing := fun_mk (st := s_law_thing) l_law_thing c_law_thing k_law_thing
  have F_law_pool := fun_mk (st := s_law_pool) l_law_pool c_law_pool k_law_pool
  have F_law := fun_mk (st := s_law) l_law c_law k_law
  let T : Txt K mg := {
    C_Book := C_Book, g_Book := PySem.W.mg_of X G aC_Book, cl_Book := ⟨pg_Book, hd_Book, po_Book, sa_Book⟩,
    na_Book__addresses := na_Book__addresses,
    f_Book___init := f_Book___init, d_Book___init := _, F_Book___init := F_Book___init, b_Book___init := (F_Book___init.binds (ps := ["self"]) fun _ _ _ _ _ _ us hl => match us, hl with | [_], _ => rfl),
    mk_Book := ⟨mk_Book, a_Book___init, i_Book___init, kc_Book⟩,
    f_Book___len := f_Book___len, d_Book___len := _, F_Book___len := F_Book___len, b_Book___len := (F_Book___len.binds (ps := ["self"]) fun _ _ _ _ _ _ us hl => match us, hl with | [_], _ => rfl),
    me_Book___len := ⟨a_Book___len, i_Book___len, k_Book___len⟩,
    f_Book_address := f_Book_address, d_Book_address := _, F_Book_address := F_Book_address, b_Book_address := (F_Book_address.binds (ps := ["self", "text"]) fun _ _ _ _ _ _ us hl => match us, hl with | [_, _], _ => rfl),
    me_Book_address := ⟨a_Book_address, i_Book_address, k_Book_address⟩,
    f_Book_find := f_Book_find, d_Book_find := _, F_Book_find := F_Book_find, b_Book_find := (F_Book_find.binds (ps := ["self", "text"]) fun _ _ _ _ _ _ us hl => match us, hl with | [_, _], _ => rfl),
    me_Book_find := ⟨a_Book_find, i_Book_find, k_Book_find⟩,
    f_law_cell := f_law_cell, d_law_cell := _, F_law_cell := F_law_cell, b_law_cell := (F_law_cell.binds (ps := ["script", "k"]) fun _ _ _ _ _ _ us hl => match us, hl with | [_, _], _ => rfl),
    g_law_cell := PySem.W.mg_of X G a_law_cell,
    f_law_draws := f_law_draws, d_law_draws := _, F_law_draws := F_law_draws, b_law_draws := (F_law_draws.binds (ps := ["cell", "salt", "count", "base"]) fun _ _ _ _ _ _ us hl => match us, hl with | [_, _, _, _], _ => rfl),
    g_law_draws := PySem.W.mg_of X G a_law_draws,
    f_law_is := f_law_is, d_law_is := _, F_law_is := F_law_is, b_law_is := (F_law_is.binds (ps := ["actual", "expected"]) fun _ _ _ _ _ _ us hl => match us, hl with | [_, _], _ => rfl),
    g_law_is := PySem.W.mg_of X G a_law_is,
    f_law_char := f_law_char, d_law_char := _, F_law_char := F_law_char, b_law_char := (F_law_char.binds (ps := ["number"]) fun _ _ _ _ _ _ us hl => match us, hl with | [_], _ => rfl),
    g_law_char := PySem.W.mg_of X G a_law_char,
    f_law_text := f_law_text, d_law_text := _, F_law_text := F_law_text, b_law_text := (F_law_text.binds (ps := ["cell"]) fun _ _ _ _ _ _ us hl => match us, hl with | [_], _ => rfl),
    g_law_text := PySem.W.mg_of X G a_law_text,
    f_law_thing := f_law_thing, d_law_thing := _, F_law_thing := F_law_thing, b_law_thing := (F_law_thing.binds (ps := ["script", "k"]) fun _ _ _ _ _ _ us hl => match us, hl with | [_, _], _ => rfl),
    g_law_thing := PySem.W.mg_of X G a_law_thing,
    f_law_pool := f_law_pool, d_law_pool := _, F_law_pool := F_law_pool, b_law_pool := (F_law_pool.binds (ps := ["script"]) fun _ _ _ _ _ _ us hl => match us, hl with | [_], _ => rfl),
    g_law_pool := PySem.W.mg_of X G a_law_pool,
    f_law := fa, d_law := _, F_law := F_law, b_law := (F_law.binds (ps := ["script"]) fun _ _ _ _ _ _ us hl => match us, hl with | [_], _ => rfl),
    g_law := PySem.W.mg_of X G a_law,
    m_bool := PySem.W.mg_none_of X G z_bool,
    m_int := PySem.W.mg_none_of X G z_int,
    m_isinstance := PySem.W.mg_none_of X G z_isinstance,
    m_len := PySem.W.mg_none_of X G z_len,
    m_range := PySem.W.mg_none_of X G z_range }
  exact ⟨PySem.W.fnOf "law" "law" (defArgs s_law) (defBody s_law) (defScope s_law) .none kV_law dc_law pm_law an_law cd_law ct_law, fun s v => .of_eq rfl, fun base _ _ => ok_law T⟩

end Vt

open PySem PySem.W PyProof.Rows
set_option maxHeartbeats 0 in
theorem PySem.Challenge.cw_versiontables_k09_book_addresses_holds : PySem.Challenge.rw_versiontables_k09_book_addresses.Holds := by
  w_on; o_law; k_head; (case hw => w_witness2)
  k_fill
  refine L2.walk_ofB (l := PySem.Challenge.rw_versiontables_k09_book_addresses) (n := 63) (k := 4) (x := "script") (CX := fun _ => L2.CX0) (sp := fun w => Vt.spLaw _) rfl (by decide) rfl ⟨rfl, by decide, by decide⟩ (fun w h Y => PySem.W.kIn_of Y) ?F (fun _ _ a ns hl hb _ hS => ⟨a, ns, rfl, hS, hl, hb, fun _ => rfl⟩) (fun _ _ _ _ _ h => h)
  case F =>
    intro w mg fa h KX G hmg
    refine' Vt.all_mk KX G hmg ?aC_Book ?pg_Book ?hd_Book ?po_Book ?sa_Book ?mk_Book ?kc_Book ?na_Book__addresses ?a_Book___init ?i_Book___init ?l_Book___init ?c_Book___init ?k_Book___init ?a_Book___len ?i_Book___len ?l_Book___len ?c_Book___len ?k_Book___len ?a_Book_address ?i_Book_address ?l_Book_address ?c_Book_address ?k_Book_address ?a_Book_find ?i_Book_find ?l_Book_find ?c_Book_find ?k_Book_find ?a_law_cell ?l_law_cell ?c_law_cell ?k_law_cell ?a_law_draws ?l_law_draws ?c_law_draws ?k_law_draws ?a_law_is ?l_law_is ?c_law_is ?k_law_is ?a_law_char ?l_law_char ?c_law_char ?k_law_char ?a_law_text ?l_law_text ?c_law_text ?k_law_text ?a_law_thing ?l_law_thing ?c_law_thing ?k_law_thing ?a_law_pool ?l_law_pool ?c_law_pool ?k_law_pool ?a_law ?l_law ?c_law ?k_law ?z_bool ?z_int ?z_isinstance ?z_len ?z_range
    (case aC_Book => k_is)
    (case pg_Book => k_is)
    (case hd_Book => k_is)
    (case po_Book => k_is)
    (case sa_Book => k_is)
    (case mk_Book => k_is)
    (case kc_Book => k_is)
    (case na_Book__addresses => k_is)
    (case a_Book___init => k_is)
    (case i_Book___init => k_is)
    (case l_Book___init => k_is)
    (case c_Book___init => k_is)
    (case k_Book___init => k_is)
    (case a_Book___len => k_is)
    (case i_Book___len => k_is)
    (case l_Book___len => k_is)
    (case c_Book___len => k_is)
    (case k_Book___len => k_is)
    (case a_Book_address => k_is)
    (case i_Book_address => k_is)
    (case l_Book_address => k_is)
    (case c_Book_address => k_is)
    (case k_Book_address => k_is)
    (case a_Book_find => k_is)
    (case i_Book_find => k_is)
    (case l_Book_find => k_is)
    (case c_Book_find => k_is)
    (case k_Book_find => k_is)
    (case a_law_cell => k_is)
    (case l_law_cell => k_is)
    (case c_law_cell => k_is)
    (case k_law_cell => k_is)
    (case a_law_draws => k_is)
    (case l_law_draws => k_is)
    (case c_law_draws => k_is)
    (case k_law_draws => k_is)
    (case a_law_is => k_is)
    (case l_law_is => k_is)
    (case c_law_is => k_is)
    (case k_law_is => k_is)
    (case a_law_char => k_is)
    (case l_law_char => k_is)
    (case c_law_char => k_is)
    (case k_law_char => k_is)
    (case a_law_text => k_is)
    (case l_law_text => k_is)
    (case c_law_text => k_is)
    (case k_law_text => k_is)
    (case a_law_thing => k_is)
    (case l_law_thing => k_is)
    (case c_law_thing => k_is)
    (case k_law_thing => k_is)
    (case a_law_pool => k_is)
    (case l_law_pool => k_is)
    (case c_law_pool => k_is)
    (case k_law_pool => k_is)
    (case a_law => k_is)
    (case l_law => k_is)
    (case c_law => k_is)
    (case k_law => k_is)
    (case z_bool => k_is)
    (case z_int => k_is)
    (case z_isinstance => k_is)
    (case z_len => k_is)
    (case z_range => k_is)
