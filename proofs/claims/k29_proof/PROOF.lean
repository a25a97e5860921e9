import PyProof.Rows.All
import Wide.All
import OpenK.AllK
import Wide.FinOn
import HandS.ForMost
import HandS.Evl
import HandS.IsInst
import HandS.FStr
import HandS.WideBits
import HandS.Wide
import HandS.EndBits
import HandS.Exc
import HandS.TupAny
import PyProof.StrOps2
import HandS.ExcOwn
import HandS.ExcIs
import HandS.ExcCtx
import HandS.SuiteRaise
import HandS.RaiseFrom
import HandS.ExcValue
import HandS.ExcValueFrom
import HandS.WordsExc
import HandS.Replace
import HandS.ReplaceLit
import HandS.NoneIn
import HandS.StrMore
import HandS.TupLe
import HandS.Sort
import HandS.SortKw
import HandS.Lambda
import HandS.EndTab
import KE.KNestM
import KE.SortKeyHeap
import KE.SortData
import HandS.Iter
import KE.GoesMore
import KE.GoesEnum
import HandS.SetTxt0
import HandS.Set
import HandS.Strs
import HandS.Star
import HandS.Zip
import KE.KDictZip
import PySem.Challenge.RW_versiontables_k29_choice


set_option Elab.async false
set_option linter.all false
set_option maxRecDepth 100000
set_option maxHeartbeats 400000

namespace Vt
open PySem PySem.Spec PyProof.Rows L2 Evl

def topS (i : Nat) : Stmt := PySem.Challenge.pw_versiontables_k29_choice.main.body.getD i (.Pass ⟨0, 0, 0, 0⟩)

abbrev s_law_cell : Stmt := topS 4

theorem sc_law_cell : FnScope ["script", "k"] ["script", "k"] (defScope s_law_cell) := ⟨rfl, rfl, rfl, by decide +kernel, rfl, by decide +kernel, by decide +kernel⟩

abbrev s_law_copied : Stmt := topS 8

theorem sc_law_copied : FnScope ["thing", "part"] ["thing"] (defScope s_law_copied) := ⟨rfl, rfl, rfl, by decide +kernel, rfl, by decide +kernel, by decide +kernel⟩

abbrev s_law_numbers : Stmt := topS 5

theorem sc_law_numbers : FnScope ["cell", "count", "numbers", "k", "mixed"] ["cell", "count"] (defScope s_law_numbers) := ⟨rfl, rfl, rfl, by decide +kernel, rfl, by decide +kernel, by decide +kernel⟩

abbrev s_law_text : Stmt := topS 6

theorem sc_law_text : FnScope ["a", "b", "chars", "size", "k"] ["a", "b"] (defScope s_law_text) := ⟨rfl, rfl, rfl, by decide +kernel, rfl, by decide +kernel, by decide +kernel⟩

abbrev s_law_thing : Stmt := topS 7

theorem sc_law_thing : FnScope ["cell", "numbers", "sort"] ["cell", "numbers"] (defScope s_law_thing) := ⟨rfl, rfl, rfl, by decide +kernel, rfl, by decide +kernel, by decide +kernel⟩

abbrev s_choose : Stmt := topS 2

theorem sc_choose : FnScope ["base", "ours", "theirs"] ["base", "ours", "theirs"] (defScope s_choose) := ⟨rfl, rfl, rfl, by decide +kernel, rfl, by decide +kernel, by decide +kernel⟩

abbrev s_clash : Stmt := topS 1

theorem sc_clash : FnScope ["base", "ours", "theirs"] ["base", "ours", "theirs"] (defScope s_clash) := ⟨rfl, rfl, rfl, by decide +kernel, rfl, by decide +kernel, by decide +kernel⟩

abbrev s_law : Stmt := topS 9

theorem sc_law : FnScope ["script", "things", "k", "numbers", "base", "ours", "theirs", "number", "due", "told", "chosen", "back", "other"] ["script"] (defScope s_law) := ⟨rfl, rfl, rfl, by decide +kernel, rfl, by decide +kernel, by decide +kernel⟩

structure Txt (K : PySem.W.Frag) (mg : Str → Option Value) where
  f_law_cell : Addr
  d_law_cell : FuncData
  F_law_cell : Fun K "_law_cell" "_law_cell" s_law_cell f_law_cell d_law_cell
  b_law_cell : Binds K d_law_cell ["script", "k"] []
  g_law_cell : mg "_law_cell" = some (.ref f_law_cell)
  f_law_copied : Addr
  d_law_copied : FuncData
  F_law_copied : Fun K "_law_copied" "_law_copied" s_law_copied f_law_copied d_law_copied
  b_law_copied : Binds K d_law_copied ["thing"] []
  g_law_copied : mg "_law_copied" = some (.ref f_law_copied)
  f_law_numbers : Addr
  d_law_numbers : FuncData
  F_law_numbers : Fun K "_law_numbers" "_law_numbers" s_law_numbers f_law_numbers d_law_numbers
  b_law_numbers : Binds K d_law_numbers ["cell", "count"] []
  g_law_numbers : mg "_law_numbers" = some (.ref f_law_numbers)
  f_law_text : Addr
  d_law_text : FuncData
  F_law_text : Fun K "_law_text" "_law_text" s_law_text f_law_text d_law_text
  b_law_text : Binds K d_law_text ["a", "b"] []
  g_law_text : mg "_law_text" = some (.ref f_law_text)
  f_law_thing : Addr
  d_law_thing : FuncData
  F_law_thing : Fun K "_law_thing" "_law_thing" s_law_thing f_law_thing d_law_thing
  b_law_thing : Binds K d_law_thing ["cell", "numbers"] []
  g_law_thing : mg "_law_thing" = some (.ref f_law_thing)
  f_choose : Addr
  d_choose : FuncData
  F_choose : Fun K "choose" "choose" s_choose f_choose d_choose
  b_choose : Binds K d_choose ["base", "ours", "theirs"] []
  g_choose : mg "choose" = some (.ref f_choose)
  f_clash : Addr
  d_clash : FuncData
  F_clash : Fun K "clash" "clash" s_clash f_clash d_clash
  b_clash : Binds K d_clash ["base", "ours", "theirs"] []
  g_clash : mg "clash" = some (.ref f_clash)
  f_law : Addr
  d_law : FuncData
  F_law : Fun K "law" "law" s_law f_law d_law
  b_law : Binds K d_law ["script"] []
  g_law : mg "law" = some (.ref f_law)
  m_bool : mg "bool" = none
  m_int : mg "int" = none
  m_isinstance : mg "isinstance" = none
  m_len : mg "len" = none
  m_list : mg "list" = none
  m_range : mg "range" = none
  m_tuple : mg "tuple" = none

/-! ### sizes of ints -/
/-- an int of at most some million bits -/
structure Wd (n : Int) : Prop where
  h : n.natAbs.log2 < 1100000
theorem log2_mono {a b : Nat} (h : a ≤ b) : a.log2 ≤ b.log2 := by
  by_cases ha : a = 0
  · subst ha
    exact Nat.le_trans (Nat.le_of_eq (by decide)) (Nat.zero_le _)
  · refine Nat.lt_succ_iff.mp ((Nat.log2_lt ha).mpr (Nat.lt_of_le_of_lt h Nat.lt_log2_self))
theorem Wd.le {n m : Int} (h : Wd n) (e : m.natAbs ≤ n.natAbs) : Wd m := ⟨Nat.lt_of_le_of_lt (log2_mono e) h.h⟩
theorem Wd.lt {n : Int} (h : n.natAbs < 2 ^ 9000) : Wd n := ⟨Nat.lt_trans (PySem.Flt.log2_lt_of (by decide) h) (by decide)⟩
theorem Wd.lit {n : Int} (h : n.natAbs < 2 ^ 256) : Wd n := ⟨Nat.lt_trans (PySem.Flt.log2_lt_of (by decide) h) (by decide)⟩
theorem Wd.bits {n : Int} (h : Builtin.Int.intBits n ≤ 1048576) : Wd n := by
  unfold Builtin.Int.intBits at h
  by_cases e : n = 0
  · subst e
    exact Wd.lit (by decide)
  · rw [if_neg (by simpa using e)] at h
    exact ⟨by omega⟩
theorem Wd.small {n : Int} (h1 : -(2 ^ 64) < n) (h2 : n < 2 ^ 64) : Wd n := Wd.lit (by
  have : n.natAbs < 2 ^ 64 := by omega
  exact Nat.lt_of_lt_of_le this (by decide))
theorem Wd.div {n b : Int} (h : Wd n) : Wd (n / b) := h.le (Int.natAbs_ediv_le_natAbs n b)
theorem Wd.mod {n b : Int} (hb : 0 < b) (h : Wd b) : Wd (n % b) := h.le (by
  have h1 := Int.emod_nonneg n (by omega : b ≠ 0)
  have h2 := Int.emod_lt_of_pos n hb
  omega)
theorem Wd.neg {n : Int} (h : Wd n) : Wd (-n) := h.le (by omega)
theorem bits_log (n : Int) : Builtin.Int.intBits n ≤ n.natAbs.log2 + 1 := by
  unfold Builtin.Int.intBits
  split <;> omega
theorem Wd.mul {i j : Int} (hi : Wd i) (hj : Wd j) : CMulX i j := by
  have a := bits_log i
  have b := bits_log j
  have c := hi.h
  have d := hj.h
  unfold CMulX
  omega
/-- what falls to a comparison of two ints -/
theorem dec_int {i j : Int} : decide (V.int i = V.int j) = decide (i = j) := by
  by_cases h : i = j
  · rw [decide_eq_true h, decide_eq_true (congrArg V.int h)]
  · rw [decide_eq_false h, decide_eq_false fun e => h (V.int.inj e)]
theorem dec_str {i j : Str} : decide (V.str i = V.str j) = decide (i = j) := by
  by_cases h : i = j
  · rw [decide_eq_true h, decide_eq_true (congrArg V.str h)]
  · rw [decide_eq_false h, decide_eq_false fun e => h (V.str.inj e)]
theorem dec_bl {i j : Bool} : decide (V.bl i = V.bl j) = decide (i = j) := by
  by_cases h : i = j
  · rw [decide_eq_true h, decide_eq_true (congrArg V.bl h)]
  · rw [decide_eq_false h, decide_eq_false fun e => h (V.bl.inj e)]
/-- len, tuple of a list or tuple -/
abbrev rLenQ (K : PySem.W.Frag) : List V → Hp → VK → Prop := fun xs H Q => ∃ p ys, xs = [V.ref p] ∧ (SqL K H p ys ∨ SqT K H p ys) ∧ Q (.int ys.length) H
abbrev rTupOf (K : PySem.W.Frag) : List V → Hp → VK → Prop := fun xs H Q => ∃ p ys, xs = [V.ref p] ∧ ((SqL K H p ys ∧ ∀ l, H l = none → Q (.ref l) (upd H l (.tup ys))) ∨ (SqT K H p ys ∧ Q (.ref p) H))
/-! ### more of what evaluates -/
section
variable {K : PySem.W.Frag} {σ : L2.St} {H : Hp} {ta tb te : TE}
theorem ev_eqI {i j : Int} (ha : Ev ta σ H (.int i)) (hb : Ev tb σ H (.int j)) : Ev (tOp rEq ta tb) σ H (.bl (decide (i = j))) := ev_is (ev_op ha hb (rv_eq rfl)) (congrArg V.bl dec_int)
theorem ev_neI {i j : Int} (ha : Ev ta σ H (.int i)) (hb : Ev tb σ H (.int j)) : Ev (tOp rNe ta tb) σ H (.bl (!decide (i = j))) := ev_is (ev_op ha hb (rv_ne rfl)) (congrArg (fun b => V.bl (!b)) dec_int)
theorem ev_eqS {i j : Str} (ha : Ev ta σ H (.str i)) (hb : Ev tb σ H (.str j)) : Ev (tOp rEq ta tb) σ H (.bl (decide (i = j))) := ev_is (ev_op ha hb (rv_eq rfl)) (congrArg V.bl dec_str)
theorem ev_neS {i j : Str} (ha : Ev ta σ H (.str i)) (hb : Ev tb σ H (.str j)) : Ev (tOp rNe ta tb) σ H (.bl (!decide (i = j))) := ev_is (ev_op ha hb (rv_ne rfl)) (congrArg (fun b => V.bl (!b)) dec_str)
theorem ev_eqB {i j : Bool} (ha : Ev ta σ H (.bl i)) (hb : Ev tb σ H (.bl j)) : Ev (tOp rEq ta tb) σ H (.bl (decide (i = j))) := ev_is (ev_op ha hb (rv_eq rfl)) (congrArg V.bl dec_bl)
theorem ev_neB {i j : Bool} (ha : Ev ta σ H (.bl i)) (hb : Ev tb σ H (.bl j)) : Ev (tOp rNe ta tb) σ H (.bl (!decide (i = j))) := ev_is (ev_op ha hb (rv_ne rfl)) (congrArg (fun b => V.bl (!b)) dec_bl)
theorem ev_bin {C : Int → Int → Prop} {g : Int → Int → V} {i j : Int} (ha : Ev ta σ H (.int i)) (hb : Ev tb σ H (.int j)) (hc : C i j) : Ev (tOp (rI C g) ta tb) σ H (g i j) := ev_op ha hb (rv_I hc)
theorem ev_bin0 {g : Int → Int → V} {i j : Int} (ha : Ev ta σ H (.int i)) (hb : Ev tb σ H (.int j)) : Ev (tOp (rI0 g) ta tb) σ H (g i j) := ev_op ha hb rv_I0
theorem ev_intI {i : Int} (h : Ev te σ H (.int i)) : Ev (tCB (fun xs H Q => (∃ i, xs = [V.int i] ∧ Q (.int i) H) ∨ ∃ k, xs = [V.bl k] ∧ Q (.int (if k = true then 1 else 0)) H) (tCons te tNil)) σ H (.int i) := fun H1 e Q q =>
  h H1 e _ fun H2 e2 => .inl ⟨i, rfl, q H2 e2⟩
theorem ev_lenS {z : Str} (h : Ev te σ H (.str z)) (hz : z.length ≤ 100000) : Ev (tCB (fun xs H Q => ∃ z, xs = [V.str z] ∧ z.length ≤ sizeLine ∧ Q (.int z.length) H) (tCons te tNil)) σ H (.int (z.length : Int)) := fun H1 e Q q =>
  h H1 e _ fun H2 e2 => ⟨z, rfl, sz_of hz, q H2 e2⟩
theorem ev_lenQ {p : Addr} {xs : List V} (ha : Ev ta σ H (.ref p)) (h : SqL K H p xs) : Ev (tCB (fun xs H Q => ∃ p ys, xs = [V.ref p] ∧ (SqL K H p ys ∨ SqT K H p ys) ∧ Q (.int ys.length) H) (tCons ta tNil)) σ H (.int (xs.length : Int)) := fun H1 e Q q =>
  ha H1 e _ fun H2 e2 => ⟨p, xs, rfl, Or.inl (ex_l (e.trans e2) h), q H2 e2⟩
theorem ev_lenT {p : Addr} {xs : List V} (ha : Ev ta σ H (.ref p)) (h : SqT K H p xs) : Ev (tCB (fun xs H Q => ∃ p ys, xs = [V.ref p] ∧ (SqL K H p ys ∨ SqT K H p ys) ∧ Q (.int ys.length) H) (tCons ta tNil)) σ H (.int (xs.length : Int)) := fun H1 e Q q =>
  ha H1 e _ fun H2 e2 => ⟨p, xs, rfl, Or.inr (ex_t (e.trans e2) h), q H2 e2⟩
theorem ev_ixL {p : Addr} {xs : List V} {i : Int} {v : V} (ha : Ev ta σ H (.ref p)) (hb : Ev tb σ H (.int i)) (h : SqL K H p xs) (hi : atI xs i = some v) : Ev (tOp (rIxL K) ta tb) σ H v := ev_op ha hb (rv_ixL h hi)
theorem ev_ixT {p : Addr} {xs : List V} {i : Int} {v : V} (ha : Ev ta σ H (.ref p)) (hb : Ev tb σ H (.int i)) (h : SqT K H p xs) (hi : atI xs i = some v) : Ev (tOp (rIxT K) ta tb) σ H v := ev_op ha hb (rv_ixT h hi)
/-- an item of a list that is written there -/
theorem ev_ixN {xs : List V} {i : Int} {v : V} (ha : EvL ta σ H xs) (hb : ∀ H1, Ex H H1 → Ev tb σ H1 (.int i)) (hi : atI xs i = some v) : Ev (tOp (rIxL K) ta tb) σ H v := ev_opL1 ha hb fun p H1 h1 _ => rv_ixL (sq_of h1) hi
theorem ev_ixS {z : Str} {i : Int} {c : Nat} (ha : Ev ta σ H (.str z)) (hb : Ev tb σ H (.int i)) (hz : z.length ≤ 100000) (hi : atI z.cps.toList i = some c) : Ev (tOp rIxS ta tb) σ H (.str ⟨#[c]⟩) := ev_op ha hb (rv_ixS hz hi)
theorem ev_addS {x y : Str} (ha : Ev ta σ H (.str x)) (hb : Ev tb σ H (.str y)) (hz : x.length + y.length ≤ 16777216) : Ev (tOp (fun x y H Q => ∃ i j, x = V.str i ∧ y = V.str j ∧ i.length + j.length ≤ sizeLine ∧ Q (.str (i ++ j)) H) ta tb) σ H (.str (x ++ y)) :=
  ev_op ha hb fun H1 _ Q q => ⟨x, y, rfl, rfl, by rw [sizeLine_eq]; exact hz, q H1 (Ex.refl H1)⟩
theorem ev_neg {i : Int} (h : Ev te σ H (.int i)) : Ev (tUn (rU fun i => .int (-i)) te) σ H (.int (-i)) := ev_un h ru_neg
theorem ev_isN {v : V} (h : Ev te σ H v) : Ev (tOp (fun x y H Q => y = .non ∧ Q (.bl (decide (x = .non))) H) te (tC .non)) σ H (.bl (decide (v = .non))) := fun H1 e Q q => h H1 e _ fun H2 e2 => ⟨rfl, q H2 e2⟩
end
section
variable {σ : L2.St} {H : Hp} {te : TE}
theorem ev_isNt (h : Ev te σ H .non) : Ev (tOp (fun x y H Q => y = .non ∧ Q (.bl (decide (x = .non))) H) te (tC .non)) σ H (.bl true) := ev_is (ev_isN h) (congrArg V.bl (decide_eq_true rfl))
theorem ev_isNf {v : V} (h : Ev te σ H v) (hv : v ≠ .non := by intro z; cases z) : Ev (tOp (fun x y H Q => y = .non ∧ Q (.bl (decide (x = .non))) H) te (tC .non)) σ H (.bl false) := ev_is (ev_isN h) (congrArg V.bl (decide_eq_false hv))
end
theorem at_nat {xs : List V} {j : Nat} {v : V} (h : xs[j]? = some v) : atI xs (j : Int) = some v := atI_nat h
theorem sizeOk {n : Nat} (h : n ≤ 16777216) : n ≤ sizeLine := by rw [sizeLine_eq]; exact h

/-! ### texts, joins, comprehensions -/
theorem str_ext {a b : Str} (h : a.cps.toList = b.cps.toList) : a = b := by
  obtain ⟨a⟩ := a
  obtain ⟨b⟩ := b
  exact congrArg Str.mk (Array.toList_inj.mp h)
/-- the join of one-sign texts -/
theorem join_signs (l : List Nat) : Txt.join (Str.ofString "") (l.map fun c => (⟨#[c]⟩ : Str)) = ⟨l.toArray⟩ := by
  rw [TL.join_eq]
  refine str_ext ?_
  have key : ∀ l : List Nat, TL.joinL [] (l.map fun c => [c]) = l := fun l => by
    induction l with
    | nil => rfl
    | cons a r ih =>
      cases r with
      | nil => rfl
      | cons b r =>
        show [a] ++ ([] ++ TL.joinL [] ((b :: r).map fun c => [c])) = a :: b :: r
        rw [ih] <;> rfl
  have h := TL.tl_join (Str.ofString "") (l.map fun c => (⟨#[c]⟩ : Str))
  have e1 : TL.tl (Str.ofString "") = [] := by decide +kernel
  rw [e1, List.map_map] at h
  exact h.trans (key l)
theorem sum_ones (l : List Nat) : ((l.map fun c => (⟨#[c]⟩ : Str)).map (·.length)).sum = l.length := by
  induction l with
  | nil => rfl
  | cons a r ih =>
    rw [List.map_cons, List.map_cons, List.sum_cons, ih, List.length_cons]
    show 1 + r.length = r.length + 1
    omega
/-- a join of a new list of texts -/
theorem ev_joinN {K : PySem.W.Frag} {σ : L2.St} {H : Hp} {to te : TE} {a : Str} {ys : List Str} (h0 : Ev to σ H (.str a)) (h : EvL te σ H (ys.map V.str)) (hz : (ys.map (·.length)).sum + ys.length * a.length ≤ 16777216) :
    Ev (tM1 (fun x xs H Q => ∃ a p, ∃ ys : List Str, x = .str a ∧ xs = [.ref p] ∧ (SqL K H p (ys.map V.str) ∨ SqT K H p (ys.map V.str)) ∧ (ys.map (·.length)).sum + ys.length * a.length ≤ 16777216 ∧ Q (.str (Txt.join a ys)) H) to te) σ H (.str (Txt.join a ys)) :=
  fun H1 e Q q => h0 H1 e _ fun H2 e2 => ⟨⟨a, rfl⟩, h H2 (e.trans e2) _ fun p H3 hp e3 hl => ⟨a, p, ys, rfl, rfl, .inl (sq_of hl), hz, q H3 (e2.trans e3)⟩⟩
theorem given_all {n : Nat} {v : Nat → V} {xs : List V} (hn : xs.length = n) (h : ∀ i, i < n → xs[i]? = some (v i)) : given n (fun _ => true) v = xs := by
  unfold given
  rw [List.filter_eq_self.mpr (fun _ _ => rfl)]
  refine List.ext_getElem? fun i => ?_
  rw [List.getElem?_map]
  by_cases hi : i < n
  · rw [List.getElem?_range hi, h i hi] <;> rfl
  · rw [List.getElem?_eq_none (by rw [List.length_range]; omega), List.getElem?_eq_none (by omega)] <;> rfl
/-- [f(x) for x in a new list of ints] -/
theorem el_mapN {K : PySem.W.Frag} {σ : L2.St} {H : Hp} {tl te : TE} {j : Nat} {vs : List Nat} {ns : List Int} {f : Int → V} (h : EvL tl σ H (ns.map V.int)) (hz : ns.length ≤ 40000) (hw : ∀ x, wipe ((wipe σ vs).set j (some x)) vs = wipe σ vs)
    (he : ∀ n ∈ ns, ∀ H1, Ex H H1 → Ev te ((wipe σ vs).set j (some (.int n))) H1 (f n)) : EvL (tLc (iList K tl) (gName j) tYes te vs) σ H (ns.map f) := by
  have g : given (ns.map V.int).length (fun _ => true) (fun i => f (ns.getD i 0)) = ns.map f := given_all (by rw [List.length_map, List.length_map]) fun i hi => by
    rw [List.length_map] at hi
    rw [List.getElem?_map, List.getElem?_eq_getElem hi, List.getD_eq_getElem?_getD, List.getElem?_eq_getElem hi] <;> rfl
  rw [← g]
  refine el_lcNL (fun _ => true) (fun i => f (ns.getD i 0)) h (by rw [List.length_map]; exact hz) hw (fun i x H1 e1 hx => ?_) (fun i x H1 e1 hx _ => ?_)
  · exact fun H2 e2 Q q => q H2 (Ex.refl H2)
  · rw [List.getElem?_map] at hx
    cases e : ns[i]? with
    | none =>
      rw [e] at hx
      cases hx
    | some n =>
      rw [e] at hx
      have ex : x = .int n := (Option.some.inj hx).symm
      rw [ex, List.getD_eq_getElem?_getD, e]
      exact he n (List.mem_of_getElem? e) H1 e1
theorem atI_of {xs : List V} {n : Int} {v : V} (h0 : 0 ≤ n) (h : xs[n.toNat]? = some v) : atI xs n = some v := by
  have e : n = ((n.toNat : Nat) : Int) := by omega
  rw [e]
  exact atI_nat (by simpa using h)
theorem at_cps {z : Str} {l : List Nat} (h : z.cps.toList = l) {n : Int} (h0 : 0 ≤ n) (h1 : n < l.length) : atI z.cps.toList n = some (l.getD n.toNat 0) := by
  rw [h]
  have e : n = ((n.toNat : Nat) : Int) := by omega
  have h3 : n.toNat < l.length := by omega
  have h4 : ixN l.length n = some n.toNat := by rw [e]; exact ixN_nat (by omega)
  unfold atI
  rw [h4]
  show l[n.toNat]? = some (l.getD n.toNat 0)
  rw [List.getElem?_eq_getElem h3, List.getD_eq_getElem?_getD, List.getElem?_eq_getElem h3]
  all_goals rfl

/-- the join of texts by their codes -/
theorem join_codes (l : List (List Nat)) : Txt.join (Str.ofString "") (l.map fun c => (⟨c.toArray⟩ : Str)) = ⟨l.flatten.toArray⟩ := by
  rw [TL.join_eq]
  refine str_ext ?_
  have key : ∀ l : List (List Nat), TL.joinL [] l = l.flatten := fun l => by
    induction l with
    | nil => rfl
    | cons a r ih =>
      cases r with
      | nil => simp [TL.joinL]
      | cons b r =>
        show a ++ ([] ++ TL.joinL [] (b :: r)) = (a :: b :: r).flatten
        rw [ih, List.nil_append]
        exact List.flatten_cons.symm
  have h := TL.tl_join (Str.ofString "") (l.map fun c => (⟨c.toArray⟩ : Str))
  have e1 : TL.tl (Str.ofString "") = [] := by decide +kernel
  have e2 : (l.map fun c => (⟨c.toArray⟩ : Str)).map TL.tl = l := by
    rw [List.map_map]
    exact List.map_id l
  rw [e1, e2] at h
  exact h.trans (key l)
theorem sum_codes (l : List (List Nat)) : ((l.map fun c => (⟨c.toArray⟩ : Str)).map (·.length)).sum = l.flatten.length := by
  induction l with
  | nil => rfl
  | cons a r ih =>
    rw [List.map_cons, List.map_cons, List.sum_cons, ih, List.flatten_cons, List.length_append] <;> rfl
/-- [f(x) for x in a tuple] -/
theorem el_mapT {K : PySem.W.Frag} {σ : L2.St} {H : Hp} {tl te : TE} {j : Nat} {vs : List Nat} {a : Addr} {xs ys : List V} (h : Ev tl σ H (.ref a)) (hx : SqT K H a xs) (hz : xs.length ≤ 40000) (hw : ∀ x, wipe ((wipe σ vs).set j (some x)) vs = wipe σ vs) (hl : ys.length = xs.length)
    (he : ∀ (i : Nat) (x y : V), xs[i]? = some x → ys[i]? = some y → ∀ H1, Ex H H1 → Ev te ((wipe σ vs).set j (some x)) H1 y) : EvL (tLc (iTup K tl) (gName j) tYes te vs) σ H ys := by
  intro H0 e Q q
  refine h H0 e _ fun H1 e1 => ⟨a, rfl, ⟨xs, ex_t (e.trans e1) hx⟩, fun Dl hD => ?_⟩
  refine lc_tup (xs := xs) (fun i H' => H1 Dl = none ∧ Ex H1 H' ∧ H' Dl = some (.lst (ys.take i))) ⟨hD, Ex.new hD, upd_same⟩ (fun i H' _ p => ex_t ((e.trans e1).trans p.2.1) hx) (fun i x H' hi p => ⟨hw x, ?_⟩) (fun H' p => ?_)
  · obtain ⟨p1, p2, p3⟩ := p
    have hi2 : i < ys.length := by
      have := (List.getElem?_eq_some_iff.mp hi).1
      omega
    have hy : ys[i]? = some ys[i] := List.getElem?_eq_getElem hi2
    show te ((wipe σ vs).set j (some x)) H' _
    refine he i x ys[i] hi hy H1 (e.trans e1) H' p2 _ fun H4 e4 => ⟨ys.take i, e4 Dl _ p3, sz_lt (by rw [List.length_take]; omega), p1, (p2.trans e4).mut p1, ?_⟩
    rw [upd_same, List.take_add_one, hy] <;> rfl
  · obtain ⟨p1, p2, p3⟩ := p
    rw [← hl, List.take_length] at p3
    exact q Dl H' (fresh_back e1 p1) (e1.trans p2) p3
/-- [f(x) for x in a list] -/
theorem el_mapL {K : PySem.W.Frag} {σ : L2.St} {H : Hp} {tl te : TE} {j : Nat} {vs : List Nat} {a : Addr} {xs ys : List V} (h : Ev tl σ H (.ref a)) (hx : SqL K H a xs) (hz : xs.length ≤ 40000) (hw : ∀ x, wipe ((wipe σ vs).set j (some x)) vs = wipe σ vs) (hl : ys.length = xs.length)
    (he : ∀ (i : Nat) (x y : V), xs[i]? = some x → ys[i]? = some y → ∀ H1, Ex H H1 → Ev te ((wipe σ vs).set j (some x)) H1 y) : EvL (tLc (iList K tl) (gName j) tYes te vs) σ H ys := by
  intro H0 e Q q
  refine h H0 e _ fun H1 e1 => ⟨a, rfl, ⟨xs, ex_l (e.trans e1) hx⟩, fun Dl hD => ?_⟩
  refine lc_list (xs := xs) (fun i H' => H1 Dl = none ∧ Ex H1 H' ∧ H' Dl = some (.lst (ys.take i))) ⟨hD, Ex.new hD, upd_same⟩ (fun i H' _ p => ex_l ((e.trans e1).trans p.2.1) hx) (fun i x H' hi p => ⟨hw x, ?_⟩) (fun H' p => ?_)
  · obtain ⟨p1, p2, p3⟩ := p
    have hi2 : i < ys.length := by
      have := (List.getElem?_eq_some_iff.mp hi).1
      omega
    have hy : ys[i]? = some ys[i] := List.getElem?_eq_getElem hi2
    show te ((wipe σ vs).set j (some x)) H' _
    refine he i x ys[i] hi hy H1 (e.trans e1) H' p2 _ fun H4 e4 => ⟨ys.take i, e4 Dl _ p3, sz_lt (by rw [List.length_take]; omega), p1, (p2.trans e4).mut p1, ?_⟩
    rw [upd_same, List.take_add_one, hy] <;> rfl
  · obtain ⟨p1, p2, p3⟩ := p
    rw [← hl, List.take_length] at p3
    exact q Dl H' (fresh_back e1 p1) (e1.trans p2) p3
/-- [f(k) for k in range(n)] -/
theorem el_mapR {σ : L2.St} {H : Hp} {ta : TA} {te : TE} {j : Nat} {vs : List Nat} {n : Nat} {ys : List V} (h : EvA ta σ H [.int (n : Int)]) (hz : n ≤ 40000) (hw : ∀ x, wipe ((wipe σ vs).set j (some x)) vs = wipe σ vs) (hl : ys.length = n)
    (he : ∀ (i : Nat) (y : V), i < n → ys[i]? = some y → ∀ H1, Ex H H1 → Ev te ((wipe σ vs).set j (some (.int (i : Int)))) H1 y) : EvL (tLc (iRng1 ta) (gName j) tYes te vs) σ H ys := by
  have g : given (n : Int).toNat (fun _ => true) (fun i => ys.getD i .non) = ys := given_all (by omega) fun i hi => by
    have hi2 : i < ys.length := by omega
    rw [List.getElem?_eq_getElem hi2, List.getD_eq_getElem?_getD, List.getElem?_eq_getElem hi2] <;> rfl
  rw [← g]
  refine el_lcR1 (fun _ => true) (fun i => ys.getD i .non) h (by omega) hw (fun i H1 e1 hi => ?_) (fun i H1 e1 hi _ => ?_)
  · exact fun H2 e2 Q q => q H2 (Ex.refl H2)
  · have hi2 : i < ys.length := by omega
    have hy : ys[i]? = some (ys.getD i .non) := by rw [List.getElem?_eq_getElem hi2, List.getD_eq_getElem?_getD, List.getElem?_eq_getElem hi2] <;> rfl
    exact he i _ (by omega) hy H1 e1
/-- for c in a text -/
theorem s_forS {σ : L2.St} {H : Hp} {te : TE} {tu : TS} {D : Ends} {j : Nat} {z : Str} (h : Ev te σ H (.str z)) (Pv : Nat → L2.St → Hp → Prop) (h0 : ∀ H1, Ex H H1 → Pv 0 σ H1)
    (hs : ∀ i c σ' H', z.cps.toList[i]? = some c → Pv i σ' H' → tu { D with nx := Pv (i + 1), ct := Pv (i + 1), bk := D.nx } (σ'.set j (some (.str ⟨#[c]⟩))) H') (hd : ∀ σ' H', Pv z.cps.toList.length σ' H' → D.nx σ' H') : tFor (iStr te) (gName j) tu D σ H := by
  refine h H (Ex.refl H) _ fun H1 e => ⟨z, rfl, fun i m σ' H' => m = z.cps.toList.length - i ∧ i ≤ z.cps.toList.length ∧ Pv i σ' H', ⟨_, rfl, Nat.zero_le _, h0 H1 e⟩, ?_⟩
  rintro i m σ' H' ⟨rfl, hi, p⟩
  by_cases hlt : i < z.cps.toList.length
  · refine .inr ⟨(by show i < z.cps.size; simpa using hlt), Pv (i + 1), fun σ2 H2 p2 => ⟨_, by omega, rfl, hlt, p2⟩, fun x H2 y => ?_⟩
    obtain ⟨rfl, c, hc, rfl⟩ := y
    exact hs i c σ' H2 (by simpa using hc) p
  · have ei : i = z.cps.toList.length := by omega
    subst ei
    exact .inl ⟨(by show z.cps.size ≤ z.cps.toList.length; simp), hd σ' H' p⟩
theorem q_forS {σ : L2.St} {H : Hp} {te : TE} {tu tz : TS} {D : Ends} {j : Nat} {z : Str} (h : Ev te σ H (.str z)) (Pv : Nat → L2.St → Hp → Prop) (h0 : ∀ H1, Ex H H1 → Pv 0 σ H1)
    (hs : ∀ i c σ' H', z.cps.toList[i]? = some c → Pv i σ' H' → tu { D with nx := Pv (i + 1), ct := Pv (i + 1), bk := tz D } (σ'.set j (some (.str ⟨#[c]⟩))) H') (hd : ∀ σ' H', Pv z.cps.toList.length σ' H' → tz D σ' H') : tSeq (tFor (iStr te) (gName j) tu) tz D σ H :=
  s_forS (D := { D with nx := tz D }) h Pv h0 hs hd
/-! ### isinstance against a built-in type; f-strings -/
theorem tyx_tup {K : PySem.W.Frag} {H : Hp} {a : Addr} {xs : List V} (h : SqT K H a xs) : TyX K H (.ref a) (.type "tuple") := by
  rcases h with (h | ⟨o, h⟩) | ⟨o, its, n, h, hc, _⟩
  · exact .base (.tup h)
  · exact .fTuple h
  · exact .kTuple h hc
theorem ev_isi {K : PySem.W.Frag} {σ : L2.St} {H : Hp} {te : TE} {x : V} {a b : String} {r : Bool} (h : Ev te σ H x) (ht : ∀ H1, Ex H H1 → TyX K H1 x (.type a)) (hk : kitB a b = some r) : Ev (tCB (rIsi K) (tCons te (tCons (tC (.ty b)) tNil))) σ H (.bl r) := fun H1 e Q q =>
  h H1 e _ fun H2 e2 => ⟨x, .ty b, .type a, .type b, r, rfl, .ty b, ht H2 (e.trans e2), kit_ty hk, q H2 e2⟩
/-- parts that evaluate to texts -/
inductive EvJ (σ : L2.St) (H : Hp) : List TE → List Str → Prop where
  | nil : EvJ σ H [] []
  | cons {t : TE} {ts : List TE} {y : Str} {ys : List Str} (h : Ev t σ H (.str y)) (r : EvJ σ H ts ys) : EvJ σ H (t :: ts) (y :: ys)
theorem evj_run {σ : L2.St} {H : Hp} {ts : List TE} {ys : List Str} (h : EvJ σ H ts ys) : ∀ (acc : Str) (H1 : Hp) (Q : Str → Hp → Prop), Ex H H1 → acc.length + (ys.map (·.length)).sum ≤ 16777216 → (∀ H2, Ex H1 H2 → Q (ys.foldl (· ++ ·) acc) H2) → tJs ts acc σ H1 Q := by
  induction h with
  | nil => exact fun acc H1 Q _ _ q => q H1 (Ex.refl H1)
  | @cons t ts y ys h r ih =>
    intro acc H1 Q e hz q
    rw [List.map_cons, List.sum_cons] at hz
    have el : (acc ++ y).length = acc.length + y.length := by
      show (acc.cps ++ y.cps).size = acc.cps.size + y.cps.size
      exact Array.size_append
    refine h H1 e _ fun H2 e2 => ⟨y, rfl, sizeOk (by rw [el]; omega), ih (acc ++ y) H2 Q (e.trans e2) (by rw [el]; omega) fun H3 e3 => q H3 (e2.trans e3)⟩
theorem ev_joined {σ : L2.St} {H : Hp} {ts : List TE} {ys : List Str} (h : EvJ σ H ts ys) (hz : (ys.map (·.length)).sum ≤ 16777216) : Ev (fun σ H Q => tJs ts Str.empty σ H fun out H1 => Q (.str out) H1) σ H (.str (ys.foldl (· ++ ·) Str.empty)) := fun H1 e Q q =>
  evj_run h Str.empty H1 _ e (by show 0 + _ ≤ _; omega) fun H2 e2 => q H2 e2
theorem ev_fmtS {σ : L2.St} {H : Hp} {te : TE} {y : Str} (h : Ev te σ H (.str y)) (hz : y.length ≤ 16777216) : Ev (tFmt te) σ H (.str y) := fun H1 e Q q => h H1 e _ fun H2 e2 => .inl ⟨y, rfl, sizeOk hz, q H2 e2⟩
theorem ev_fmtI {σ : L2.St} {H : Hp} {te : TE} {i : Int} (h : Ev te σ H (.int i)) (hz : i.natAbs.log2 < 1920) : Ev (tFmt te) σ H (.str (toString i)) := fun H1 e Q q => h H1 e _ fun H2 e2 => .inr ⟨i, rfl, hz, q H2 e2⟩
theorem ev_strI {σ : L2.St} {H : Hp} {te : TE} {i : Int} (h : Ev te σ H (.int i)) (hz : i.natAbs.log2 < 1920) : Ev (tCB (fun xs H Q => ∃ i : Int, xs = [V.int i] ∧ i.natAbs.log2 < 1920 ∧ Q (.str (toString i)) H) (tCons te tNil)) σ H (.str (toString i)) := fun H1 e Q q => h H1 e _ fun H2 e2 => ⟨i, rfl, hz, q H2 e2⟩
theorem ev_ordS {σ : L2.St} {H : Hp} {te : TE} {c : Nat} (h : Ev te σ H (.str ⟨#[c]⟩)) : Ev (tCB (fun xs H Q => ∃ x : Str, xs = [V.str x] ∧ x.length = 1 ∧ Q (.int (x.cps.getD 0 0 : Nat)) H) (tCons te tNil)) σ H (.int (c : Int)) := fun H1 e Q q => h H1 e _ fun H2 e2 => ⟨_, rfl, rfl, q H2 e2⟩
theorem ev_ends {σ : L2.St} {H : Hp} {to te : TE} {a b : Str} (h0 : Ev to σ H (.str a)) (h : Ev te σ H (.str b)) : Ev (tM1 (fun x xs H Q => ∃ a b, x = V.str a ∧ xs = [V.str b] ∧ Q (.bl (Txt.endswith a b)) H) to te) σ H (.bl (Txt.endswith a b)) := fun H1 e Q q =>
  h0 H1 e _ fun H2 e2 => ⟨⟨a, rfl⟩, h H2 (e.trans e2) _ fun H3 e3 => ⟨a, b, rfl, rfl, q H3 (e2.trans e3)⟩⟩
theorem ev_slS {σ : L2.St} {H : Hp} {te : TE} {tl th : TO} {z : Str} {lo hi : Option Int} (h : Ev te σ H (.str z)) (h1 : EvO tl σ H lo) (h2 : EvO th σ H hi) (hz : z.length ≤ 100000) : Ev (tSl rSlS te tl th) σ H (.str (cutS z lo hi)) := fun H1 e Q q =>
  h H1 e _ fun H2 e2 => h1 H2 (e.trans e2) _ fun H3 e3 => h2 H3 ((e.trans e2).trans e3) _ fun H4 e4 => ⟨z, rfl, sz_of hz, q H4 ((e2.trans e3).trans e4)⟩
/-- tuple(a new list) -/
theorem eu_ofN {K : PySem.W.Frag} {σ : L2.St} {H : Hp} {te : TE} {xs : List V} (h : EvL te σ H xs) : EvU (tCB (fun xs H Q => ∃ p ys, xs = [V.ref p] ∧ ((SqL K H p ys ∧ ∀ l, H l = none → Q (.ref l) (upd H l (.tup ys))) ∨ (SqT K H p ys ∧ Q (.ref p) H))) (tCons te tNil)) σ H xs := fun H1 e Q q =>
  h H1 e _ fun p H2 _ e2 hp => ⟨p, xs, rfl, .inl ⟨sq_of hp, fun l hl => q l _ (fresh_back e2 hl) (e2.trans (Ex.new hl)) upd_same⟩⟩
theorem eu_ofL {K : PySem.W.Frag} {σ : L2.St} {H : Hp} {te : TE} {p : Addr} {xs : List V} (h : Ev te σ H (.ref p)) (hx : SqL K H p xs) : EvU (tCB (fun xs H Q => ∃ p ys, xs = [V.ref p] ∧ ((SqL K H p ys ∧ ∀ l, H l = none → Q (.ref l) (upd H l (.tup ys))) ∨ (SqT K H p ys ∧ Q (.ref p) H))) (tCons te tNil)) σ H xs := fun H1 e Q q =>
  h H1 e _ fun H2 e2 => ⟨p, xs, rfl, .inl ⟨ex_l (e.trans e2) hx, fun l hl => q l _ (fresh_back e2 hl) (e2.trans (Ex.new hl)) upd_same⟩⟩
/-- a def that hands back a new tuple -/
def SpU (sp : Sp) (vs : List V) (H : Hp) (xs : List V) : Prop := ∀ H1, Ex H H1 → ∀ Q : VK, (∀ p H2, Ex H1 H2 → H2 p = some (.tup xs) → Q (.ref p) H2) → ∀ E : XK, sp vs H1 Q E
theorem q_callU {sp : Sp} {dvs vs xs : List V} {E : XK} {ta : TA} {σ : L2.St} {H : Hp} {tz : TS} {D : Ends} {i : Nat} (h : EvA ta σ H vs) (hs : SpU sp (vs ++ dvs) H xs) (k : ∀ p H1, Ex H H1 → H1 p = some (.tup xs) → tz D (σ.set i (some (.ref p))) H1) : tSeq (tAsg (tCall sp dvs E ta) (gName i)) tz D σ H :=
  h H (Ex.refl H) _ fun H2 e2 => hs H2 e2 _ (fun p H3 e3 hp => k p H3 (e2.trans e3) hp) E
theorem s_callU {sp : Sp} {dvs vs xs : List V} {E : XK} {ta : TA} {σ : L2.St} {H : Hp} {D : Ends} {i : Nat} (h : EvA ta σ H vs) (hs : SpU sp (vs ++ dvs) H xs) (k : ∀ p H1, Ex H H1 → H1 p = some (.tup xs) → D.nx (σ.set i (some (.ref p))) H1) : tAsg (tCall sp dvs E ta) (gName i) D σ H :=
  h H (Ex.refl H) _ fun H2 e2 => hs H2 e2 _ (fun p H3 e3 hp => k p H3 (e2.trans e3) hp) E
/-- a call whose one argument is a new tuple -/
theorem ev_callU {sp : Sp} {dvs xs : List V} {z : V} {E : XK} {te : TE} {σ : L2.St} {H : Hp} (h : EvU te σ H xs) (hs : ∀ p H1, H1 p = some (.tup xs) → Ex H H1 → SpV sp ([.ref p] ++ dvs) H1 z) : Ev (tCall sp dvs E (tCons te tNil)) σ H z := fun H1 e Q q =>
  h H1 e _ fun p H2 _ e2 hp => hs p H2 hp (e.trans e2) H2 (Ex.refl H2) Q (fun H3 e3 => q H3 (e2.trans e3)) E
/-- written tuples, one behind the other -/
def EvP (ta : TA) (σ : L2.St) (H : Hp) (xss : List (List V)) : Prop := ∀ H1, Ex H H1 → ∀ Q : List V → Hp → Prop, (∀ (ps : List Addr) H2, Ex H1 H2 → Paired (fun p xs => H2 p = some (.tup xs)) ps xss → Q (ps.map V.ref) H2) → ta σ H1 Q
theorem paired_mono {H H' : Hp} (e : Ex H H') : ∀ {ps : List Addr} {xss : List (List V)}, Paired (fun p xs => H p = some (.tup xs)) ps xss → Paired (fun p xs => H' p = some (.tup xs)) ps xss
  | _, _, .nil => .nil
  | _, _, .cons h r => .cons (e _ _ h) (paired_mono e r)
theorem ep_nil {σ : L2.St} {H : Hp} : EvP tNil σ H [] := fun H1 e Q q => q [] H1 (Ex.refl H1) .nil
theorem ep_cons {σ : L2.St} {H : Hp} {te : TE} {tr : TA} {xs : List V} {xss : List (List V)} (h : EvU te σ H xs) (r : EvP tr σ H xss) : EvP (tCons te tr) σ H (xs :: xss) := fun H1 e Q q =>
  h H1 e _ fun p H2 _ e2 hp => r H2 (e.trans e2) _ fun ps H3 e3 hr => q (p :: ps) H3 (e2.trans e3) (.cons (e3 p _ hp) hr)
theorem q_asgLP {ta : TA} {xss : List (List V)} {σ : L2.St} {H : Hp} {tz : TS} {D : Ends} {i : Nat} (h : EvP ta σ H xss) (hz : xss.length ≤ 100000) (k : ∀ p ps H1, Ex H H1 → H1 p = some (.lst (ps.map V.ref)) → Paired (fun p xs => H1 p = some (.tup xs)) ps xss → tz D (σ.set i (some (.ref p))) H1) :
    tSeq (tAsg (tLst ta) (gName i)) tz D σ H := h H (Ex.refl H) _ fun ps H1 e1 hps => by
  have el : ∀ {as : List Addr} {bs : List (List V)}, Paired (fun p xs => H1 p = some (.tup xs)) as bs → as.length = bs.length := fun h => by
    induction h with
    | nil => rfl
    | cons _ _ ih => exact congrArg (· + 1) ih
  exact ⟨sz_of (by rw [List.length_map, el hps]; exact hz), fun p hp => k p ps _ (e1.trans (Ex.new hp)) upd_same (paired_mono (Ex.new hp) hps)⟩
theorem paired_at {H : Hp} : ∀ {ps : List Addr} {xss : List (List V)}, Paired (fun p xs => H p = some (.tup xs)) ps xss → ∀ {i : Nat} {xs : List V}, xss[i]? = some xs → ∃ p, ps[i]? = some p ∧ H p = some (.tup xs)
  | _, _, .cons h _, 0, xs, e => by
    have e := Option.some.inj e
    subst e
    exact ⟨_, rfl, h⟩
  | _, _, .cons _ r, i + 1, xs, e => by
    obtain ⟨p, h1, h2⟩ := paired_at r (i := i) (by simpa using e)
    exact ⟨p, by simpa using h1, h2⟩
theorem paired_len {α β : Type} {R : α → β → Prop} : ∀ {as : List α} {bs : List β}, Paired R as bs → as.length = bs.length
  | _, _, .nil => rfl
  | _, _, .cons _ r => congrArg (· + 1) (paired_len r)
/-- a list that is tracked, and a new one behind it -/
theorem el_catV {K : PySem.W.Frag} {σ : L2.St} {H : Hp} {ta tb : TE} {p : Addr} {xs ys : List V} (ha : Ev ta σ H (.ref p)) (hp : H p = some (.lst xs)) (hb : EvL tb σ H ys) (hz : xs.length + ys.length ≤ 100000) : EvL (tOp rCat ta tb) σ H (xs ++ ys) := fun H1 e Q q =>
  ha H1 e _ fun H2 e2 => hb H2 (e.trans e2) _ fun r H3 hr e3 h3 => ⟨p, r, xs, ys, rfl, rfl, ((e.trans e2).trans e3) p _ hp, h3, sz_of hz, fun l hl => q l _ (fresh_back (e2.trans e3) hl) ((e2.trans e3).trans (Ex.new hl)) upd_same⟩
theorem codes_app {a b : Str} {x y : List Nat} (ha : a.cps.toList = x) (hb : b.cps.toList = y) : (a ++ b).cps.toList = x ++ y := by
  show (a.cps ++ b.cps).toList = x ++ y
  rw [Array.toList_append, ha, hb]
theorem str_len (z : Str) : z.length = z.cps.toList.length := by simp [Str.length]
theorem mk_of {z : Str} {l : List Nat} (h : z.cps.toList = l) : z = ⟨l.toArray⟩ := str_ext h
/-- long texts -/
theorem ev_lenB {σ : L2.St} {H : Hp} {te : TE} {z : Str} (h : Ev te σ H (.str z)) (hz : z.length ≤ 16777216) : Ev (tCB (fun xs H Q => ∃ z, xs = [V.str z] ∧ z.length ≤ sizeLine ∧ Q (.int z.length) H) (tCons te tNil)) σ H (.int (z.length : Int)) := fun H1 e Q q =>
  h H1 e _ fun H2 e2 => ⟨z, rfl, sizeOk hz, q H2 e2⟩
theorem ev_ixB {σ : L2.St} {H : Hp} {ta tb : TE} {z : Str} {i : Int} {c : Nat} (ha : Ev ta σ H (.str z)) (hb : Ev tb σ H (.int i)) (hz : z.length ≤ 16777216) (hi : atI z.cps.toList i = some c) : Ev (tOp rIxS ta tb) σ H (.str ⟨#[c]⟩) :=
  ev_op ha hb fun H1 _ _ q => ⟨z, i, c, rfl, rfl, sizeOk hz, hi, q H1 (Ex.refl H1)⟩
theorem ev_slB {σ : L2.St} {H : Hp} {te : TE} {tl th : TO} {z : Str} {lo hi : Option Int} (h : Ev te σ H (.str z)) (h1 : EvO tl σ H lo) (h2 : EvO th σ H hi) (hz : z.length ≤ 16777216) : Ev (tSl rSlS te tl th) σ H (.str (cutS z lo hi)) := fun H1 e Q q =>
  h H1 e _ fun H2 e2 => h1 H2 (e.trans e2) _ fun H3 e3 => h2 H3 ((e.trans e2).trans e3) _ fun H4 e4 => ⟨z, rfl, sizeOk hz, q H4 ((e2.trans e3).trans e4)⟩
theorem at_natS {l : List Nat} {j c : Nat} (h : l[j]? = some c) : atI l (j : Int) = some c := by
  have hj := (List.getElem?_eq_some_iff.mp h).1
  unfold atI
  rw [ixN_nat hj]
  exact h
theorem q_asgAug {σ : L2.St} {H : Hp} {te : TE} {tz : TS} {D : Ends} {i : Nat} {a b : Int} (hx : σ[i]? = some (some (.int a))) (h : Ev te σ H (.int b)) (k : ∀ H1, Ex H H1 → tz D (σ.set i (some (.int (a + b)))) H1) : tSeq (tAug i te (ipI fun i j => i + j)) tz D σ H := q_aug hx h k
theorem q_callV {sp : Sp} {dvs vs : List V} {E : XK} {ta : TA} {σ : L2.St} {H : Hp} {tz : TS} {D : Ends} {i : Nat} (h : EvA ta σ H vs) (k : ∀ H1, Ex H H1 → sp (vs ++ dvs) H1 (fun v H2 => tz D (σ.set i (some v)) H2) E) : tSeq (tAsg (tCall sp dvs E ta) (gName i)) tz D σ H := h H (Ex.refl H) _ fun H1 e1 => k H1 e1
/-! ### a small tactic: what an expression evaluates to -/
local macro_rules | `(tactic| walk_at "side") => `(tactic| first | assumption | decide | (show (0 : Int) < _; omega) | omega | (show CDivW _ _; exact ⟨by first | decide | omega, by decide⟩) | (show CPow _ _; exact ⟨by decide, by decide, by decide⟩) | (show CMulX _ _; (refine Wd.mul ?_ ?_ <;> walk_at "wd")))
local macro_rules | `(tactic| walk_at "wd") => `(tactic| first | assumption | exact Wd.lit (by decide) | exact Wd.small (by omega) (by omega) | (refine Wd.div ?_; walk_at "wd") | (refine Wd.mod ?_ ?_; (first | decide | omega); (walk_at "wd")) | (refine Wd.neg ?_; walk_at "wd"))
local macro_rules | `(tactic| walk_at "call") => `(tactic| fail "no call")
local macro_rules | `(tactic| walk_at "seq") => `(tactic| first | assumption | (refine ex_l ?_ ?_ <;> assumption) | exact sq_of (by assumption))
local macro_rules | `(tactic| walk_at "ev") => `(tactic| first
  | with_reducible exact ev_c
  | exact ev_var rfl
  | (refine ev_intI ?_; walk_at "ev")
  | (refine ev_bin0 ?_ ?_; (walk_at "ev"); (walk_at "ev"))
  | (refine ev_bin ?_ ?_ ?_; (walk_at "ev"); (walk_at "ev"); (walk_at "side"))
  | (refine ev_eqI ?_ ?_; (walk_at "ev"); (walk_at "ev"))
  | (refine ev_neI ?_ ?_; (walk_at "ev"); (walk_at "ev"))
  | (refine ev_eqS ?_ ?_; (walk_at "ev"); (walk_at "ev"))
  | (refine ev_neS ?_ ?_; (walk_at "ev"); (walk_at "ev"))
  | (refine ev_neg ?_; walk_at "ev")
  | walk_at "call")
local macro_rules | `(tactic| walk_at "et") => `(tactic| first
  | (refine et_test ?_; walk_at "ev")
  | (refine et_B ?_; walk_at "ev")
  | (refine et_not ?_; walk_at "et"))
local macro_rules | `(tactic| walk_at "ea") => `(tactic| first | exact ea_nil | (refine ea_cons ?_ ?_; (walk_at "ev"); (walk_at "ea")))


/-! ### items and their written form -/
inductive It where
  | non
  | int (i : Int)
  | str (z : Str)
  | tup (xs : List It)
def numC (i : Int) : List Nat := (toString i : Str).cps.toList
mutual
/-- the codes of the written item -/
def encC : It → List Nat
  | .non => [110]
  | .int i => 105 :: (numC i ++ [59])
  | .str z => 116 :: (numC (z.length : Int) ++ (58 :: z.cps.toList))
  | .tup xs => 40 :: (encL xs ++ [41])
def encL : List It → List Nat
  | [] => []
  | d :: ds => encC d ++ encL ds
end
theorem encL_flat : ∀ ds : List It, encL ds = (ds.map encC).flatten
  | [] => rfl
  | d :: ds => by
    show encC d ++ encL ds = _
    rw [encL_flat ds, List.map_cons, List.flatten_cons]
theorem encL_app : ∀ a b : List It, encL (a ++ b) = encL a ++ encL b
  | [], b => rfl
  | x :: a, b => by
    show encC x ++ encL (a ++ b) = encC x ++ encL a ++ encL b
    rw [encL_app a b, List.append_assoc]
theorem encC_pos (d : It) : 1 ≤ (encC d).length := by
  cases d with
  | non => exact Nat.le_refl 1
  | int i => show 1 ≤ (105 :: _).length; simp
  | str z => show 1 ≤ (116 :: _).length; simp
  | tup xs => show 1 ≤ (40 :: _).length; simp
theorem encL_mem : ∀ {ds : List It} {d : It}, d ∈ ds → (encC d).length ≤ (encL ds).length
  | d' :: ds, d, h => by
    show _ ≤ (encC d' ++ encL ds).length
    rw [List.length_append]
    rcases List.mem_cons.mp h with e | e
    · rw [e]; omega
    · have := encL_mem e; omega
mutual
/-- the value v of the heap is the item -/
inductive Dv (K : PySem.W.Frag) (H : Hp) : V → It → Prop
  | non : Dv K H .non .non
  | int (i : Int) : Dv K H (.int i) (.int i)
  | str (z : Str) : Dv K H (.str z) (.str z)
  | tup {a : Addr} {xs : List V} {ds : List It} (h : SqT K H a xs) (r : DvL K H xs ds) : Dv K H (.ref a) (.tup ds)
inductive DvL (K : PySem.W.Frag) (H : Hp) : List V → List It → Prop
  | nil : DvL K H [] []
  | cons {v : V} {vs : List V} {d : It} {ds : List It} (h : Dv K H v d) (r : DvL K H vs ds) : DvL K H (v :: vs) (d :: ds)
end
/-- all but lists stands as it stood -/
def ExN (H H' : Hp) : Prop := ∀ a o, H a = some o → (∀ xs, o ≠ .lst xs) → H' a = some o
theorem exN_t {K : PySem.W.Frag} {H H' : Hp} {a : Addr} {xs : List V} (e : ExN H H') (h : SqT K H a xs) : SqT K H' a xs := by
  rcases h with (h | ⟨o, h⟩) | h
  · exact .inl (.inl (e _ _ h fun _ z => nomatch z))
  · exact .inl (.inr ⟨o, e _ _ h fun _ z => nomatch z⟩)
  · exact .inr h
theorem Ex.n {H H' : Hp} (e : Ex H H') : ExN H H' := fun a o h _ => e a o h
theorem ExN.trans {H H1 H2 : Hp} (a : ExN H H1) (b : ExN H1 H2) : ExN H H2 := fun x o h n => b x o (a x o h n) n
theorem ExN.upd {H : Hp} {p : Addr} {xs : List V} {o : HO} (h : H p = some (.lst xs)) : ExN H (upd H p o) := fun a u e n => by
  rw [upd_ne (fun z => n xs (by rw [z, h] at e; exact (Option.some.inj e).symm))]
  exact e
mutual
theorem Dv.monoN {K : PySem.W.Frag} {H H' : Hp} (e : ExN H H') : ∀ {v : V} {d : It}, Dv K H v d → Dv K H' v d
  | _, _, .non => .non
  | _, _, .int i => .int i
  | _, _, .str z => .str z
  | _, _, .tup h r => .tup (exN_t e h) (DvL.monoN e r)
theorem DvL.monoN {K : PySem.W.Frag} {H H' : Hp} (e : ExN H H') : ∀ {vs : List V} {ds : List It}, DvL K H vs ds → DvL K H' vs ds
  | _, _, .nil => .nil
  | _, _, .cons h r => .cons (Dv.monoN e h) (DvL.monoN e r)
end
theorem Dv.mono {K : PySem.W.Frag} {H H' : Hp} (e : Ex H H') {v : V} {d : It} (h : Dv K H v d) : Dv K H' v d := h.monoN (Ex.n e)
theorem DvL.mono {K : PySem.W.Frag} {H H' : Hp} (e : Ex H H') {vs : List V} {ds : List It} (h : DvL K H vs ds) : DvL K H' vs ds := h.monoN (Ex.n e)
theorem DvL.app {K : PySem.W.Frag} {H : Hp} : ∀ {vs us : List V} {ds es : List It}, DvL K H vs ds → DvL K H us es → DvL K H (vs ++ us) (ds ++ es)
  | _, _, _, _, .nil, h => h
  | _, _, _, _, .cons a r, h => .cons a (r.app h)
theorem DvL.take {K : PySem.W.Frag} {H : Hp} : ∀ {vs : List V} {ds : List It} (n : Nat), DvL K H vs ds → DvL K H (vs.take n) (ds.take n)
  | _, _, 0, _ => .nil
  | _, _, _ + 1, .nil => .nil
  | _, _, n + 1, .cons a r => .cons a (r.take n)
theorem DvL.drop {K : PySem.W.Frag} {H : Hp} : ∀ {vs : List V} {ds : List It} (n : Nat), DvL K H vs ds → DvL K H (vs.drop n) (ds.drop n)
  | _, _, 0, h => h
  | _, _, _ + 1, .nil => .nil
  | _, _, n + 1, .cons _ r => r.drop n
theorem DvL.len {K : PySem.W.Frag} {H : Hp} : ∀ {vs : List V} {ds : List It}, DvL K H vs ds → vs.length = ds.length
  | _, _, .nil => rfl
  | _, _, .cons _ r => congrArg (· + 1) r.len
theorem DvL.at {K : PySem.W.Frag} {H : Hp} : ∀ {vs : List V} {ds : List It}, DvL K H vs ds → ∀ {i : Nat} {v : V} {d : It}, vs[i]? = some v → ds[i]? = some d → Dv K H v d
  | _, _, .cons h _, 0, v, d, e1, e2 => by
    have e1 := Option.some.inj e1
    have e2 := Option.some.inj e2
    subst e1 e2
    exact h
  | _, _, .cons _ r, i + 1, v, d, e1, e2 => r.at (i := i) (by simpa using e1) (by simpa using e2)
/-- depth, width and sizes -/
def It.fit : Nat → It → Prop
  | 0, x => match x with
    | .non => True
    | .int i => -(10 ^ 60) < i ∧ i < 10 ^ 60
    | .str z => z.length ≤ 999999
    | .tup _ => False
  | n + 1, x => match x with
    | .non => True
    | .int i => -(10 ^ 60) < i ∧ i < 10 ^ 60
    | .str z => z.length ≤ 999999
    | .tup xs => xs.length ≤ 1000 ∧ ∀ y ∈ xs, It.fit n y
theorem log60 {i : Int} (h : -(10 ^ 60) < i ∧ i < 10 ^ 60) : i.natAbs.log2 < 1920 := by
  have e60 : (10 : Int) ^ 60 = 1000000000000000000000000000000000000000000000000000000000000 := by decide
  rw [e60] at h
  exact Nat.lt_of_lt_of_le (PySem.Flt.log2_lt_of (k := 256) (by decide) (by omega)) (by decide)
theorem fit_int60 {n : Nat} {i : Int} (h : It.fit n (.int i)) : -(10 ^ 60) < i ∧ i < 10 ^ 60 := by cases n <;> exact h
theorem fit_int {n : Nat} {i : Int} (h : It.fit n (.int i)) : i.natAbs.log2 < 1920 := log60 (fit_int60 h)
theorem fit_str {n : Nat} {z : Str} (h : It.fit n (.str z)) : z.length ≤ 999999 := by cases n <;> exact h
theorem It.fit_mono : ∀ {n m : Nat} {d : It}, It.fit n d → n ≤ m → It.fit m d
  | n, m, .non, _, _ => by cases m <;> trivial
  | n, m, .int i, h, _ => by
    have := fit_int60 h
    cases m <;> exact this
  | n, m, .str z, h, _ => by
    have := fit_str h
    cases m <;> exact this
  | 0, m, .tup xs, h, _ => h.elim
  | n + 1, 0, .tup xs, h, e => by omega
  | n + 1, m + 1, .tup xs, h, e => ⟨h.1, fun y hy => It.fit_mono (h.2 y hy) (by omega)⟩
def spEnc (K : PySem.W.Frag) (n : Nat) : Sp := fun vs H Q _ => ∃ (v : V) (d : It), vs = [v] ∧ Dv K H v d ∧ d.fit n ∧ (encC d).length ≤ 16000000 ∧ ∀ H', Ex H H' → Q (.str ⟨(encC d).toArray⟩) H'
theorem cv_enc {K : PySem.W.Frag} {n : Nat} {v : V} {d : It} {H : Hp} (h : Dv K H v d) (hf : d.fit n) (hz : (encC d).length ≤ 16000000) : SpV (spEnc K n) [v] H (.str ⟨(encC d).toArray⟩) := fun H1 e Q q E => ⟨v, d, rfl, h.mono e, hf, hz, fun H2 e2 => q H2 e2⟩
/-- '(' + ''.join([f(part) for part in item]) + ')' -/
theorem ev_parts {K : PySem.W.Frag} {σ : L2.St} {H : Hp} {te tl : TE} {j : Nat} {vs : List Nat} {a : Addr} {xs : List V} {ds : List It} {n : Nat} (hl : Ev tl σ H (.ref a)) (h : SqT K H a xs) (r : DvL K H xs ds) (hf : It.fit (n + 1) (.tup ds)) (hz : (encC (.tup ds)).length ≤ 16000000)
    (hw : ∀ x, wipe ((wipe σ vs).set j (some x)) vs = wipe σ vs)
    (he : ∀ (x : V) (d : It) H1, Ex H H1 → Dv K H1 x d → d.fit n → (encC d).length ≤ 16000000 → Ev te ((wipe σ vs).set j (some x)) H1 (.str ⟨(encC d).toArray⟩)) :
    Ev (tOp (fun x y H Q => ∃ i j, x = V.str i ∧ y = V.str j ∧ i.length + j.length ≤ sizeLine ∧ Q (.str (i ++ j)) H) (tOp (fun x y H Q => ∃ i j, x = V.str i ∧ y = V.str j ∧ i.length + j.length ≤ sizeLine ∧ Q (.str (i ++ j)) H) (tC (.str (Str.ofString "(")))
      (tM1 (fun x xs H Q => ∃ a p, ∃ ys : List Str, x = .str a ∧ xs = [.ref p] ∧ (SqL K H p (ys.map V.str) ∨ SqT K H p (ys.map V.str)) ∧ (ys.map (·.length)).sum + ys.length * a.length ≤ 16777216 ∧ Q (.str (Txt.join a ys)) H) (tC (.str (Str.ofString ""))) (tLc (iTup K tl) (gName j) tYes te vs)))
      (tC (.str (Str.ofString ")")))) σ H (.str ⟨(encC (.tup ds)).toArray⟩) := by
  have ez : (encC (.tup ds)).length = (encL ds).length + 2 := by
    show (40 :: (encL ds ++ [41])).length = _
    rw [List.length_cons, List.length_append] <;> rfl
  have ef : (encL ds) = (ds.map encC).flatten := encL_flat ds
  have ej : Txt.join (Str.ofString "") ((ds.map encC).map fun c => (⟨c.toArray⟩ : Str)) = ⟨(encL ds).toArray⟩ := by rw [join_codes, ef]
  have e1 : (⟨(encC (.tup ds)).toArray⟩ : Str) = Str.ofString "(" ++ Txt.join (Str.ofString "") ((ds.map encC).map fun c => (⟨c.toArray⟩ : Str)) ++ Str.ofString ")" := by
    refine str_ext ?_
    rw [ej]
    have a1 : (Str.ofString "(").cps.toList = [40] := by decide +kernel
    have a2 : (Str.ofString ")").cps.toList = [41] := by decide +kernel
    rw [codes_app (codes_app a1 rfl) a2]
    show 40 :: (encL ds ++ [41]) = _
    simp
  rw [e1]
  have l1 : (Str.ofString "(").length = 1 := by decide +kernel
  have l2 : (Str.ofString ")").length = 1 := by decide +kernel
  have l3 : (Str.ofString "(" ++ Txt.join (Str.ofString "") ((ds.map encC).map fun c => (⟨c.toArray⟩ : Str))).length = 1 + (encL ds).length := by
    rw [ej, str_len, codes_app (x := [40]) (by decide +kernel) rfl, List.length_append]
    simp
  have l4 : (Txt.join (Str.ofString "") ((ds.map encC).map fun c => (⟨c.toArray⟩ : Str))).length = (encL ds).length := by
    rw [ej, str_len]
  refine ev_addS (ev_addS ev_c (ev_joinN (K := K) ev_c (el_mapT (K := K) hl h ?_ hw ?_ fun i x y hx hy H1 ex => ?_) ?_) ?_) ev_c ?_
  · have := hf.1
    rw [r.len]; omega
  · rw [List.length_map, List.length_map, List.length_map, r.len]
  · rw [List.getElem?_map, List.getElem?_map, List.getElem?_map] at hy
    cases e : ds[i]? with
    | none =>
      rw [e] at hy
      cases hy
    | some d =>
      rw [e] at hy
      have ey : y = .str ⟨(encC d).toArray⟩ := (Option.some.inj hy).symm
      have hm := List.mem_of_getElem? e
      rw [ey]
      have := encL_mem hm
      exact he x d H1 ex ((r.at hx e).mono ex) (hf.2 d hm) (by omega)
  · rw [sum_codes, ← ef]
    show _ + _ * 0 ≤ 16777216
    omega
  · rw [l1, l4]; omega
  · rw [l3, l2]; omega
/-- return f'i{item};' -/
theorem enc_int {n : Nat} {i : Int} {σ : L2.St} {H : Hp} {D : Ends} (hf : It.fit n (.int i)) (hz : (encC (.int i)).length ≤ 16000000) (q : ∀ H1, Ex H H1 → D.rt (.str ⟨(encC (.int i)).toArray⟩) H1) {te : TE} (he : Ev te σ H (.int i) := by exact ev_var rfl) :
    tRet (fun σ H Q => tJs [tC (.str (Str.ofString "i")), tFmt te, tC (.str (Str.ofString ";"))] Str.empty σ H fun out H1 => Q (.str out) H1) D σ H := by
  have a1 : (Str.ofString "i").cps.toList = [105] := by decide +kernel
  have a2 : (Str.ofString ";").cps.toList = [59] := by decide +kernel
  have a0 : (Str.empty).cps.toList = [] := by decide +kernel
  have ey : ([Str.ofString "i", (toString i : Str), Str.ofString ";"].foldl (· ++ ·) Str.empty : Str) = ⟨(encC (.int i)).toArray⟩ := mk_of (by
    show (((Str.empty ++ Str.ofString "i") ++ (toString i : Str)) ++ Str.ofString ";").cps.toList = _
    rw [codes_app (codes_app (codes_app a0 a1) rfl) a2]
    show _ = 105 :: (numC i ++ [59])
    simp [numC])
  refine s_ret (ev_is (ev_joined (.cons ev_c (.cons (ev_fmtI he (fit_int hf)) (.cons ev_c .nil))) ?_) (congrArg V.str ey)) q
  have e1 : (encC (.int i)).length = 2 + (numC i).length := by
    show (105 :: (numC i ++ [59])).length = _
    rw [List.length_cons, List.length_append, List.length_singleton]
    omega
  have e2 : ([Str.ofString "i", (toString i : Str), Str.ofString ";"].map (·.length)).sum = 1 + ((numC i).length + (1 + 0)) := by
    show (Str.ofString "i").length + ((toString i : Str).length + ((Str.ofString ";").length + 0)) = _
    rw [str_len, str_len, str_len, a1, a2] <;> rfl
  omega
/-- return f't{len(item)}:{item}' -/
theorem enc_str {n : Nat} {z : Str} {σ : L2.St} {H : Hp} {D : Ends} (hf : It.fit n (.str z)) (hz : (encC (.str z)).length ≤ 16000000) (q : ∀ H1, Ex H H1 → D.rt (.str ⟨(encC (.str z)).toArray⟩) H1) {te : TE} (he : Ev te σ H (.str z) := by exact ev_var rfl) :
    tRet (fun σ H Q => tJs [tC (.str (Str.ofString "t")), tFmt (tCB (fun xs H Q => ∃ z, xs = [V.str z] ∧ z.length ≤ sizeLine ∧ Q (.int z.length) H) (tCons te tNil)), tC (.str (Str.ofString ":")), tFmt te] Str.empty σ H fun out H1 => Q (.str out) H1) D σ H := by
  have a1 : (Str.ofString "t").cps.toList = [116] := by decide +kernel
  have a2 : (Str.ofString ":").cps.toList = [58] := by decide +kernel
  have a0 : (Str.empty).cps.toList = [] := by decide +kernel
  have hl := fit_str hf
  have hl2 : z.length ≤ sizeLine := sizeOk (by omega)
  have hs : ((z.length : Int)).natAbs.log2 < 1920 := Nat.lt_of_lt_of_le (PySem.Flt.log2_lt_of (k := 64) (by decide) (by omega)) (by decide)
  have ey : ([Str.ofString "t", (toString (z.length : Int) : Str), Str.ofString ":", z].foldl (· ++ ·) Str.empty : Str) = ⟨(encC (.str z)).toArray⟩ := mk_of (by
    show ((((Str.empty ++ Str.ofString "t") ++ (toString (z.length : Int) : Str)) ++ Str.ofString ":") ++ z).cps.toList = _
    rw [codes_app (codes_app (codes_app (codes_app a0 a1) rfl) a2) rfl]
    show _ = 116 :: (numC (z.length : Int) ++ (58 :: z.cps.toList))
    simp [numC])
  refine s_ret (ev_is (ev_joined (.cons ev_c (.cons (ev_fmtI (fun H1 e Q q => he H1 e _ fun H2 e2 => ⟨z, rfl, hl2, q H2 e2⟩) hs) (.cons ev_c (.cons (ev_fmtS he (by omega)) .nil)))) ?_) (congrArg V.str ey)) q
  have e1 : (encC (.str z)).length = 2 + (numC (z.length : Int)).length + z.cps.toList.length := by
    show (116 :: (numC (z.length : Int) ++ (58 :: z.cps.toList))).length = _
    rw [List.length_cons, List.length_append, List.length_cons]
    omega
  have e2 : ([Str.ofString "t", (toString (z.length : Int) : Str), Str.ofString ":", z].map (·.length)).sum = 1 + ((numC (z.length : Int)).length + (1 + (z.cps.toList.length + 0))) := by
    show (Str.ofString "t").length + ((toString (z.length : Int) : Str).length + ((Str.ofString ":").length + (z.length + 0))) = _
    rw [str_len, str_len (toString _ : Str), str_len (Str.ofString ":"), str_len z, a1, a2] <;> rfl
  omega

def rCatS' : R2 := fun x y H Q => ∃ i j, x = V.str i ∧ y = V.str j ∧ i.length + j.length ≤ sizeLine ∧ Q (.str (i ++ j)) H
/-- return 'i' + str(item) + ';' -/
theorem wr_int {n : Nat} {i : Int} {σ : L2.St} {H : Hp} {D : Ends} (hf : It.fit n (.int i)) (hz : (encC (.int i)).length ≤ 16000000) (q : ∀ H1, Ex H H1 → D.rt (.str ⟨(encC (.int i)).toArray⟩) H1) {te : TE} (he : Ev te σ H (.int i) := by exact ev_var rfl) :
    tRet (tOp rCatS' (tOp rCatS' (tC (.str (Str.ofString "i"))) (tCB (fun xs H Q => ∃ i : Int, xs = [V.int i] ∧ i.natAbs.log2 < 1920 ∧ Q (.str (toString i)) H) (tCons te tNil))) (tC (.str (Str.ofString ";")))) D σ H := by
  have a1 : (Str.ofString "i").cps.toList = [105] := by decide +kernel
  have a2 : (Str.ofString ";").cps.toList = [59] := by decide +kernel
  have ey : ((Str.ofString "i" ++ (toString i : Str)) ++ Str.ofString ";") = (⟨(encC (.int i)).toArray⟩ : Str) := mk_of (by
    rw [codes_app (codes_app a1 rfl) a2]
    show _ = 105 :: (numC i ++ [59])
    simp [numC])
  have e1 : (encC (.int i)).length = 2 + (numC i).length := by
    show (105 :: (numC i ++ [59])).length = _
    rw [List.length_cons, List.length_append, List.length_singleton]
    omega
  have e3 : (toString i : Str).length = (numC i).length := str_len _
  have e2 : (Str.ofString "i" ++ (toString i : Str)).length = 1 + (numC i).length := by
    rw [str_len, codes_app a1 rfl, List.length_append] <;> rfl
  have l1 : (Str.ofString "i").length = 1 := by decide +kernel
  have l2 : (Str.ofString ";").length = 1 := by decide +kernel
  refine s_ret (ev_is (ev_addS (ev_addS ev_c (ev_strI he (fit_int hf)) ?_) ev_c ?_) (congrArg V.str ey)) q
  · rw [l1, e3]; omega
  · rw [e2, l2]; omega
/-- return 't' + str(len(item)) + ':' + item -/
theorem wr_str {n : Nat} {z : Str} {σ : L2.St} {H : Hp} {D : Ends} (hf : It.fit n (.str z)) (hz : (encC (.str z)).length ≤ 16000000) (q : ∀ H1, Ex H H1 → D.rt (.str ⟨(encC (.str z)).toArray⟩) H1) {te : TE} (he : Ev te σ H (.str z) := by exact ev_var rfl) :
    tRet (tOp rCatS' (tOp rCatS' (tOp rCatS' (tC (.str (Str.ofString "t"))) (tCB (fun xs H Q => ∃ i : Int, xs = [V.int i] ∧ i.natAbs.log2 < 1920 ∧ Q (.str (toString i)) H) (tCons (tCB (fun xs H Q => ∃ z, xs = [V.str z] ∧ z.length ≤ sizeLine ∧ Q (.int z.length) H) (tCons te tNil)) tNil))) (tC (.str (Str.ofString ":")))) te) D σ H := by
  have a1 : (Str.ofString "t").cps.toList = [116] := by decide +kernel
  have a2 : (Str.ofString ":").cps.toList = [58] := by decide +kernel
  have hl := fit_str hf
  have hl2 : z.length ≤ sizeLine := sizeOk (by omega)
  have hs : ((z.length : Int)).natAbs.log2 < 1920 := Nat.lt_of_lt_of_le (PySem.Flt.log2_lt_of (k := 64) (by decide) (by omega)) (by decide)
  have ey : (((Str.ofString "t" ++ (toString (z.length : Int) : Str)) ++ Str.ofString ":") ++ z) = (⟨(encC (.str z)).toArray⟩ : Str) := mk_of (by
    rw [codes_app (codes_app (codes_app a1 rfl) a2) rfl]
    show _ = 116 :: (numC (z.length : Int) ++ (58 :: z.cps.toList))
    simp [numC])
  have e1 : (encC (.str z)).length = 2 + (numC (z.length : Int)).length + z.cps.toList.length := by
    show (116 :: (numC (z.length : Int) ++ (58 :: z.cps.toList))).length = _
    rw [List.length_cons, List.length_append, List.length_cons]
    omega
  have e3 : (toString (z.length : Int) : Str).length = (numC (z.length : Int)).length := str_len _
  have e2 : (Str.ofString "t" ++ (toString (z.length : Int) : Str)).length = 1 + (numC (z.length : Int)).length := by
    rw [str_len, codes_app a1 rfl, List.length_append] <;> rfl
  have e4 : ((Str.ofString "t" ++ (toString (z.length : Int) : Str)) ++ Str.ofString ":").length = 2 + (numC (z.length : Int)).length := by
    rw [str_len, codes_app (codes_app a1 rfl) a2, List.length_append, List.length_append]
    show 1 + _ + 1 = _
    unfold numC
    omega
  have l1 : (Str.ofString "t").length = 1 := by decide +kernel
  have l2 : (Str.ofString ":").length = 1 := by decide +kernel
  have l4 := str_len z
  refine s_ret (ev_is (ev_addS (ev_addS (ev_addS ev_c (ev_strI (fun H1 e Q q => he H1 e _ fun H2 e2 => ⟨z, rfl, hl2, q H2 e2⟩) hs) ?_) ev_c ?_) he ?_) (congrArg V.str ey)) q
  · rw [l1, e3]; omega
  · rw [e2, l2]; omega
  · rw [e4]; omega
/-! ### sizes -/
theorem numC_len {i : Int} (h : i.natAbs.log2 < 1920) : (numC i).length ≤ 1921 := by
  have e := int_text_length_le (k := 1920) (by decide) h
  have e2 : (numC i).length = (toString i : Str).length := (str_len _).symm
  rw [e2]
  show (Str.ofString (toString i)).length ≤ 1921
  rw [PySem.ofString_length]
  exact e
theorem enc_int_len {i : Int} (h : i.natAbs.log2 < 1920) : (encC (.int i)).length ≤ 1923 := by
  have := numC_len h
  show (105 :: (numC i ++ [59])).length ≤ _
  rw [List.length_cons, List.length_append, List.length_singleton]
  omega
theorem enc_str_len {z : Str} (h : z.length ≤ 1000000) : (encC (.str z)).length ≤ 1923 + z.length := by
  have hs : ((z.length : Int)).natAbs.log2 < 1920 := Nat.lt_of_lt_of_le (PySem.Flt.log2_lt_of (k := 64) (by decide) (by omega)) (by decide)
  have := numC_len hs
  have e := str_len z
  show (116 :: (numC (z.length : Int) ++ (58 :: z.cps.toList))).length ≤ _
  rw [List.length_cons, List.length_append, List.length_cons]
  omega
/-- a value of the document: None, an int below 10 ** 60, a text of some signs -/
def It.sc : It → Prop
  | .non => True
  | .int i => -(10 ^ 60) < i ∧ i < 10 ^ 60
  | .str z => z.length ≤ 200
  | .tup _ => False
def vz : It → V
  | .non => .non
  | .int i => .int i
  | .str z => .str z
  | .tup _ => .non
theorem It.sc_fit {d : It} (h : d.sc) (n : Nat) : d.fit n := by
  cases d with
  | non => cases n <;> trivial
  | int i => cases n <;> exact h
  | str z =>
    have h : z.length ≤ 200 := h
    cases n <;> (show z.length ≤ 999999; omega)
  | tup xs => exact h.elim
theorem It.sc_len {d : It} (h : d.sc) : (encC d).length ≤ 2200 := by
  cases d with
  | non => show 1 ≤ 2200; decide
  | int i => exact Nat.le_trans (enc_int_len (log60 h)) (by decide)
  | str z =>
    have h : z.length ≤ 200 := h
    have := enc_str_len (z := z) (by omega)
    omega
  | tup xs => exact h.elim
theorem Dv.sc {K : PySem.W.Frag} {H : Hp} {d : It} (h : d.sc) : Dv K H (vz d) d := by
  cases d with
  | non => exact .non
  | int i => exact .int i
  | str z => exact .str z
  | tup xs => exact h.elim
theorem DvL.sc {K : PySem.W.Frag} {H : Hp} : ∀ {ds : List It}, (∀ d ∈ ds, d.sc) → DvL K H (ds.map vz) ds
  | [], _ => .nil
  | d :: ds, h => .cons (.sc (h d (List.mem_cons_self ..))) (.sc fun x hx => h x (List.mem_cons_of_mem _ hx))
theorem encL_len : ∀ {ds : List It} {m : Nat}, (∀ d ∈ ds, (encC d).length ≤ m) → (encL ds).length ≤ ds.length * m
  | [], m, _ => Nat.zero_le _
  | d :: ds, m, h => by
    have h1 := h d (List.mem_cons_self ..)
    have h2 := encL_len (ds := ds) (m := m) fun x hx => h x (List.mem_cons_of_mem _ hx)
    show (encC d ++ encL ds).length ≤ (ds.length + 1) * m
    rw [List.length_append, Nat.add_mul]
    omega
theorem enc_tup_len (ds : List It) : (encC (.tup ds)).length = (encL ds).length + 2 := by
  show (40 :: (encL ds ++ [41])).length = _
  rw [List.length_cons, List.length_append] <;> rfl


/-! ### data of the heap -/
mutual
theorem dp_mono {K : PySem.W.Frag} {H H' : Hp} (e : Ex H H') : ∀ {v : V} {d : PyData}, Dp K H v d → Dp K H' v d
  | _, _, .non => .non
  | _, _, .bl b => .bl b
  | _, _, .int i => .int i
  | _, _, .str z => .str z
  | _, _, .lst h r => .lst (ex_l e h) (dpa_mono e r)
  | _, _, .tup h r => .tup (ex_t e h) (dpa_mono e r)
theorem dpa_mono {K : PySem.W.Frag} {H H' : Hp} (e : Ex H H') : ∀ {vs : List V} {ds : List PyData}, DpAll K H vs ds → DpAll K H' vs ds
  | _, _, .nil => .nil
  | _, _, .cons h r => .cons (dp_mono e h) (dpa_mono e r)
end
theorem dpa_len {K : PySem.W.Frag} {H : Hp} : ∀ {vs : List V} {ds : List PyData}, DpAll K H vs ds → vs.length = ds.length
  | _, _, .nil => rfl
  | _, _, .cons _ r => congrArg (· + 1) (dpa_len r)
theorem dpa_app {K : PySem.W.Frag} {H : Hp} : ∀ {vs us : List V} {ds es : List PyData}, DpAll K H vs ds → DpAll K H us es → DpAll K H (vs ++ us) (ds ++ es)
  | _, _, _, _, .nil, h => h
  | _, _, _, _, .cons a r, h => .cons a (dpa_app r h)
theorem dpa_at {K : PySem.W.Frag} {H : Hp} : ∀ {vs : List V} {ds : List PyData}, DpAll K H vs ds → ∀ {i : Nat} {v : V}, vs[i]? = some v → ∃ d, ds[i]? = some d ∧ Dp K H v d
  | _, _, .cons h _, 0, v, e => by
    cases Option.some.inj e
    exact ⟨_, rfl, h⟩
  | _, _, .cons _ r, i + 1, v, e => by
    obtain ⟨d, h1, h2⟩ := dpa_at r (i := i) (by simpa using e)
    exact ⟨d, by simpa using h1, h2⟩
theorem dpa_get {K : PySem.W.Frag} {H : Hp} : ∀ {vs : List V} {ds : List PyData}, DpAll K H vs ds → ∀ {i : Nat} {d : PyData}, ds[i]? = some d → ∃ v, vs[i]? = some v ∧ Dp K H v d
  | _, _, .cons h _, 0, d, e => by
    cases Option.some.inj e
    exact ⟨_, rfl, h⟩
  | _, _, .cons _ r, i + 1, d, e => by
    obtain ⟨v, h1, h2⟩ := dpa_get r (i := i) (by simpa using e)
    exact ⟨v, by simpa using h1, h2⟩
/-- data without lists, bools and dicts, of nesting at most n -/
inductive Fl : Nat → PyData → Prop
  | non (n : Nat) : Fl n .none
  | int (n : Nat) (i : Int) : Fl n (.int i)
  | str (n : Nat) {z : Str} (h : SeqAt.shaped (.str z) = true) : Fl n (.str z)
  | tup {n : Nat} {ds : List PyData} (h : ∀ d ∈ ds, Fl n d) (hl : ds.length ≤ 1000 := by first | decide | simp) : Fl (n + 1) (.tuple ds)
theorem Fl.mono : ∀ {n m : Nat} {d : PyData}, Fl n d → n ≤ m → Fl m d
  | _, _, _, .non _, _ => .non _
  | _, _, _, .int _ i, _ => .int _ i
  | _, _, _, .str _ h, _ => .str _ h
  | n + 1, m + 1, _, .tup h l, e => .tup (fun d hd => (h d hd).mono (by omega)) l
  | n + 1, 0, _, .tup h _, e => by omega
mutual
theorem dp_monoN {K : PySem.W.Frag} {H H' : Hp} (e : ExN H H') : ∀ {n : Nat} {v : V} {d : PyData}, Fl n d → Dp K H v d → Dp K H' v d
  | _, _, _, .non _, .non => .non
  | _, _, _, .int _ i, .int _ => .int i
  | _, _, _, .str _ _, .str z => .str z
  | _ + 1, _, _, .tup f _, .tup h r => .tup (exN_t e h) (dpa_monoN e f r)
theorem dpa_monoN {K : PySem.W.Frag} {H H' : Hp} (e : ExN H H') : ∀ {n : Nat} {vs : List V} {ds : List PyData}, (∀ d ∈ ds, Fl n d) → DpAll K H vs ds → DpAll K H' vs ds
  | _, _, _, _, .nil => .nil
  | _, _, _, f, .cons h r => .cons (dp_monoN e (f _ (List.mem_cons_self ..)) h) (dpa_monoN e (fun d hd => f d (List.mem_cons_of_mem _ hd)) r)
end
theorem q_asgK {te : TE} {σ : L2.St} {H : Hp} {tz : TS} {D : Ends} {i : Nat} (k : te σ H fun v H1 => tz D (σ.set i (some v)) H1) : tSeq (tAsg te (gName i)) tz D σ H := k
theorem q_asgG {te : TE} {g : TG} {σ : L2.St} {H : Hp} {tz : TS} {D : Ends} (k : te σ H fun v H1 => g v σ H1 (tz D)) : tSeq (tAsg te g) tz D σ H := k
/-! ### equality of data -/
/-- no bool, no dict -/
inductive Pl : PyData → Prop
  | non : Pl .none
  | int (i : Int) : Pl (.int i)
  | str (z : Str) : Pl (.str z)
  | lst {ds : List PyData} (h : ∀ d ∈ ds, Pl d) : Pl (.list ds)
  | tup {ds : List PyData} (h : ∀ d ∈ ds, Pl d) : Pl (.tuple ds)
theorem Fl.pl : ∀ {n : Nat} {d : PyData}, Fl n d → Pl d
  | _, _, .non _ => .non
  | _, _, .int _ i => .int i
  | _, _, .str _ _ => .str _
  | _ + 1, _, .tup h _ => .tup fun d hd => (h d hd).pl
mutual
theorem eqv_iff : ∀ (d e : PyData), Pl d → Pl e → (PyData.eqv d e = true ↔ d = e)
  | .none, e, _, he => by cases he <;> simp [PyData.eqv]
  | .int i, e, _, he => by cases he <;> simp [PyData.eqv]
  | .str z, e, _, he => by cases he <;> simp [PyData.eqv]
  | .list xs, e, hd, he => by
    cases hd with
    | lst hd =>
      cases he with
      | lst he =>
        rename_i ys
        rw [show PyData.eqv (.list xs) (.list ys) = PyData.eqvAll xs ys by simp [PyData.eqv], eqvAll_iff xs ys hd he]
        simp
      | _ => simp [PyData.eqv]
  | .tuple xs, e, hd, he => by
    cases hd with
    | tup hd =>
      cases he with
      | tup he =>
        rename_i ys
        rw [show PyData.eqv (.tuple xs) (.tuple ys) = PyData.eqvAll xs ys by simp [PyData.eqv], eqvAll_iff xs ys hd he]
        simp
      | _ => simp [PyData.eqv]
  | .bool _, _, hd, _ => by cases hd
  | .dict _, _, hd, _ => by cases hd
theorem eqvAll_iff : ∀ (xs ys : List PyData), (∀ d ∈ xs, Pl d) → (∀ d ∈ ys, Pl d) → (PyData.eqvAll xs ys = true ↔ xs = ys)
  | [], [], _, _ => by simp [PyData.eqvAll]
  | [], y :: ys, _, _ => by simp [PyData.eqvAll]
  | x :: xs, [], _, _ => by simp [PyData.eqvAll]
  | x :: xs, y :: ys, hx, hy => by
    rw [show PyData.eqvAll (x :: xs) (y :: ys) = (PyData.eqv x y && PyData.eqvAll xs ys) by simp [PyData.eqvAll], Bool.and_eq_true,
      eqv_iff x y (hx x (List.mem_cons_self ..)) (hy y (List.mem_cons_self ..)), eqvAll_iff xs ys (fun d hd => hx d (List.mem_cons_of_mem _ hd)) (fun d hd => hy d (List.mem_cons_of_mem _ hd))]
    simp
end
noncomputable def eqB (d e : PyData) : Bool := PyData.eqv d e
theorem eqv_dec {d e : PyData} (hd : Pl d) (he : Pl e) [Decidable (d = e)] : PyData.eqv d e = decide (d = e) := by
  by_cases h : d = e
  · rw [decide_eq_true h]
    exact (eqv_iff d e hd he).mpr h
  · rw [decide_eq_false h]
    cases x : PyData.eqv d e with
    | false => rfl
    | true => exact absurd ((eqv_iff d e hd he).mp x) h
mutual
theorem canLay_fl : ∀ {n : Nat} {d : PyData}, Fl n d → d.canLay0 = true
  | _, .none, _ => by simp [PyData.canLay0]
  | _, .int _, _ => by simp [PyData.canLay0]
  | _, .str z, h => by
    cases h with
    | str _ h => exact SeqAt.canLay_of_shaped h
  | _, .tuple xs, h => by
    cases h with
    | tup h _ =>
      rw [show (PyData.tuple xs).canLay0 = PyData.canLayAll0 xs by simp [PyData.canLay0]]
      exact canLayAll_fl h
  | _, .bool _, h => by cases h
  | _, .list _, h => by cases h
  | _, .dict _, h => by cases h
theorem canLayAll_fl : ∀ {n : Nat} {ds : List PyData}, (∀ d ∈ ds, Fl n d) → PyData.canLayAll0 ds = true
  | _, [], _ => by simp [PyData.canLayAll0]
  | _, d :: ds, h => by
    rw [show PyData.canLayAll0 (d :: ds) = (d.canLay0 && PyData.canLayAll0 ds) by simp [PyData.canLayAll0], canLay_fl (h d (List.mem_cons_self ..)), canLayAll_fl fun x hx => h x (List.mem_cons_of_mem _ hx)] <;> rfl
end
mutual
theorem depth_fl : ∀ {n : Nat} {d : PyData}, Fl n d → d.depth ≤ n + 1
  | _, .none, _ => by simp [PyData.depth]
  | _, .int _, _ => by simp [PyData.depth]
  | _, .str z, _ => by simp [PyData.depth]
  | _ + 1, .tuple xs, .tup h _ => by
    rw [show (PyData.tuple xs).depth = 1 + PyData.depthAll xs by simp [PyData.depth, Nat.add_comm]]
    have := depthAll_fl h
    omega
  | _, .bool _, h => by cases h
  | _, .list _, h => by cases h
  | _, .dict _, h => by cases h
theorem depthAll_fl : ∀ {n : Nat} {ds : List PyData}, (∀ d ∈ ds, Fl n d) → PyData.depthAll ds ≤ n + 1
  | _, [], _ => by simp [PyData.depthAll]
  | n, d :: ds, h => by
    have h1 := depth_fl (h d (List.mem_cons_self ..))
    have h2 := depthAll_fl fun x hx => h x (List.mem_cons_of_mem _ hx)
    rw [show PyData.depthAll (d :: ds) = max d.depth (PyData.depthAll ds) by simp [PyData.depthAll]]
    omega
end
theorem shaped_fl {n : Nat} {d : PyData} (h : Fl n d) (hn : n ≤ 60) : SeqAt.shaped d = true := by
  have := depth_fl h
  unfold SeqAt.shaped
  rw [canLay_fl h, decide_eq_true (by omega)] <;> rfl
theorem shaped_lst {n : Nat} {ds : List PyData} (h : ∀ d ∈ ds, Fl n d) (hn : n ≤ 60) : SeqAt.shaped (.list ds) = true := by
  have := depthAll_fl h
  unfold SeqAt.shaped
  rw [show (PyData.list ds).canLay0 = PyData.canLayAll0 ds by simp [PyData.canLay0], canLayAll_fl h, decide_eq_true (by
    rw [show (PyData.list ds).depth = 1 + PyData.depthAll ds by simp [PyData.depth, Nat.add_comm]]
    omega)] <;> rfl
/-! ### what evaluates to data -/
def EP (K : PySem.W.Frag) (te : TE) (σ : L2.St) (H : Hp) (R : PyData → Prop) : Prop := ∀ H1, Ex H H1 → ∀ Q : VK, (∀ v d H2, Ex H1 H2 → R d → Dp K H2 v d → Q v H2) → te σ H1 Q
def EPA (K : PySem.W.Frag) (ta : TA) (σ : L2.St) (H : Hp) (R : List PyData → Prop) : Prop := ∀ H1, Ex H H1 → ∀ Q : List V → Hp → Prop, (∀ vs ds H2, Ex H1 H2 → R ds → DpAll K H2 vs ds → Q vs H2) → ta σ H1 Q
/-- a new list -/
def EPL (K : PySem.W.Frag) (te : TE) (σ : L2.St) (H : Hp) (R : List PyData → Prop) : Prop := ∀ H1, Ex H H1 → ∀ Q : VK, (∀ p vs ds H2, H1 p = none → Ex H1 H2 → H2 p = some (.lst vs) → R ds → DpAll K H2 vs ds → Q (.ref p) H2) → te σ H1 Q
section
variable {K : PySem.W.Frag} {σ : L2.St} {H : Hp} {te ta tb : TE}
theorem ep_is {v : V} {d : PyData} {R : PyData → Prop} (h : Ev te σ H v) (hd : Dp K H v d) (hr : R d) : EP K te σ H R := fun H1 e Q q => h H1 e _ fun H2 e2 => q v d H2 e2 hr (dp_mono (e.trans e2) hd)
theorem ep_int {i : Int} (h : Ev te σ H (.int i)) : EP K te σ H (· = .int i) := ep_is h (.int i) rfl
theorem ep_str {z : Str} (h : Ev te σ H (.str z)) : EP K te σ H (· = .str z) := ep_is h (.str z) rfl
theorem ep_non (h : Ev te σ H .non) : EP K te σ H (· = .none) := ep_is h .non rfl
theorem EP.imp {R S : PyData → Prop} (h : EP K te σ H R) (i : ∀ d, R d → S d) : EP K te σ H S := fun H1 e Q q => h H1 e Q fun v d H2 e2 r D => q v d H2 e2 (i d r) D
theorem EP.mono {R : PyData → Prop} {H' : Hp} (e : Ex H H') (h : EP K te σ H R) : EP K te σ H' R := fun H1 e1 => h H1 (e.trans e1)
theorem epa_nil : EPA K tNil σ H (· = []) := fun H1 _ _ q => q [] [] H1 (Ex.refl H1) rfl .nil
theorem epa_cons {tr : TA} {R : PyData → Prop} {S : List PyData → Prop} (h : EP K te σ H R) (r : EPA K tr σ H S) : EPA K (tCons te tr) σ H (fun ds => ∃ d r, ds = d :: r ∧ R d ∧ S r) := fun H1 e Q q =>
  h H1 e _ fun v d H2 e2 hr hd => r H2 (e.trans e2) _ fun vs ds H3 e3 hs hds => q (v :: vs) (d :: ds) H3 (e2.trans e3) ⟨d, ds, rfl, hr, hs⟩ (.cons (dp_mono e3 hd) hds)
theorem epa_c {tr : TA} {d : PyData} {ds : List PyData} (h : EP K te σ H (· = d)) (r : EPA K tr σ H (· = ds)) : EPA K (tCons te tr) σ H (· = d :: ds) := fun H1 e Q q =>
  h H1 e _ fun v d' H2 e2 hr hd => r H2 (e.trans e2) _ fun vs ds' H3 e3 hs hds => q (v :: vs) (d' :: ds') H3 (e2.trans e3) (by rw [hr, hs]) (.cons (dp_mono e3 hd) hds)
theorem ep_tup {ta : TA} {R : PyData → Prop} {S : List PyData → Prop} (h : EPA K ta σ H S) (i : ∀ ds, S ds → ds.length ≤ 100000 ∧ R (.tuple ds)) : EP K (tTup ta) σ H R := fun H1 e Q q =>
  h H1 e _ fun vs ds H2 e2 hs hds => ⟨sz_of (by rw [dpa_len hds]; exact (i ds hs).1), fun p hp => q _ _ _ (e2.trans (Ex.new hp)) (i ds hs).2 (.tup (st_of upd_same) (dpa_mono (Ex.new hp) hds))⟩
theorem ep_t {ta : TA} {ds : List PyData} (h : EPA K ta σ H (· = ds)) (hl : ds.length ≤ 100000) : EP K (tTup ta) σ H (· = .tuple ds) := ep_tup h fun ds' e => by
  rw [e]
  exact ⟨hl, rfl⟩
theorem epl_lst {ta : TA} {S : List PyData → Prop} (h : EPA K ta σ H S) (i : ∀ ds, S ds → ds.length ≤ 100000) : EPL K (tLst ta) σ H S := fun H1 e Q q =>
  h H1 e _ fun vs ds H2 e2 hs hds => ⟨sz_of (by rw [dpa_len hds]; exact i ds hs), fun p hp => q p vs ds _ (fresh_back e2 hp) (e2.trans (Ex.new hp)) upd_same hs (dpa_mono (Ex.new hp) hds)⟩
theorem EPL.ep {R : PyData → Prop} {S : List PyData → Prop} (h : EPL K te σ H S) (i : ∀ ds, S ds → R (.list ds)) : EP K te σ H R := fun H1 e Q q =>
  h H1 e _ fun p vs ds H2 hp e2 h2 hs hds => q _ _ H2 e2 (i ds hs) (.lst (sq_of h2) hds)
theorem s_retP {D : Ends} {R : PyData → Prop} (h : EP K te σ H R) (k : ∀ v d H1, Ex H H1 → R d → Dp K H1 v d → D.rt v H1) : tRet te D σ H := h H (Ex.refl H) _ k
theorem s_retPL {D : Ends} {S : List PyData → Prop} (h : EPL K te σ H S) (k : ∀ p vs ds H1, H p = none → Ex H H1 → H1 p = some (.lst vs) → S ds → DpAll K H1 vs ds → D.rt (.ref p) H1) : tRet te D σ H := h H (Ex.refl H) _ k
theorem q_asgP {D : Ends} {tz : TS} {i : Nat} {R : PyData → Prop} (h : EP K te σ H R) (k : ∀ v d H1, Ex H H1 → R d → Dp K H1 v d → tz D (σ.set i (some v)) H1) : tSeq (tAsg te (gName i)) tz D σ H := h H (Ex.refl H) _ k
theorem q_asgPL {D : Ends} {tz : TS} {i : Nat} {S : List PyData → Prop} (h : EPL K te σ H S) (k : ∀ p vs ds H1, H p = none → Ex H H1 → H1 p = some (.lst vs) → S ds → DpAll K H1 vs ds → tz D (σ.set i (some (.ref p))) H1) : tSeq (tAsg te (gName i)) tz D σ H := h H (Ex.refl H) _ k
theorem s_retTup {ta : TA} {D : Ends} {S : List PyData → Prop} (h : EPA K ta σ H S) (l : ∀ ds, S ds → ds.length ≤ 100000) (k : ∀ p ds H1, H p = none → Ex H H1 → S ds → Dp K H1 (.ref p) (.tuple ds) → D.rt (.ref p) H1) : tRet (tTup ta) D σ H :=
  h H (Ex.refl H) _ fun vs ds H1 e1 hs hds => ⟨sz_of (by rw [dpa_len hds]; exact l ds hs), fun p hp => k p ds _ (fresh_back e1 hp) (e1.trans (Ex.new hp)) hs (.tup (st_of upd_same) (dpa_mono (Ex.new hp) hds))⟩
/-- == and != of data -/
theorem ev_eqP {x y : V} {d e : PyData} {b : Bool} (ha : Ev ta σ H x) (hb : Ev tb σ H y) (hd : Dp K H x d) (he : Dp K H y e) (sd : SeqAt.shaped d = true) (se : SeqAt.shaped e = true) (hv : PyData.eqv d e = b) : Ev (tOp (rEqD K) ta tb) σ H (.bl b) :=
  ev_op ha hb fun H1 e1 _ q => ⟨d, e, dp_mono e1 hd, dp_mono e1 he, sd, se, by rw [hv]; exact q H1 (Ex.refl H1)⟩
theorem ev_neP {x y : V} {d e : PyData} {b : Bool} (ha : Ev ta σ H x) (hb : Ev tb σ H y) (hd : Dp K H x d) (he : Dp K H y e) (sd : SeqAt.shaped d = true) (se : SeqAt.shaped e = true) (hv : (!PyData.eqv d e) = b) : Ev (tOp (rNeD K) ta tb) σ H (.bl b) :=
  ev_op ha hb fun H1 e1 _ q => ⟨d, e, dp_mono e1 hd, dp_mono e1 he, sd, se, by rw [hv]; exact q H1 (Ex.refl H1)⟩
/-- [f(k) for k in range(n)] -/
theorem epl_mapR {ta : TA} {j : Nat} {vs : List Nat} {n : Nat} {R : Nat → PyData → Prop} (h : EvA ta σ H [.int (n : Int)]) (hz : n ≤ 40000) (hw : ∀ x, wipe ((wipe σ vs).set j (some x)) vs = wipe σ vs) {m : Nat} (hf : ∀ i d, R i d → Fl m d)
    (he : ∀ (i : Nat) H1, i < n → Ex H H1 → EP K te ((wipe σ vs).set j (some (.int (i : Int)))) H1 (R i)) : EPL K (tLc (iRng1 ta) (gName j) tYes te vs) σ H (fun ds => ds.length = n ∧ ∀ i d, ds[i]? = some d → R i d) := by
  intro H0 e Q q
  refine h H0 e _ fun H1 e1 => ⟨(n : Int), rfl, by omega, by omega, fun Dl hD => ?_⟩
  rw [show ((n : Int)).toNat = n by omega]
  refine lc_range (n := n) (fun i H' => H1 Dl = none ∧ Ex H1 H' ∧ ∃ us ds, H' Dl = some (.lst us) ∧ DpAll K H' us ds ∧ ds.length = i ∧ ∀ i d, ds[i]? = some d → R i d) ⟨hD, Ex.new hD, [], [], upd_same, .nil, rfl, fun i d z => nomatch z⟩ (fun i H' hi p => ⟨hw _, ?_⟩) (fun H' p => ?_)
  · obtain ⟨p1, p2, us, ds, p3, p4, p5, p6⟩ := p
    show te ((wipe σ vs).set j (some (.int (0 + (i : Int))))) H' _
    rw [Int.zero_add]
    refine he i H1 hi (e.trans e1) H' p2 _ fun v d H4 e4 hr hd => ⟨us, e4 Dl _ p3, sz_lt (by rw [dpa_len p4, p5]; omega), p1, (p2.trans e4).mut p1, us ++ [v], ds ++ [d], upd_same, ?_, by rw [List.length_append, p5] <;> rfl, fun k x hk => ?_⟩
    · exact dpa_app (dpa_monoN (ExN.upd (e4 Dl _ p3)) (fun x hx => by
        obtain ⟨k, hk⟩ := List.getElem?_of_mem hx
        exact hf k x (p6 k x hk)) (dpa_mono e4 p4)) (.cons (dp_monoN (ExN.upd (e4 Dl _ p3)) (hf i d hr) hd) .nil)
    · by_cases hlt : k < ds.length
      · rw [List.getElem?_append_left hlt] at hk
        exact p6 k x hk
      · rw [List.getElem?_append_right (by omega)] at hk
        have hk0 : k - ds.length = 0 := by
          by_cases z : k - ds.length = 0
          · exact z
          · rw [List.getElem?_eq_none (by simp; omega)] at hk
            cases hk
        rw [hk0] at hk
        have ek : k = i := by omega
        rw [ek, ← Option.some.inj hk]
        exact hr
  · obtain ⟨p1, p2, us, ds, p3, p4, p5, p6⟩ := p
    exact q Dl us ds H' (fresh_back e1 p1) (e1.trans p2) p3 ⟨p5, p6⟩ p4
end
section
variable {K : PySem.W.Frag} {σ : L2.St} {H : Hp} {te tl : TE}
theorem acc_add {K : PySem.W.Frag} {H H4 : Hp} {Dl : Addr} {us : List V} {ds : List PyData} {v : V} {d : PyData} {m : Nat} {R : Nat → PyData → Prop} (hf : ∀ i d, R i d → Fl m d) (e4 : Ex H H4) (p3 : H Dl = some (.lst us)) (p4 : DpAll K H us ds) (p6 : ∀ i d, ds[i]? = some d → R i d) (hr : R ds.length d) (hd : Dp K H4 v d) :
    DpAll K (upd H4 Dl (.lst (us ++ [v]))) (us ++ [v]) (ds ++ [d]) ∧ (ds ++ [d]).length = ds.length + 1 ∧ ∀ i x, (ds ++ [d])[i]? = some x → R i x := by
  refine ⟨dpa_app (dpa_monoN (n := m) (ExN.upd (e4 Dl _ p3)) (fun x hx => ?_) (dpa_mono e4 p4)) (.cons (dp_monoN (ExN.upd (e4 Dl _ p3)) (hf _ d hr) hd) .nil), by simp, fun k x hk => ?_⟩
  · obtain ⟨k, hk⟩ := List.getElem?_of_mem hx
    exact hf k x (p6 k x hk)
  · by_cases hlt : k < ds.length
    · rw [List.getElem?_append_left hlt] at hk
      exact p6 k x hk
    · rw [List.getElem?_append_right (by omega)] at hk
      have hk0 : k - ds.length = 0 := by
        by_cases z : k - ds.length = 0
        · exact z
        · rw [List.getElem?_eq_none (by simp; omega)] at hk
          cases hk
      rw [hk0] at hk
      have ek : k = ds.length := by omega
      rw [ek, ← Option.some.inj hk]
      exact hr
/-- [f(x) for x in a tuple] -/
theorem epl_mapT {j : Nat} {vs : List Nat} {a : Addr} {xs : List V} {R : Nat → PyData → Prop} (h : Ev tl σ H (.ref a)) (hx : SqT K H a xs) (hz : xs.length ≤ 40000) (hw : ∀ x, wipe ((wipe σ vs).set j (some x)) vs = wipe σ vs) {m : Nat} (hf : ∀ i d, R i d → Fl m d)
    (he : ∀ (i : Nat) x H1, xs[i]? = some x → Ex H H1 → EP K te ((wipe σ vs).set j (some x)) H1 (R i)) : EPL K (tLc (iTup K tl) (gName j) tYes te vs) σ H (fun ds => ds.length = xs.length ∧ ∀ i d, ds[i]? = some d → R i d) := by
  intro H0 e Q q
  refine h H0 e _ fun H1 e1 => ⟨a, rfl, ⟨xs, ex_t (e.trans e1) hx⟩, fun Dl hD => ?_⟩
  refine lc_tup (xs := xs) (fun i H' => H1 Dl = none ∧ Ex H1 H' ∧ ∃ us ds, H' Dl = some (.lst us) ∧ DpAll K H' us ds ∧ ds.length = i ∧ ∀ i d, ds[i]? = some d → R i d) ⟨hD, Ex.new hD, [], [], upd_same, .nil, rfl, fun i d z => nomatch z⟩ (fun i H' _ p => ex_t ((e.trans e1).trans p.2.1) hx) (fun i x H' hi p => ⟨hw x, ?_⟩) (fun H' p => ?_)
  · obtain ⟨p1, p2, us, ds, p3, p4, p5, p6⟩ := p
    have hi2 := (List.getElem?_eq_some_iff.mp hi).1
    show te ((wipe σ vs).set j (some x)) H' _
    refine he i x H1 hi (e.trans e1) H' p2 _ fun v d H4 e4 hr hd => ⟨us, e4 Dl _ p3, sz_lt (by rw [dpa_len p4, p5]; omega), p1, (p2.trans e4).mut p1, us ++ [v], ds ++ [d], upd_same, ?_⟩
    rw [← p5] at hr ⊢
    exact acc_add hf e4 p3 p4 p6 hr hd
  · obtain ⟨p1, p2, us, ds, p3, p4, p5, p6⟩ := p
    exact q Dl us ds H' (fresh_back e1 p1) (e1.trans p2) p3 ⟨p5, p6⟩ p4
/-- [f(x) for x in a list] -/
theorem epl_mapL {j : Nat} {vs : List Nat} {a : Addr} {xs : List V} {R : Nat → PyData → Prop} (h : Ev tl σ H (.ref a)) (hx : SqL K H a xs) (hz : xs.length ≤ 40000) (hw : ∀ x, wipe ((wipe σ vs).set j (some x)) vs = wipe σ vs) {m : Nat} (hf : ∀ i d, R i d → Fl m d)
    (he : ∀ (i : Nat) x H1, xs[i]? = some x → Ex H H1 → EP K te ((wipe σ vs).set j (some x)) H1 (R i)) : EPL K (tLc (iList K tl) (gName j) tYes te vs) σ H (fun ds => ds.length = xs.length ∧ ∀ i d, ds[i]? = some d → R i d) := by
  intro H0 e Q q
  refine h H0 e _ fun H1 e1 => ⟨a, rfl, ⟨xs, ex_l (e.trans e1) hx⟩, fun Dl hD => ?_⟩
  refine lc_list (xs := xs) (fun i H' => H1 Dl = none ∧ Ex H1 H' ∧ ∃ us ds, H' Dl = some (.lst us) ∧ DpAll K H' us ds ∧ ds.length = i ∧ ∀ i d, ds[i]? = some d → R i d) ⟨hD, Ex.new hD, [], [], upd_same, .nil, rfl, fun i d z => nomatch z⟩ (fun i H' _ p => ex_l ((e.trans e1).trans p.2.1) hx) (fun i x H' hi p => ⟨hw x, ?_⟩) (fun H' p => ?_)
  · obtain ⟨p1, p2, us, ds, p3, p4, p5, p6⟩ := p
    have hi2 := (List.getElem?_eq_some_iff.mp hi).1
    show te ((wipe σ vs).set j (some x)) H' _
    refine he i x H1 hi (e.trans e1) H' p2 _ fun v d H4 e4 hr hd => ⟨us, e4 Dl _ p3, sz_lt (by rw [dpa_len p4, p5]; omega), p1, (p2.trans e4).mut p1, us ++ [v], ds ++ [d], upd_same, ?_⟩
    rw [← p5] at hr ⊢
    exact acc_add hf e4 p3 p4 p6 hr hd
  · obtain ⟨p1, p2, us, ds, p3, p4, p5, p6⟩ := p
    exact q Dl us ds H' (fresh_back e1 p1) (e1.trans p2) p3 ⟨p5, p6⟩ p4
end
/-- tuple(a new list of data) -/
theorem ep_tupOf {K : PySem.W.Frag} {σ : L2.St} {H : Hp} {te : TE} {R : PyData → Prop} {S : List PyData → Prop} (h : EPL K te σ H S) (i : ∀ ds, S ds → R (.tuple ds)) : EP K (tCB (rTupOf K) (tCons te tNil)) σ H R := fun H1 e Q q =>
  h H1 e _ fun p vs ds H2 _ e2 hp hs hds => ⟨p, vs, rfl, .inl ⟨sq_of hp, fun l hl => q _ _ _ (e2.trans (Ex.new hl)) (i ds hs) (.tup (st_of upd_same) (dpa_mono (Ex.new hl) hds))⟩⟩
theorem list_same {ds es : List PyData} (hl : ds.length = es.length) (h : ∀ (i : Nat) (d : PyData), ds[i]? = some d → es[i]? = some d) : ds = es := by
  refine List.ext_getElem? fun i => ?_
  by_cases hi : i < ds.length
  · rw [List.getElem?_eq_getElem hi]
    exact (h i _ (List.getElem?_eq_getElem hi)).symm
  · rw [List.getElem?_eq_none (by omega), List.getElem?_eq_none (by omega)]
/-- isinstance of data against tuple, list -/
def isTup : PyData → Bool
  | .tuple _ => true
  | _ => false
def isLst : PyData → Bool
  | .list _ => true
  | _ => false
def isStrD : PyData → Bool
  | .str _ => true
  | _ => false
def isIntD : PyData → Bool
  | .int _ => true
  | .bool _ => true
  | _ => false
def isBoolD : PyData → Bool
  | .bool _ => true
  | _ => false
theorem tyx_lst {K : PySem.W.Frag} {H : Hp} {a : Addr} {xs : List V} (h : SqL K H a xs) : TyX K H (.ref a) (.type "list") := by
  rcases h with (h | ⟨o, h⟩) | ⟨o, its, n, h, hc, _⟩
  · exact .base (.lst h)
  · exact .base (.frz h)
  · exact .kList h hc
theorem ev_isT {K : PySem.W.Frag} {σ : L2.St} {H : Hp} {te : TE} {x : V} {d : PyData} (h : Ev te σ H x) (hd : Dp K H x d) : Ev (tCB (rIsi K) (tCons te (tCons (tC (.ty "tuple")) tNil))) σ H (.bl (isTup d)) := by
  cases hd with
  | non => exact ev_isi (a := "NoneType") (r := false) h (fun _ _ => .base .non) (by decide +kernel)
  | bl b => exact ev_isi (a := "bool") (r := false) h (fun _ _ => .base (.bl b)) (by decide +kernel)
  | int i => exact ev_isi (a := "int") (r := false) h (fun _ _ => .base (.int i)) (by decide +kernel)
  | str z => exact ev_isi (a := "str") (r := false) h (fun _ _ => .base (.str z)) (by decide +kernel)
  | lst hs _ => exact ev_isi (a := "list") (r := false) h (fun H2 e2 => tyx_lst (ex_l e2 hs)) (by decide +kernel)
  | tup hs _ => exact ev_isi (a := "tuple") (r := true) h (fun H2 e2 => tyx_tup (ex_t e2 hs)) (by decide +kernel)
theorem ev_isL {K : PySem.W.Frag} {σ : L2.St} {H : Hp} {te : TE} {x : V} {d : PyData} (h : Ev te σ H x) (hd : Dp K H x d) : Ev (tCB (rIsi K) (tCons te (tCons (tC (.ty "list")) tNil))) σ H (.bl (isLst d)) := by
  cases hd with
  | non => exact ev_isi (a := "NoneType") (r := false) h (fun _ _ => .base .non) (by decide +kernel)
  | bl b => exact ev_isi (a := "bool") (r := false) h (fun _ _ => .base (.bl b)) (by decide +kernel)
  | int i => exact ev_isi (a := "int") (r := false) h (fun _ _ => .base (.int i)) (by decide +kernel)
  | str z => exact ev_isi (a := "str") (r := false) h (fun _ _ => .base (.str z)) (by decide +kernel)
  | lst hs _ => exact ev_isi (a := "list") (r := true) h (fun H2 e2 => tyx_lst (ex_l e2 hs)) (by decide +kernel)
  | tup hs _ => exact ev_isi (a := "tuple") (r := false) h (fun H2 e2 => tyx_tup (ex_t e2 hs)) (by decide +kernel)
theorem ev_isS {K : PySem.W.Frag} {σ : L2.St} {H : Hp} {te : TE} {x : V} {d : PyData} (h : Ev te σ H x) (hd : Dp K H x d) : Ev (tCB (rIsi K) (tCons te (tCons (tC (.ty "str")) tNil))) σ H (.bl (isStrD d)) := by
  cases hd with
  | non => exact ev_isi (a := "NoneType") (r := false) h (fun _ _ => .base .non) (by decide +kernel)
  | bl b => exact ev_isi (a := "bool") (r := false) h (fun _ _ => .base (.bl b)) (by decide +kernel)
  | int i => exact ev_isi (a := "int") (r := false) h (fun _ _ => .base (.int i)) (by decide +kernel)
  | str z => exact ev_isi (a := "str") (r := true) h (fun _ _ => .base (.str z)) (by decide +kernel)
  | lst hs _ => exact ev_isi (a := "list") (r := false) h (fun H2 e2 => tyx_lst (ex_l e2 hs)) (by decide +kernel)
  | tup hs _ => exact ev_isi (a := "tuple") (r := false) h (fun H2 e2 => tyx_tup (ex_t e2 hs)) (by decide +kernel)
theorem ev_isNum {K : PySem.W.Frag} {σ : L2.St} {H : Hp} {te : TE} {x : V} {d : PyData} (h : Ev te σ H x) (hd : Dp K H x d) : Ev (tCB (rIsi K) (tCons te (tCons (tC (.ty "int")) tNil))) σ H (.bl (isIntD d)) := by
  cases hd with
  | non => exact ev_isi (a := "NoneType") (r := false) h (fun _ _ => .base .non) (by decide +kernel)
  | bl b => exact ev_isi (a := "bool") (r := true) h (fun _ _ => .base (.bl b)) (by decide +kernel)
  | int i => exact ev_isi (a := "int") (r := true) h (fun _ _ => .base (.int i)) (by decide +kernel)
  | str z => exact ev_isi (a := "str") (r := false) h (fun _ _ => .base (.str z)) (by decide +kernel)
  | lst hs _ => exact ev_isi (a := "list") (r := false) h (fun H2 e2 => tyx_lst (ex_l e2 hs)) (by decide +kernel)
  | tup hs _ => exact ev_isi (a := "tuple") (r := false) h (fun H2 e2 => tyx_tup (ex_t e2 hs)) (by decide +kernel)
theorem ev_isBl {K : PySem.W.Frag} {σ : L2.St} {H : Hp} {te : TE} {x : V} {d : PyData} (h : Ev te σ H x) (hd : Dp K H x d) : Ev (tCB (rIsi K) (tCons te (tCons (tC (.ty "bool")) tNil))) σ H (.bl (isBoolD d)) := by
  cases hd with
  | non => exact ev_isi (a := "NoneType") (r := false) h (fun _ _ => .base .non) (by decide +kernel)
  | bl b => exact ev_isi (a := "bool") (r := true) h (fun _ _ => .base (.bl b)) (by decide +kernel)
  | int i => exact ev_isi (a := "int") (r := false) h (fun _ _ => .base (.int i)) (by decide +kernel)
  | str z => exact ev_isi (a := "str") (r := false) h (fun _ _ => .base (.str z)) (by decide +kernel)
  | lst hs _ => exact ev_isi (a := "list") (r := false) h (fun H2 e2 => tyx_lst (ex_l e2 hs)) (by decide +kernel)
  | tup hs _ => exact ev_isi (a := "tuple") (r := false) h (fun H2 e2 => tyx_tup (ex_t e2 hs)) (by decide +kernel)
/-- an item of a list or a tuple -/
def rIxD (K : PySem.W.Frag) : R2 := fun x y H Q => rIxL K x y H Q ∨ rIxT K x y H Q
theorem ix_any {X : Cx} {r1 r2 : R2} (h1 : IxR X r1) (h2 : IxR X r2) : IxR X (fun x y H Q => r1 x y H Q ∨ r2 x y H Q) := fun value slice pins s σ H x y v u Q I rx ry h hs => h.elim (fun h => h1 value slice pins s σ H x y v u Q I rx ry h hs) (fun h => h2 value slice pins s σ H x y v u Q I rx ry h hs)
theorem op_any {X : Cx} {f : Value → Value → Sem Value} {r1 r2 : R2} (h1 : OpR X f r1) (h2 : OpR X f r2) : OpR X f (fun x y H Q => r1 x y H Q ∨ r2 x y H Q) := fun pins s σ H x y v u Q I rx ry h => h.elim (fun h => h1 pins s σ H x y v u Q I rx ry h) (fun h => h2 pins s σ H x y v u Q I rx ry h)


/-- the law's signs -/
def signsZ : List Nat := [32, 33, 34, 35, 36] ++ (List.range 89).map (· + 38)
theorem signs_len : signsZ.length = 94 := by decide +kernel
theorem signs_ok : ∀ c ∈ signsZ, 32 ≤ c ∧ c ≤ 126 ∧ c ≠ 37 := by decide +kernel
theorem signs_eq : (Str.ofString " !\"#$&'()*+,-./0123456789:;<=>?@ABCDEFGHIJKLMNOPQRSTUVWXYZ[\\]^_`" ++ Str.ofString "abcdefghijklmnopqrstuvwxyz{|}~" : Str) = ⟨signsZ.toArray⟩ := by decide +kernel
theorem shaped_signs {z : Str} (h : ∀ c ∈ z.cps.toList, c ∈ signsZ) : SeqAt.shaped (.str z) = true := by
  unfold SeqAt.shaped
  have e : PyData.strOk z = true := by
    unfold PyData.strOk
    rw [Array.all_eq_true']
    intro c hc
    have := signs_ok c (h c (by simpa using hc))
    simp only [decide_eq_true_eq]
    omega
  rw [show (PyData.str z).canLay0 = PyData.strOk z by simp [PyData.canLay0], e] <;> rfl


/-- two things and what they are -/
structure Th (K : PySem.W.Frag) (H : Hp) (v : V) (d : PyData) : Prop where
  dp : Dp K H v d
  sh : SeqAt.shaped d = true
  pl : Pl d
theorem Th.mono {K : PySem.W.Frag} {H H' : Hp} {v : V} {d : PyData} (e : Ex H H') (h : Th K H v d) : Th K H' v d := ⟨dp_mono e h.dp, h.sh, h.pl⟩
/-- a thing: flat, or a list of flat data -/
def Thg (K : PySem.W.Frag) (H : Hp) (v : V) (d : PyData) : Prop := (Fl 2 d ∧ Dp K H v d) ∨ ∃ p xs ds, v = .ref p ∧ d = .list ds ∧ H p = some (.lst xs) ∧ DpAll K H xs ds ∧ (∀ x ∈ ds, Fl 2 x) ∧ ds.length ≤ 10
theorem Thg.dp {K : PySem.W.Frag} {H : Hp} {v : V} {d : PyData} (h : Thg K H v d) : Dp K H v d := by
  rcases h with ⟨_, h⟩ | ⟨p, xs, ds, rfl, rfl, h1, h2, _⟩
  · exact h
  · exact .lst (sq_of h1) h2
theorem Thg.th {K : PySem.W.Frag} {H : Hp} {v : V} {d : PyData} (h : Thg K H v d) : Th K H v d := by
  refine ⟨h.dp, ?_, ?_⟩
  · rcases h with ⟨h, _⟩ | ⟨p, xs, ds, rfl, rfl, _, _, h, _⟩
    · exact shaped_fl h (by decide)
    · exact shaped_lst h (by decide)
  · rcases h with ⟨h, _⟩ | ⟨p, xs, ds, rfl, rfl, _, _, h, _⟩
    · exact h.pl
    · exact .lst fun d hd => (h d hd).pl
theorem Thg.mono {K : PySem.W.Frag} {H H' : Hp} {v : V} {d : PyData} (e : Ex H H') (h : Thg K H v d) : Thg K H' v d := by
  rcases h with ⟨h1, h2⟩ | ⟨p, xs, ds, h1, h2, h3, h4, h5⟩
  · exact .inl ⟨h1, dp_mono e h2⟩
  · exact .inr ⟨p, xs, ds, h1, h2, e _ _ h3, dpa_mono e h4, h5⟩
/-- a list elsewhere changes -/
theorem Thg.upd {K : PySem.W.Frag} {H : Hp} {v : V} {d : PyData} {q : Addr} {ys : List V} {o : HO} (h : Thg K H v d) (hq : H q = some (.lst ys)) (hn : isLst d = true → v ≠ .ref q) : Thg K (upd H q o) v d := by
  rcases h with ⟨h1, h2⟩ | ⟨p, xs, ds, rfl, h2, h3, h4, h5, h6⟩
  · exact .inl ⟨h1, dp_monoN (ExN.upd hq) h1 h2⟩
  · exact .inr ⟨p, xs, ds, rfl, h2, by rw [upd_ne (fun z => hn (by rw [h2] <;> rfl) (by rw [z]))]; exact h3, dpa_monoN (ExN.upd hq) h5 h4, h5, h6⟩
def NewV (H : Hp) (v : V) : Prop := ∀ p, v = .ref p → H p = none
def clashB (a b c : PyData) : Bool := !PyData.eqv b a && (!PyData.eqv c a && !PyData.eqv c b)
theorem eqv_sym {x y : PyData} (hx : Pl x) (hy : Pl y) : PyData.eqv x y = PyData.eqv y x := by
  cases h : PyData.eqv y x with
  | true => exact (eqv_iff x y hx hy).mpr ((eqv_iff y x hy hx).mp h).symm
  | false =>
    cases h2 : PyData.eqv x y with
    | false => rfl
    | true => rw [(eqv_iff y x hy hx).mpr ((eqv_iff x y hx hy).mp h2).symm] at h; cases h
theorem clash_sym {a x y : PyData} (hx : Pl x) (hy : Pl y) : clashB a x y = clashB a y x := by
  unfold clashB
  rw [eqv_sym hx hy]
  cases PyData.eqv x a <;> cases PyData.eqv y a <;> rfl


section
variable {P : Program} {w : World} {K : PySem.W.Frag} {mg : Str → Option Value} {base : Heap}

/-! ### _law_cell -/
def cellZ (ns : List Int) (k : Nat) : Int := ns.getD k 0
def sp_cell (K : PySem.W.Frag) : Sp := fun vs H Q _ => ∃ (a : Addr) (ns : List Int) (k : Nat), vs = [.ref a, .int (k : Int)] ∧ SqL K H a (ns.map V.int) ∧ ∀ H', Ex H H' → Q (.int (cellZ ns k)) H'
theorem ok_law_cell (T : Txt K mg) : FnOk P w K mg base CX0 1 T.f_law_cell T.d_law_cell ["script", "k"] (sp_cell K) := by
  refine T.F_law_cell.ok sc_law_cell (fun vs H Q E h => ?_) (fun cdv A outer s H vs Q E hr h => ?_)
  · obtain ⟨a, ns, k, rfl, _⟩ := h
    rfl
  · obtain ⟨a, ns, k, rfl, hS, q⟩ := h
    refine ⟨_, pss_cons (ps_if (pt_cmpR op_lt (pv 1) (pe_callB (r := rLenQ K) call_len_seq (by rfl) T.m_len (by decide +kernel) (pa_cons (pv 0) (pa_nil))) (nomark _))
      (pss_one (ps_ret (pe_ix (r := rIxL K) ix_list (pv 0) (pv 1) (fun _ _ => rfl))))
      (pss_nil))
      (pss_one (ps_ret (pe_int))), ?_⟩
    refine q_when (b := decide ((k : Int) < ((ns.map V.int).length : Int))) (et_test (ev_bin0 (ev_var rfl) (ev_lenQ (K := K) (ev_var rfl) hS))) (fun hb H1 e1 => ?_) (fun hb H1 e1 => ?_)
    · have hk : k < ns.length := by
        have := of_decide_eq_true hb
        rw [List.length_map] at this
        omega
      refine s_ret (ev_ixL (K := K) (ev_var rfl) (ev_var rfl) (ex_l e1 hS) (at_nat (v := .int (cellZ ns k)) ?_)) fun H2 e2 => q H2 (e1.trans e2)
      rw [List.getElem?_map, List.getElem?_eq_getElem hk]
      unfold cellZ
      rw [List.getD_eq_getElem?_getD, List.getElem?_eq_getElem hk] <;> rfl
    · have hk : ¬ k < ns.length := by
        have := of_decide_eq_false hb
        rw [List.length_map] at this
        omega
      have e0 : cellZ ns k = 0 := by
        unfold cellZ
        rw [List.getD_eq_getElem?_getD, List.getElem?_eq_none (by omega)] <;> rfl
      refine s_ret ev_c fun H2 e2 => ?_
      rw [e0] at q
      exact q H2 (e1.trans e2)
theorem cv_cell {a : Addr} {ns : List Int} {k : Nat} {H : Hp} (h : SqL K H a (ns.map V.int)) : SpV (sp_cell K) [.ref a, .int (k : Int)] H (.int (cellZ ns k)) := fun H1 e Q q E => ⟨a, ns, k, rfl, ex_l e h, fun H2 e2 => q H2 e2⟩
theorem Wd.cell {ns : List Int} (h : ∀ n ∈ ns, Wd n) (k : Nat) : Wd (cellZ ns k) := by
  unfold cellZ
  rw [List.getD_eq_getElem?_getD]
  cases e : ns[k]? with
  | none => exact Wd.lit (by decide)
  | some x => exact h x (List.mem_of_getElem? e)


/-! ### _law_copied -/
/-- a copy: the same data, lists new -/
def spCopyF (K : PySem.W.Frag) (n : Nat) : Sp := fun vs H Q _ => ∃ (v : V) (d : PyData), vs = [v] ∧ Dp K H v d ∧ Fl n d ∧ ∀ v' H', Ex H H' → Dp K H' v' d → Q v' H'
theorem ok_copyF (T : Txt K mg) : ∀ n : Nat, FnOk P w K mg base CX0 (n + 1) T.f_law_copied T.d_law_copied ["thing"] (spCopyF K n)
  | 0 => by
    refine T.F_law_copied.ok sc_law_copied (fun vs H Q E h => ?_) (fun cdv A outer s H vs Q E hr h => ?_)
    · obtain ⟨v, d, rfl, _⟩ := h
      rfl
    · obtain ⟨v, d, rfl, hD, hf, q⟩ := h
      refine ⟨_, pss_cons (ps_if (pt_val (pe_callB (r := rIsi K) call_isi (by rfl) T.m_isinstance (by decide +kernel) (pa_cons (pv 0) (pa_cons (pe_bltn (v := .ty "tuple") (by rfl) T.m_tuple (by decide +kernel) rfl) (pa_nil)))))
      (pss_one (ps_never))
      (pss_nil))
      (pss_cons (ps_if (pt_val (pe_callB (r := rIsi K) call_isi (by rfl) T.m_isinstance (by decide +kernel) (pa_cons (pv 0) (pa_cons (pe_bltn (v := .ty "list") (by rfl) T.m_list (by decide +kernel) rfl) (pa_nil)))))
      (pss_one (ps_never))
      (pss_nil))
      (pss_one (ps_ret (pv 0)))), ?_⟩
      have e1 : isTup d = false := by cases hf <;> rfl
      have e2 : isLst d = false := by cases hf <;> rfl
      refine q_when (b := false) (et_B (ev_is (ev_isT (ev_var rfl) hD) (by rw [e1]))) (fun z => nomatch z) fun _ H1 x1 => ?_
      refine q_when (b := false) (et_B (ev_is (ev_isL (ev_var rfl) (dp_mono x1 hD)) (by rw [e2]))) (fun z => nomatch z) fun _ H2 x2 => ?_
      exact s_ret (ev_var rfl) fun H3 x3 => q _ _ ((x1.trans x2).trans x3) (dp_mono ((x1.trans x2).trans x3) hD)
  | n + 1 => by
    have IH := ok_copyF T n
    refine T.F_law_copied.ok sc_law_copied (fun vs H Q E h => ?_) (fun cdv A outer s H vs Q E hr h => ?_)
    · obtain ⟨v, d, rfl, _⟩ := h
      rfl
    · obtain ⟨v, d, rfl, hD, hf, q⟩ := h
      refine ⟨_, pss_cons (ps_if (pt_val (pe_callB (r := rIsi K) call_isi (by rfl) T.m_isinstance (by decide +kernel) (pa_cons (pv 0) (pa_cons (pe_bltn (v := .ty "tuple") (by rfl) T.m_tuple (by decide +kernel) rfl) (pa_nil)))))
      (pss_one (ps_ret (pe_callTy (r := rTupOf K) call_tuple_of (by rfl) T.m_tuple (by decide +kernel) (pa_cons (pe_lc (own := [("part", 1)]) (g := gName 1) (tt := tYes) rfl sc_law_copied.nd (pi_tup (pv 0)) (blkOk_by (N := ["thing", "part"]) (sc := defScope s_law_copied) (by decide +kernel)) (fun _ _ _ _ _ => pg_name (i := 1) sc_law_copied.nd rfl (Or.inl rfl)) (fun _ _ _ _ _ => pts_nil) (fun _ _ _ _ _ => pe_call IH (hr.mono (by omega)) (by rfl) T.g_law_copied T.F_law_copied.kp T.b_law_copied .nil pass0 (pa_cons (pv 1) (pa_nil)))) (pa_nil)))))
      (pss_nil))
      (pss_cons (ps_if (pt_val (pe_callB (r := rIsi K) call_isi (by rfl) T.m_isinstance (by decide +kernel) (pa_cons (pv 0) (pa_cons (pe_bltn (v := .ty "list") (by rfl) T.m_list (by decide +kernel) rfl) (pa_nil)))))
      (pss_one (ps_ret (pe_lc (own := [("part", 1)]) (g := gName 1) (tt := tYes) rfl sc_law_copied.nd (pi_list (pv 0)) (blkOk_by (N := ["thing", "part"]) (sc := defScope s_law_copied) (by decide +kernel)) (fun _ _ _ _ _ => pg_name (i := 1) sc_law_copied.nd rfl (Or.inl rfl)) (fun _ _ _ _ _ => pts_nil) (fun _ _ _ _ _ => pe_call IH (hr.mono (by omega)) (by rfl) T.g_law_copied T.F_law_copied.kp T.b_law_copied .nil pass0 (pa_cons (pv 1) (pa_nil))))))
      (pss_nil))
      (pss_one (ps_ret (pv 0)))), ?_⟩
      have e2 : isLst d = false := by cases hf <;> rfl
      refine q_when (b := isTup d) (et_B (ev_isT (ev_var rfl) hD)) (fun hb H1 x1 => ?_) fun hb H1 x1 => ?_
      · cases hD with
        | tup hs hds =>
          rename_i a xs ds
          cases hf with
          | tup hf hl =>
            have lx := dpa_len hds
            refine s_retP (ep_tupOf (R := (· = .tuple ds)) (epl_mapT (K := K) (R := fun i d => ds[i]? = some d) (m := n) (ev_var rfl) (ex_t x1 hs) (by omega) (fun x => rfl) (fun i d hd => hf d (List.mem_of_getElem? hd)) fun i x H2 hx e2 => ?_) fun es hes => ?_) fun v d H3 e3 hv hd => ?_
            · obtain ⟨d, hd1, hd2⟩ := dpa_at hds hx
              exact fun H3 e3 Q q => ⟨_, rfl, _, d, rfl, dp_mono ((x1.trans e2).trans e3) hd2, hf d (List.mem_of_getElem? hd1), fun v' H' e' hd' => q v' d H' e' hd1 hd'⟩
            · rw [list_same (by rw [hes.1, lx]) hes.2]
            · rw [hv] at hd
              exact q _ _ (x1.trans e3) hd
        | _ => cases hb
      refine q_when (b := false) (et_B (ev_is (ev_isL (ev_var rfl) (dp_mono x1 hD)) (by rw [e2]))) (fun z => nomatch z) fun _ H2 x2 => ?_
      exact s_ret (ev_var rfl) fun H3 x3 => q _ _ ((x1.trans x2).trans x3) (dp_mono ((x1.trans x2).trans x3) hD)
def spCopied (K : PySem.W.Frag) : Sp := fun vs H Q _ => ∃ (v : V) (d : PyData), vs = [v] ∧ Thg K H v d ∧ ∀ v' H', Ex H H' → (isLst d = true → NewV H v') → Thg K H' v' d → Q v' H'
theorem ok_law_copied (T : Txt K mg) : FnOk P w K mg base CX0 4 T.f_law_copied T.d_law_copied ["thing"] (spCopied K) := by
  have IH := ok_copyF (P := P) (w := w) (base := base) T 2
  refine T.F_law_copied.ok sc_law_copied (fun vs H Q E h => ?_) (fun cdv A outer s H vs Q E hr h => ?_)
  · obtain ⟨v, d, rfl, _⟩ := h
    rfl
  · obtain ⟨v, d, rfl, hT, q⟩ := h
    have hD := hT.dp
    refine ⟨_, pss_cons (ps_if (pt_val (pe_callB (r := rIsi K) call_isi (by rfl) T.m_isinstance (by decide +kernel) (pa_cons (pv 0) (pa_cons (pe_bltn (v := .ty "tuple") (by rfl) T.m_tuple (by decide +kernel) rfl) (pa_nil)))))
      (pss_one (ps_ret (pe_callTy (r := rTupOf K) call_tuple_of (by rfl) T.m_tuple (by decide +kernel) (pa_cons (pe_lc (own := [("part", 1)]) (g := gName 1) (tt := tYes) rfl sc_law_copied.nd (pi_tup (pv 0)) (blkOk_by (N := ["thing", "part"]) (sc := defScope s_law_copied) (by decide +kernel)) (fun _ _ _ _ _ => pg_name (i := 1) sc_law_copied.nd rfl (Or.inl rfl)) (fun _ _ _ _ _ => pts_nil) (fun _ _ _ _ _ => pe_call IH (hr.mono (by omega)) (by rfl) T.g_law_copied T.F_law_copied.kp T.b_law_copied .nil pass0 (pa_cons (pv 1) (pa_nil)))) (pa_nil)))))
      (pss_nil))
      (pss_cons (ps_if (pt_val (pe_callB (r := rIsi K) call_isi (by rfl) T.m_isinstance (by decide +kernel) (pa_cons (pv 0) (pa_cons (pe_bltn (v := .ty "list") (by rfl) T.m_list (by decide +kernel) rfl) (pa_nil)))))
      (pss_one (ps_ret (pe_lc (own := [("part", 1)]) (g := gName 1) (tt := tYes) rfl sc_law_copied.nd (pi_list (pv 0)) (blkOk_by (N := ["thing", "part"]) (sc := defScope s_law_copied) (by decide +kernel)) (fun _ _ _ _ _ => pg_name (i := 1) sc_law_copied.nd rfl (Or.inl rfl)) (fun _ _ _ _ _ => pts_nil) (fun _ _ _ _ _ => pe_call IH (hr.mono (by omega)) (by rfl) T.g_law_copied T.F_law_copied.kp T.b_law_copied .nil pass0 (pa_cons (pv 1) (pa_nil))))))
      (pss_nil))
      (pss_one (ps_ret (pv 0)))), ?_⟩
    refine q_when (b := isTup d) (et_B (ev_isT (ev_var rfl) hD)) (fun hb H1 x1 => ?_) fun hb H1 x1 => ?_
    · rcases hT with ⟨hf, hD⟩ | ⟨p, xs, ds, rfl, rfl, _⟩
      · cases hD with
        | tup hs hds =>
          rename_i a xs ds
          have hf0 := hf
          cases hf with
          | tup hf hl =>
            have lx := dpa_len hds
            refine s_retP (ep_tupOf (R := (· = .tuple ds)) (epl_mapT (K := K) (R := fun i d => ds[i]? = some d) (m := 1) (ev_var rfl) (ex_t x1 hs) (by omega) (fun x => rfl) (fun i d hd => hf d (List.mem_of_getElem? hd)) fun i x H2 hx e2 => ?_) fun es hes => ?_) fun v d H3 e3 hv hd => ?_
            · obtain ⟨d, hd1, hd2⟩ := dpa_at hds hx
              exact fun H3 e3 Q q => ⟨_, rfl, _, d, rfl, dp_mono ((x1.trans e2).trans e3) hd2, (hf d (List.mem_of_getElem? hd1)).mono (by decide), fun v' H' e' hd' => q v' d H' e' hd1 hd'⟩
            · rw [list_same (by rw [hes.1, lx]) hes.2]
            · rw [hv] at hd
              exact q _ _ (x1.trans e3) (fun z => nomatch z) (.inl ⟨hf0, hd⟩)
        | _ => cases hb
      · cases hb
    refine q_when (b := isLst d) (et_B (ev_isL (ev_var rfl) (dp_mono x1 hD))) (fun hb2 H2 x2 => ?_) fun hb2 H2 x2 => ?_
    · have X2 := x1.trans x2
      rcases hT with ⟨hf, _⟩ | ⟨p, xs, ds, rfl, rfl, hp, hds, hf, hl⟩
      · cases hf <;> cases hb2
      · have lx := dpa_len hds
        refine s_retPL (epl_mapL (K := K) (R := fun i d => ds[i]? = some d) (m := 2) (ev_var rfl) (sq_of (X2 _ _ hp)) (by omega) (fun x => rfl) (fun i d hd => hf d (List.mem_of_getElem? hd)) fun i x H3 hx e3 => ?_) fun p' vs es H3 hp' e3 h3 hes hds' => ?_
        · obtain ⟨d, hd1, hd2⟩ := dpa_at hds hx
          exact fun H4 e4 Q q => ⟨_, rfl, _, d, rfl, dp_mono ((X2.trans e3).trans e4) hd2, hf d (List.mem_of_getElem? hd1), fun v' H' e' hd' => q v' d H' e' hd1 hd'⟩
        · have ees : es = ds := list_same (by rw [hes.1, lx]) hes.2
          subst ees
          refine q _ _ (X2.trans e3) (fun _ a z => ?_) (.inr ⟨p', vs, es, rfl, rfl, h3, hds', hf, hl⟩)
          cases z
          exact fresh_back X2 hp'
    · exact s_ret (ev_var rfl) fun H3 x3 => q _ _ ((x1.trans x2).trans x3) (fun z => by rw [hb2] at z; cases z) (hT.mono ((x1.trans x2).trans x3))


/-! ### _law_numbers -/
/-- count ints from 0 to 999 -/
def spNumbers : Sp := fun vs H Q _ => ∃ (cell : Int) (count : Nat), vs = [.int cell, .int (count : Int)] ∧ Wd cell ∧ count ≤ 1000 ∧ ∀ p (ns : List Int) H', H p = none → Ex H H' → H' p = some (.lst (ns.map V.int)) → ns.length = count → (∀ n ∈ ns, 0 ≤ n ∧ n < 1000) → Q (.ref p) H'
theorem ok_law_numbers (T : Txt K mg) : FnOk P w K mg base CX0 1 T.f_law_numbers T.d_law_numbers ["cell", "count"] spNumbers := by
  refine T.F_law_numbers.ok sc_law_numbers (fun vs H Q E h => ?_) (fun cdv A outer s H vs Q E hr h => ?_)
  · obtain ⟨c, n, rfl, _⟩ := h
    rfl
  · obtain ⟨c, n, rfl, hW, hn, q⟩ := h
    refine ⟨_, pss_cons (ps_set (i := 2) sc_law_numbers.nd rfl (by first | exact Or.inl rfl | exact Or.inr rfl) (pe_lst (pa_nil)))
      (pss_cons (ps_if (pt_cmpR op_ge (pv 0) (pe_op op_pow (pe_int) (pe_int)) (nomark _))
      (pss_cons (ps_for PassesOwn.never rfl (pi_range1 (by rfl) T.m_range (pa_cons (pv 1) (pa_nil))) (pg_name (i := 3) sc_law_numbers.nd rfl (by first | exact Or.inl rfl | exact Or.inr rfl))
      (pss_cons (ps_expr (pe_bm PySem.F.plainAttrs_list PySem.F.slot_list_append PySem.F.type_list_append mt_append (pv 2) (pa_cons (pe_op op_mod (pe_callTy call_int1 (by rfl) T.m_int (by decide +kernel) (pa_cons (pv 0) (pa_nil))) (pe_int)) (pa_nil))))
      (pss_one (ps_set (i := 0) sc_law_numbers.nd rfl (by first | exact Or.inl rfl | exact Or.inr rfl) (pe_op op_fdivW (pv 0) (pe_int))))))
      (pss_one (ps_ret (pv 2))))
      (pss_nil))
      (pss_cons (ps_set (i := 4) sc_law_numbers.nd rfl (by first | exact Or.inl rfl | exact Or.inr rfl) (pe_op op_mod (pe_callTy call_int1 (by rfl) T.m_int (by decide +kernel) (pa_cons (pv 0) (pa_nil))) (pe_int)))
      (pss_cons (ps_for PassesOwn.never rfl (pi_range1 (by rfl) T.m_range (pa_cons (pv 1) (pa_nil))) (pg_name (i := 3) sc_law_numbers.nd rfl (by first | exact Or.inl rfl | exact Or.inr rfl))
      (pss_cons (ps_set (i := 4) sc_law_numbers.nd rfl (by first | exact Or.inl rfl | exact Or.inr rfl) (pe_op op_mod (pe_callTy call_int1 (by rfl) T.m_int (by decide +kernel) (pa_cons (pe_op op_add (pe_op op_mulX (pv 4) (pe_int)) (pe_op op_mulX (pe_int) (pe_op op_add (pv 3) (pe_int)))) (pa_nil))) (pe_int)))
      (pss_one (ps_expr (pe_bm PySem.F.plainAttrs_list PySem.F.slot_list_append PySem.F.type_list_append mt_append (pv 2) (pa_cons (pe_op op_mod (pe_op op_fdivW (pv 4) (pe_int)) (pe_int)) (pa_nil)))))))
      (pss_one (ps_ret (pv 2)))))), ?_⟩
    refine q_asgL (el_lst ea_nil (by decide)) fun p H1 hp e1 h1 => ?_
    have fin : ∀ {ns : List Int} {H' : Hp}, Ex H H' → H' p = some (.lst (ns.map V.int)) → ns.length = n → (∀ n ∈ ns, 0 ≤ n ∧ n < 1000) → Q (.ref p) H' := fun e h1 h2 h3 => q p _ _ hp e h1 h2 h3
    have add : ∀ {ns : List Int} {x : Int}, (∀ n ∈ ns, 0 ≤ n ∧ n < 1000) → (0 ≤ x ∧ x < 1000) → ∀ n ∈ ns ++ [x], 0 ≤ n ∧ n < 1000 := fun h hx y hy => by
      rcases List.mem_append.mp hy with z | z
      · exact h y z
      · rw [List.mem_singleton.mp z]
        exact hx
    refine q_when (b := decide (10 ^ 18 ≤ c)) (et_test (ev_bin0 (j := 10 ^ 18) (ev_var rfl) (ev_is (ev_bin ev_c ev_c ⟨by decide, by decide, by decide⟩) (by decide)))) (fun hb H2 e2 => ?_) (fun hb H2 e2 => ?_)
    · refine q_forR1 (n := (n : Int)) (ea_cons (ev_var rfl) ea_nil) (by omega) (fun i σ' H' => ∃ (c' : Int) (ns : List Int) (x3 x4 : Option V), σ' = [some (.int c'), some (.int (n : Int)), some (.ref p), x3, x4] ∧ Wd c' ∧ Ex H H' ∧ H' p = some (.lst (ns.map V.int)) ∧ ns.length = i ∧ ∀ n ∈ ns, 0 ≤ n ∧ n < 1000)
        (fun H3 e3 => ⟨c, [], none, none, rfl, hW, (e1.trans e2).trans e3, (e2.trans e3) p _ h1, rfl, fun n hn => nomatch hn⟩) (fun i σ' H' hi hP => ?_) (fun σ' H' hP => ?_)
      · obtain ⟨c', ns, x3, x4, rfl, hW', eH, hl, hlen, hr⟩ := hP
        refine q_app (K := K) hl (ev_var rfl) (ev_bin (ev_intI (ev_var rfl)) ev_c (by decide)) (by rw [List.length_map]; omega) fun H3 e3 => ?_
        refine s_asg (ev_bin (ev_var rfl) ev_c ⟨by decide, by decide⟩) fun H4 e4 => ⟨c' / 1000, ns ++ [c' % 1000], _, _, rfl, Wd.div hW', ((eH.trans e3).mut hp).trans e4, ?_, by rw [List.length_append, hlen] <;> rfl, add hr ⟨by omega, by omega⟩⟩
        rw [e4 p _ upd_same, List.map_append] <;> rfl
      · obtain ⟨c', ns, x3, x4, rfl, hW', eH, hl, hlen, hr⟩ := hP
        exact s_ret (ev_var rfl) fun H3 e3 => fin (eH.trans e3) (e3 p _ hl) (by omega) hr
    · refine q_asg (ev_bin (ev_intI (ev_var rfl)) ev_c (by decide)) fun H3 e3 => ?_
      refine q_forR1 (n := (n : Int)) (ea_cons (ev_var rfl) ea_nil) (by omega) (fun i σ' H' => ∃ (m : Int) (ns : List Int) (x3 : Option V), σ' = [some (.int c), some (.int (n : Int)), some (.ref p), x3, some (.int m)] ∧ (0 ≤ m ∧ m < 2147483647) ∧ Ex H H' ∧ H' p = some (.lst (ns.map V.int)) ∧ ns.length = i ∧ ∀ n ∈ ns, 0 ≤ n ∧ n < 1000)
        (fun H4 e4 => ⟨c % 2147483647, [], none, rfl, by omega, ((e1.trans e2).trans e3).trans e4, ((e2.trans e3).trans e4) p _ h1, rfl, fun n hn => nomatch hn⟩) (fun i σ' H' hi hP => ?_) (fun σ' H' hP => ?_)
      · obtain ⟨m, ns, x3, rfl, hm, eH, hl, hlen, hr⟩ := hP
        have hi2 : i < 1000 := by omega
        refine q_asg (ev_bin (ev_intI (ev_bin0 (ev_bin (ev_var rfl) ev_c (Wd.mul (Wd.small (by omega) (by omega)) (Wd.lit (by decide)))) (ev_bin ev_c (ev_bin0 (ev_var rfl) ev_c) (Wd.mul (Wd.lit (by decide)) (Wd.small (by omega) (by omega)))))) ev_c (by decide)) fun H4 e4 => ?_
        generalize hm2 : (m * 48271 + 69621 * ((i : Int) + 1)) % 2147483647 = m2
        refine s_app (K := K) (e4 p _ hl) (ev_var rfl) (ev_bin (ev_bin (ev_var rfl) ev_c ⟨by decide, by decide⟩) ev_c (by decide)) (by rw [List.length_map]; omega) fun H5 e5 => ⟨m2, ns ++ [m2 / 7 % 1000], _, rfl, by omega, ((eH.trans e4).trans e5).mut hp, ?_, by rw [List.length_append, hlen] <;> rfl, add hr ⟨by omega, by omega⟩⟩
        rw [upd_same, List.map_append] <;> rfl
      · obtain ⟨m, ns, x3, rfl, hm, eH, hl, hlen, hr⟩ := hP
        exact s_ret (ev_var rfl) fun H4 e4 => fin (eH.trans e4) (e4 p _ hl) (by omega) hr


/-! ### _law_text -/
def sp_text2 : Sp := fun vs H Q _ => ∃ a b : Int, vs = [.int a, .int b] ∧ (0 ≤ a ∧ a < 1000) ∧ (0 ≤ b ∧ b < 1000) ∧ ∀ (z : Str) H', Ex H H' → z.length ≤ 60 → (∀ c ∈ z.cps.toList, c ∈ signsZ) → Q (.str z) H'
theorem ok_law_text (T : Txt K mg) : FnOk P w K mg base CX0 1 T.f_law_text T.d_law_text ["a", "b"] sp_text2 := by
  refine T.F_law_text.ok sc_law_text (fun vs H Q E h => ?_) (fun cdv A outer s H vs Q E hr h => ?_)
  · obtain ⟨a, b, rfl, _⟩ := h
    rfl
  · obtain ⟨a, b, rfl, ha, hb, q⟩ := h
    refine ⟨_, pss_cons (ps_set (i := 2) sc_law_text.nd rfl (by first | exact Or.inl rfl | exact Or.inr rfl) (pe_str))
      (pss_cons (ps_set (i := 2) sc_law_text.nd rfl (by first | exact Or.inl rfl | exact Or.inr rfl) (pe_op op_add_str (pv 2) (pe_str)))
      (pss_cons (ps_set (i := 3) sc_law_text.nd rfl (by first | exact Or.inl rfl | exact Or.inr rfl) (pe_op op_mod (pv 1) (pe_int)))
      (pss_cut (ps_if (pt_cmpR op_eq (pe_op op_mod (pv 1) (pe_int)) (pe_int) (nomark _))
      (pss_one (ps_set (i := 3) sc_law_text.nd rfl (by first | exact Or.inl rfl | exact Or.inr rfl) (pe_int)))
      (pss_nil))
      (pss_one (ps_ret (pe_join (pe_str) (pe_lc (own := [("k", 4)]) (g := gName 4) (tt := tYes) rfl sc_law_text.nd (pi_range1 (by rfl) T.m_range (pa_cons (pv 3) (pa_nil))) (blkOk_by (N := ["a", "b", "chars", "size", "k"]) (sc := defScope s_law_text) (by decide +kernel)) (fun _ _ _ _ _ => pg_name (i := 4) sc_law_text.nd rfl (Or.inl rfl)) (fun _ _ _ _ _ => pts_nil) (fun _ _ _ _ _ => pe_ix ix_str (pv 2) (pe_op op_mod (pe_op op_add (pv 0) (pe_op op_mulX (pv 4) (pe_op op_add (pe_int) (pe_op op_fdivW (pv 1) (pe_int))))) (pe_int)) (fun _ _ => rfl))))))))), ?_⟩
    refine q_asg ev_c fun H1 e1 => ?_
    refine q_asg (ev_addS (ev_var rfl) ev_c (by decide +kernel)) fun H2 e2 => ?_
    refine q_asg (ev_bin (ev_var rfl) ev_c (by decide)) fun H3 e3 => ?_
    refine q_cut (M := fun σ' H' => ∃ (n : Nat), σ' = [some (.int a), some (.int b), some (.str ⟨signsZ.toArray⟩), some (.int (n : Int)), none] ∧ n ≤ 60 ∧ Ex H H') ?_ fun σ' H' hM => ?_
    · have E3 := (e1.trans e2).trans e3
      refine s_when (b := decide (b % 40 = 39)) (et_test (ev_eqI (ev_bin (ev_var rfl) ev_c (by decide)) ev_c)) (fun hb H4 e4 => ?_) (fun hb H4 e4 => ⟨(b % 5).toNat, by rw [Int.toNat_of_nonneg (by omega), ← signs_eq] <;> rfl, by omega, E3.trans e4⟩)
      exact s_asg ev_c fun H5 e5 => ⟨60, by rw [← signs_eq] <;> rfl, by omega, (E3.trans e4).trans e5⟩
    · obtain ⟨n, rfl, hn, eM⟩ := hM
      refine s_ret (v := .str ⟨((List.range n).map fun (k : Nat) => signsZ.getD ((a + (k : Int) * (1 + b / 5)) % 94).toNat 0).toArray⟩) (ev_is (ev_joinN (K := K) (ys := ((List.range n).map fun (k : Nat) => signsZ.getD ((a + (k : Int) * (1 + b / 5)) % 94).toNat 0).map fun c => (⟨#[c]⟩ : Str)) ev_c ?_ ?_) (congrArg V.str (join_signs _))) fun H4 e4 => q _ _ (eM.trans e4) ?_ ?_
      · refine el_mapR (n := n) (ea_cons (ev_var rfl) ea_nil) (by omega) (fun x => rfl) (by rw [List.length_map, List.length_map, List.length_map, List.length_range]) fun k y hk hy H10 e10 => ?_
        rw [List.getElem?_map, List.getElem?_map, List.getElem?_map, List.getElem?_range hk] at hy
        rw [← Option.some.inj hy]
        have h1 := Int.emod_nonneg (a + (k : Int) * (1 + b / 5)) (by decide : (94 : Int) ≠ 0)
        have h2 := Int.emod_lt_of_pos (a + (k : Int) * (1 + b / 5)) (by decide : (0 : Int) < 94)
        exact ev_ixS (ev_var rfl) (ev_bin (ev_bin0 (ev_var rfl) (ev_bin (ev_var rfl) (ev_bin0 ev_c (ev_bin (ev_var rfl) ev_c ⟨by decide, by decide⟩)) (Wd.mul (Wd.small (by omega) (by omega)) (Wd.small (by omega) (by omega))))) ev_c (by decide)) (by decide +kernel) (at_cps (l := signsZ) rfl h1 (by rw [signs_len]; exact h2))
      · rw [sum_ones, List.length_map, List.length_map, List.length_range]
        show n + n * 0 ≤ 16777216
        omega
      · show ((List.range n).map _).length ≤ 60
        rw [List.length_map, List.length_range]
        exact hn
      · intro c hc
        obtain ⟨k, _, rfl⟩ := List.mem_map.mp hc
        have h1 := Int.emod_nonneg (a + (k : Int) * (1 + b / 5)) (by decide : (94 : Int) ≠ 0)
        have h2 := Int.emod_lt_of_pos (a + (k : Int) * (1 + b / 5)) (by decide : (0 : Int) < 94)
        have h3 : ((a + (k : Int) * (1 + b / 5)) % 94).toNat < signsZ.length := by rw [signs_len]; omega
        rw [List.getD_eq_getElem?_getD, List.getElem?_eq_getElem h3]
        exact List.getElem_mem h3


/-! ### _law_thing -/
def spThing (K : PySem.W.Frag) : Sp := fun vs H Q _ => ∃ (cell : Int) (p : Addr) (ns : List Int), vs = [.int cell, .ref p] ∧ Wd cell ∧ SqL K H p (ns.map V.int) ∧ 3 ≤ ns.length ∧ (∀ n ∈ ns, 0 ≤ n ∧ n < 1000) ∧ ∀ v d H', Ex H H' → NewV H v → Thg K H' v d → Q v H'
theorem ok_law_thing (T : Txt K mg) : FnOk P w K mg base CX0 2 T.f_law_thing T.d_law_thing ["cell", "numbers"] (spThing K) := by
  refine T.F_law_thing.ok sc_law_thing (fun vs H Q E h => ?_) (fun cdv A outer s H vs Q E hr h => ?_)
  · obtain ⟨c, p, ns, rfl, _⟩ := h
    rfl
  · obtain ⟨c, p, ns, rfl, hW, hS, hl, hr3, q⟩ := h
    have it : ∀ {H' : Hp} {σ : L2.St} {j : Nat}, Ex H H' → σ[1]? = some (some (V.ref p)) → j < 3 → Ev (tOp (rIxL K) (tVar 1) (tC (.int (j : Int)))) σ H' (.int (ns.getD j 0)) := fun {H' σ j} e hσ hj => ev_ixL (K := K) (ev_var hσ) ev_c (ex_l e hS) (at_nat (by
      rw [List.getElem?_map, List.getD_eq_getElem?_getD, List.getElem?_eq_getElem (by omega)] <;> rfl))
    have rg : ∀ j, j < 3 → 0 ≤ ns.getD j 0 ∧ ns.getD j 0 < 1000 := fun j hj => hr3 _ (by
      rw [List.getD_eq_getElem?_getD, List.getElem?_eq_getElem (by omega)]
      exact List.getElem_mem _)
    have r1 := rg 1 (by decide)
    have r2 := rg 2 (by decide)
    have tx : ∀ {H' : Hp} {σ : L2.St} {E : XK}, Ex H H' → σ[1]? = some (some (V.ref p)) → EP K (tCall sp_text2 [] E (tCons (tOp (rIxL K) (tVar 1) (tC (.int ((1 : Nat) : Int)))) (tCons (tOp (rIxL K) (tVar 1) (tC (.int ((2 : Nat) : Int)))) tNil))) σ H' (Fl 0) := fun e hσ H1 e1 Q q =>
      it (e.trans e1) hσ (by decide) H1 (Ex.refl H1) _ fun H2 e2 => it ((e.trans e1).trans e2) hσ (by decide) H2 (Ex.refl H2) _ fun H3 e3 => ⟨_, _, rfl, r1, r2, fun z H4 e4 _ hz => q _ _ H4 ((e2.trans e3).trans e4) (.str 0 (shaped_signs hz)) (.str z)⟩
    have fl : ∀ {v : V} {d : PyData} {H' : Hp}, Ex H H' → Fl 2 d → Dp K H' v d → NewV H v → Q v H' := fun e h1 h2 h3 => q _ _ _ e h3 (.inl ⟨h1, h2⟩)
    have ni : ∀ {i : Int}, NewV H (.int i) := fun p z => nomatch z
    refine ⟨_, pss_cons (ps_set (i := 2) sc_law_thing.nd rfl (by first | exact Or.inl rfl | exact Or.inr rfl) (pe_op op_mod (pe_ix (r := rIxL K) ix_list (pv 1) (pe_int) (fun _ _ => rfl)) (pe_int)))
      (pss_cons (ps_if (pt_cmpR op_eq (pv 2) (pe_int) (nomark _))
      (pss_one (ps_ret (pe_non)))
      (pss_nil))
      (pss_cons (ps_if (pt_cmpR op_eq (pv 2) (pe_int) (nomark _))
      (pss_one (ps_ret (pe_op op_add (pe_op op_sub (pe_op op_mod (pe_callTy call_int1 (by rfl) T.m_int (by decide +kernel) (pa_cons (pv 0) (pa_nil))) (pe_op op_sub (pe_op op_mulX (pe_int) (pe_op op_pow (pe_int) (pe_int))) (pe_int))) (pe_op op_pow (pe_int) (pe_int))) (pe_int))))
      (pss_nil))
      (pss_cons (ps_if (pt_cmpR op_eq (pv 2) (pe_int) (nomark _))
      (pss_one (ps_ret (pe_call (ok_law_text T) (hr.mono (by first | decide | omega)) (by rfl) T.g_law_text T.F_law_text.kp T.b_law_text .nil pass0 (pa_cons (pe_ix (r := rIxL K) ix_list (pv 1) (pe_int) (fun _ _ => rfl)) (pa_cons (pe_ix (r := rIxL K) ix_list (pv 1) (pe_int) (fun _ _ => rfl)) (pa_nil))))))
      (pss_nil))
      (pss_cons (ps_if (pt_cmpR op_eq (pv 2) (pe_int) (nomark _))
      (pss_one (ps_ret (pe_tup (pa_cons (pe_call (ok_law_text T) (hr.mono (by first | decide | omega)) (by rfl) T.g_law_text T.F_law_text.kp T.b_law_text .nil pass0 (pa_cons (pe_ix (r := rIxL K) ix_list (pv 1) (pe_int) (fun _ _ => rfl)) (pa_cons (pe_ix (r := rIxL K) ix_list (pv 1) (pe_int) (fun _ _ => rfl)) (pa_nil)))) (pa_cons (pe_non) (pa_nil))))))
      (pss_nil))
      (pss_cons (ps_if (pt_cmpR op_eq (pv 2) (pe_int) (nomark _))
      (pss_one (ps_ret (pe_tup (pa_cons (pe_tup (pa_cons (pe_op op_mod (pe_ix (r := rIxL K) ix_list (pv 1) (pe_int) (fun _ _ => rfl)) (pe_int)) (pa_cons (pe_str) (pa_nil)))) (pa_cons (pe_tup (pa_cons (pe_op op_mod (pe_ix (r := rIxL K) ix_list (pv 1) (pe_int) (fun _ _ => rfl)) (pe_int)) (pa_nil))) (pa_nil))))))
      (pss_nil))
      (pss_cons (ps_if (pt_cmpR op_eq (pv 2) (pe_int) (nomark _))
      (pss_one (ps_ret (pe_lst (pa_cons (pe_tup (pa_cons (pe_op op_mod (pe_ix (r := rIxL K) ix_list (pv 1) (pe_int) (fun _ _ => rfl)) (pe_int)) (pa_cons (pe_non) (pa_nil)))) (pa_cons (pe_tup (pa_cons (pe_str) (pa_nil))) (pa_nil))))))
      (pss_nil))
      (pss_one (ps_ret (pe_op op_mod (pe_ix (r := rIxL K) ix_list (pv 1) (pe_int) (fun _ _ => rfl)) (pe_int)))))))))), ?_⟩
    refine q_asg (ev_bin (it (j := 0) (Ex.refl H) rfl (by decide)) ev_c (by decide)) fun H1 e1 => ?_
    refine q_when (et_test (ev_eqI (ev_var rfl) ev_c)) (fun hb H2 e2 => s_ret ev_c fun H3 e3 => fl ((e1.trans e2).trans e3) (.non 2) .non (fun p z => nomatch z)) (fun hb H2 e2 => ?_)
    have E2 := e1.trans e2
    have p60 : ∀ {σ : L2.St} {H : Hp}, Ev (tOp (rI CPow fun i j => V.int (i ^ j.toNat)) (tC (.int 10)) (tC (.int 60))) σ H (.int (10 ^ 60)) := ev_bin ev_c ev_c ⟨by decide, by decide, by decide⟩
    refine q_when (et_test (ev_eqI (ev_var rfl) ev_c)) (fun hb H3 e3 => s_ret (ev_bin0 (ev_bin0 (ev_bin (ev_intI (ev_var rfl)) (ev_bin0 (ev_bin ev_c p60 (Wd.mul (Wd.lit (by decide)) (Wd.lit (by decide)))) ev_c) (by decide)) p60) ev_c) fun H4 e4 => fl ((E2.trans e3).trans e4) (.int 2 _) (.int _) ni) (fun hb H3 e3 => ?_)
    have E3 := E2.trans e3
    refine q_when (et_test (ev_eqI (ev_var rfl) ev_c)) (fun hb H4 e4 => s_retP (tx (E3.trans e4) rfl) fun v d H5 e5 h1 h2 => fl ((E3.trans e4).trans e5) (h1.mono (by decide)) h2 (by cases h1 <;> cases h2 <;> exact fun p z => nomatch z)) (fun hb H4 e4 => ?_)
    have E4 := E3.trans e4
    refine q_when (et_test (ev_eqI (ev_var rfl) ev_c)) (fun hb H5 e5 => ?_) (fun hb H5 e5 => ?_)
    · refine s_retTup (K := K) (epa_cons (tx (E4.trans e5) rfl) (epa_c (ep_non ev_c) epa_nil)) (fun ds hs => ?_) fun a ds H6 ha e6 hs hds => ?_
      · obtain ⟨d, r, rfl, _, rfl⟩ := hs
        show 2 ≤ 100000
        decide
      · obtain ⟨d, r, rfl, hd, rfl⟩ := hs
        refine fl ((E4.trans e5).trans e6) (.tup (n := 1) fun x hx => ?_) hds fun a' z => ?_
        · rcases List.mem_cons.mp hx with z | z
          · rw [z]; exact hd.mono (by decide)
          · rw [List.mem_singleton.mp z]; exact .non 1
        · cases z
          exact fresh_back (E4.trans e5) ha
    have E5 := E4.trans e5
    have ix : ∀ {H' : Hp} {σ : L2.St} {j : Nat} {m : Int}, Ex H H' → σ[1]? = some (some (V.ref p)) → j < 3 → 0 < m → Ev (tOp (rI (fun _ j => 0 < j) fun i j => V.int (i % j)) (tOp (rIxL K) (tVar 1) (tC (.int (j : Int)))) (tC (.int m))) σ H' (.int (ns.getD j 0 % m)) := fun e hσ hj hm => ev_bin (it e hσ hj) ev_c hm
    have sA : SeqAt.shaped (.str (Str.ofString "a")) = true := by decide +kernel
    have sB : SeqAt.shaped (.str (Str.ofString "b")) = true := by decide +kernel
    refine q_when (et_test (ev_eqI (ev_var rfl) ev_c)) (fun hb H6 e6 => ?_) (fun hb H6 e6 => ?_)
    · have E6 := E5.trans e6
      refine s_retTup (K := K) (epa_c (ep_t (epa_c (ep_int (ix (j := 1) (m := 3) E6 rfl (by decide) (by decide))) (epa_c (ep_str ev_c) epa_nil)) (by show 2 ≤ 100000; decide)) (epa_c (ep_t (epa_c (ep_int (ix (j := 2) (m := 3) E6 rfl (by decide) (by decide))) epa_nil) (by show 1 ≤ 100000; decide)) epa_nil)) (fun ds (e : ds = _) => by rw [e]; show 2 ≤ 100000; decide) fun a ds H7 ha e7 hs hds => ?_
      subst hs
      refine fl (E6.trans e7) (.tup (n := 1) fun x hx => ?_) hds fun a' z => ?_
      · rcases List.mem_cons.mp hx with z | z
        · rw [z]
          exact .tup (n := 0) fun y hy => by
            rcases List.mem_cons.mp hy with z | z
            · rw [z]; exact .int 0 _
            · rw [List.mem_singleton.mp z]; exact .str 0 sA
        · rw [List.mem_singleton.mp z]
          exact .tup (n := 0) fun y hy => by
            rw [List.mem_singleton.mp hy]; exact .int 0 _
      · cases z
        exact fresh_back E6 ha
    have E6 := E5.trans e6
    refine q_when (et_test (ev_eqI (ev_var rfl) ev_c)) (fun hb H7 e7 => ?_) (fun hb H7 e7 => ?_)
    · have E7 := E6.trans e7
      refine (epl_lst (K := K) (epa_c (ep_t (epa_c (ep_int (ix (j := 1) E7 rfl (by decide) (by decide))) (epa_c (ep_non ev_c) epa_nil)) (by show 2 ≤ 100000; decide)) (epa_c (ep_t (epa_c (ep_str ev_c) epa_nil) (by show 1 ≤ 100000; decide)) epa_nil)) fun ds (e : ds = _) => by rw [e]; show 2 ≤ 100000; decide) H7 (Ex.refl H7) _ fun a vs ds H8 ha e8 h8 hs hds => ?_
      subst hs
      refine q (.ref a) _ _ (E7.trans e8) (fun a' z => ?_) (.inr ⟨a, vs, _, rfl, rfl, h8, hds, fun x hx => ?_, by show 2 ≤ 10; decide⟩)
      · cases z
        exact fresh_back E7 ha
      · rcases List.mem_cons.mp hx with z | z
        · rw [z]
          exact .tup (n := 1) fun y hy => by
            rcases List.mem_cons.mp hy with z | z
            · rw [z]; exact .int 1 _
            · rw [List.mem_singleton.mp z]; exact .non 1
        · rw [List.mem_singleton.mp z]
          exact .tup (n := 1) fun y hy => by
            rw [List.mem_singleton.mp hy]; exact .str 1 sB
    · exact s_ret (ix (j := 1) (E6.trans e7) rfl (by decide) (by decide)) fun H8 e8 => fl ((E6.trans e7).trans e8) (.int 2 _) (.int _) ni


/-! ### choose -/
def spChoose (K : PySem.W.Frag) : Sp := fun vs H Q _ => ∃ (a b c : V) (da db dc : PyData), vs = [a, b, c] ∧ Th K H a da ∧ Th K H b db ∧ Th K H c dc ∧ ∀ H', Ex H H' → Q (if PyData.eqv db da = true then c else b) H'
theorem cv_choose {K : PySem.W.Frag} {a b c : V} {da db dc : PyData} {H : Hp} (ha : Th K H a da) (hb : Th K H b db) (hc : Th K H c dc) : SpV (spChoose K) [a, b, c] H (if PyData.eqv db da = true then c else b) := fun H1 e Q q E => ⟨a, b, c, da, db, dc, rfl, ha.mono e, hb.mono e, hc.mono e, fun H2 e2 => q H2 e2⟩
theorem ok_choose (T : Txt K mg) : FnOk P w K mg base CX0 1 T.f_choose T.d_choose ["base", "ours", "theirs"] (spChoose K) := by
  refine T.F_choose.ok sc_choose (fun vs H Q E h => ?_) (fun cdv A outer s H vs Q E hr h => ?_)
  · obtain ⟨a, b, c, _, _, _, rfl, _⟩ := h
    rfl
  · obtain ⟨a, b, c, da, db, dc, rfl, ha, hb, hc, q⟩ := h
    refine ⟨_, pss_one (ps_ret (pe_ifExp (pt_cmpR (r := rEqD K) (op_eqD hr.units) (pv 1) (pv 0) (nomark _)) (pv 2) (pv 1))), ?_⟩
    refine s_ret (ev_if (et_test (ev_eqP (K := K) (ev_var rfl) (ev_var rfl) hb.dp ha.dp hb.sh ha.sh rfl)) (fun h => ?_) (fun h => ?_)) q
    · rw [if_pos h]
      exact ev_var rfl
    · rw [if_neg (by rw [h]; exact Bool.false_ne_true)]
      exact ev_var rfl


/-! ### clash -/
def spClash (K : PySem.W.Frag) : Sp := fun vs H Q _ => ∃ (a b c : V) (da db dc : PyData), vs = [a, b, c] ∧ Th K H a da ∧ Th K H b db ∧ Th K H c dc ∧ ∀ H', Ex H H' → Q (.bl (clashB da db dc)) H'
theorem cv_clash {K : PySem.W.Frag} {a b c : V} {da db dc : PyData} {H : Hp} (ha : Th K H a da) (hb : Th K H b db) (hc : Th K H c dc) : SpV (spClash K) [a, b, c] H (.bl (clashB da db dc)) := fun H1 e Q q E => ⟨a, b, c, da, db, dc, rfl, ha.mono e, hb.mono e, hc.mono e, fun H2 e2 => q H2 e2⟩
theorem ok_clash (T : Txt K mg) : FnOk P w K mg base CX0 1 T.f_clash T.d_clash ["base", "ours", "theirs"] (spClash K) := by
  refine T.F_clash.ok sc_clash (fun vs H Q E h => ?_) (fun cdv A outer s H vs Q E hr h => ?_)
  · obtain ⟨a, b, c, _, _, _, rfl, _⟩ := h
    rfl
  · obtain ⟨a, b, c, da, db, dc, rfl, ha, hb, hc, q⟩ := h
    refine ⟨_, pss_one (ps_ret (pe_and (pe_cmpR (r := rNeD K) (op_neD hr.units) (pv 1) (pv 0) (nomark _)) (pe_and (pe_cmpR (r := rNeD K) (op_neD hr.units) (pv 2) (pv 0) (nomark _)) (pe_one (pe_cmpR (r := rNeD K) (op_neD hr.units) (pv 2) (pv 1) (nomark _)))))), ?_⟩
    exact s_ret (ev_andV (ev_neP (K := K) (ev_var rfl) (ev_var rfl) hb.dp ha.dp hb.sh ha.sh rfl) fun _ => ev_andV (ev_neP (K := K) (ev_var rfl) (ev_var rfl) hc.dp ha.dp hc.sh ha.sh rfl) fun _ => ev_neP (K := K) (ev_var rfl) (ev_var rfl) hc.dp hb.dp hc.sh hb.sh rfl) q


/-! ### law -/
theorem thg_acc {K : PySem.W.Frag} {H H4 : Hp} {Dl : Addr} {us : List V} {v : V} {d : PyData} (e4 : Ex H H4) (p3 : H Dl = some (.lst us)) (p4 : ∀ u ∈ us, ∃ d, Thg K H u d ∧ (isLst d = true → u ≠ .ref Dl)) (hn : isLst d = true → NewV H v) (hd : Thg K H4 v d) :
    ∀ u ∈ us ++ [v], ∃ d, Thg K (upd H4 Dl (.lst (us ++ [v]))) u d ∧ (isLst d = true → u ≠ .ref Dl) := by
  have hv : isLst d = true → v ≠ .ref Dl := fun hl z => by
    have := hn hl Dl z
    rw [p3] at this
    cases this
  intro u hu
  rcases List.mem_append.mp hu with z | z
  · obtain ⟨d, h2, h1⟩ := p4 u z
    exact ⟨d, (h2.mono e4).upd (e4 _ _ p3) h1, h1⟩
  · rw [List.mem_singleton.mp z]
    exact ⟨d, hd.upd (e4 _ _ p3) hv, hv⟩
def EvThg (K : PySem.W.Frag) (te : TE) (σ : L2.St) (H : Hp) : Prop := ∀ Q : VK, (∀ v d H2, Ex H H2 → (isLst d = true → NewV H v) → Thg K H2 v d → Q v H2) → te σ H Q
theorem thg_mapR {K : PySem.W.Frag} {σ : L2.St} {H : Hp} {te : TE} {ta : TA} {j : Nat} {vs : List Nat} {n : Nat} (h : EvA ta σ H [.int (n : Int)]) (hz : n ≤ 40000) (hw : ∀ x, wipe ((wipe σ vs).set j (some x)) vs = wipe σ vs)
    (he : ∀ (i : Nat) H1, i < n → Ex H H1 → EvThg K te ((wipe σ vs).set j (some (.int (i : Int)))) H1) : ∀ Q : VK, (∀ p us H2, H p = none → Ex H H2 → H2 p = some (.lst us) → us.length = n → (∀ u ∈ us, ∃ d, Thg K H2 u d) → Q (.ref p) H2) → tLc (iRng1 ta) (gName j) tYes te vs σ H Q := by
  intro Q q
  refine h H (Ex.refl H) _ fun H1 e1 => ⟨(n : Int), rfl, by omega, by omega, fun Dl hD => ?_⟩
  rw [show ((n : Int)).toNat = n by omega]
  refine lc_range (n := n) (fun i H' => H1 Dl = none ∧ Ex H1 H' ∧ ∃ us, H' Dl = some (.lst us) ∧ us.length = i ∧ ∀ u ∈ us, ∃ d, Thg K H' u d ∧ (isLst d = true → u ≠ .ref Dl)) ⟨hD, Ex.new hD, [], upd_same, rfl, fun u z => nomatch z⟩ (fun i H' hi p => ⟨hw _, ?_⟩) (fun H' p => ?_)
  · obtain ⟨p1, p2, us, p3, p5, p6⟩ := p
    show te ((wipe σ vs).set j (some (.int (0 + (i : Int))))) H' _
    rw [Int.zero_add]
    exact he i H' hi (e1.trans p2) _ fun v d H4 e4 hn hd => ⟨us, e4 Dl _ p3, sz_lt (by omega), p1, (p2.trans e4).mut p1, us ++ [v], upd_same, by rw [List.length_append, p5] <;> rfl, thg_acc e4 p3 p6 hn hd⟩
  · obtain ⟨p1, p2, us, p3, p5, p6⟩ := p
    exact q Dl us H' (fresh_back e1 p1) (e1.trans p2) p3 p5 fun u hu => by
      obtain ⟨d, h, _⟩ := p6 u hu
      exact ⟨d, h⟩
theorem thg_mapN {K : PySem.W.Frag} {σ : L2.St} {H : Hp} {te tl : TE} {j : Nat} {vs : List Nat} {xs : List V} (h : EvL tl σ H xs) (hz : xs.length ≤ 40000) (hw : ∀ x, wipe ((wipe σ vs).set j (some x)) vs = wipe σ vs)
    (he : ∀ x H1, x ∈ xs → Ex H H1 → EvThg K te ((wipe σ vs).set j (some x)) H1) : ∀ Q : VK, (∀ p us H2, H p = none → Ex H H2 → H2 p = some (.lst us) → us.length = xs.length → (∀ u ∈ us, ∃ d, Thg K H2 u d) → Q (.ref p) H2) → tLc (iList K tl) (gName j) tYes te vs σ H Q := by
  intro Q q
  refine h H (Ex.refl H) _ fun a H1 _ e1 ha => ⟨a, rfl, ⟨xs, sq_of ha⟩, fun Dl hD => ?_⟩
  refine lc_list (xs := xs) (fun i H' => H1 Dl = none ∧ Ex H1 H' ∧ ∃ us, H' Dl = some (.lst us) ∧ us.length = i ∧ ∀ u ∈ us, ∃ d, Thg K H' u d ∧ (isLst d = true → u ≠ .ref Dl)) ⟨hD, Ex.new hD, [], upd_same, rfl, fun u z => nomatch z⟩ (fun i H' _ p => sq_of (p.2.1 _ _ ha)) (fun i x H' hi p => ⟨hw x, ?_⟩) (fun H' p => ?_)
  · obtain ⟨p1, p2, us, p3, p5, p6⟩ := p
    have hi2 := (List.getElem?_eq_some_iff.mp hi).1
    exact he x H' (List.mem_of_getElem? hi) (e1.trans p2) _ fun v d H4 e4 hn hd => ⟨us, e4 Dl _ p3, sz_lt (by omega), p1, (p2.trans e4).mut p1, us ++ [v], upd_same, by rw [List.length_append, p5] <;> rfl, thg_acc e4 p3 p6 hn hd⟩
  · obtain ⟨p1, p2, us, p3, p5, p6⟩ := p
    exact q Dl us H' (fresh_back e1 p1) (e1.trans p2) p3 p5 fun u hu => by
      obtain ⟨d, h, _⟩ := p6 u hu
      exact ⟨d, h⟩
theorem cut3 {xs : List V} (h : xs.length = 4) : cutV xs none (some 3) = xs.take 3 := by
  unfold cutV HT.sIx
  rw [h]
  rfl
theorem lst_app {K : PySem.W.Frag} {H : Hp} {p : Addr} {xs : List V} {ds : List PyData} {z : Str} (h : H p = some (.lst xs)) (hd : DpAll K H xs ds) (hf : ∀ x ∈ ds, Fl 2 x) (hz : SeqAt.shaped (.str z) = true) :
    DpAll K (upd H p (.lst (xs ++ [.str z]))) (xs ++ [.str z]) (ds ++ [.str z]) ∧ ∀ x ∈ ds ++ [.str z], Fl 2 x := by
  refine ⟨dpa_app (dpa_monoN (ExN.upd h) hf hd) (.cons (.str z) .nil), fun x hx => ?_⟩
  rcases List.mem_append.mp hx with y | y
  · exact hf x y
  · rw [List.mem_singleton.mp y]
    exact .str 2 hz
def spLaw (K : PySem.W.Frag) : Sp := fun vs H Q _ => ∃ (a : Addr) (ns : List Int), vs = [.ref a] ∧ SqL K H a (ns.map V.int) ∧ ns.length ≤ 63 ∧ (∀ z ∈ ns, Builtin.Int.intBits z ≤ 1048576) ∧ ∀ H', Q (.bl true) H'
set_option maxHeartbeats 4000000 in
theorem ok_law (T : Txt K mg) : FnOk P w K mg base CX0 5 T.f_law T.d_law ["script"] (spLaw K) := by
  refine T.F_law.ok sc_law (fun vs H Q E h => ?_) (fun cdv A outer s H vs Q E hr h => ?_)
  · obtain ⟨a, ns, rfl, _⟩ := h
    rfl
  · obtain ⟨a, ns, rfl, hS, hlen, hbits, q⟩ := h
    have hw : ∀ n ∈ ns, Wd n := fun n hn => Wd.bits (hbits n hn)
    have cl : ∀ {H' : Hp} {σ : L2.St} {te : TE} {E : XK} {k : Nat}, Ex H H' → σ[0]? = some (some (V.ref a)) → Ev te σ H' (.int (k : Int)) → Ev (tCall (sp_cell K) [] E (tCons (tVar 0) (tCons te tNil))) σ H' (.int (cellZ ns k)) := fun e hσ ht => ev_call (ea_cons (ev_var hσ) (ea_cons ht ea_nil)) (cv_cell (ex_l e hS))
    have hc : ∀ k, Wd (cellZ ns k) := fun k => Wd.cell hw k
    refine ⟨_, pss_cons (ps_set (i := 1) sc_law.nd rfl (by first | exact Or.inl rfl | exact Or.inr rfl) (pe_lc (own := [("k", 2)]) (g := gName 2) (tt := tYes) rfl sc_law.nd (pi_range1 (by rfl) T.m_range (pa_cons (pe_int) (pa_nil))) (blkOk_by (N := ["script", "things", "k", "numbers", "base", "ours", "theirs", "number", "due", "told", "chosen", "back", "other"]) (sc := defScope s_law) (by decide +kernel)) (fun _ _ _ _ _ => pg_name (i := 2) sc_law.nd rfl (Or.inl rfl)) (fun _ _ _ _ _ => pts_nil) (fun _ _ _ _ _ => pe_call (ok_law_thing T) (hr.mono (by first | decide | omega)) (by rfl) T.g_law_thing T.F_law_thing.kp T.b_law_thing .nil pass0 (pa_cons (pe_call (ok_law_cell T) (hr.mono (by first | decide | omega)) (by rfl) T.g_law_cell T.F_law_cell.kp T.b_law_cell .nil pass0 (pa_cons (pv 0) (pa_cons (pv 2) (pa_nil)))) (pa_cons (pe_call (ok_law_numbers T) (hr.mono (by first | decide | omega)) (by rfl) T.g_law_numbers T.F_law_numbers.kp T.b_law_numbers .nil pass0 (pa_cons (pe_call (ok_law_cell T) (hr.mono (by first | decide | omega)) (by rfl) T.g_law_cell T.F_law_cell.kp T.b_law_cell .nil pass0 (pa_cons (pv 0) (pa_cons (pv 2) (pa_nil)))) (pa_cons (pe_int) (pa_nil)))) (pa_nil))))))
      (pss_cons (ps_set (i := 3) sc_law.nd rfl (by first | exact Or.inl rfl | exact Or.inr rfl) (pe_call (ok_law_numbers T) (hr.mono (by first | decide | omega)) (by rfl) T.g_law_numbers T.F_law_numbers.kp T.b_law_numbers .nil pass0 (pa_cons (pe_call (ok_law_cell T) (hr.mono (by first | decide | omega)) (by rfl) T.g_law_cell T.F_law_cell.kp T.b_law_cell .nil pass0 (pa_cons (pv 0) (pa_cons (pe_int) (pa_nil)))) (pa_cons (pe_int) (pa_nil)))))
      (pss_cons (ps_asg (pe_lc (own := [("number", 7)]) (g := gName 7) (tt := tYes) rfl sc_law.nd (pi_list (pe_slice (r := rSlL K) sl_list (pv 3) (po_none) (po_some (pe_int)))) (blkOk_by (N := ["script", "things", "k", "numbers", "base", "ours", "theirs", "number", "due", "told", "chosen", "back", "other"]) (sc := defScope s_law) (by decide +kernel)) (fun _ _ _ _ _ => pg_name (i := 7) sc_law.nd rfl (Or.inl rfl)) (fun _ _ _ _ _ => pts_nil) (fun _ _ _ _ _ => pe_call (ok_law_copied T) (hr.mono (by first | decide | omega)) (by rfl) T.g_law_copied T.F_law_copied.kp T.b_law_copied .nil pass0 (pa_cons (pe_ix (r := rIxL K) ix_list (pv 1) (pe_op op_mod (pv 7) (pe_int)) (fun _ _ => rfl)) (pa_nil)))) (pg_lst rfl (pgs_cons (pg_name (i := 4) sc_law.nd rfl (by first | exact Or.inl rfl | exact Or.inr rfl)) (pgs_cons (pg_name (i := 5) sc_law.nd rfl (by first | exact Or.inl rfl | exact Or.inr rfl)) (pgs_cons (pg_name (i := 6) sc_law.nd rfl (by first | exact Or.inl rfl | exact Or.inr rfl)) (pgs_nil))))))
      (pss_cons (ps_set (i := 8) sc_law.nd rfl (by first | exact Or.inl rfl | exact Or.inr rfl) (pe_and (pe_cmpR (r := rNeD K) (op_neD hr.units) (pv 5) (pv 4) (nomark _)) (pe_and (pe_cmpR (r := rNeD K) (op_neD hr.units) (pv 6) (pv 4) (nomark _)) (pe_one (pe_cmpR (r := rNeD K) (op_neD hr.units) (pv 5) (pv 6) (nomark _))))))
      (pss_cons (ps_set (i := 9) sc_law.nd rfl (by first | exact Or.inl rfl | exact Or.inr rfl) (pe_call (ok_clash T) (hr.mono (by first | decide | omega)) (by rfl) T.g_clash T.F_clash.kp T.b_clash .nil pass0 (pa_cons (pv 4) (pa_cons (pv 5) (pa_cons (pv 6) (pa_nil))))))
      (pss_cons (ps_if (PW.pt (pw_or (pt_not (pt_val (pe_callB (r := rIsi K) call_isi (by rfl) T.m_isinstance (by decide +kernel) (pa_cons (pv 9) (pa_cons (pe_bltn (v := .ty "bool") (by rfl) T.m_bool (by decide +kernel) rfl) (pa_nil)))))) (pw_or (pt_cmpR (r := rNeD K) (op_neD hr.units) (pv 9) (pv 8) (nomark _)) (pw_or1 (pt_cmpR op_ne (pe_call (ok_clash T) (hr.mono (by first | decide | omega)) (by rfl) T.g_clash T.F_clash.kp T.b_clash .nil pass0 (pa_cons (pv 4) (pa_cons (pv 6) (pa_cons (pv 5) (pa_nil))))) (pv 8) (nomark _))))))
      (pss_one (ps_ret (pe_bl)))
      (pss_nil))
      (pss_cons (ps_if (pt_val (pv 8))
      (pss_one (ps_ret (pe_bl)))
      (pss_nil))
      (pss_cons (ps_set (i := 10) sc_law.nd rfl (by first | exact Or.inl rfl | exact Or.inr rfl) (pv 5))
      (pss_cons (ps_if (pt_cmpR (r := rEqD K) (op_eqD hr.units) (pv 5) (pv 4) (nomark _))
      (pss_one (ps_set (i := 10) sc_law.nd rfl (by first | exact Or.inl rfl | exact Or.inr rfl) (pv 6)))
      (pss_nil))
      (pss_cons (ps_set (i := 11) sc_law.nd rfl (by first | exact Or.inl rfl | exact Or.inr rfl) (pv 6))
      (pss_cons (ps_if (pt_cmpR (r := rEqD K) (op_eqD hr.units) (pv 6) (pv 4) (nomark _))
      (pss_one (ps_set (i := 11) sc_law.nd rfl (by first | exact Or.inl rfl | exact Or.inr rfl) (pv 5)))
      (pss_nil))
      (pss_cons (ps_if (PW.pt (pw_or (pt_cmpR (r := rNeD K) (op_neD hr.units) (pe_call (ok_choose T) (hr.mono (by first | decide | omega)) (by rfl) T.g_choose T.F_choose.kp T.b_choose .nil pass0 (pa_cons (pv 4) (pa_cons (pv 5) (pa_cons (pv 6) (pa_nil))))) (pv 10) (nomark _)) (pw_or1 (pt_cmpR (r := rNeD K) (op_neD hr.units) (pe_call (ok_choose T) (hr.mono (by first | decide | omega)) (by rfl) T.g_choose T.F_choose.kp T.b_choose .nil pass0 (pa_cons (pv 4) (pa_cons (pv 6) (pa_cons (pv 5) (pa_nil))))) (pv 10) (nomark _)))))
      (pss_one (ps_ret (pe_bl)))
      (pss_nil))
      (pss_cons (ps_if (pt_not (pt_val (pe_callB (r := rIsi K) call_isi (by rfl) T.m_isinstance (by decide +kernel) (pa_cons (pv 10) (pa_cons (pe_bltn (v := .ty "list") (by rfl) T.m_list (by decide +kernel) rfl) (pa_nil))))))
      (pss_one (ps_ret (pe_bl)))
      (pss_nil))
      (pss_cons (ps_set (i := 9) sc_law.nd rfl (by first | exact Or.inl rfl | exact Or.inr rfl) (pe_call (ok_choose T) (hr.mono (by first | decide | omega)) (by rfl) T.g_choose T.F_choose.kp T.b_choose .nil pass0 (pa_cons (pv 4) (pa_cons (pv 5) (pa_cons (pv 6) (pa_nil))))))
      (pss_cons (ps_set (i := 12) sc_law.nd rfl (by first | exact Or.inl rfl | exact Or.inr rfl) (pe_call (ok_choose T) (hr.mono (by first | decide | omega)) (by rfl) T.g_choose T.F_choose.kp T.b_choose .nil pass0 (pa_cons (pv 4) (pa_cons (pv 6) (pa_cons (pv 5) (pa_nil))))))
      (pss_cons (ps_expr (pe_bm PySem.F.plainAttrs_list PySem.F.slot_list_append PySem.F.type_list_append mt_append (pv 10) (pa_cons (pe_str) (pa_nil))))
      (pss_cons (ps_if (pt_cmpR (r := rNeD K) (op_neD hr.units) (pv 9) (pv 10) (nomark _))
      (pss_one (ps_ret (pe_bl)))
      (pss_nil))
      (pss_cons (ps_expr (pe_bm PySem.F.plainAttrs_list PySem.F.slot_list_append PySem.F.type_list_append mt_append (pv 11) (pa_cons (pe_str) (pa_nil))))
      (pss_one (ps_ret (pe_cmpR (r := rEqD K) (op_eqD hr.units) (pv 12) (pv 11) (nomark _))))))))))))))))))))), ?_⟩
    refine q_asgK (thg_mapR (K := K) (n := 3) (ea_cons ev_c ea_nil) (by decide) (fun x => rfl) (fun i H1 hi e1 Q1 q1 => ?_) _ fun pt us H1 _ e1 hus hl3 hth => ?_)
    · refine cl e1 rfl (ev_var rfl) H1 (Ex.refl H1) _ fun H2 e2 => cl (e1.trans e2) rfl (ev_var rfl) H2 (Ex.refl H2) _ fun H3 e3 => ⟨_, 4, rfl, hc _, by decide, fun p ms H4 hp e4 hl hlen hr => ⟨_, p, ms, rfl, hc _, sq_of hl, by omega, hr, fun v d H5 e5 hn ht => q1 v d H5 (((e2.trans e3).trans e4).trans e5) (fun _ p hp => fresh_back ((e2.trans e3).trans e4) (hn p hp)) ht⟩⟩
    refine q_asgK (cl e1 rfl ev_c H1 (Ex.refl H1) _ fun H2 e2 => ⟨_, 4, rfl, hc _, by decide, fun pn ms H3 hpn e3 hms hl4 hr => ?_⟩)
    have E3 : Ex H1 H3 := e2.trans e3
    refine q_asgG (thg_mapN (K := K) (xs := (ms.map V.int).take 3) ?_ (by rw [List.length_take]; omega) (fun x => rfl) (fun x H4 hx e4 Q1 q1 => ?_) _ fun pc ws H4 _ e4 hws hl3' hth' => ?_)
    · rw [← cut3 (by rw [List.length_map]; exact hl4)]
      exact el_sl (K := K) (ev_var rfl) eo_none (eo_some ev_c) (sq_of hms)
    · obtain ⟨m, hm, rfl⟩ := List.mem_map.mp (List.mem_of_mem_take hx)
      have h0 := Int.emod_nonneg m (by decide : (3 : Int) ≠ 0)
      have h1 := Int.emod_lt_of_pos m (by decide : (0 : Int) < 3)
      obtain ⟨u, hu⟩ : ∃ u, us[(m % 3).toNat]? = some u := ⟨_, List.getElem?_eq_getElem (by omega)⟩
      obtain ⟨d, hd⟩ := hth u (List.mem_of_getElem? hu)
      exact ev_ixL (K := K) (ev_var rfl) (ev_bin (ev_var rfl) ev_c (by decide)) (sq_of ((E3.trans e4) _ _ hus)) (atI_of h0 hu) H4 (Ex.refl H4) _ fun H5 e5 => ⟨u, d, rfl, hd.mono ((E3.trans e4).trans e5), fun v' H6 e6 hn ht => q1 v' d H6 (e5.trans e6) (fun hl p hp => fresh_back e5 (hn hl p hp)) ht⟩
    have l3 : ws.length = 3 := by rw [hl3', List.length_take, List.length_map]; omega
    obtain ⟨va, vb, vc, rfl⟩ : ∃ va vb vc, ws = [va, vb, vc] := by
      match ws, l3 with
      | [x0, x1, x2], _ => exact ⟨x0, x1, x2, rfl⟩
    obtain ⟨da, hA⟩ := hth' va (by simp)
    obtain ⟨db, hB⟩ := hth' vb (by simp)
    obtain ⟨dc, hC⟩ := hth' vc (by simp)
    refine ⟨pc, _, rfl, sq_of hws, rfl, va, _, rfl, vb, _, rfl, vc, _, rfl, rfl, ?_⟩
    have tA := hA.th
    have tB := hB.th
    have tC := hC.th
    have eqs : ∀ {x y : PyData}, Pl x → Pl y → PyData.eqv x y = PyData.eqv y x := fun {x y} hx hy => by
      cases h : PyData.eqv y x with
      | true => exact (eqv_iff x y hx hy).mpr ((eqv_iff y x hy hx).mp h).symm
      | false =>
        cases h2 : PyData.eqv x y with
        | false => rfl
        | true => rw [(eqv_iff y x hy hx).mpr ((eqv_iff x y hx hy).mp h2).symm] at h; cases h
    have s1 : PyData.eqv dc db = PyData.eqv db dc := eqs tC.pl tB.pl
    refine q_asg (v := .bl (clashB da db dc)) (ev_andV (ev_neP (K := K) (ev_var rfl) (ev_var rfl) tB.dp tA.dp tB.sh tA.sh rfl) fun _ => ev_andV (ev_neP (K := K) (ev_var rfl) (ev_var rfl) tC.dp tA.dp tC.sh tA.sh rfl) fun _ => ev_neP (K := K) (ev_var rfl) (ev_var rfl) tB.dp tC.dp tB.sh tC.sh (by rw [s1])) fun H5 e5 => ?_
    refine q_asg (ev_call (ea_cons (ev_var rfl) (ea_cons (ev_var rfl) (ea_cons (ev_var rfl) ea_nil))) (cv_clash (tA.mono e5) (tB.mono e5) (tC.mono e5))) fun H6 e6 => ?_
    have E6 := e5.trans e6
    have s2 : clashB da dc db = clashB da db dc := by
      unfold clashB
      rw [s1]
      cases PyData.eqv dc da <;> cases PyData.eqv db da <;> rfl
    refine q_when (b := false) (et_is (et_or (a := false) (b := false) (et_is (et_not (et_B (ev_isi (K := K) (a := "bool") (r := true) (ev_var rfl) (fun _ _ => .base (.bl _)) (by decide +kernel)))) rfl) fun _ => et_or (a := false) (b := false) (et_test (ev_neP (K := K) (ev_var rfl) (ev_var rfl) (.bl _) (.bl _) rfl rfl (by simp [PyData.eqv]))) fun _ => et_is (et_test (ev_neB (ev_call (ea_cons (ev_var rfl) (ea_cons (ev_var rfl) (ea_cons (ev_var rfl) ea_nil))) (cv_clash (tA.mono E6) (tC.mono E6) (tB.mono E6))) (ev_var rfl))) (by rw [s2]; simp)) rfl) (fun z => nomatch z) fun _ H7 e7 => ?_
    have E7 := E6.trans e7
    refine q_when (et_B (ev_var rfl)) (fun hb H8 e8 => s_ret ev_c fun H9 e9 => q H9) fun hb H8 e8 => ?_
    have E8 := E7.trans e8
    refine q_asg (ev_var rfl) fun H9 e9 => ?_
    have E9 := E8.trans e9
    obtain ⟨X, eX⟩ : ∃ X, X = (if PyData.eqv db da = true then vc else vb) := ⟨_, rfl⟩
    obtain ⟨Y, eY⟩ : ∃ Y, Y = (if PyData.eqv dc da = true then vb else vc) := ⟨_, rfl⟩
    refine q_ifAsg (v := X) (et_test (ev_eqP (K := K) (ev_var rfl) (ev_var rfl) (tB.mono E9).dp (tA.mono E9).dp tB.sh tA.sh rfl)) (fun h => by rw [eX, if_pos h]; exact ev_var rfl) (fun h => by rw [eX, if_neg (by rw [h]; exact Bool.false_ne_true)] <;> rfl) fun H10 e10 => ?_
    refine q_asg (ev_var rfl) fun H11 e11 => ?_
    have E11 := (E9.trans e10).trans e11
    refine q_ifAsg (v := Y) (et_test (ev_eqP (K := K) (ev_var rfl) (ev_var rfl) (tC.mono E11).dp (tA.mono E11).dp tC.sh tA.sh rfl)) (fun h => by rw [eY, if_pos h]; exact ev_var rfl) (fun h => by rw [eY, if_neg (by rw [h]; exact Bool.false_ne_true)] <;> rfl) fun H12 e12 => ?_
    have E12 := E11.trans e12
    have chX : ∀ {H' : Hp} {σ : L2.St} {E : XK}, Ex H4 H' → σ[4]? = some (some va) → σ[5]? = some (some vb) → σ[6]? = some (some vc) → Ev (tCall (spChoose K) [] E (tCons (tVar 4) (tCons (tVar 5) (tCons (tVar 6) tNil)))) σ H' (if PyData.eqv db da = true then vc else vb) := fun e h4 h5 h6 => ev_call (ea_cons (ev_var h4) (ea_cons (ev_var h5) (ea_cons (ev_var h6) ea_nil))) (cv_choose (tA.mono e) (tB.mono e) (tC.mono e))
    have chY : ∀ {H' : Hp} {σ : L2.St} {E : XK}, Ex H4 H' → σ[4]? = some (some va) → σ[5]? = some (some vb) → σ[6]? = some (some vc) → Ev (tCall (spChoose K) [] E (tCons (tVar 4) (tCons (tVar 6) (tCons (tVar 5) tNil)))) σ H' (if PyData.eqv dc da = true then vb else vc) := fun e h4 h5 h6 => ev_call (ea_cons (ev_var h4) (ea_cons (ev_var h6) (ea_cons (ev_var h5) ea_nil))) (cv_choose (tA.mono e) (tC.mono e) (tB.mono e))
    obtain ⟨d, hX, hY⟩ : ∃ d, Thg K H4 (if PyData.eqv db da = true then vc else vb) d ∧ Thg K H4 (if PyData.eqv dc da = true then vb else vc) d := by
      unfold clashB at hb
      cases x : PyData.eqv db da with
      | true =>
        cases y : PyData.eqv dc da with
        | true =>
          have h1 := (eqv_iff _ _ tB.pl tA.pl).mp x
          have h2 := (eqv_iff _ _ tC.pl tA.pl).mp y
          refine ⟨dc, hC, ?_⟩
          rw [h2, ← h1]
          exact hB
        | false => exact ⟨dc, hC, hC⟩
      | false =>
        cases y : PyData.eqv dc da with
        | true => exact ⟨db, hB, hB⟩
        | false =>
          rw [x, y] at hb
          have h3 : PyData.eqv dc db = true := by
            cases z : PyData.eqv dc db with
            | true => rfl
            | false => rw [z] at hb; cases hb
          have h4 := (eqv_iff _ _ tC.pl tB.pl).mp h3
          refine ⟨db, hB, ?_⟩
          rw [← h4]
          exact hC
    rw [← eX] at hX
    rw [← eY] at hY
    rw [← eX] at chX
    rw [← eY] at chY
    have tX := hX.th
    have tY := hY.th
    have rf : PyData.eqv d d = true := (eqv_iff d d tX.pl tX.pl).mpr rfl
    refine q_when (b := false) (et_or (a := false) (b := false) (et_test (ev_neP (K := K) (chX E12 rfl rfl rfl) (ev_var rfl) (tX.mono E12).dp (tX.mono E12).dp tX.sh tX.sh (by rw [rf] <;> rfl))) fun _ => et_test (ev_neP (K := K) (chY E12 rfl rfl rfl) (ev_var rfl) (tY.mono E12).dp (tX.mono E12).dp tX.sh tX.sh (by rw [rf] <;> rfl))) (fun z => nomatch z) fun _ H13 e13 => ?_
    have E13 := E12.trans e13
    refine q_when (b := !isLst d) (et_not (et_B (ev_isL (ev_var rfl) (tX.mono E13).dp))) (fun _ H14 e14 => s_ret ev_c fun H9 e9 => q H9) fun hb2 H14 e14 => ?_
    have E14 := E13.trans e14
    refine q_asg (chX E14 rfl rfl rfl) fun H15 e15 => ?_
    refine q_asg (chY (E14.trans e15) rfl rfl rfl) fun H16 e16 => ?_
    have E16 := (E14.trans e15).trans e16
    have sM : SeqAt.shaped (.str (Str.ofString "more")) = true := by decide +kernel
    have sG : SeqAt.shaped (.str (Str.ofString "again")) = true := by decide +kernel
    rcases hX with ⟨hf, _⟩ | ⟨p, xs, ds, rfl, rfl, hp, hds, hf, hl⟩
    · exfalso
      cases hf <;> cases hb2
    rcases hY with ⟨hf, _⟩ | ⟨p2, ys, es, rfl, ees, hp2, hes, hf2, hl2⟩
    · cases hf
    obtain rfl := PyData.list.inj ees
    have lx := dpa_len hds
    have ly := dpa_len hes
    refine q_app (K := K) (E16 _ _ hp) (ev_var rfl) ev_c (by omega) fun H17 e17 => ?_
    have E17 := E16.trans e17
    obtain ⟨x1, x2⟩ := lst_app (E17 _ _ hp) (dpa_mono E17 hds) hf sM
    have sX := shaped_lst x2 (by decide)
    have rX : PyData.eqv (.list (ds ++ [.str (Str.ofString "more")])) (.list (ds ++ [.str (Str.ofString "more")])) = true := (eqv_iff _ _ (.lst fun d hd => (x2 d hd).pl) (.lst fun d hd => (x2 d hd).pl)).mpr rfl
    refine q_when (b := false) (et_test (ev_neP (K := K) (ev_var rfl) (ev_var rfl) (.lst (sq_of upd_same) x1) (.lst (sq_of upd_same) x1) sX sX (by rw [rX] <;> rfl))) (fun z => nomatch z) fun _ H18 e18 => ?_
    obtain ⟨zs, fs, z1, z2, z3, z4⟩ : ∃ zs fs, H18 p2 = some (.lst zs) ∧ DpAll K H18 zs fs ∧ (∀ x ∈ fs, Fl 2 x) ∧ fs.length ≤ 11 := by
      by_cases hpp : p2 = p
      · subst hpp
        exact ⟨_, _, e18 _ _ upd_same, dpa_mono e18 x1, x2, by rw [List.length_append]; show ds.length + 1 ≤ 11; omega⟩
      · exact ⟨ys, ds, e18 _ _ (by rw [upd_ne hpp]; exact E17 _ _ hp2), dpa_mono e18 (dpa_monoN (ExN.upd (E17 _ _ hp)) hf2 (dpa_mono E17 hes)), hf2, by omega⟩
    have lz := dpa_len z2
    refine q_app (K := K) z1 (ev_var rfl) ev_c (by omega) fun H19 e19 => ?_
    obtain ⟨y1, y2⟩ := lst_app (e19 _ _ z1) (dpa_mono e19 z2) z3 sG
    have sY := shaped_lst y2 (by decide)
    exact s_ret (ev_eqP (K := K) (b := true) (ev_var rfl) (ev_var rfl) (.lst (sq_of upd_same) y1) (.lst (sq_of upd_same) y1) sY sY ((eqv_iff _ _ (.lst fun d hd => (y2 d hd).pl) (.lst fun d hd => (y2 d hd).pl)).mpr rfl)) fun H20 e20 => q H20


end

theorem all_mk {l : PySem.W.OpenLaw} {w : World} {K : PySem.W.Frag} {h : Heap} {mg : Str → Option Value} {fa f_law_cell f_law_copied f_law_numbers f_law_text f_law_thing f_choose f_clash f_law : Addr} (X : K.In h) (G : h.Ns mainGlobals mg) (hfa : mg "law" = some (.ref fa))
    {od_law_cell an_law_cell : Option Addr} {sl_law_cell : Array (Option Value)} {oc_law_cell kV_law_cell dc_law_cell pm_law_cell cd_law_cell ct_law_cell : Value}
    {od_law_copied an_law_copied : Option Addr} {sl_law_copied : Array (Option Value)} {oc_law_copied kV_law_copied dc_law_copied pm_law_copied cd_law_copied ct_law_copied : Value}
    {od_law_numbers an_law_numbers : Option Addr} {sl_law_numbers : Array (Option Value)} {oc_law_numbers kV_law_numbers dc_law_numbers pm_law_numbers cd_law_numbers ct_law_numbers : Value}
    {od_law_text an_law_text : Option Addr} {sl_law_text : Array (Option Value)} {oc_law_text kV_law_text dc_law_text pm_law_text cd_law_text ct_law_text : Value}
    {od_law_thing an_law_thing : Option Addr} {sl_law_thing : Array (Option Value)} {oc_law_thing kV_law_thing dc_law_thing pm_law_thing cd_law_thing ct_law_thing : Value}
    {od_choose an_choose : Option Addr} {sl_choose : Array (Option Value)} {oc_choose kV_choose dc_choose pm_choose cd_choose ct_choose : Value}
    {od_clash an_clash : Option Addr} {sl_clash : Array (Option Value)} {oc_clash kV_clash dc_clash pm_clash cd_clash ct_clash : Value}
    {od_law an_law : Option Addr} {sl_law : Array (Option Value)} {oc_law kV_law dc_law pm_law cd_law ct_law : Value}
    (a_law_cell : PySem.W.nsIn K mainGlobals "_law_cell" = some (some (.ref f_law_cell))) (l_law_cell : K.lookup f_law_cell = some ⟨oc_law_cell, od_law_cell, .func (PySem.W.fnOf "_law_cell" "_law_cell" (defArgs s_law_cell) (defBody s_law_cell) (defScope s_law_cell) .none kV_law_cell dc_law_cell pm_law_cell an_law_cell cd_law_cell ct_law_cell), sl_law_cell⟩) (c_law_cell : PySem.W.codeIn K cd_law_cell "_law_cell" = true) (k_law_cell : PySem.W.keepIn K (.ref f_law_cell) = true)
    (a_law_copied : PySem.W.nsIn K mainGlobals "_law_copied" = some (some (.ref f_law_copied))) (l_law_copied : K.lookup f_law_copied = some ⟨oc_law_copied, od_law_copied, .func (PySem.W.fnOf "_law_copied" "_law_copied" (defArgs s_law_copied) (defBody s_law_copied) (defScope s_law_copied) .none kV_law_copied dc_law_copied pm_law_copied an_law_copied cd_law_copied ct_law_copied), sl_law_copied⟩) (c_law_copied : PySem.W.codeIn K cd_law_copied "_law_copied" = true) (k_law_copied : PySem.W.keepIn K (.ref f_law_copied) = true)
    (a_law_numbers : PySem.W.nsIn K mainGlobals "_law_numbers" = some (some (.ref f_law_numbers))) (l_law_numbers : K.lookup f_law_numbers = some ⟨oc_law_numbers, od_law_numbers, .func (PySem.W.fnOf "_law_numbers" "_law_numbers" (defArgs s_law_numbers) (defBody s_law_numbers) (defScope s_law_numbers) .none kV_law_numbers dc_law_numbers pm_law_numbers an_law_numbers cd_law_numbers ct_law_numbers), sl_law_numbers⟩) (c_law_numbers : PySem.W.codeIn K cd_law_numbers "_law_numbers" = true) (k_law_numbers : PySem.W.keepIn K (.ref f_law_numbers) = true)
    (a_law_text : PySem.W.nsIn K mainGlobals "_law_text" = some (some (.ref f_law_text))) (l_law_text : K.lookup f_law_text = some ⟨oc_law_text, od_law_text, .func (PySem.W.fnOf "_law_text" "_law_text" (defArgs s_law_text) (defBody s_law_text) (defScope s_law_text) .none kV_law_text dc_law_text pm_law_text an_law_text cd_law_text ct_law_text), sl_law_text⟩) (c_law_text : PySem.W.codeIn K cd_law_text "_law_text" = true) (k_law_text : PySem.W.keepIn K (.ref f_law_text) = true)
    (a_law_thing : PySem.W.nsIn K mainGlobals "_law_thing" = some (some (.ref f_law_thing))) (l_law_thing : K.lookup f_law_thing = some ⟨oc_law_thing, od_law_thing, .func (PySem.W.fnOf "_law_thing" "_law_thing" (defArgs s_law_thing) (defBody s_law_thing) (defScope s_law_thing) .none kV_law_thing dc_law_thing pm_law_thing an_law_thing cd_law_thing ct_law_thing), sl_law_thing⟩) (c_law_thing : PySem.W.codeIn K cd_law_thing "_law_thing" = true) (k_law_thing : PySem.W.keepIn K (.ref f_law_thing) = true)
    (a_choose : PySem.W.nsIn K mainGlobals "choose" = some (some (.ref f_choose))) (l_choose : K.lookup f_choose = some ⟨oc_choose, od_choose, .func (PySem.W.fnOf "choose" "choose" (defArgs s_choose) (defBody s_choose) (defScope s_choose) .none kV_choose dc_choose pm_choose an_choose cd_choose ct_choose), sl_choose⟩) (c_choose : PySem.W.codeIn K cd_choose "choose" = true) (k_choose : PySem.W.keepIn K (.ref f_choose) = true)
    (a_clash : PySem.W.nsIn K mainGlobals "clash" = some (some (.ref f_clash))) (l_clash : K.lookup f_clash = some ⟨oc_clash, od_clash, .func (PySem.W.fnOf "clash" "clash" (defArgs s_clash) (defBody s_clash) (defScope s_clash) .none kV_clash dc_clash pm_clash an_clash cd_clash ct_clash), sl_clash⟩) (c_clash : PySem.W.codeIn K cd_clash "clash" = true) (k_clash : PySem.W.keepIn K (.ref f_clash) = true)
    (a_law : PySem.W.nsIn K mainGlobals "law" = some (some (.ref f_law))) (l_law : K.lookup f_law = some ⟨oc_law, od_law, .func (PySem.W.fnOf "law" "law" (defArgs s_law) (defBody s_law) (defScope s_law) .none kV_law dc_law pm_law an_law cd_law ct_law), sl_law⟩) (c_law : PySem.W.codeIn K cd_law "law" = true) (k_law : PySem.W.keepIn K (.ref f_law) = true)
    (z_bool : PySem.W.nsIn K mainGlobals "bool" = some none)
    (z_int : PySem.W.nsIn K mainGlobals "int" = some none)
    (z_isinstance : PySem.W.nsIn K mainGlobals "isinstance" = some none)
    (z_len : PySem.W.nsIn K mainGlobals "len" = some none)
    (z_list : PySem.W.nsIn K mainGlobals "list" = some none)
    (z_range : PySem.W.nsIn K mainGlobals "range" = some none)
    (z_tuple : PySem.W.nsIn K mainGlobals "tuple" = some none) :
    ∃ fd : FuncData, (∀ (s : Shared) (v : Value), BindsTo s fd ⟨[v], []⟩ [("script", v)]) ∧ ∀ base : Heap, K.In base → base.Ns mainGlobals mg → FnOk l.prog w K mg base CX0 5 fa fd ["script"] (spLaw K) := by
  have e := hfa.symm.trans (PySem.W.mg_of X G a_law)
  cases e
  have F_law_cell := fun_mk (st := s_law_cell) l_law_cell c_law_cell k_law_cell
  have F_law_copied := fun_mk (st := s_law_copied) l_law_copied c_law_copied k_law_copied
  have F_law_numbers := fun_mk (st := s_law_numbers) l_law_numbers c_law_numbers k_law_numbers
  have F_law_text := fun_mk (st := s_law_text) l_law_text c_law_text k_law_text
  have F_law_thing := fun_mk (st := s_law_thing) l_law_thing c_law_thing k_law_thing
  have F_choose := fun_mk (st := s_choose) l_choose c_choose k_choose
  have F_clash := fun_mk (st := s_clash) l_clash c_clash k_clash
  have F_law := fun_mk (st := s_law) l_law c_law k_law
  let T : Txt K mg := {
    f_law_cell := f_law_cell, d_law_cell := _, F_law_cell := F_law_cell, b_law_cell := (F_law_cell.binds (ps := ["script", "k"]) fun _ _ _ _ _ _ us hl => match us, hl with | [_, _], _ => rfl),
    g_law_cell := PySem.W.mg_of X G a_law_cell,
    f_law_copied := f_law_copied, d_law_copied := _, F_law_copied := F_law_copied, b_law_copied := (F_law_copied.binds (ps := ["thing"]) fun _ _ _ _ _ _ us hl => match us, hl with | [_], _ => rfl),
    g_law_copied := PySem.W.mg_of X G a_law_copied,
    f_law_numbers := f_law_numbers, d_law_numbers := _, F_law_numbers := F_law_numbers, b_law_numbers := (F_law_numbers.binds (ps := ["cell", "count"]) fun _ _ _ _ _ _ us hl => match us, hl with | [_, _], _ => rfl),
    g_law_numbers := PySem.W.mg_of X G a_law_numbers,
    f_law_text := f_law_text, d_law_text := _, F_law_text := F_law_text, b_law_text := (F_law_text.binds (ps := ["a", "b"]) fun _ _ _ _ _ _ us hl => match us, hl with | [_, _], _ => rfl),
    g_law_text := PySem.W.mg_of X G a_law_text,
    f_law_thing := f_law_thing, d_law_thing := _, F_law_thing := F_law_thing, b_law_thing := (F_law_thing.binds (ps := ["cell", "numbers"]) fun _ _ _ _ _ _ us hl => match us, hl with | [_, _], _ => rfl),
    g_law_thing := PySem.W.mg_of X G a_law_thing,
    f_choose := f_choose, d_choose := _, F_choose := F_choose, b_choose := (F_choose.binds (ps := ["base", "ours", "theirs"]) fun _ _ _ _ _ _ us hl => match us, hl with | [_, _, _], _ => rfl),
    g_choose := PySem.W.mg_of X G a_choose,
    f_clash := f_clash, d_clash := _, F_clash := F_clash, b_clash := (F_clash.binds (ps := ["base", "ours", "theirs"]) fun _ _ _ _ _ _ us hl => match us, hl with | [_, _, _], _ => rfl),
    g_clash := PySem.W.mg_of X G a_clash,
    f_law := fa, d_law := _, F_law := F_law, b_law := (F_law.binds (ps := ["script"]) fun _ _ _ _ _ _ us hl => match us, hl with | [_], _ => rfl),
    g_law := PySem.W.mg_of X G a_law,
    m_bool := PySem.W.mg_none_of X G z_bool,
    m_int := PySem.W.mg_none_of X G z_int,
    m_isinstance := PySem.W.mg_none_of X G z_isinstance,
    m_len := PySem.W.mg_none_of X G z_len,
    m_list := PySem.W.mg_none_of X G z_list,
    m_range := PySem.W.mg_none_of X G z_range,
    m_tuple := PySem.W.mg_none_of X G z_tuple }
  exact ⟨PySem.W.fnOf "law" "law" (defArgs s_law) (defBody s_law) (defScope s_law) .none kV_law dc_law pm_law an_law cd_law ct_law, fun s v => .of_eq rfl, fun base _ _ => ok_law T⟩

end Vt

open PySem PySem.W PyProof.Rows
set_option maxHeartbeats 0 in
theorem PySem.Challenge.cw_versiontables_k29_choice_holds : PySem.Challenge.rw_versiontables_k29_choice.Holds := by
  w_on; o_law; k_head; (case hw => w_witness2)
  k_fill
  refine L2.walk_ofB (l := PySem.Challenge.rw_versiontables_k29_choice) (n := 63) (k := 5) (x := "script") (CX := fun _ => L2.CX0) (sp := fun w => Vt.spLaw _) rfl (by decide) rfl ⟨rfl, by decide, by decide⟩ (fun w h Y => PySem.W.kIn_of Y) ?F (fun _ _ a ns hl hb _ hS => ⟨a, ns, rfl, hS, hl, hb, fun _ => rfl⟩) (fun _ _ _ _ _ h => h)
  case F =>
    intro w mg fa h KX G hmg
    refine' Vt.all_mk KX G hmg ?a_law_cell ?l_law_cell ?c_law_cell ?k_law_cell ?a_law_copied ?l_law_copied ?c_law_copied ?k_law_copied ?a_law_numbers ?l_law_numbers ?c_law_numbers ?k_law_numbers ?a_law_text ?l_law_text ?c_law_text ?k_law_text ?a_law_thing ?l_law_thing ?c_law_thing ?k_law_thing ?a_choose ?l_choose ?c_choose ?k_choose ?a_clash ?l_clash ?c_clash ?k_clash ?a_law ?l_law ?c_law ?k_law ?z_bool ?z_int ?z_isinstance ?z_len ?z_list ?z_range ?z_tuple
    (case a_law_cell => k_is)
    (case l_law_cell => k_is)
    (case c_law_cell => k_is)
    (case k_law_cell => k_is)
    (case a_law_copied => k_is)
    (case l_law_copied => k_is)
    (case c_law_copied => k_is)
    (case k_law_copied => k_is)
    (case a_law_numbers => k_is)
    (case l_law_numbers => k_is)
    (case c_law_numbers => k_is)
    (case k_law_numbers => k_is)
    (case a_law_text => k_is)
    (case l_law_text => k_is)
    (case c_law_text => k_is)
    (case k_law_text => k_is)
    (case a_law_thing => k_is)
    (case l_law_thing => k_is)
    (case c_law_thing => k_is)
    (case k_law_thing => k_is)
    (case a_choose => k_is)
    (case l_choose => k_is)
    (case c_choose => k_is)
    (case k_choose => k_is)
    (case a_clash => k_is)
    (case l_clash => k_is)
    (case c_clash => k_is)
    (case k_clash => k_is)
    (case a_law => k_is)
    (case l_law => k_is)
    (case c_law => k_is)
    (case k_law => k_is)
    (case z_bool => k_is)
    (case z_int => k_is)
    (case z_isinstance => k_is)
    (case z_len => k_is)
    (case z_list => k_is)
    (case z_range => k_is)
    (case z_tuple => k_is)
