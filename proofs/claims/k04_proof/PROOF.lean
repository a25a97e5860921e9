import PyProof.Rows.All
import Wide.All
import OpenK.AllK
import Wide.FinOn
import HandS.ForMost
import HandS.Evl
import HandS.IsInst
import HandS.FStr
import HandS.WideBits
import HandS.Wide
import HandS.EndBits
import HandS.Exc
import HandS.TupAny
import PyProof.StrOps2
import HandS.ExcOwn
import HandS.ExcIs
import HandS.ExcCtx
import HandS.SuiteRaise
import HandS.RaiseFrom
import HandS.ExcValue
import HandS.ExcValueFrom
import HandS.WordsExc
import HandS.Replace
import HandS.ReplaceLit
import HandS.NoneIn
import HandS.StrMore
import HandS.TupLe
import HandS.Sort
import HandS.SortKw
import HandS.Lambda
import HandS.EndTab
import KE.KNestM
import KE.SortKeyHeap
import KE.SortData
import HandS.Iter
import KE.GoesMore
import KE.GoesEnum
import HandS.SetTxt0
import HandS.Set
import HandS.Strs
import HandS.Star
import HandS.Zip
import KE.KDictZip
import PySem.Challenge.RW_versiontables_k04_torn_texts


set_option Elab.async false
set_option linter.all false
set_option maxRecDepth 100000
set_option maxHeartbeats 400000

namespace Vt
open PySem PySem.Spec PyProof.Rows L2 Evl

def topS (i : Nat) : Stmt := PySem.Challenge.pw_versiontables_k04_torn_texts.main.body.getD i (.Pass ⟨0, 0, 0, 0⟩)

abbrev s_law_integer : Stmt := topS 22

theorem sc_law_integer : FnScope ["cell", "choice", "rest"] ["cell"] (defScope s_law_integer) := ⟨rfl, rfl, rfl, by decide +kernel, rfl, by decide +kernel, by decide +kernel⟩

abbrev s_law_draws : Stmt := topS 19

theorem sc_law_draws : FnScope ["cell", "salt", "count", "base", "rest", "numbers", "k", "mixed"] ["cell", "salt", "count", "base"] (defScope s_law_draws) := ⟨rfl, rfl, rfl, by decide +kernel, rfl, by decide +kernel, by decide +kernel⟩

abbrev s_law_signs : Stmt := topS 23

theorem sc_law_signs : FnScope ["cell", "length", "signs", "number"] ["cell", "length"] (defScope s_law_signs) := ⟨rfl, rfl, rfl, by decide +kernel, rfl, by decide +kernel, by decide +kernel⟩

abbrev s_law_char : Stmt := topS 20

theorem sc_law_char : FnScope ["number", "chars"] ["number"] (defScope s_law_char) := ⟨rfl, rfl, rfl, by decide +kernel, rfl, by decide +kernel, by decide +kernel⟩

abbrev s_law_text : Stmt := topS 21

theorem sc_law_text : FnScope ["cell", "choice", "rest", "length", "number"] ["cell"] (defScope s_law_text) := ⟨rfl, rfl, rfl, by decide +kernel, rfl, by decide +kernel, by decide +kernel⟩

abbrev s_law_leaf : Stmt := topS 24

theorem sc_law_leaf : FnScope ["cell", "choice", "rest", "lengths"] ["cell"] (defScope s_law_leaf) := ⟨rfl, rfl, rfl, by decide +kernel, rfl, by decide +kernel, by decide +kernel⟩

abbrev s_law_leaf_text : Stmt := topS 25

theorem sc_law_leaf_text : FnScope ["leaf"] ["leaf"] (defScope s_law_leaf_text) := ⟨rfl, rfl, rfl, by decide +kernel, rfl, by decide +kernel, by decide +kernel⟩

abbrev s_law_built : Stmt := topS 26

theorem sc_law_built : FnScope ["cells", "items", "texts", "depths", "cell", "choice", "rest", "start", "depth", "k"] ["cells"] (defScope s_law_built) := ⟨rfl, rfl, rfl, by decide +kernel, rfl, by decide +kernel, by decide +kernel⟩

abbrev s_law_cell : Stmt := topS 17

theorem sc_law_cell : FnScope ["script", "k"] ["script", "k"] (defScope s_law_cell) := ⟨rfl, rfl, rfl, by decide +kernel, rfl, by decide +kernel, by decide +kernel⟩

abbrev s_sign_at : Stmt := topS 15

theorem sc_sign_at : FnScope ["text", "index"] ["text", "index"] (defScope s_sign_at) := ⟨rfl, rfl, rfl, by decide +kernel, rfl, by decide +kernel, by decide +kernel⟩

abbrev s_end_of_digits : Stmt := topS 14

theorem sc_end_of_digits : FnScope ["text", "first", "most", "closing", "index", "sign", "count"] ["text", "first", "most", "closing"] (defScope s_end_of_digits) := ⟨rfl, rfl, rfl, by decide +kernel, rfl, by decide +kernel, by decide +kernel⟩

abbrev s_read_integer : Stmt := topS 11

theorem sc_read_integer : FnScope ["text", "index", "first", "end"] ["text", "index"] (defScope s_read_integer) := ⟨rfl, rfl, rfl, by decide +kernel, rfl, by decide +kernel, by decide +kernel⟩

abbrev s_read_text : Stmt := topS 12

theorem sc_read_text : FnScope ["text", "index", "end", "start", "stop"] ["text", "index"] (defScope s_read_text) := ⟨rfl, rfl, rfl, by decide +kernel, rfl, by decide +kernel, by decide +kernel⟩

abbrev s_read_tuple : Stmt := topS 13

theorem sc_read_tuple : FnScope ["text", "index", "level", "parts", "part"] ["text", "index", "level"] (defScope s_read_tuple) := ⟨rfl, rfl, rfl, by decide +kernel, rfl, by decide +kernel, by decide +kernel⟩

abbrev s_read_item : Stmt := topS 10

theorem sc_read_item : FnScope ["text", "index", "level", "sign"] ["text", "index", "level"] (defScope s_read_item) := ⟨rfl, rfl, rfl, by decide +kernel, rfl, by decide +kernel, by decide +kernel⟩

abbrev s_decode_prefix : Stmt := topS 8

theorem sc_decode_prefix : FnScope ["text", "index"] ["text", "index"] (defScope s_decode_prefix) := ⟨rfl, rfl, rfl, by decide +kernel, rfl, by decide +kernel, by decide +kernel⟩

abbrev s_decode : Stmt := topS 9

theorem sc_decode : FnScope ["text", "item", "end"] ["text"] (defScope s_decode) := ⟨rfl, rfl, rfl, by decide +kernel, rfl, by decide +kernel, by decide +kernel⟩

abbrev s_law_is_invalid : Stmt := topS 29

theorem sc_law_is_invalid : FnScope ["text", "e"] ["text"] (defScope s_law_is_invalid) := ⟨rfl, rfl, rfl, by decide +kernel, rfl, by decide +kernel, by decide +kernel⟩

abbrev s_law_is_torn : Stmt := topS 28

theorem sc_law_is_torn : FnScope ["text", "index", "e"] ["text", "index"] (defScope s_law_is_torn) := ⟨rfl, rfl, rfl, by decide +kernel, rfl, by decide +kernel, by decide +kernel⟩

abbrev s_law_same : Stmt := topS 27

theorem sc_law_same : FnScope ["actual", "expected", "k"] ["actual", "expected"] (defScope s_law_same) := ⟨rfl, rfl, rfl, by decide +kernel, rfl, by decide +kernel, by decide +kernel⟩

abbrev s_law_thing : Stmt := topS 18

theorem sc_law_thing : FnScope ["script", "k"] ["script", "k"] (defScope s_law_thing) := ⟨rfl, rfl, rfl, by decide +kernel, rfl, by decide +kernel, by decide +kernel⟩

abbrev s_law : Stmt := topS 30

theorem sc_law : FnScope ["script", "head", "before", "item", "written", "k", "size", "cut"] ["script"] (defScope s_law) := ⟨rfl, rfl, rfl, by decide +kernel, rfl, by decide +kernel, by decide +kernel⟩

/-! ### what is raised -/
theorem okN {P : Program} {w : World} {K : PySem.W.Frag} {mg : Str → Option Value} {base : Heap} {x qual : Str} {st : Stmt} {f : Addr} {fd : FuncData} {N ps : List Str} {k : Nat} {sp : Sp} (F : Fun K x qual st f fd) (S : FnScope N ps (defScope st)) (len : ∀ vs H Q E, sp vs H Q E → vs.length = ps.length)
    (hb : ∀ (cdv : Value) (A : Around) (outer : List Env) (s : Shared) (H : Hp) (vs : List V) (Q : VK) (E : XK), Room k (A.deeper (envOfC qual (defScope st) s.heap.objs.size f cdv)) → sp vs H Q E →
      ∃ t, PSs (cxOf (L2N.CX P w) P w K mg base N qual (defScope st) f cdv A outer s H E) (defBody st) t ∧ t { nx := fun _ H' => Q .non H', rt := Q } (start N vs) H) : FnOk P w K mg base (L2N.CX P w) (k + 1) f fd ps sp := by
  obtain ⟨oc, od, kV, doc, pm, an, cdv, ct, osl, rfl, lk, hcd⟩ := F.ex
  exact fn_of lk hcd S len fun A outer s H vs Q E hr h => hb cdv A outer s H vs Q E hr h
/-- a reading that holds where P does -/
theorem pss_given {X : Cx} {sts : List Stmt} {t : TS} {P : Prop} (h : P → PSs X sts t) : PSs X sts (fun D σ H => P ∧ t D σ H) := ⟨fun pins s σ H D I z => (h z.1).run pins s σ H D I z.2⟩
theorem zc_of {cls : Value} {d : Option Addr} {C : Addr} {oe : Obj} (p : cls = .ref C ∧ d = none) (h : Zc cls d oe) : Zc (.ref C) none oe := by
  obtain ⟨rfl, rfl⟩ := p
  exact h
theorem ev_isE {K : PySem.W.Frag} {D a : Addr} {σ : L2.St} {H : Hp} {te : TE} {c : V} {cv : Value} {b : Bool} (h : Ev te σ H (.ref a)) (hc : ∀ u, RelV c u → u = cv) (hk : PySem.W.kitOne K (.ref D) cv = some b) : Ev (tCB (rIsE K D a) (tCons te (tCons (tC c) tNil))) σ H (.bl b) := fun H1 e Q q =>
  h H1 e _ fun H2 e2 => ⟨c, cv, b, rfl, hc, hk, q H2 e2⟩
theorem s_callE {sp : Sp} {dvs vs : List V} {E : XK} {ta : TA} {σ : L2.St} {H : Hp} {D : Ends} (h : EvA ta σ H vs) (k : ∀ H1 Q, Ex H H1 → sp (vs ++ dvs) H1 Q E) : tRet (tCall sp dvs E ta) D σ H := h H (Ex.refl H) _ fun H1 e1 => k H1 _ e1
theorem q_callE {sp : Sp} {dvs vs : List V} {E : XK} {ta : TA} {σ : L2.St} {H : Hp} {tz : TS} {D : Ends} {i : Nat} (h : EvA ta σ H vs) (k : ∀ H1 Q, Ex H H1 → sp (vs ++ dvs) H1 Q E) : tSeq (tAsg (tCall sp dvs E ta) (gName i)) tz D σ H := h H (Ex.refl H) _ fun H1 e1 => k H1 _ e1
/-- in a try's body -/
theorem s_callT {sp : Sp} {vs : List V} {E : L2.St → XK} {ta : TA} {g : TG} {σ : L2.St} {H : Hp} {D : Ends} (h : EvA ta σ H vs) (k : ∀ H1 Q, Ex H H1 → sp vs H1 Q (E σ)) : tAsg (tCallS sp E ta) g D σ H := h H (Ex.refl H) _ fun H1 e1 => k H1 _ e1
theorem s_dropT {sp : Sp} {vs : List V} {E : L2.St → XK} {ta : TA} {σ : L2.St} {H : Hp} {D : Ends} (h : EvA ta σ H vs) (k : ∀ H1 Q, Ex H H1 → sp vs H1 Q (E σ)) : tDrop (tCallS sp E ta) D σ H := h H (Ex.refl H) _ fun H1 e1 => k H1 _ e1
/-- an own error class, as the text has it -/
structure XcC (K : PySem.W.Frag) (mg : Str → Option Value) (x : Str) (C : Addr) : Prop where
  g : mg x = some (.ref C)
  x : PySem.W.excIn K C [.type "ValueError", .type "Exception", .type "BaseException", .type "object"] "ValueError.__new__" = true
  kp : PySem.W.keepIn K (.ref C) = true
  b : PySem.W.subIn K (.ref C) (.type "BaseException") = some true
  t : PySem.W.typeIn K (.ref C) = some (.type "type")
  s : PySem.W.subIn K (.ref C) (.ref C) = some true
  is : ExcC K C
theorem XcC.self {K : PySem.W.Frag} {mg : Str → Option Value} {x : Str} {C : Addr} (T : XcC K mg x C) : PySem.W.exmOne K (.ref C) (.ref C) = some true := PySem.W.exm_ref T.b T.is.hd T.t T.s
/-! try .. except X as n: .. and further clauses; what is raised is X's -/
def wAs1 (K : PySem.W.Frag) (c : Value) (i : Nat) (ts : Addr → Value → Option Addr → TS) (D : Ends) : WX := fun cls d σ H =>
  PySem.W.exmOne K cls c = some true ∧ ∀ a, H a = none → ts a cls d { nx := fun _ _ => False, rt := D.rt, bk := fun _ _ => False, ct := fun _ _ => False } (σ.set i (some (.ref a))) H
theorem ps_try_as1 {X : Cx} {x n : Str} {c : Value} {i : Nat} {body suite : List Stmt} {b₀ : Stmt} {np pos pos' : Pos} {more : List ExceptHandler} {tb : WX → TS} {ts : Addr → Value → Option Addr → TS}
    (hs : X.stack = X.env :: X.outer) (hf : X.env.frame = some X.env.locals) (hN : X.N.Nodup) (hi : X.N[i]? = some n) (hln : X.env.kindOf n = some .local) (hc : Names X x c)
    (hb : ∀ (W : WX) (pn : List (Addr × Obj)) (xe : Value → Shared → Prop), L2N.Takes (X.tr pn xe) W → PSs (X.tr pn xe) body (tb W))
    (hsu : ∀ (a : Addr) (oe : Obj) (cls : Value) (d : Option Addr) (pn : List (Addr × Obj)), Zc cls d oe → (∃ vs, oe.data = .fields vs) → PSs (X.suite a ((a, oe) :: pn)) (b₀ :: suite) (ts a cls d)) :
    PS X (.Try body (.ExceptHandler (some (.Name x np)) (some n) (b₀ :: suite) pos' :: more) [] [] pos) (fun D σ H => tb (wAs1 X.K c i ts D) D σ H) := by
  refine ⟨fun pins s σ H D I h => ?_⟩
  have ok := I.ok
  have frames : X.A.frames = some (X.env :: X.outer) := by rw [ok.frames, hs]
  refine wpAny_Try_except (wpAny_mono ((hb (wAs1 X.K c i ts D) (X.pn ++ pins) _ fun u s' z => ?_).run [] s σ H D (I.toTry _) h) (fun f s1 q => ?_) fun e s1 z => z)
  · obtain ⟨a, B, sI, pins', σ', H', cls, d, rfl, J', nb, up, sky, na, os, ag, hx, hy⟩ := z
    have J : Inv X pins σ' H' sI := J'.ofTry ok
    have sky' : L2.Sky B (X.env :: X.outer) a (L2N.Zn cls d) X.env.locals s'.heap := by rw [← hs]; exact sky
    show wpAny (model X.prog X.w) X.A (noteFrame (.ref a) X.env) _ _ _
    refine L2N.Sky.land L2N.Zn.steady frames hf sky' fun h3 fl up3 => ?_
    have J3 : Inv X pins σ' H' { s' with heap := h3 } := J.landed nb fl.1 (up.trans up3) os ag
    obtain ⟨o3, v3, g3, z3, d3⟩ := fl.there
    have nfr : a ∉ frs (X.env :: X.outer) := fun hm => by
      obtain ⟨_, o', e', no⟩ := fl.2.2.1.mem hm
      rw [g3] at e'
      cases e'
      exact no _ d3
    have nL : a ≠ X.env.locals := fun y => nfr (List.mem_filterMap.mpr ⟨X.env, List.mem_cons_self, by rw [hf, y]⟩)
    have nF : a ∉ X.fs := fun hm => by
      obtain ⟨e, he, q⟩ := List.mem_filterMap.mp hm
      exact nfr (List.mem_filterMap.mpr ⟨e, List.mem_cons_of_mem _ he, q⟩)
    have S3 := J3.suite g3 d3 na nL nF
    have LT : PySem.W.Looks (model X.prog X.w) h3 (typeOf (.ref a)) cls := fun A Q E s k q => wpAny_typeOf_ref (k _ _ g3) (by rw [z3.1]; exact q)
    have LM := PySem.W.exm_one (M := model X.prog X.w) J3.kIn LT hx
    refine wpAny_handleBy_cons (codeAny_handlers_test ?_) (by intro q; cases q)
    have test : ∀ {Q : Value → Shared → Prop} {E : Value → Shared → Prop}, Q c { s' with heap := h3 } → wpAny (model X.prog X.w) (X.A.mark (some (.ref a))) (eval (.Name x np) X.env) Q E { s' with heap := h3 } := fun q => by
      obtain ⟨hg, hd, hm | ⟨hm, hv, hn⟩⟩ := hc
      · exact ld_glob (X := X.suite a ((a, o3) :: (X.pn ++ pins))) S3 hg hm q hd
      · exact ld_blt (X := X.suite a ((a, o3) :: (X.pn ++ pins))) S3 hg hm hv q hn hd
    refine test (LM.here (codeAny_handlers_suite_as (HandSPX.lands_againZ fl fun h4 fl4 up4 => ?_)))
    have J4 : Inv X pins σ' H' { s' with heap := h4 } := J.landed nb fl4.1 ((up.trans up3).trans up4) os ag
    obtain ⟨o4, v4, g4, z4, d4⟩ := fl4.there
    refine store_ok (X := X.suite a ((a, o4) :: (X.pn ++ pins))) (v := .ref a) (J4.suite g4 d4 na nL nF) hN hi (.inl hln) rfl (fun s5 S5 => ?_) (.inr hln)
    refine wpAny_mono ((hsu a o4 cls d (X.pn ++ pins) ⟨z4.1, z4.2.1⟩ ⟨_, d4⟩).run [] s5 _ H' _ S5 (hy a na)) (fun f s6 q => ?_) (fun _ _ z => z.elim)
    cases f with
    | next =>
      obtain ⟨_, _, _, z⟩ := q
      exact z.elim
    | brk =>
      obtain ⟨_, _, _, z⟩ := q
      exact z.elim
    | cont =>
      obtain ⟨_, _, _, z⟩ := q
      exact z.elim
    | ret u =>
      obtain ⟨v6, σ6, H6, S6, r6, q6⟩ := q
      exact gone_ok (S6.unsuite ok) hN hi hln fun s7 J7 => ⟨_, _, _, J7, r6, q6⟩
  · cases f with
    | next =>
      obtain ⟨σ', H', J', z⟩ := q
      exact wpAny_execs_nil ⟨σ', H', J'.ofTry ok, z⟩
    | brk =>
      obtain ⟨σ', H', J', z⟩ := q
      exact ⟨σ', H', J'.ofTry ok, z⟩
    | cont =>
      obtain ⟨σ', H', J', z⟩ := q
      exact ⟨σ', H', J'.ofTry ok, z⟩
    | ret u =>
      obtain ⟨v, σ', H', J', r, z⟩ := q
      exact ⟨v, σ', H', J'.ofTry ok, r, z⟩
/-- as ps_try_as1, for what was raised while another error was handled -/
theorem ps_try_as2 {X : Cx} {x n : Str} {c : Value} {i : Nat} {body suite : List Stmt} {b₀ : Stmt} {np pos pos' : Pos} {more : List ExceptHandler} {tb : WX → TS} {ts : Addr → Value → Option Addr → TS}
    (hs : X.stack = X.env :: X.outer) (hf : X.env.frame = some X.env.locals) (hN : X.N.Nodup) (hi : X.N[i]? = some n) (hln : X.env.kindOf n = some .local) (hc : Names X x c)
    (hb : ∀ (W : WX) (pn : List (Addr × Obj)) (xe : Value → Shared → Prop), L2.Takes (X.tr pn xe) W → PSs (X.tr pn xe) body (tb W))
    (hsu : ∀ (a : Addr) (oe : Obj) (cls : Value) (d : Option Addr) (pn : List (Addr × Obj)), Zc cls d oe → (∃ vs, oe.data = .fields vs) → PSs (X.suite a ((a, oe) :: pn)) (b₀ :: suite) (ts a cls d)) :
    PS X (.Try body (.ExceptHandler (some (.Name x np)) (some n) (b₀ :: suite) pos' :: more) [] [] pos) (fun D σ H => tb (wAs1 X.K c i ts D) D σ H) := by
  refine ⟨fun pins s σ H D I h => ?_⟩
  have ok := I.ok
  have frames : X.A.frames = some (X.env :: X.outer) := by rw [ok.frames, hs]
  refine wpAny_Try_except (wpAny_mono ((hb (wAs1 X.K c i ts D) (X.pn ++ pins) _ fun u s' z => ?_).run [] s σ H D (I.toTry _) h) (fun f s1 q => ?_) fun e s1 z => z)
  · obtain ⟨a, B, sI, pins', σ', H', cls, d, rfl, J', nb, up, sky, na, os, ag, hx, hy⟩ := z
    have J : Inv X pins σ' H' sI := J'.ofTry ok
    have sky' : L2.Sky B (X.env :: X.outer) a (Zc cls d) X.env.locals s'.heap := by rw [← hs]; exact sky
    show wpAny (model X.prog X.w) X.A (noteFrame (.ref a) X.env) _ _ _
    refine L2.Sky.land Zc.steady frames hf sky' fun h3 fl up3 => ?_
    have J3 : Inv X pins σ' H' { s' with heap := h3 } := J.landed nb fl.1 (up.trans up3) os ag
    obtain ⟨o3, v3, g3, z3, d3⟩ := fl.there
    have nfr : a ∉ frs (X.env :: X.outer) := fun hm => by
      obtain ⟨_, o', e', no⟩ := fl.2.2.1.mem hm
      rw [g3] at e'
      cases e'
      exact no _ d3
    have nL : a ≠ X.env.locals := fun y => nfr (List.mem_filterMap.mpr ⟨X.env, List.mem_cons_self, by rw [hf, y]⟩)
    have nF : a ∉ X.fs := fun hm => by
      obtain ⟨e, he, q⟩ := List.mem_filterMap.mp hm
      exact nfr (List.mem_filterMap.mpr ⟨e, List.mem_cons_of_mem _ he, q⟩)
    have S3 := J3.suite g3 d3 na nL nF
    have LT : PySem.W.Looks (model X.prog X.w) h3 (typeOf (.ref a)) cls := fun A Q E s k q => wpAny_typeOf_ref (k _ _ g3) (by rw [z3.1]; exact q)
    have LM := PySem.W.exm_one (M := model X.prog X.w) J3.kIn LT hx
    refine wpAny_handleBy_cons (codeAny_handlers_test ?_) (by intro q; cases q)
    have test : ∀ {Q : Value → Shared → Prop} {E : Value → Shared → Prop}, Q c { s' with heap := h3 } → wpAny (model X.prog X.w) (X.A.mark (some (.ref a))) (eval (.Name x np) X.env) Q E { s' with heap := h3 } := fun q => by
      obtain ⟨hg, hd, hm | ⟨hm, hv, hn⟩⟩ := hc
      · exact ld_glob (X := X.suite a ((a, o3) :: (X.pn ++ pins))) S3 hg hm q hd
      · exact ld_blt (X := X.suite a ((a, o3) :: (X.pn ++ pins))) S3 hg hm hv q hn hd
    refine test (LM.here (codeAny_handlers_suite_as (HandSPX.lands_againZ fl fun h4 fl4 up4 => ?_)))
    have J4 : Inv X pins σ' H' { s' with heap := h4 } := J.landed nb fl4.1 ((up.trans up3).trans up4) os ag
    obtain ⟨o4, v4, g4, z4, d4⟩ := fl4.there
    refine store_ok (X := X.suite a ((a, o4) :: (X.pn ++ pins))) (v := .ref a) (J4.suite g4 d4 na nL nF) hN hi (.inl hln) rfl (fun s5 S5 => ?_) (.inr hln)
    refine wpAny_mono ((hsu a o4 cls d (X.pn ++ pins) z4 ⟨_, d4⟩).run [] s5 _ H' _ S5 (hy a na)) (fun f s6 q => ?_) (fun _ _ z => z.elim)
    cases f with
    | next =>
      obtain ⟨_, _, _, z⟩ := q
      exact z.elim
    | brk =>
      obtain ⟨_, _, _, z⟩ := q
      exact z.elim
    | cont =>
      obtain ⟨_, _, _, z⟩ := q
      exact z.elim
    | ret u =>
      obtain ⟨v6, σ6, H6, S6, r6, q6⟩ := q
      exact gone_ok (S6.unsuite ok) hN hi hln fun s7 J7 => ⟨_, _, _, J7, r6, q6⟩
  · cases f with
    | next =>
      obtain ⟨σ', H', J', z⟩ := q
      exact wpAny_execs_nil ⟨σ', H', J'.ofTry ok, z⟩
    | brk =>
      obtain ⟨σ', H', J', z⟩ := q
      exact ⟨σ', H', J'.ofTry ok, z⟩
    | cont =>
      obtain ⟨σ', H', J', z⟩ := q
      exact ⟨σ', H', J'.ofTry ok, z⟩
    | ret u =>
      obtain ⟨v, σ', H', J', r, z⟩ := q
      exact ⟨v, σ', H', J'.ofTry ok, r, z⟩
/-- raise X('..') from None in an except suite -/
theorem ps_raiseFN {X : Cx} {W : WX} {x m : Str} {C : Addr} {j j2 : Nat} {p p2 pos cpos pos2 : Pos} (hot : L2H.HotC X) (tk : L2.Takes X W) (T : XcC X.K X.mg x C) (hx : X.ex = []) (hg : Gl X x) (hdb : (x == ("__debug__" : Str)) = false) :
    PS X (.Raise (some (.Call (.Name x p) [.Constant (.str m) j p2] [] pos)) (some (.Constant .none j2 cpos)) pos2) (fun _ σ H => Ex X.H_0 H ∧ W (.ref C) none σ H) := by
  refine ⟨fun pins s σ H D I h => (L2H.ps_raiseHN hot tk (pmk_ret5 hx (pe_exc1 PySem.F.excBase_ValueError T.x T.g T.kp hg pe_str (by rfl) hdb))).run pins s σ H D I ?_⟩
  exact fun a ha => ⟨a, _, rfl, upd_same, fr0_none (fresh_back h.1 ha), L2.raises_own T.b T.t, by rw [delH_new ha]; exact h.2⟩
theorem _root_.L2.FnOk.both {P : Program} {w : World} {K : PySem.W.Frag} {mg : Str → Option Value} {base : Heap} {CX : CXT} {k : Nat} {f : Addr} {fd : FuncData} {ps : List Str} {sp0 sp1 : Sp} (F0 : FnOk P w K mg base CX0 k f fd ps sp0) (F1 : FnOk P w K mg base CX k f fd ps sp1) : FnOk P w K mg base CX k f fd ps (fun vs H Q E => sp0 vs H Q E ∨ sp1 vs H Q E) :=
  ⟨fun vs H Q E h => h.elim (F0.len vs H Q E) (F1.len vs H Q E), fun A outer s H args us vs Q E hr e0 hb r h => h.elim (fun h => codeAny_mono (F0.run A outer s H args us vs Q E hr e0 hb r h) fun res s' z => by
    cases res with
    | error e => exact False.elim z
    | ok f => cases f <;> exact z) (fun h => F1.run A outer s H args us vs Q E hr e0 hb r h)⟩
theorem s_callEA {sp : Sp} {dvs vs : List V} {E : XK} {ta : TA} {g : TG} {σ : L2.St} {H : Hp} {D : Ends} (h : EvA ta σ H vs) (k : ∀ H1 Q, Ex H H1 → sp (vs ++ dvs) H1 Q E) : tAsg (tCall sp dvs E ta) g D σ H := h H (Ex.refl H) _ fun H1 e1 => k H1 _ e1
theorem s_ifX {sp : Sp} {dvs vs : List V} {E : XK} {ta : TA} {tb : TE} {r : R2} {tu tw : TS} {σ : L2.St} {H : Hp} {D : Ends} (h : EvA ta σ H vs) (k : ∀ H1 Q, Ex H H1 → sp (vs ++ dvs) H1 Q E) : tIfS (tTest (tOp r (tCall sp dvs E ta) tb)) tu tw D σ H := h H (Ex.refl H) _ fun H1 e1 => k H1 _ e1
theorem t_testX {sp : Sp} {dvs vs : List V} {E : XK} {ta : TA} {tb : TE} {r : R2} {σ : L2.St} {H : Hp} {Q : Bool → Hp → Prop} (h : EvA ta σ H vs) (k : ∀ H1 Q, Ex H H1 → sp (vs ++ dvs) H1 Q E) : tTest (tOp r (tCall sp dvs E ta) tb) σ H Q := h H (Ex.refl H) _ fun H1 e1 => k H1 _ e1
theorem q_whileX {t : TT} {tu tz : TS} {σ : L2.St} {H : Hp} {D : Ends} (W : Nat → L2.St → Hp → Prop) (m0 : Nat) (h0 : W m0 σ H)
    (hs : ∀ m σ' H', W m σ' H' → t σ' H' fun b H1 => if b = true then ∃ N : L2.St → Hp → Prop, (∀ σ2 H2, N σ2 H2 → ∃ m', m' < m ∧ W m' σ2 H2) ∧ tu { D with nx := N, ct := N, bk := tz D } σ' H1 else tz D σ' H1) : tSeq (tWhile t tu) tz D σ H := ⟨W, ⟨m0, h0⟩, hs⟩
theorem pre_le {xs ys t u : List Nat} (h : xs ++ ys = t ++ u) (hl : t.length ≤ xs.length) : ∃ rest, xs = t ++ rest := by
  have e := congrArg (List.take t.length) h
  rw [List.take_append_of_le_length hl, List.take_left] at e
  have z := (List.take_append_drop t.length xs).symm
  rw [e] at z
  exact ⟨_, z⟩
theorem pre_one {xs t r : List Nat} {y c : Nat} (h : xs ++ [y] = t ++ (c :: r)) : ∃ rest, xs = t ++ rest := by
  refine pre_le h ?_
  have := congrArg List.length h
  simp only [List.length_append, List.length_cons, List.length_nil] at this
  omega


structure Txt (K : PySem.W.Frag) (mg : Str → Option Value) where
  C_TornText : Addr
  e_TornText : XcC K mg "TornText" C_TornText
  kv_TornText : PySem.W.kitOne K (.ref C_TornText) (.type "ValueError") = some true
  C_InvalidText : Addr
  e_InvalidText : XcC K mg "InvalidText" C_InvalidText
  kv_InvalidText : PySem.W.kitOne K (.ref C_InvalidText) (.type "ValueError") = some true
  C_VersionError : Addr
  g_VersionError : mg "VersionError" = some (.ref C_VersionError)
  ku_TornText_VersionError : PySem.W.kitOne K (.ref C_TornText) (.ref C_VersionError) = some true
  ku_InvalidText_VersionError : PySem.W.kitOne K (.ref C_InvalidText) (.ref C_VersionError) = some true
  kt_TornText_InvalidText : PySem.W.kitOne K (.ref C_TornText) (.ref C_InvalidText) = some false
  kt_InvalidText_TornText : PySem.W.kitOne K (.ref C_InvalidText) (.ref C_TornText) = some false
  f_law_integer : Addr
  d_law_integer : FuncData
  F_law_integer : Fun K "_law_integer" "_law_integer" s_law_integer f_law_integer d_law_integer
  b_law_integer : Binds K d_law_integer ["cell"] []
  g_law_integer : mg "_law_integer" = some (.ref f_law_integer)
  f_law_draws : Addr
  d_law_draws : FuncData
  F_law_draws : Fun K "_law_draws" "_law_draws" s_law_draws f_law_draws d_law_draws
  b_law_draws : Binds K d_law_draws ["cell", "salt", "count", "base"] []
  g_law_draws : mg "_law_draws" = some (.ref f_law_draws)
  f_law_signs : Addr
  d_law_signs : FuncData
  F_law_signs : Fun K "_law_signs" "_law_signs" s_law_signs f_law_signs d_law_signs
  b_law_signs : Binds K d_law_signs ["cell", "length"] []
  g_law_signs : mg "_law_signs" = some (.ref f_law_signs)
  f_law_char : Addr
  d_law_char : FuncData
  F_law_char : Fun K "_law_char" "_law_char" s_law_char f_law_char d_law_char
  b_law_char : Binds K d_law_char ["number"] []
  g_law_char : mg "_law_char" = some (.ref f_law_char)
  f_law_text : Addr
  d_law_text : FuncData
  F_law_text : Fun K "_law_text" "_law_text" s_law_text f_law_text d_law_text
  b_law_text : Binds K d_law_text ["cell"] []
  g_law_text : mg "_law_text" = some (.ref f_law_text)
  f_law_leaf : Addr
  d_law_leaf : FuncData
  F_law_leaf : Fun K "_law_leaf" "_law_leaf" s_law_leaf f_law_leaf d_law_leaf
  b_law_leaf : Binds K d_law_leaf ["cell"] []
  g_law_leaf : mg "_law_leaf" = some (.ref f_law_leaf)
  f_law_leaf_text : Addr
  d_law_leaf_text : FuncData
  F_law_leaf_text : Fun K "_law_leaf_text" "_law_leaf_text" s_law_leaf_text f_law_leaf_text d_law_leaf_text
  b_law_leaf_text : Binds K d_law_leaf_text ["leaf"] []
  g_law_leaf_text : mg "_law_leaf_text" = some (.ref f_law_leaf_text)
  f_law_built : Addr
  d_law_built : FuncData
  F_law_built : Fun K "_law_built" "_law_built" s_law_built f_law_built d_law_built
  b_law_built : Binds K d_law_built ["cells"] []
  g_law_built : mg "_law_built" = some (.ref f_law_built)
  f_law_cell : Addr
  d_law_cell : FuncData
  F_law_cell : Fun K "_law_cell" "_law_cell" s_law_cell f_law_cell d_law_cell
  b_law_cell : Binds K d_law_cell ["script", "k"] []
  g_law_cell : mg "_law_cell" = some (.ref f_law_cell)
  f_sign_at : Addr
  d_sign_at : FuncData
  F_sign_at : Fun K "_sign_at" "_sign_at" s_sign_at f_sign_at d_sign_at
  b_sign_at : Binds K d_sign_at ["text", "index"] []
  g_sign_at : mg "_sign_at" = some (.ref f_sign_at)
  f_end_of_digits : Addr
  d_end_of_digits : FuncData
  F_end_of_digits : Fun K "_end_of_digits" "_end_of_digits" s_end_of_digits f_end_of_digits d_end_of_digits
  b_end_of_digits : Binds K d_end_of_digits ["text", "first", "most", "closing"] []
  g_end_of_digits : mg "_end_of_digits" = some (.ref f_end_of_digits)
  f_read_integer : Addr
  d_read_integer : FuncData
  F_read_integer : Fun K "_read_integer" "_read_integer" s_read_integer f_read_integer d_read_integer
  b_read_integer : Binds K d_read_integer ["text", "index"] []
  g_read_integer : mg "_read_integer" = some (.ref f_read_integer)
  f_read_text : Addr
  d_read_text : FuncData
  F_read_text : Fun K "_read_text" "_read_text" s_read_text f_read_text d_read_text
  b_read_text : Binds K d_read_text ["text", "index"] []
  g_read_text : mg "_read_text" = some (.ref f_read_text)
  f_read_tuple : Addr
  d_read_tuple : FuncData
  F_read_tuple : Fun K "_read_tuple" "_read_tuple" s_read_tuple f_read_tuple d_read_tuple
  b_read_tuple : Binds K d_read_tuple ["text", "index", "level"] []
  g_read_tuple : mg "_read_tuple" = some (.ref f_read_tuple)
  f_read_item : Addr
  d_read_item : FuncData
  F_read_item : Fun K "_read_item" "_read_item" s_read_item f_read_item d_read_item
  b_read_item : Binds K d_read_item ["text", "index", "level"] []
  g_read_item : mg "_read_item" = some (.ref f_read_item)
  f_decode_prefix : Addr
  d_decode_prefix : FuncData
  F_decode_prefix : Fun K "decode_prefix" "decode_prefix" s_decode_prefix f_decode_prefix d_decode_prefix
  b_decode_prefix : Binds K d_decode_prefix ["text", "index"] []
  g_decode_prefix : mg "decode_prefix" = some (.ref f_decode_prefix)
  f_decode : Addr
  d_decode : FuncData
  F_decode : Fun K "decode" "decode" s_decode f_decode d_decode
  b_decode : Binds K d_decode ["text"] []
  g_decode : mg "decode" = some (.ref f_decode)
  f_law_is_invalid : Addr
  d_law_is_invalid : FuncData
  F_law_is_invalid : Fun K "_law_is_invalid" "_law_is_invalid" s_law_is_invalid f_law_is_invalid d_law_is_invalid
  b_law_is_invalid : Binds K d_law_is_invalid ["text"] []
  g_law_is_invalid : mg "_law_is_invalid" = some (.ref f_law_is_invalid)
  f_law_is_torn : Addr
  d_law_is_torn : FuncData
  F_law_is_torn : Fun K "_law_is_torn" "_law_is_torn" s_law_is_torn f_law_is_torn d_law_is_torn
  b_law_is_torn : Binds K d_law_is_torn ["text", "index"] []
  g_law_is_torn : mg "_law_is_torn" = some (.ref f_law_is_torn)
  f_law_same : Addr
  d_law_same : FuncData
  F_law_same : Fun K "_law_same" "_law_same" s_law_same f_law_same d_law_same
  b_law_same : Binds K d_law_same ["actual", "expected"] []
  g_law_same : mg "_law_same" = some (.ref f_law_same)
  f_law_thing : Addr
  d_law_thing : FuncData
  F_law_thing : Fun K "_law_thing" "_law_thing" s_law_thing f_law_thing d_law_thing
  b_law_thing : Binds K d_law_thing ["script", "k"] []
  g_law_thing : mg "_law_thing" = some (.ref f_law_thing)
  f_law : Addr
  d_law : FuncData
  F_law : Fun K "law" "law" s_law f_law d_law
  b_law : Binds K d_law ["script"] []
  g_law : mg "law" = some (.ref f_law)
  m_ValueError : mg "ValueError" = none
  m_bool : mg "bool" = none
  m_int : mg "int" = none
  m_isinstance : mg "isinstance" = none
  m_len : mg "len" = none
  m_max : mg "max" = none
  m_min : mg "min" = none
  m_range : mg "range" = none
  m_str : mg "str" = none
  m_tuple : mg "tuple" = none
  t_MOST_LEVELS : Tok
  k_MOST_LEVELS : mg "MOST_LEVELS" = some (.int 12 t_MOST_LEVELS)
  t_MOST_DIGITS : Tok
  k_MOST_DIGITS : mg "MOST_DIGITS" = some (.int 60 t_MOST_DIGITS)
  t_MOST_LENGTH_DIGITS : Tok
  k_MOST_LENGTH_DIGITS : mg "MOST_LENGTH_DIGITS" = some (.int 6 t_MOST_LENGTH_DIGITS)

/-! ### sizes of ints -/
/-- an int of at most some million bits -/
structure Wd (n : Int) : Prop where
  h : n.natAbs.log2 < 1100000
theorem log2_mono {a b : Nat} (h : a ≤ b) : a.log2 ≤ b.log2 := by
  by_cases ha : a = 0
  · subst ha
    exact Nat.le_trans (Nat.le_of_eq (by decide)) (Nat.zero_le _)
  · refine Nat.lt_succ_iff.mp ((Nat.log2_lt ha).mpr (Nat.lt_of_le_of_lt h Nat.lt_log2_self))
theorem Wd.le {n m : Int} (h : Wd n) (e : m.natAbs ≤ n.natAbs) : Wd m := ⟨Nat.lt_of_le_of_lt (log2_mono e) h.h⟩
theorem Wd.lt {n : Int} (h : n.natAbs < 2 ^ 9000) : Wd n := ⟨Nat.lt_trans (PySem.Flt.log2_lt_of (by decide) h) (by decide)⟩
theorem Wd.lit {n : Int} (h : n.natAbs < 2 ^ 256) : Wd n := ⟨Nat.lt_trans (PySem.Flt.log2_lt_of (by decide) h) (by decide)⟩
theorem Wd.bits {n : Int} (h : Builtin.Int.intBits n ≤ 1048576) : Wd n := by
  unfold Builtin.Int.intBits at h
  by_cases e : n = 0
  · subst e
    exact Wd.lit (by decide)
  · rw [if_neg (by simpa using e)] at h
    exact ⟨by omega⟩
theorem Wd.small {n : Int} (h1 : -(2 ^ 64) < n) (h2 : n < 2 ^ 64) : Wd n := Wd.lit (by
  have : n.natAbs < 2 ^ 64 := by omega
  exact Nat.lt_of_lt_of_le this (by decide))
theorem Wd.div {n b : Int} (h : Wd n) : Wd (n / b) := h.le (Int.natAbs_ediv_le_natAbs n b)
theorem Wd.mod {n b : Int} (hb : 0 < b) (h : Wd b) : Wd (n % b) := h.le (by
  have h1 := Int.emod_nonneg n (by omega : b ≠ 0)
  have h2 := Int.emod_lt_of_pos n hb
  omega)
theorem Wd.neg {n : Int} (h : Wd n) : Wd (-n) := h.le (by omega)
theorem bits_log (n : Int) : Builtin.Int.intBits n ≤ n.natAbs.log2 + 1 := by
  unfold Builtin.Int.intBits
  split <;> omega
theorem Wd.mul {i j : Int} (hi : Wd i) (hj : Wd j) : CMulX i j := by
  have a := bits_log i
  have b := bits_log j
  have c := hi.h
  have d := hj.h
  unfold CMulX
  omega
/-- what falls to a comparison of two ints -/
theorem dec_int {i j : Int} : decide (V.int i = V.int j) = decide (i = j) := by
  by_cases h : i = j
  · rw [decide_eq_true h, decide_eq_true (congrArg V.int h)]
  · rw [decide_eq_false h, decide_eq_false fun e => h (V.int.inj e)]
theorem dec_str {i j : Str} : decide (V.str i = V.str j) = decide (i = j) := by
  by_cases h : i = j
  · rw [decide_eq_true h, decide_eq_true (congrArg V.str h)]
  · rw [decide_eq_false h, decide_eq_false fun e => h (V.str.inj e)]
theorem dec_bl {i j : Bool} : decide (V.bl i = V.bl j) = decide (i = j) := by
  by_cases h : i = j
  · rw [decide_eq_true h, decide_eq_true (congrArg V.bl h)]
  · rw [decide_eq_false h, decide_eq_false fun e => h (V.bl.inj e)]
/-- len, tuple of a list or tuple -/
abbrev rLenQ (K : PySem.W.Frag) : List V → Hp → VK → Prop := fun xs H Q => ∃ p ys, xs = [V.ref p] ∧ (SqL K H p ys ∨ SqT K H p ys) ∧ Q (.int ys.length) H
abbrev rTupOf (K : PySem.W.Frag) : List V → Hp → VK → Prop := fun xs H Q => ∃ p ys, xs = [V.ref p] ∧ ((SqL K H p ys ∧ ∀ l, H l = none → Q (.ref l) (upd H l (.tup ys))) ∨ (SqT K H p ys ∧ Q (.ref p) H))
/-! ### more of what evaluates -/
section
variable {K : PySem.W.Frag} {σ : L2.St} {H : Hp} {ta tb te : TE}
theorem ev_eqI {i j : Int} (ha : Ev ta σ H (.int i)) (hb : Ev tb σ H (.int j)) : Ev (tOp rEq ta tb) σ H (.bl (decide (i = j))) := ev_is (ev_op ha hb (rv_eq rfl)) (congrArg V.bl dec_int)
theorem ev_neI {i j : Int} (ha : Ev ta σ H (.int i)) (hb : Ev tb σ H (.int j)) : Ev (tOp rNe ta tb) σ H (.bl (!decide (i = j))) := ev_is (ev_op ha hb (rv_ne rfl)) (congrArg (fun b => V.bl (!b)) dec_int)
theorem ev_eqS {i j : Str} (ha : Ev ta σ H (.str i)) (hb : Ev tb σ H (.str j)) : Ev (tOp rEq ta tb) σ H (.bl (decide (i = j))) := ev_is (ev_op ha hb (rv_eq rfl)) (congrArg V.bl dec_str)
theorem ev_neS {i j : Str} (ha : Ev ta σ H (.str i)) (hb : Ev tb σ H (.str j)) : Ev (tOp rNe ta tb) σ H (.bl (!decide (i = j))) := ev_is (ev_op ha hb (rv_ne rfl)) (congrArg (fun b => V.bl (!b)) dec_str)
theorem ev_eqB {i j : Bool} (ha : Ev ta σ H (.bl i)) (hb : Ev tb σ H (.bl j)) : Ev (tOp rEq ta tb) σ H (.bl (decide (i = j))) := ev_is (ev_op ha hb (rv_eq rfl)) (congrArg V.bl dec_bl)
theorem ev_neB {i j : Bool} (ha : Ev ta σ H (.bl i)) (hb : Ev tb σ H (.bl j)) : Ev (tOp rNe ta tb) σ H (.bl (!decide (i = j))) := ev_is (ev_op ha hb (rv_ne rfl)) (congrArg (fun b => V.bl (!b)) dec_bl)
theorem ev_bin {C : Int → Int → Prop} {g : Int → Int → V} {i j : Int} (ha : Ev ta σ H (.int i)) (hb : Ev tb σ H (.int j)) (hc : C i j) : Ev (tOp (rI C g) ta tb) σ H (g i j) := ev_op ha hb (rv_I hc)
theorem ev_bin0 {g : Int → Int → V} {i j : Int} (ha : Ev ta σ H (.int i)) (hb : Ev tb σ H (.int j)) : Ev (tOp (rI0 g) ta tb) σ H (g i j) := ev_op ha hb rv_I0
theorem ev_intI {i : Int} (h : Ev te σ H (.int i)) : Ev (tCB (fun xs H Q => (∃ i, xs = [V.int i] ∧ Q (.int i) H) ∨ ∃ k, xs = [V.bl k] ∧ Q (.int (if k = true then 1 else 0)) H) (tCons te tNil)) σ H (.int i) := fun H1 e Q q =>
  h H1 e _ fun H2 e2 => .inl ⟨i, rfl, q H2 e2⟩
theorem ev_lenS {z : Str} (h : Ev te σ H (.str z)) (hz : z.length ≤ 100000) : Ev (tCB (fun xs H Q => ∃ z, xs = [V.str z] ∧ z.length ≤ sizeLine ∧ Q (.int z.length) H) (tCons te tNil)) σ H (.int (z.length : Int)) := fun H1 e Q q =>
  h H1 e _ fun H2 e2 => ⟨z, rfl, sz_of hz, q H2 e2⟩
theorem ev_lenQ {p : Addr} {xs : List V} (ha : Ev ta σ H (.ref p)) (h : SqL K H p xs) : Ev (tCB (fun xs H Q => ∃ p ys, xs = [V.ref p] ∧ (SqL K H p ys ∨ SqT K H p ys) ∧ Q (.int ys.length) H) (tCons ta tNil)) σ H (.int (xs.length : Int)) := fun H1 e Q q =>
  ha H1 e _ fun H2 e2 => ⟨p, xs, rfl, Or.inl (ex_l (e.trans e2) h), q H2 e2⟩
theorem ev_lenT {p : Addr} {xs : List V} (ha : Ev ta σ H (.ref p)) (h : SqT K H p xs) : Ev (tCB (fun xs H Q => ∃ p ys, xs = [V.ref p] ∧ (SqL K H p ys ∨ SqT K H p ys) ∧ Q (.int ys.length) H) (tCons ta tNil)) σ H (.int (xs.length : Int)) := fun H1 e Q q =>
  ha H1 e _ fun H2 e2 => ⟨p, xs, rfl, Or.inr (ex_t (e.trans e2) h), q H2 e2⟩
theorem ev_ixL {p : Addr} {xs : List V} {i : Int} {v : V} (ha : Ev ta σ H (.ref p)) (hb : Ev tb σ H (.int i)) (h : SqL K H p xs) (hi : atI xs i = some v) : Ev (tOp (rIxL K) ta tb) σ H v := ev_op ha hb (rv_ixL h hi)
theorem ev_ixT {p : Addr} {xs : List V} {i : Int} {v : V} (ha : Ev ta σ H (.ref p)) (hb : Ev tb σ H (.int i)) (h : SqT K H p xs) (hi : atI xs i = some v) : Ev (tOp (rIxT K) ta tb) σ H v := ev_op ha hb (rv_ixT h hi)
/-- an item of a list that is written there -/
theorem ev_ixN {xs : List V} {i : Int} {v : V} (ha : EvL ta σ H xs) (hb : ∀ H1, Ex H H1 → Ev tb σ H1 (.int i)) (hi : atI xs i = some v) : Ev (tOp (rIxL K) ta tb) σ H v := ev_opL1 ha hb fun p H1 h1 _ => rv_ixL (sq_of h1) hi
theorem ev_ixS {z : Str} {i : Int} {c : Nat} (ha : Ev ta σ H (.str z)) (hb : Ev tb σ H (.int i)) (hz : z.length ≤ 100000) (hi : atI z.cps.toList i = some c) : Ev (tOp rIxS ta tb) σ H (.str ⟨#[c]⟩) := ev_op ha hb (rv_ixS hz hi)
theorem ev_addS {x y : Str} (ha : Ev ta σ H (.str x)) (hb : Ev tb σ H (.str y)) (hz : x.length + y.length ≤ 16777216) : Ev (tOp (fun x y H Q => ∃ i j, x = V.str i ∧ y = V.str j ∧ i.length + j.length ≤ sizeLine ∧ Q (.str (i ++ j)) H) ta tb) σ H (.str (x ++ y)) :=
  ev_op ha hb fun H1 _ Q q => ⟨x, y, rfl, rfl, by rw [sizeLine_eq]; exact hz, q H1 (Ex.refl H1)⟩
theorem ev_neg {i : Int} (h : Ev te σ H (.int i)) : Ev (tUn (rU fun i => .int (-i)) te) σ H (.int (-i)) := ev_un h ru_neg
theorem ev_isN {v : V} (h : Ev te σ H v) : Ev (tOp (fun x y H Q => y = .non ∧ Q (.bl (decide (x = .non))) H) te (tC .non)) σ H (.bl (decide (v = .non))) := fun H1 e Q q => h H1 e _ fun H2 e2 => ⟨rfl, q H2 e2⟩
end
section
variable {σ : L2.St} {H : Hp} {te : TE}
theorem ev_isNt (h : Ev te σ H .non) : Ev (tOp (fun x y H Q => y = .non ∧ Q (.bl (decide (x = .non))) H) te (tC .non)) σ H (.bl true) := ev_is (ev_isN h) (congrArg V.bl (decide_eq_true rfl))
theorem ev_isNf {v : V} (h : Ev te σ H v) (hv : v ≠ .non := by intro z; cases z) : Ev (tOp (fun x y H Q => y = .non ∧ Q (.bl (decide (x = .non))) H) te (tC .non)) σ H (.bl false) := ev_is (ev_isN h) (congrArg V.bl (decide_eq_false hv))
end
theorem at_nat {xs : List V} {j : Nat} {v : V} (h : xs[j]? = some v) : atI xs (j : Int) = some v := atI_nat h
theorem sizeOk {n : Nat} (h : n ≤ 16777216) : n ≤ sizeLine := by rw [sizeLine_eq]; exact h

/-! ### texts, joins, comprehensions -/
theorem str_ext {a b : Str} (h : a.cps.toList = b.cps.toList) : a = b := by
  obtain ⟨a⟩ := a
  obtain ⟨b⟩ := b
  exact congrArg Str.mk (Array.toList_inj.mp h)
/-- the join of one-sign texts -/
theorem join_signs (l : List Nat) : Txt.join (Str.ofString "") (l.map fun c => (⟨#[c]⟩ : Str)) = ⟨l.toArray⟩ := by
  rw [TL.join_eq]
  refine str_ext ?_
  have key : ∀ l : List Nat, TL.joinL [] (l.map fun c => [c]) = l := fun l => by
    induction l with
    | nil => rfl
    | cons a r ih =>
      cases r with
      | nil => rfl
      | cons b r =>
        show [a] ++ ([] ++ TL.joinL [] ((b :: r).map fun c => [c])) = a :: b :: r
        rw [ih] <;> rfl
  have h := TL.tl_join (Str.ofString "") (l.map fun c => (⟨#[c]⟩ : Str))
  have e1 : TL.tl (Str.ofString "") = [] := by decide +kernel
  rw [e1, List.map_map] at h
  exact h.trans (key l)
theorem sum_ones (l : List Nat) : ((l.map fun c => (⟨#[c]⟩ : Str)).map (·.length)).sum = l.length := by
  induction l with
  | nil => rfl
  | cons a r ih =>
    rw [List.map_cons, List.map_cons, List.sum_cons, ih, List.length_cons]
    show 1 + r.length = r.length + 1
    omega
/-- a join of a new list of texts -/
theorem ev_joinN {K : PySem.W.Frag} {σ : L2.St} {H : Hp} {to te : TE} {a : Str} {ys : List Str} (h0 : Ev to σ H (.str a)) (h : EvL te σ H (ys.map V.str)) (hz : (ys.map (·.length)).sum + ys.length * a.length ≤ 16777216) :
    Ev (tM1 (fun x xs H Q => ∃ a p, ∃ ys : List Str, x = .str a ∧ xs = [.ref p] ∧ (SqL K H p (ys.map V.str) ∨ SqT K H p (ys.map V.str)) ∧ (ys.map (·.length)).sum + ys.length * a.length ≤ 16777216 ∧ Q (.str (Txt.join a ys)) H) to te) σ H (.str (Txt.join a ys)) :=
  fun H1 e Q q => h0 H1 e _ fun H2 e2 => ⟨⟨a, rfl⟩, h H2 (e.trans e2) _ fun p H3 hp e3 hl => ⟨a, p, ys, rfl, rfl, .inl (sq_of hl), hz, q H3 (e2.trans e3)⟩⟩
theorem given_all {n : Nat} {v : Nat → V} {xs : List V} (hn : xs.length = n) (h : ∀ i, i < n → xs[i]? = some (v i)) : given n (fun _ => true) v = xs := by
  unfold given
  rw [List.filter_eq_self.mpr (fun _ _ => rfl)]
  refine List.ext_getElem? fun i => ?_
  rw [List.getElem?_map]
  by_cases hi : i < n
  · rw [List.getElem?_range hi, h i hi] <;> rfl
  · rw [List.getElem?_eq_none (by rw [List.length_range]; omega), List.getElem?_eq_none (by omega)] <;> rfl
/-- [f(x) for x in a new list of ints] -/
theorem el_mapN {K : PySem.W.Frag} {σ : L2.St} {H : Hp} {tl te : TE} {j : Nat} {vs : List Nat} {ns : List Int} {f : Int → V} (h : EvL tl σ H (ns.map V.int)) (hz : ns.length ≤ 40000) (hw : ∀ x, wipe ((wipe σ vs).set j (some x)) vs = wipe σ vs)
    (he : ∀ n ∈ ns, ∀ H1, Ex H H1 → Ev te ((wipe σ vs).set j (some (.int n))) H1 (f n)) : EvL (tLc (iList K tl) (gName j) tYes te vs) σ H (ns.map f) := by
  have g : given (ns.map V.int).length (fun _ => true) (fun i => f (ns.getD i 0)) = ns.map f := given_all (by rw [List.length_map, List.length_map]) fun i hi => by
    rw [List.length_map] at hi
    rw [List.getElem?_map, List.getElem?_eq_getElem hi, List.getD_eq_getElem?_getD, List.getElem?_eq_getElem hi] <;> rfl
  rw [← g]
  refine el_lcNL (fun _ => true) (fun i => f (ns.getD i 0)) h (by rw [List.length_map]; exact hz) hw (fun i x H1 e1 hx => ?_) (fun i x H1 e1 hx _ => ?_)
  · exact fun H2 e2 Q q => q H2 (Ex.refl H2)
  · rw [List.getElem?_map] at hx
    cases e : ns[i]? with
    | none =>
      rw [e] at hx
      cases hx
    | some n =>
      rw [e] at hx
      have ex : x = .int n := (Option.some.inj hx).symm
      rw [ex, List.getD_eq_getElem?_getD, e]
      exact he n (List.mem_of_getElem? e) H1 e1
theorem atI_of {xs : List V} {n : Int} {v : V} (h0 : 0 ≤ n) (h : xs[n.toNat]? = some v) : atI xs n = some v := by
  have e : n = ((n.toNat : Nat) : Int) := by omega
  rw [e]
  exact atI_nat (by simpa using h)
theorem at_cps {z : Str} {l : List Nat} (h : z.cps.toList = l) {n : Int} (h0 : 0 ≤ n) (h1 : n < l.length) : atI z.cps.toList n = some (l.getD n.toNat 0) := by
  rw [h]
  have e : n = ((n.toNat : Nat) : Int) := by omega
  have h3 : n.toNat < l.length := by omega
  have h4 : ixN l.length n = some n.toNat := by rw [e]; exact ixN_nat (by omega)
  unfold atI
  rw [h4]
  show l[n.toNat]? = some (l.getD n.toNat 0)
  rw [List.getElem?_eq_getElem h3, List.getD_eq_getElem?_getD, List.getElem?_eq_getElem h3]
  all_goals rfl

/-- the join of texts by their codes -/
theorem join_codes (l : List (List Nat)) : Txt.join (Str.ofString "") (l.map fun c => (⟨c.toArray⟩ : Str)) = ⟨l.flatten.toArray⟩ := by
  rw [TL.join_eq]
  refine str_ext ?_
  have key : ∀ l : List (List Nat), TL.joinL [] l = l.flatten := fun l => by
    induction l with
    | nil => rfl
    | cons a r ih =>
      cases r with
      | nil => simp [TL.joinL]
      | cons b r =>
        show a ++ ([] ++ TL.joinL [] (b :: r)) = (a :: b :: r).flatten
        rw [ih, List.nil_append]
        exact List.flatten_cons.symm
  have h := TL.tl_join (Str.ofString "") (l.map fun c => (⟨c.toArray⟩ : Str))
  have e1 : TL.tl (Str.ofString "") = [] := by decide +kernel
  have e2 : (l.map fun c => (⟨c.toArray⟩ : Str)).map TL.tl = l := by
    rw [List.map_map]
    exact List.map_id l
  rw [e1, e2] at h
  exact h.trans (key l)
theorem sum_codes (l : List (List Nat)) : ((l.map fun c => (⟨c.toArray⟩ : Str)).map (·.length)).sum = l.flatten.length := by
  induction l with
  | nil => rfl
  | cons a r ih =>
    rw [List.map_cons, List.map_cons, List.sum_cons, ih, List.flatten_cons, List.length_append] <;> rfl
/-- [f(x) for x in a tuple] -/
theorem el_mapT {K : PySem.W.Frag} {σ : L2.St} {H : Hp} {tl te : TE} {j : Nat} {vs : List Nat} {a : Addr} {xs ys : List V} (h : Ev tl σ H (.ref a)) (hx : SqT K H a xs) (hz : xs.length ≤ 40000) (hw : ∀ x, wipe ((wipe σ vs).set j (some x)) vs = wipe σ vs) (hl : ys.length = xs.length)
    (he : ∀ (i : Nat) (x y : V), xs[i]? = some x → ys[i]? = some y → ∀ H1, Ex H H1 → Ev te ((wipe σ vs).set j (some x)) H1 y) : EvL (tLc (iTup K tl) (gName j) tYes te vs) σ H ys := by
  intro H0 e Q q
  refine h H0 e _ fun H1 e1 => ⟨a, rfl, ⟨xs, ex_t (e.trans e1) hx⟩, fun Dl hD => ?_⟩
  refine lc_tup (xs := xs) (fun i H' => H1 Dl = none ∧ Ex H1 H' ∧ H' Dl = some (.lst (ys.take i))) ⟨hD, Ex.new hD, upd_same⟩ (fun i H' _ p => ex_t ((e.trans e1).trans p.2.1) hx) (fun i x H' hi p => ⟨hw x, ?_⟩) (fun H' p => ?_)
  · obtain ⟨p1, p2, p3⟩ := p
    have hi2 : i < ys.length := by
      have := (List.getElem?_eq_some_iff.mp hi).1
      omega
    have hy : ys[i]? = some ys[i] := List.getElem?_eq_getElem hi2
    show te ((wipe σ vs).set j (some x)) H' _
    refine he i x ys[i] hi hy H1 (e.trans e1) H' p2 _ fun H4 e4 => ⟨ys.take i, e4 Dl _ p3, sz_lt (by rw [List.length_take]; omega), p1, (p2.trans e4).mut p1, ?_⟩
    rw [upd_same, List.take_add_one, hy] <;> rfl
  · obtain ⟨p1, p2, p3⟩ := p
    rw [← hl, List.take_length] at p3
    exact q Dl H' (fresh_back e1 p1) (e1.trans p2) p3
/-- [f(x) for x in a list] -/
theorem el_mapL {K : PySem.W.Frag} {σ : L2.St} {H : Hp} {tl te : TE} {j : Nat} {vs : List Nat} {a : Addr} {xs ys : List V} (h : Ev tl σ H (.ref a)) (hx : SqL K H a xs) (hz : xs.length ≤ 40000) (hw : ∀ x, wipe ((wipe σ vs).set j (some x)) vs = wipe σ vs) (hl : ys.length = xs.length)
    (he : ∀ (i : Nat) (x y : V), xs[i]? = some x → ys[i]? = some y → ∀ H1, Ex H H1 → Ev te ((wipe σ vs).set j (some x)) H1 y) : EvL (tLc (iList K tl) (gName j) tYes te vs) σ H ys := by
  intro H0 e Q q
  refine h H0 e _ fun H1 e1 => ⟨a, rfl, ⟨xs, ex_l (e.trans e1) hx⟩, fun Dl hD => ?_⟩
  refine lc_list (xs := xs) (fun i H' => H1 Dl = none ∧ Ex H1 H' ∧ H' Dl = some (.lst (ys.take i))) ⟨hD, Ex.new hD, upd_same⟩ (fun i H' _ p => ex_l ((e.trans e1).trans p.2.1) hx) (fun i x H' hi p => ⟨hw x, ?_⟩) (fun H' p => ?_)
  · obtain ⟨p1, p2, p3⟩ := p
    have hi2 : i < ys.length := by
      have := (List.getElem?_eq_some_iff.mp hi).1
      omega
    have hy : ys[i]? = some ys[i] := List.getElem?_eq_getElem hi2
    show te ((wipe σ vs).set j (some x)) H' _
    refine he i x ys[i] hi hy H1 (e.trans e1) H' p2 _ fun H4 e4 => ⟨ys.take i, e4 Dl _ p3, sz_lt (by rw [List.length_take]; omega), p1, (p2.trans e4).mut p1, ?_⟩
    rw [upd_same, List.take_add_one, hy] <;> rfl
  · obtain ⟨p1, p2, p3⟩ := p
    rw [← hl, List.take_length] at p3
    exact q Dl H' (fresh_back e1 p1) (e1.trans p2) p3
/-- [f(k) for k in range(n)] -/
theorem el_mapR {σ : L2.St} {H : Hp} {ta : TA} {te : TE} {j : Nat} {vs : List Nat} {n : Nat} {ys : List V} (h : EvA ta σ H [.int (n : Int)]) (hz : n ≤ 40000) (hw : ∀ x, wipe ((wipe σ vs).set j (some x)) vs = wipe σ vs) (hl : ys.length = n)
    (he : ∀ (i : Nat) (y : V), i < n → ys[i]? = some y → ∀ H1, Ex H H1 → Ev te ((wipe σ vs).set j (some (.int (i : Int)))) H1 y) : EvL (tLc (iRng1 ta) (gName j) tYes te vs) σ H ys := by
  have g : given (n : Int).toNat (fun _ => true) (fun i => ys.getD i .non) = ys := given_all (by omega) fun i hi => by
    have hi2 : i < ys.length := by omega
    rw [List.getElem?_eq_getElem hi2, List.getD_eq_getElem?_getD, List.getElem?_eq_getElem hi2] <;> rfl
  rw [← g]
  refine el_lcR1 (fun _ => true) (fun i => ys.getD i .non) h (by omega) hw (fun i H1 e1 hi => ?_) (fun i H1 e1 hi _ => ?_)
  · exact fun H2 e2 Q q => q H2 (Ex.refl H2)
  · have hi2 : i < ys.length := by omega
    have hy : ys[i]? = some (ys.getD i .non) := by rw [List.getElem?_eq_getElem hi2, List.getD_eq_getElem?_getD, List.getElem?_eq_getElem hi2] <;> rfl
    exact he i _ (by omega) hy H1 e1
/-- for c in a text -/
theorem s_forS {σ : L2.St} {H : Hp} {te : TE} {tu : TS} {D : Ends} {j : Nat} {z : Str} (h : Ev te σ H (.str z)) (Pv : Nat → L2.St → Hp → Prop) (h0 : ∀ H1, Ex H H1 → Pv 0 σ H1)
    (hs : ∀ i c σ' H', z.cps.toList[i]? = some c → Pv i σ' H' → tu { D with nx := Pv (i + 1), ct := Pv (i + 1), bk := D.nx } (σ'.set j (some (.str ⟨#[c]⟩))) H') (hd : ∀ σ' H', Pv z.cps.toList.length σ' H' → D.nx σ' H') : tFor (iStr te) (gName j) tu D σ H := by
  refine h H (Ex.refl H) _ fun H1 e => ⟨z, rfl, fun i m σ' H' => m = z.cps.toList.length - i ∧ i ≤ z.cps.toList.length ∧ Pv i σ' H', ⟨_, rfl, Nat.zero_le _, h0 H1 e⟩, ?_⟩
  rintro i m σ' H' ⟨rfl, hi, p⟩
  by_cases hlt : i < z.cps.toList.length
  · refine .inr ⟨(by show i < z.cps.size; simpa using hlt), Pv (i + 1), fun σ2 H2 p2 => ⟨_, by omega, rfl, hlt, p2⟩, fun x H2 y => ?_⟩
    obtain ⟨rfl, c, hc, rfl⟩ := y
    exact hs i c σ' H2 (by simpa using hc) p
  · have ei : i = z.cps.toList.length := by omega
    subst ei
    exact .inl ⟨(by show z.cps.size ≤ z.cps.toList.length; simp), hd σ' H' p⟩
theorem q_forS {σ : L2.St} {H : Hp} {te : TE} {tu tz : TS} {D : Ends} {j : Nat} {z : Str} (h : Ev te σ H (.str z)) (Pv : Nat → L2.St → Hp → Prop) (h0 : ∀ H1, Ex H H1 → Pv 0 σ H1)
    (hs : ∀ i c σ' H', z.cps.toList[i]? = some c → Pv i σ' H' → tu { D with nx := Pv (i + 1), ct := Pv (i + 1), bk := tz D } (σ'.set j (some (.str ⟨#[c]⟩))) H') (hd : ∀ σ' H', Pv z.cps.toList.length σ' H' → tz D σ' H') : tSeq (tFor (iStr te) (gName j) tu) tz D σ H :=
  s_forS (D := { D with nx := tz D }) h Pv h0 hs hd
/-! ### isinstance against a built-in type; f-strings -/
theorem tyx_tup {K : PySem.W.Frag} {H : Hp} {a : Addr} {xs : List V} (h : SqT K H a xs) : TyX K H (.ref a) (.type "tuple") := by
  rcases h with (h | ⟨o, h⟩) | ⟨o, its, n, h, hc, _⟩
  · exact .base (.tup h)
  · exact .fTuple h
  · exact .kTuple h hc
theorem ev_isi {K : PySem.W.Frag} {σ : L2.St} {H : Hp} {te : TE} {x : V} {a b : String} {r : Bool} (h : Ev te σ H x) (ht : ∀ H1, Ex H H1 → TyX K H1 x (.type a)) (hk : kitB a b = some r) : Ev (tCB (rIsi K) (tCons te (tCons (tC (.ty b)) tNil))) σ H (.bl r) := fun H1 e Q q =>
  h H1 e _ fun H2 e2 => ⟨x, .ty b, .type a, .type b, r, rfl, .ty b, ht H2 (e.trans e2), kit_ty hk, q H2 e2⟩
/-- parts that evaluate to texts -/
inductive EvJ (σ : L2.St) (H : Hp) : List TE → List Str → Prop where
  | nil : EvJ σ H [] []
  | cons {t : TE} {ts : List TE} {y : Str} {ys : List Str} (h : Ev t σ H (.str y)) (r : EvJ σ H ts ys) : EvJ σ H (t :: ts) (y :: ys)
theorem evj_run {σ : L2.St} {H : Hp} {ts : List TE} {ys : List Str} (h : EvJ σ H ts ys) : ∀ (acc : Str) (H1 : Hp) (Q : Str → Hp → Prop), Ex H H1 → acc.length + (ys.map (·.length)).sum ≤ 16777216 → (∀ H2, Ex H1 H2 → Q (ys.foldl (· ++ ·) acc) H2) → tJs ts acc σ H1 Q := by
  induction h with
  | nil => exact fun acc H1 Q _ _ q => q H1 (Ex.refl H1)
  | @cons t ts y ys h r ih =>
    intro acc H1 Q e hz q
    rw [List.map_cons, List.sum_cons] at hz
    have el : (acc ++ y).length = acc.length + y.length := by
      show (acc.cps ++ y.cps).size = acc.cps.size + y.cps.size
      exact Array.size_append
    refine h H1 e _ fun H2 e2 => ⟨y, rfl, sizeOk (by rw [el]; omega), ih (acc ++ y) H2 Q (e.trans e2) (by rw [el]; omega) fun H3 e3 => q H3 (e2.trans e3)⟩
theorem ev_joined {σ : L2.St} {H : Hp} {ts : List TE} {ys : List Str} (h : EvJ σ H ts ys) (hz : (ys.map (·.length)).sum ≤ 16777216) : Ev (fun σ H Q => tJs ts Str.empty σ H fun out H1 => Q (.str out) H1) σ H (.str (ys.foldl (· ++ ·) Str.empty)) := fun H1 e Q q =>
  evj_run h Str.empty H1 _ e (by show 0 + _ ≤ _; omega) fun H2 e2 => q H2 e2
theorem ev_fmtS {σ : L2.St} {H : Hp} {te : TE} {y : Str} (h : Ev te σ H (.str y)) (hz : y.length ≤ 16777216) : Ev (tFmt te) σ H (.str y) := fun H1 e Q q => h H1 e _ fun H2 e2 => .inl ⟨y, rfl, sizeOk hz, q H2 e2⟩
theorem ev_fmtI {σ : L2.St} {H : Hp} {te : TE} {i : Int} (h : Ev te σ H (.int i)) (hz : i.natAbs.log2 < 1920) : Ev (tFmt te) σ H (.str (toString i)) := fun H1 e Q q => h H1 e _ fun H2 e2 => .inr ⟨i, rfl, hz, q H2 e2⟩
theorem ev_strI {σ : L2.St} {H : Hp} {te : TE} {i : Int} (h : Ev te σ H (.int i)) (hz : i.natAbs.log2 < 1920) : Ev (tCB (fun xs H Q => ∃ i : Int, xs = [V.int i] ∧ i.natAbs.log2 < 1920 ∧ Q (.str (toString i)) H) (tCons te tNil)) σ H (.str (toString i)) := fun H1 e Q q => h H1 e _ fun H2 e2 => ⟨i, rfl, hz, q H2 e2⟩
theorem ev_ordS {σ : L2.St} {H : Hp} {te : TE} {c : Nat} (h : Ev te σ H (.str ⟨#[c]⟩)) : Ev (tCB (fun xs H Q => ∃ x : Str, xs = [V.str x] ∧ x.length = 1 ∧ Q (.int (x.cps.getD 0 0 : Nat)) H) (tCons te tNil)) σ H (.int (c : Int)) := fun H1 e Q q => h H1 e _ fun H2 e2 => ⟨_, rfl, rfl, q H2 e2⟩
theorem ev_ends {σ : L2.St} {H : Hp} {to te : TE} {a b : Str} (h0 : Ev to σ H (.str a)) (h : Ev te σ H (.str b)) : Ev (tM1 (fun x xs H Q => ∃ a b, x = V.str a ∧ xs = [V.str b] ∧ Q (.bl (Txt.endswith a b)) H) to te) σ H (.bl (Txt.endswith a b)) := fun H1 e Q q =>
  h0 H1 e _ fun H2 e2 => ⟨⟨a, rfl⟩, h H2 (e.trans e2) _ fun H3 e3 => ⟨a, b, rfl, rfl, q H3 (e2.trans e3)⟩⟩
theorem ev_slS {σ : L2.St} {H : Hp} {te : TE} {tl th : TO} {z : Str} {lo hi : Option Int} (h : Ev te σ H (.str z)) (h1 : EvO tl σ H lo) (h2 : EvO th σ H hi) (hz : z.length ≤ 100000) : Ev (tSl rSlS te tl th) σ H (.str (cutS z lo hi)) := fun H1 e Q q =>
  h H1 e _ fun H2 e2 => h1 H2 (e.trans e2) _ fun H3 e3 => h2 H3 ((e.trans e2).trans e3) _ fun H4 e4 => ⟨z, rfl, sz_of hz, q H4 ((e2.trans e3).trans e4)⟩
/-- tuple(a new list) -/
theorem eu_ofN {K : PySem.W.Frag} {σ : L2.St} {H : Hp} {te : TE} {xs : List V} (h : EvL te σ H xs) : EvU (tCB (fun xs H Q => ∃ p ys, xs = [V.ref p] ∧ ((SqL K H p ys ∧ ∀ l, H l = none → Q (.ref l) (upd H l (.tup ys))) ∨ (SqT K H p ys ∧ Q (.ref p) H))) (tCons te tNil)) σ H xs := fun H1 e Q q =>
  h H1 e _ fun p H2 _ e2 hp => ⟨p, xs, rfl, .inl ⟨sq_of hp, fun l hl => q l _ (fresh_back e2 hl) (e2.trans (Ex.new hl)) upd_same⟩⟩
theorem eu_ofL {K : PySem.W.Frag} {σ : L2.St} {H : Hp} {te : TE} {p : Addr} {xs : List V} (h : Ev te σ H (.ref p)) (hx : SqL K H p xs) : EvU (tCB (fun xs H Q => ∃ p ys, xs = [V.ref p] ∧ ((SqL K H p ys ∧ ∀ l, H l = none → Q (.ref l) (upd H l (.tup ys))) ∨ (SqT K H p ys ∧ Q (.ref p) H))) (tCons te tNil)) σ H xs := fun H1 e Q q =>
  h H1 e _ fun H2 e2 => ⟨p, xs, rfl, .inl ⟨ex_l (e.trans e2) hx, fun l hl => q l _ (fresh_back e2 hl) (e2.trans (Ex.new hl)) upd_same⟩⟩
/-- a def that hands back a new tuple -/
def SpU (sp : Sp) (vs : List V) (H : Hp) (xs : List V) : Prop := ∀ H1, Ex H H1 → ∀ Q : VK, (∀ p H2, Ex H1 H2 → H2 p = some (.tup xs) → Q (.ref p) H2) → ∀ E : XK, sp vs H1 Q E
theorem q_callU {sp : Sp} {dvs vs xs : List V} {E : XK} {ta : TA} {σ : L2.St} {H : Hp} {tz : TS} {D : Ends} {i : Nat} (h : EvA ta σ H vs) (hs : SpU sp (vs ++ dvs) H xs) (k : ∀ p H1, Ex H H1 → H1 p = some (.tup xs) → tz D (σ.set i (some (.ref p))) H1) : tSeq (tAsg (tCall sp dvs E ta) (gName i)) tz D σ H :=
  h H (Ex.refl H) _ fun H2 e2 => hs H2 e2 _ (fun p H3 e3 hp => k p H3 (e2.trans e3) hp) E
theorem s_callU {sp : Sp} {dvs vs xs : List V} {E : XK} {ta : TA} {σ : L2.St} {H : Hp} {D : Ends} {i : Nat} (h : EvA ta σ H vs) (hs : SpU sp (vs ++ dvs) H xs) (k : ∀ p H1, Ex H H1 → H1 p = some (.tup xs) → D.nx (σ.set i (some (.ref p))) H1) : tAsg (tCall sp dvs E ta) (gName i) D σ H :=
  h H (Ex.refl H) _ fun H2 e2 => hs H2 e2 _ (fun p H3 e3 hp => k p H3 (e2.trans e3) hp) E
/-- a call whose one argument is a new tuple -/
theorem ev_callU {sp : Sp} {dvs xs : List V} {z : V} {E : XK} {te : TE} {σ : L2.St} {H : Hp} (h : EvU te σ H xs) (hs : ∀ p H1, H1 p = some (.tup xs) → Ex H H1 → SpV sp ([.ref p] ++ dvs) H1 z) : Ev (tCall sp dvs E (tCons te tNil)) σ H z := fun H1 e Q q =>
  h H1 e _ fun p H2 _ e2 hp => hs p H2 hp (e.trans e2) H2 (Ex.refl H2) Q (fun H3 e3 => q H3 (e2.trans e3)) E
/-- written tuples, one behind the other -/
def EvP (ta : TA) (σ : L2.St) (H : Hp) (xss : List (List V)) : Prop := ∀ H1, Ex H H1 → ∀ Q : List V → Hp → Prop, (∀ (ps : List Addr) H2, Ex H1 H2 → Paired (fun p xs => H2 p = some (.tup xs)) ps xss → Q (ps.map V.ref) H2) → ta σ H1 Q
theorem paired_mono {H H' : Hp} (e : Ex H H') : ∀ {ps : List Addr} {xss : List (List V)}, Paired (fun p xs => H p = some (.tup xs)) ps xss → Paired (fun p xs => H' p = some (.tup xs)) ps xss
  | _, _, .nil => .nil
  | _, _, .cons h r => .cons (e _ _ h) (paired_mono e r)
theorem ep_nil {σ : L2.St} {H : Hp} : EvP tNil σ H [] := fun H1 e Q q => q [] H1 (Ex.refl H1) .nil
theorem ep_cons {σ : L2.St} {H : Hp} {te : TE} {tr : TA} {xs : List V} {xss : List (List V)} (h : EvU te σ H xs) (r : EvP tr σ H xss) : EvP (tCons te tr) σ H (xs :: xss) := fun H1 e Q q =>
  h H1 e _ fun p H2 _ e2 hp => r H2 (e.trans e2) _ fun ps H3 e3 hr => q (p :: ps) H3 (e2.trans e3) (.cons (e3 p _ hp) hr)
theorem q_asgLP {ta : TA} {xss : List (List V)} {σ : L2.St} {H : Hp} {tz : TS} {D : Ends} {i : Nat} (h : EvP ta σ H xss) (hz : xss.length ≤ 100000) (k : ∀ p ps H1, Ex H H1 → H1 p = some (.lst (ps.map V.ref)) → Paired (fun p xs => H1 p = some (.tup xs)) ps xss → tz D (σ.set i (some (.ref p))) H1) :
    tSeq (tAsg (tLst ta) (gName i)) tz D σ H := h H (Ex.refl H) _ fun ps H1 e1 hps => by
  have el : ∀ {as : List Addr} {bs : List (List V)}, Paired (fun p xs => H1 p = some (.tup xs)) as bs → as.length = bs.length := fun h => by
    induction h with
    | nil => rfl
    | cons _ _ ih => exact congrArg (· + 1) ih
  exact ⟨sz_of (by rw [List.length_map, el hps]; exact hz), fun p hp => k p ps _ (e1.trans (Ex.new hp)) upd_same (paired_mono (Ex.new hp) hps)⟩
theorem paired_at {H : Hp} : ∀ {ps : List Addr} {xss : List (List V)}, Paired (fun p xs => H p = some (.tup xs)) ps xss → ∀ {i : Nat} {xs : List V}, xss[i]? = some xs → ∃ p, ps[i]? = some p ∧ H p = some (.tup xs)
  | _, _, .cons h _, 0, xs, e => by
    have e := Option.some.inj e
    subst e
    exact ⟨_, rfl, h⟩
  | _, _, .cons _ r, i + 1, xs, e => by
    obtain ⟨p, h1, h2⟩ := paired_at r (i := i) (by simpa using e)
    exact ⟨p, by simpa using h1, h2⟩
theorem paired_len {α β : Type} {R : α → β → Prop} : ∀ {as : List α} {bs : List β}, Paired R as bs → as.length = bs.length
  | _, _, .nil => rfl
  | _, _, .cons _ r => congrArg (· + 1) (paired_len r)
/-- a list that is tracked, and a new one behind it -/
theorem el_catV {K : PySem.W.Frag} {σ : L2.St} {H : Hp} {ta tb : TE} {p : Addr} {xs ys : List V} (ha : Ev ta σ H (.ref p)) (hp : H p = some (.lst xs)) (hb : EvL tb σ H ys) (hz : xs.length + ys.length ≤ 100000) : EvL (tOp rCat ta tb) σ H (xs ++ ys) := fun H1 e Q q =>
  ha H1 e _ fun H2 e2 => hb H2 (e.trans e2) _ fun r H3 hr e3 h3 => ⟨p, r, xs, ys, rfl, rfl, ((e.trans e2).trans e3) p _ hp, h3, sz_of hz, fun l hl => q l _ (fresh_back (e2.trans e3) hl) ((e2.trans e3).trans (Ex.new hl)) upd_same⟩
theorem codes_app {a b : Str} {x y : List Nat} (ha : a.cps.toList = x) (hb : b.cps.toList = y) : (a ++ b).cps.toList = x ++ y := by
  show (a.cps ++ b.cps).toList = x ++ y
  rw [Array.toList_append, ha, hb]
theorem str_len (z : Str) : z.length = z.cps.toList.length := by simp [Str.length]
theorem mk_of {z : Str} {l : List Nat} (h : z.cps.toList = l) : z = ⟨l.toArray⟩ := str_ext h
/-- long texts -/
theorem ev_lenB {σ : L2.St} {H : Hp} {te : TE} {z : Str} (h : Ev te σ H (.str z)) (hz : z.length ≤ 16777216) : Ev (tCB (fun xs H Q => ∃ z, xs = [V.str z] ∧ z.length ≤ sizeLine ∧ Q (.int z.length) H) (tCons te tNil)) σ H (.int (z.length : Int)) := fun H1 e Q q =>
  h H1 e _ fun H2 e2 => ⟨z, rfl, sizeOk hz, q H2 e2⟩
theorem ev_ixB {σ : L2.St} {H : Hp} {ta tb : TE} {z : Str} {i : Int} {c : Nat} (ha : Ev ta σ H (.str z)) (hb : Ev tb σ H (.int i)) (hz : z.length ≤ 16777216) (hi : atI z.cps.toList i = some c) : Ev (tOp rIxS ta tb) σ H (.str ⟨#[c]⟩) :=
  ev_op ha hb fun H1 _ _ q => ⟨z, i, c, rfl, rfl, sizeOk hz, hi, q H1 (Ex.refl H1)⟩
theorem ev_slB {σ : L2.St} {H : Hp} {te : TE} {tl th : TO} {z : Str} {lo hi : Option Int} (h : Ev te σ H (.str z)) (h1 : EvO tl σ H lo) (h2 : EvO th σ H hi) (hz : z.length ≤ 16777216) : Ev (tSl rSlS te tl th) σ H (.str (cutS z lo hi)) := fun H1 e Q q =>
  h H1 e _ fun H2 e2 => h1 H2 (e.trans e2) _ fun H3 e3 => h2 H3 ((e.trans e2).trans e3) _ fun H4 e4 => ⟨z, rfl, sizeOk hz, q H4 ((e2.trans e3).trans e4)⟩
theorem at_natS {l : List Nat} {j c : Nat} (h : l[j]? = some c) : atI l (j : Int) = some c := by
  have hj := (List.getElem?_eq_some_iff.mp h).1
  unfold atI
  rw [ixN_nat hj]
  exact h
theorem q_asgAug {σ : L2.St} {H : Hp} {te : TE} {tz : TS} {D : Ends} {i : Nat} {a b : Int} (hx : σ[i]? = some (some (.int a))) (h : Ev te σ H (.int b)) (k : ∀ H1, Ex H H1 → tz D (σ.set i (some (.int (a + b)))) H1) : tSeq (tAug i te (ipI fun i j => i + j)) tz D σ H := q_aug hx h k
theorem q_callV {sp : Sp} {dvs vs : List V} {E : XK} {ta : TA} {σ : L2.St} {H : Hp} {tz : TS} {D : Ends} {i : Nat} (h : EvA ta σ H vs) (k : ∀ H1, Ex H H1 → sp (vs ++ dvs) H1 (fun v H2 => tz D (σ.set i (some v)) H2) E) : tSeq (tAsg (tCall sp dvs E ta) (gName i)) tz D σ H := h H (Ex.refl H) _ fun H1 e1 => k H1 e1
/-! ### a small tactic: what an expression evaluates to -/
local macro_rules | `(tactic| walk_at "side") => `(tactic| first | assumption | decide | (show (0 : Int) < _; omega) | omega | (show CDivW _ _; exact ⟨by first | decide | omega, by decide⟩) | (show CPow _ _; exact ⟨by decide, by decide, by decide⟩) | (show CMulX _ _; (refine Wd.mul ?_ ?_ <;> walk_at "wd")))
local macro_rules | `(tactic| walk_at "wd") => `(tactic| first | assumption | exact Wd.lit (by decide) | exact Wd.small (by omega) (by omega) | (refine Wd.div ?_; walk_at "wd") | (refine Wd.mod ?_ ?_; (first | decide | omega); (walk_at "wd")) | (refine Wd.neg ?_; walk_at "wd"))
local macro_rules | `(tactic| walk_at "call") => `(tactic| fail "no call")
local macro_rules | `(tactic| walk_at "seq") => `(tactic| first | assumption | (refine ex_l ?_ ?_ <;> assumption) | exact sq_of (by assumption))
local macro_rules | `(tactic| walk_at "ev") => `(tactic| first
  | with_reducible exact ev_c
  | exact ev_var rfl
  | (refine ev_intI ?_; walk_at "ev")
  | (refine ev_bin0 ?_ ?_; (walk_at "ev"); (walk_at "ev"))
  | (refine ev_bin ?_ ?_ ?_; (walk_at "ev"); (walk_at "ev"); (walk_at "side"))
  | (refine ev_eqI ?_ ?_; (walk_at "ev"); (walk_at "ev"))
  | (refine ev_neI ?_ ?_; (walk_at "ev"); (walk_at "ev"))
  | (refine ev_eqS ?_ ?_; (walk_at "ev"); (walk_at "ev"))
  | (refine ev_neS ?_ ?_; (walk_at "ev"); (walk_at "ev"))
  | (refine ev_neg ?_; walk_at "ev")
  | walk_at "call")
local macro_rules | `(tactic| walk_at "et") => `(tactic| first
  | (refine et_test ?_; walk_at "ev")
  | (refine et_B ?_; walk_at "ev")
  | (refine et_not ?_; walk_at "et"))
local macro_rules | `(tactic| walk_at "ea") => `(tactic| first | exact ea_nil | (refine ea_cons ?_ ?_; (walk_at "ev"); (walk_at "ea")))


/-! ### a text times a number -/
theorem foldl_reps (a : Array Nat) : ∀ (m : Nat) (acc : Array Nat), ((List.replicate m a).foldl (· ++ ·) acc).toList = acc.toList ++ (List.replicate m a.toList).flatten
  | 0, acc => by simp
  | m + 1, acc => by
    rw [List.replicate_succ, List.replicate_succ, List.foldl_cons, foldl_reps a m (acc ++ a), Array.toList_append, List.flatten_cons, List.append_assoc]
def repC (z : Str) (n : Nat) : List Nat := (List.replicate n z.cps.toList).flatten
theorem op_repS {X : Cx} : OpR X (binaryOp .Mult) (fun x y H Q => ∃ (z : Str) (k : Int), x = V.str z ∧ y = V.int k ∧ 0 ≤ k ∧ z.length * k.toNat ≤ 16777216 ∧ k < 2 ^ 60 ∧ Q (.str ⟨(repC z k.toNat).toArray⟩) H) := by
  intro pins s σ H x y v u Q I rx ry h
  obtain ⟨z, k, rfl, rfl, h0, hz, hk, q⟩ := h
  obtain ⟨t, rfl⟩ := rx
  obtain ⟨t', rfl⟩ := ry
  have ez : z.length = z.cps.toList.length := by simp [Str.length]
  have hzi : (z.length : Int) * k ≤ 16777216 := by
    have e : ((z.length * k.toNat : Nat) : Int) = (z.length : Int) * k := by
      rw [Int.natCast_mul, Int.toNat_of_nonneg h0]
    omega
  refine PySem.P.mul_str ?_ (fun h1 _ z2 => ?_) (fun h1 _ => ?_) ?_
  · rw [decide_eq_false (by omega), decide_eq_false (by omega)] <;> rfl
  · have h3 : (z.length : Int) ≤ (2 ^ 63 - 1) / k := Int.le_ediv_of_mul_le (by omega) (by omega)
    omega
  · have : ¬ z.length * k.toNat > sizeLine := by
      rw [sizeLine_eq]
      omega
    unfold Builtin.Str.tooLong
    exact decide_eq_false this
  · have e1 : ∀ y : Str, y.cps.toList = repC z k.toNat → y = ⟨(repC z k.toNat).toArray⟩ := fun y hy => by
      obtain ⟨y⟩ := y
      exact congrArg Str.mk (Array.toList_inj.mp (hy.trans rfl))
    have er : (repC z k.toNat).length = k.toNat * z.length := by
      unfold repC
      rw [List.length_flatten, List.map_replicate, List.sum_replicate_nat, ez]
    split
    · have e2 : Str.empty = (⟨(repC z k.toNat).toArray⟩ : Str) := e1 _ (by
        have : k.toNat = 0 := by omega
        unfold repC
        rw [this] <;> rfl)
      refine ⟨by decide, ?_⟩
      rw [e2]
      exact ⟨.str ⟨(repC z k.toNat).toArray⟩, H, I.tok _, ⟨_, rfl⟩, q⟩
    · split
      · rename_i h1 h2
        have e2 : z = (⟨(repC z k.toNat).toArray⟩ : Str) := e1 _ (by
          unfold repC
          rw [Bool.or_eq_true, beq_iff_eq, beq_iff_eq] at h2
          rcases h2 with h2 | h2
          · rw [h2]
            show _ = (List.replicate 1 _).flatten
            simp
          · have : z.cps.toList = [] := List.length_eq_zero_iff.mp (by omega)
            rw [this]
            simp)
        show EP X pins σ Q _ _
        rw [← e2] at q
        exact ⟨.str z, H, I, ⟨t, rfl⟩, q⟩
      · have e2 : (⟨(List.replicate k.toNat z.cps).foldl (· ++ ·) #[]⟩ : Str) = ⟨(repC z k.toNat).toArray⟩ := e1 _ (by
          show ((List.replicate k.toNat z.cps).foldl (· ++ ·) #[]).toList = _
          rw [foldl_reps] <;> rfl)
        rw [e2]
        refine ⟨?_, ⟨.str ⟨(repC z k.toNat).toArray⟩, H, I.tok _, ⟨_, rfl⟩, q⟩⟩
        show (repC z k.toNat).toArray.size ≤ sizeLine
        rw [List.size_toArray, er, sizeLine_eq, Nat.mul_comm]
        exact hz
theorem ev_repS {σ : L2.St} {H : Hp} {ta tb : TE} {z : Str} {n : Nat} (ha : Ev ta σ H (.str z)) (hb : Ev tb σ H (.int (n : Int))) (hz : z.length * n ≤ 16777216) (hn : n ≤ 16777216) : Ev (tOp (fun x y H Q => ∃ (z : Str) (k : Int), x = V.str z ∧ y = V.int k ∧ 0 ≤ k ∧ z.length * k.toNat ≤ 16777216 ∧ k < 2 ^ 60 ∧ Q (.str ⟨(repC z k.toNat).toArray⟩) H) ta tb) σ H (.str ⟨(repC z n).toArray⟩) :=
  ev_op ha hb fun H1 _ Q q => ⟨z, n, rfl, rfl, by omega, hz, by omega, q H1 (Ex.refl H1)⟩


/-! ### items and their written form -/
inductive It where
  | non
  | int (i : Int)
  | str (z : Str)
  | tup (xs : List It)
def numC (i : Int) : List Nat := (toString i : Str).cps.toList
mutual
/-- the codes of the written item -/
def encC : It → List Nat
  | .non => [110]
  | .int i => 105 :: (numC i ++ [59])
  | .str z => 116 :: (numC (z.length : Int) ++ (58 :: z.cps.toList))
  | .tup xs => 40 :: (encL xs ++ [41])
def encL : List It → List Nat
  | [] => []
  | d :: ds => encC d ++ encL ds
end
theorem encL_flat : ∀ ds : List It, encL ds = (ds.map encC).flatten
  | [] => rfl
  | d :: ds => by
    show encC d ++ encL ds = _
    rw [encL_flat ds, List.map_cons, List.flatten_cons]
theorem encL_app : ∀ a b : List It, encL (a ++ b) = encL a ++ encL b
  | [], b => rfl
  | x :: a, b => by
    show encC x ++ encL (a ++ b) = encC x ++ encL a ++ encL b
    rw [encL_app a b, List.append_assoc]
theorem encC_pos (d : It) : 1 ≤ (encC d).length := by
  cases d with
  | non => exact Nat.le_refl 1
  | int i => show 1 ≤ (105 :: _).length; simp
  | str z => show 1 ≤ (116 :: _).length; simp
  | tup xs => show 1 ≤ (40 :: _).length; simp
theorem encL_mem : ∀ {ds : List It} {d : It}, d ∈ ds → (encC d).length ≤ (encL ds).length
  | d' :: ds, d, h => by
    show _ ≤ (encC d' ++ encL ds).length
    rw [List.length_append]
    rcases List.mem_cons.mp h with e | e
    · rw [e]; omega
    · have := encL_mem e; omega
mutual
/-- the value v of the heap is the item -/
inductive Dv (K : PySem.W.Frag) (H : Hp) : V → It → Prop
  | non : Dv K H .non .non
  | int (i : Int) : Dv K H (.int i) (.int i)
  | str (z : Str) : Dv K H (.str z) (.str z)
  | tup {a : Addr} {xs : List V} {ds : List It} (h : SqT K H a xs) (r : DvL K H xs ds) : Dv K H (.ref a) (.tup ds)
inductive DvL (K : PySem.W.Frag) (H : Hp) : List V → List It → Prop
  | nil : DvL K H [] []
  | cons {v : V} {vs : List V} {d : It} {ds : List It} (h : Dv K H v d) (r : DvL K H vs ds) : DvL K H (v :: vs) (d :: ds)
end
/-- all but lists stands as it stood -/
def ExN (H H' : Hp) : Prop := ∀ a o, H a = some o → (∀ xs, o ≠ .lst xs) → H' a = some o
theorem exN_t {K : PySem.W.Frag} {H H' : Hp} {a : Addr} {xs : List V} (e : ExN H H') (h : SqT K H a xs) : SqT K H' a xs := by
  rcases h with (h | ⟨o, h⟩) | h
  · exact .inl (.inl (e _ _ h fun _ z => nomatch z))
  · exact .inl (.inr ⟨o, e _ _ h fun _ z => nomatch z⟩)
  · exact .inr h
theorem Ex.n {H H' : Hp} (e : Ex H H') : ExN H H' := fun a o h _ => e a o h
theorem ExN.trans {H H1 H2 : Hp} (a : ExN H H1) (b : ExN H1 H2) : ExN H H2 := fun x o h n => b x o (a x o h n) n
theorem ExN.upd {H : Hp} {p : Addr} {xs : List V} {o : HO} (h : H p = some (.lst xs)) : ExN H (upd H p o) := fun a u e n => by
  rw [upd_ne (fun z => n xs (by rw [z, h] at e; exact (Option.some.inj e).symm))]
  exact e
mutual
theorem Dv.monoN {K : PySem.W.Frag} {H H' : Hp} (e : ExN H H') : ∀ {v : V} {d : It}, Dv K H v d → Dv K H' v d
  | _, _, .non => .non
  | _, _, .int i => .int i
  | _, _, .str z => .str z
  | _, _, .tup h r => .tup (exN_t e h) (DvL.monoN e r)
theorem DvL.monoN {K : PySem.W.Frag} {H H' : Hp} (e : ExN H H') : ∀ {vs : List V} {ds : List It}, DvL K H vs ds → DvL K H' vs ds
  | _, _, .nil => .nil
  | _, _, .cons h r => .cons (Dv.monoN e h) (DvL.monoN e r)
end
theorem Dv.mono {K : PySem.W.Frag} {H H' : Hp} (e : Ex H H') {v : V} {d : It} (h : Dv K H v d) : Dv K H' v d := h.monoN (Ex.n e)
theorem DvL.mono {K : PySem.W.Frag} {H H' : Hp} (e : Ex H H') {vs : List V} {ds : List It} (h : DvL K H vs ds) : DvL K H' vs ds := h.monoN (Ex.n e)
theorem DvL.app {K : PySem.W.Frag} {H : Hp} : ∀ {vs us : List V} {ds es : List It}, DvL K H vs ds → DvL K H us es → DvL K H (vs ++ us) (ds ++ es)
  | _, _, _, _, .nil, h => h
  | _, _, _, _, .cons a r, h => .cons a (r.app h)
theorem DvL.take {K : PySem.W.Frag} {H : Hp} : ∀ {vs : List V} {ds : List It} (n : Nat), DvL K H vs ds → DvL K H (vs.take n) (ds.take n)
  | _, _, 0, _ => .nil
  | _, _, _ + 1, .nil => .nil
  | _, _, n + 1, .cons a r => .cons a (r.take n)
theorem DvL.drop {K : PySem.W.Frag} {H : Hp} : ∀ {vs : List V} {ds : List It} (n : Nat), DvL K H vs ds → DvL K H (vs.drop n) (ds.drop n)
  | _, _, 0, h => h
  | _, _, _ + 1, .nil => .nil
  | _, _, n + 1, .cons _ r => r.drop n
theorem DvL.len {K : PySem.W.Frag} {H : Hp} : ∀ {vs : List V} {ds : List It}, DvL K H vs ds → vs.length = ds.length
  | _, _, .nil => rfl
  | _, _, .cons _ r => congrArg (· + 1) r.len
theorem DvL.at {K : PySem.W.Frag} {H : Hp} : ∀ {vs : List V} {ds : List It}, DvL K H vs ds → ∀ {i : Nat} {v : V} {d : It}, vs[i]? = some v → ds[i]? = some d → Dv K H v d
  | _, _, .cons h _, 0, v, d, e1, e2 => by
    have e1 := Option.some.inj e1
    have e2 := Option.some.inj e2
    subst e1 e2
    exact h
  | _, _, .cons _ r, i + 1, v, d, e1, e2 => r.at (i := i) (by simpa using e1) (by simpa using e2)
/-- depth, width and sizes -/
def It.fit : Nat → It → Prop
  | 0, x => match x with
    | .non => True
    | .int i => -(10 ^ 60) < i ∧ i < 10 ^ 60
    | .str z => z.length ≤ 999999
    | .tup _ => False
  | n + 1, x => match x with
    | .non => True
    | .int i => -(10 ^ 60) < i ∧ i < 10 ^ 60
    | .str z => z.length ≤ 999999
    | .tup xs => xs.length ≤ 1000 ∧ ∀ y ∈ xs, It.fit n y
theorem log60 {i : Int} (h : -(10 ^ 60) < i ∧ i < 10 ^ 60) : i.natAbs.log2 < 1920 := by
  have e60 : (10 : Int) ^ 60 = 1000000000000000000000000000000000000000000000000000000000000 := by decide
  rw [e60] at h
  exact Nat.lt_of_lt_of_le (PySem.Flt.log2_lt_of (k := 256) (by decide) (by omega)) (by decide)
theorem fit_int60 {n : Nat} {i : Int} (h : It.fit n (.int i)) : -(10 ^ 60) < i ∧ i < 10 ^ 60 := by cases n <;> exact h
theorem fit_int {n : Nat} {i : Int} (h : It.fit n (.int i)) : i.natAbs.log2 < 1920 := log60 (fit_int60 h)
theorem fit_str {n : Nat} {z : Str} (h : It.fit n (.str z)) : z.length ≤ 999999 := by cases n <;> exact h
theorem It.fit_mono : ∀ {n m : Nat} {d : It}, It.fit n d → n ≤ m → It.fit m d
  | n, m, .non, _, _ => by cases m <;> trivial
  | n, m, .int i, h, _ => by
    have := fit_int60 h
    cases m <;> exact this
  | n, m, .str z, h, _ => by
    have := fit_str h
    cases m <;> exact this
  | 0, m, .tup xs, h, _ => h.elim
  | n + 1, 0, .tup xs, h, e => by omega
  | n + 1, m + 1, .tup xs, h, e => ⟨h.1, fun y hy => It.fit_mono (h.2 y hy) (by omega)⟩
def spEnc (K : PySem.W.Frag) (n : Nat) : Sp := fun vs H Q _ => ∃ (v : V) (d : It), vs = [v] ∧ Dv K H v d ∧ d.fit n ∧ (encC d).length ≤ 16000000 ∧ ∀ H', Ex H H' → Q (.str ⟨(encC d).toArray⟩) H'
theorem cv_enc {K : PySem.W.Frag} {n : Nat} {v : V} {d : It} {H : Hp} (h : Dv K H v d) (hf : d.fit n) (hz : (encC d).length ≤ 16000000) : SpV (spEnc K n) [v] H (.str ⟨(encC d).toArray⟩) := fun H1 e Q q E => ⟨v, d, rfl, h.mono e, hf, hz, fun H2 e2 => q H2 e2⟩
/-- '(' + ''.join([f(part) for part in item]) + ')' -/
theorem ev_parts {K : PySem.W.Frag} {σ : L2.St} {H : Hp} {te tl : TE} {j : Nat} {vs : List Nat} {a : Addr} {xs : List V} {ds : List It} {n : Nat} (hl : Ev tl σ H (.ref a)) (h : SqT K H a xs) (r : DvL K H xs ds) (hf : It.fit (n + 1) (.tup ds)) (hz : (encC (.tup ds)).length ≤ 16000000)
    (hw : ∀ x, wipe ((wipe σ vs).set j (some x)) vs = wipe σ vs)
    (he : ∀ (x : V) (d : It) H1, Ex H H1 → Dv K H1 x d → d.fit n → (encC d).length ≤ 16000000 → Ev te ((wipe σ vs).set j (some x)) H1 (.str ⟨(encC d).toArray⟩)) :
    Ev (tOp (fun x y H Q => ∃ i j, x = V.str i ∧ y = V.str j ∧ i.length + j.length ≤ sizeLine ∧ Q (.str (i ++ j)) H) (tOp (fun x y H Q => ∃ i j, x = V.str i ∧ y = V.str j ∧ i.length + j.length ≤ sizeLine ∧ Q (.str (i ++ j)) H) (tC (.str (Str.ofString "(")))
      (tM1 (fun x xs H Q => ∃ a p, ∃ ys : List Str, x = .str a ∧ xs = [.ref p] ∧ (SqL K H p (ys.map V.str) ∨ SqT K H p (ys.map V.str)) ∧ (ys.map (·.length)).sum + ys.length * a.length ≤ 16777216 ∧ Q (.str (Txt.join a ys)) H) (tC (.str (Str.ofString ""))) (tLc (iTup K tl) (gName j) tYes te vs)))
      (tC (.str (Str.ofString ")")))) σ H (.str ⟨(encC (.tup ds)).toArray⟩) := by
  have ez : (encC (.tup ds)).length = (encL ds).length + 2 := by
    show (40 :: (encL ds ++ [41])).length = _
    rw [List.length_cons, List.length_append] <;> rfl
  have ef : (encL ds) = (ds.map encC).flatten := encL_flat ds
  have ej : Txt.join (Str.ofString "") ((ds.map encC).map fun c => (⟨c.toArray⟩ : Str)) = ⟨(encL ds).toArray⟩ := by rw [join_codes, ef]
  have e1 : (⟨(encC (.tup ds)).toArray⟩ : Str) = Str.ofString "(" ++ Txt.join (Str.ofString "") ((ds.map encC).map fun c => (⟨c.toArray⟩ : Str)) ++ Str.ofString ")" := by
    refine str_ext ?_
    rw [ej]
    have a1 : (Str.ofString "(").cps.toList = [40] := by decide +kernel
    have a2 : (Str.ofString ")").cps.toList = [41] := by decide +kernel
    rw [codes_app (codes_app a1 rfl) a2]
    show 40 :: (encL ds ++ [41]) = _
    simp
  rw [e1]
  have l1 : (Str.ofString "(").length = 1 := by decide +kernel
  have l2 : (Str.ofString ")").length = 1 := by decide +kernel
  have l3 : (Str.ofString "(" ++ Txt.join (Str.ofString "") ((ds.map encC).map fun c => (⟨c.toArray⟩ : Str))).length = 1 + (encL ds).length := by
    rw [ej, str_len, codes_app (x := [40]) (by decide +kernel) rfl, List.length_append]
    simp
  have l4 : (Txt.join (Str.ofString "") ((ds.map encC).map fun c => (⟨c.toArray⟩ : Str))).length = (encL ds).length := by
    rw [ej, str_len]
  refine ev_addS (ev_addS ev_c (ev_joinN (K := K) ev_c (el_mapT (K := K) hl h ?_ hw ?_ fun i x y hx hy H1 ex => ?_) ?_) ?_) ev_c ?_
  · have := hf.1
    rw [r.len]; omega
  · rw [List.length_map, List.length_map, List.length_map, r.len]
  · rw [List.getElem?_map, List.getElem?_map, List.getElem?_map] at hy
    cases e : ds[i]? with
    | none =>
      rw [e] at hy
      cases hy
    | some d =>
      rw [e] at hy
      have ey : y = .str ⟨(encC d).toArray⟩ := (Option.some.inj hy).symm
      have hm := List.mem_of_getElem? e
      rw [ey]
      have := encL_mem hm
      exact he x d H1 ex ((r.at hx e).mono ex) (hf.2 d hm) (by omega)
  · rw [sum_codes, ← ef]
    show _ + _ * 0 ≤ 16777216
    omega
  · rw [l1, l4]; omega
  · rw [l3, l2]; omega
/-- return f'i{item};' -/
theorem enc_int {n : Nat} {i : Int} {σ : L2.St} {H : Hp} {D : Ends} (hf : It.fit n (.int i)) (hz : (encC (.int i)).length ≤ 16000000) (q : ∀ H1, Ex H H1 → D.rt (.str ⟨(encC (.int i)).toArray⟩) H1) {te : TE} (he : Ev te σ H (.int i) := by exact ev_var rfl) :
    tRet (fun σ H Q => tJs [tC (.str (Str.ofString "i")), tFmt te, tC (.str (Str.ofString ";"))] Str.empty σ H fun out H1 => Q (.str out) H1) D σ H := by
  have a1 : (Str.ofString "i").cps.toList = [105] := by decide +kernel
  have a2 : (Str.ofString ";").cps.toList = [59] := by decide +kernel
  have a0 : (Str.empty).cps.toList = [] := by decide +kernel
  have ey : ([Str.ofString "i", (toString i : Str), Str.ofString ";"].foldl (· ++ ·) Str.empty : Str) = ⟨(encC (.int i)).toArray⟩ := mk_of (by
    show (((Str.empty ++ Str.ofString "i") ++ (toString i : Str)) ++ Str.ofString ";").cps.toList = _
    rw [codes_app (codes_app (codes_app a0 a1) rfl) a2]
    show _ = 105 :: (numC i ++ [59])
    simp [numC])
  refine s_ret (ev_is (ev_joined (.cons ev_c (.cons (ev_fmtI he (fit_int hf)) (.cons ev_c .nil))) ?_) (congrArg V.str ey)) q
  have e1 : (encC (.int i)).length = 2 + (numC i).length := by
    show (105 :: (numC i ++ [59])).length = _
    rw [List.length_cons, List.length_append, List.length_singleton]
    omega
  have e2 : ([Str.ofString "i", (toString i : Str), Str.ofString ";"].map (·.length)).sum = 1 + ((numC i).length + (1 + 0)) := by
    show (Str.ofString "i").length + ((toString i : Str).length + ((Str.ofString ";").length + 0)) = _
    rw [str_len, str_len, str_len, a1, a2] <;> rfl
  omega
/-- return f't{len(item)}:{item}' -/
theorem enc_str {n : Nat} {z : Str} {σ : L2.St} {H : Hp} {D : Ends} (hf : It.fit n (.str z)) (hz : (encC (.str z)).length ≤ 16000000) (q : ∀ H1, Ex H H1 → D.rt (.str ⟨(encC (.str z)).toArray⟩) H1) {te : TE} (he : Ev te σ H (.str z) := by exact ev_var rfl) :
    tRet (fun σ H Q => tJs [tC (.str (Str.ofString "t")), tFmt (tCB (fun xs H Q => ∃ z, xs = [V.str z] ∧ z.length ≤ sizeLine ∧ Q (.int z.length) H) (tCons te tNil)), tC (.str (Str.ofString ":")), tFmt te] Str.empty σ H fun out H1 => Q (.str out) H1) D σ H := by
  have a1 : (Str.ofString "t").cps.toList = [116] := by decide +kernel
  have a2 : (Str.ofString ":").cps.toList = [58] := by decide +kernel
  have a0 : (Str.empty).cps.toList = [] := by decide +kernel
  have hl := fit_str hf
  have hl2 : z.length ≤ sizeLine := sizeOk (by omega)
  have hs : ((z.length : Int)).natAbs.log2 < 1920 := Nat.lt_of_lt_of_le (PySem.Flt.log2_lt_of (k := 64) (by decide) (by omega)) (by decide)
  have ey : ([Str.ofString "t", (toString (z.length : Int) : Str), Str.ofString ":", z].foldl (· ++ ·) Str.empty : Str) = ⟨(encC (.str z)).toArray⟩ := mk_of (by
    show ((((Str.empty ++ Str.ofString "t") ++ (toString (z.length : Int) : Str)) ++ Str.ofString ":") ++ z).cps.toList = _
    rw [codes_app (codes_app (codes_app (codes_app a0 a1) rfl) a2) rfl]
    show _ = 116 :: (numC (z.length : Int) ++ (58 :: z.cps.toList))
    simp [numC])
  refine s_ret (ev_is (ev_joined (.cons ev_c (.cons (ev_fmtI (fun H1 e Q q => he H1 e _ fun H2 e2 => ⟨z, rfl, hl2, q H2 e2⟩) hs) (.cons ev_c (.cons (ev_fmtS he (by omega)) .nil)))) ?_) (congrArg V.str ey)) q
  have e1 : (encC (.str z)).length = 2 + (numC (z.length : Int)).length + z.cps.toList.length := by
    show (116 :: (numC (z.length : Int) ++ (58 :: z.cps.toList))).length = _
    rw [List.length_cons, List.length_append, List.length_cons]
    omega
  have e2 : ([Str.ofString "t", (toString (z.length : Int) : Str), Str.ofString ":", z].map (·.length)).sum = 1 + ((numC (z.length : Int)).length + (1 + (z.cps.toList.length + 0))) := by
    show (Str.ofString "t").length + ((toString (z.length : Int) : Str).length + ((Str.ofString ":").length + (z.length + 0))) = _
    rw [str_len, str_len (toString _ : Str), str_len (Str.ofString ":"), str_len z, a1, a2] <;> rfl
  omega

def rCatS' : R2 := fun x y H Q => ∃ i j, x = V.str i ∧ y = V.str j ∧ i.length + j.length ≤ sizeLine ∧ Q (.str (i ++ j)) H
/-- return 'i' + str(item) + ';' -/
theorem wr_int {n : Nat} {i : Int} {σ : L2.St} {H : Hp} {D : Ends} (hf : It.fit n (.int i)) (hz : (encC (.int i)).length ≤ 16000000) (q : ∀ H1, Ex H H1 → D.rt (.str ⟨(encC (.int i)).toArray⟩) H1) {te : TE} (he : Ev te σ H (.int i) := by exact ev_var rfl) :
    tRet (tOp rCatS' (tOp rCatS' (tC (.str (Str.ofString "i"))) (tCB (fun xs H Q => ∃ i : Int, xs = [V.int i] ∧ i.natAbs.log2 < 1920 ∧ Q (.str (toString i)) H) (tCons te tNil))) (tC (.str (Str.ofString ";")))) D σ H := by
  have a1 : (Str.ofString "i").cps.toList = [105] := by decide +kernel
  have a2 : (Str.ofString ";").cps.toList = [59] := by decide +kernel
  have ey : ((Str.ofString "i" ++ (toString i : Str)) ++ Str.ofString ";") = (⟨(encC (.int i)).toArray⟩ : Str) := mk_of (by
    rw [codes_app (codes_app a1 rfl) a2]
    show _ = 105 :: (numC i ++ [59])
    simp [numC])
  have e1 : (encC (.int i)).length = 2 + (numC i).length := by
    show (105 :: (numC i ++ [59])).length = _
    rw [List.length_cons, List.length_append, List.length_singleton]
    omega
  have e3 : (toString i : Str).length = (numC i).length := str_len _
  have e2 : (Str.ofString "i" ++ (toString i : Str)).length = 1 + (numC i).length := by
    rw [str_len, codes_app a1 rfl, List.length_append] <;> rfl
  have l1 : (Str.ofString "i").length = 1 := by decide +kernel
  have l2 : (Str.ofString ";").length = 1 := by decide +kernel
  refine s_ret (ev_is (ev_addS (ev_addS ev_c (ev_strI he (fit_int hf)) ?_) ev_c ?_) (congrArg V.str ey)) q
  · rw [l1, e3]; omega
  · rw [e2, l2]; omega
/-- return 't' + str(len(item)) + ':' + item -/
theorem wr_str {n : Nat} {z : Str} {σ : L2.St} {H : Hp} {D : Ends} (hf : It.fit n (.str z)) (hz : (encC (.str z)).length ≤ 16000000) (q : ∀ H1, Ex H H1 → D.rt (.str ⟨(encC (.str z)).toArray⟩) H1) {te : TE} (he : Ev te σ H (.str z) := by exact ev_var rfl) :
    tRet (tOp rCatS' (tOp rCatS' (tOp rCatS' (tC (.str (Str.ofString "t"))) (tCB (fun xs H Q => ∃ i : Int, xs = [V.int i] ∧ i.natAbs.log2 < 1920 ∧ Q (.str (toString i)) H) (tCons (tCB (fun xs H Q => ∃ z, xs = [V.str z] ∧ z.length ≤ sizeLine ∧ Q (.int z.length) H) (tCons te tNil)) tNil))) (tC (.str (Str.ofString ":")))) te) D σ H := by
  have a1 : (Str.ofString "t").cps.toList = [116] := by decide +kernel
  have a2 : (Str.ofString ":").cps.toList = [58] := by decide +kernel
  have hl := fit_str hf
  have hl2 : z.length ≤ sizeLine := sizeOk (by omega)
  have hs : ((z.length : Int)).natAbs.log2 < 1920 := Nat.lt_of_lt_of_le (PySem.Flt.log2_lt_of (k := 64) (by decide) (by omega)) (by decide)
  have ey : (((Str.ofString "t" ++ (toString (z.length : Int) : Str)) ++ Str.ofString ":") ++ z) = (⟨(encC (.str z)).toArray⟩ : Str) := mk_of (by
    rw [codes_app (codes_app (codes_app a1 rfl) a2) rfl]
    show _ = 116 :: (numC (z.length : Int) ++ (58 :: z.cps.toList))
    simp [numC])
  have e1 : (encC (.str z)).length = 2 + (numC (z.length : Int)).length + z.cps.toList.length := by
    show (116 :: (numC (z.length : Int) ++ (58 :: z.cps.toList))).length = _
    rw [List.length_cons, List.length_append, List.length_cons]
    omega
  have e3 : (toString (z.length : Int) : Str).length = (numC (z.length : Int)).length := str_len _
  have e2 : (Str.ofString "t" ++ (toString (z.length : Int) : Str)).length = 1 + (numC (z.length : Int)).length := by
    rw [str_len, codes_app a1 rfl, List.length_append] <;> rfl
  have e4 : ((Str.ofString "t" ++ (toString (z.length : Int) : Str)) ++ Str.ofString ":").length = 2 + (numC (z.length : Int)).length := by
    rw [str_len, codes_app (codes_app a1 rfl) a2, List.length_append, List.length_append]
    show 1 + _ + 1 = _
    unfold numC
    omega
  have l1 : (Str.ofString "t").length = 1 := by decide +kernel
  have l2 : (Str.ofString ":").length = 1 := by decide +kernel
  have l4 := str_len z
  refine s_ret (ev_is (ev_addS (ev_addS (ev_addS ev_c (ev_strI (fun H1 e Q q => he H1 e _ fun H2 e2 => ⟨z, rfl, hl2, q H2 e2⟩) hs) ?_) ev_c ?_) he ?_) (congrArg V.str ey)) q
  · rw [l1, e3]; omega
  · rw [e2, l2]; omega
  · rw [e4]; omega
/-! ### sizes -/
theorem numC_len {i : Int} (h : i.natAbs.log2 < 1920) : (numC i).length ≤ 1921 := by
  have e := int_text_length_le (k := 1920) (by decide) h
  have e2 : (numC i).length = (toString i : Str).length := (str_len _).symm
  rw [e2]
  show (Str.ofString (toString i)).length ≤ 1921
  rw [PySem.ofString_length]
  exact e
theorem enc_int_len {i : Int} (h : i.natAbs.log2 < 1920) : (encC (.int i)).length ≤ 1923 := by
  have := numC_len h
  show (105 :: (numC i ++ [59])).length ≤ _
  rw [List.length_cons, List.length_append, List.length_singleton]
  omega
theorem enc_str_len {z : Str} (h : z.length ≤ 1000000) : (encC (.str z)).length ≤ 1923 + z.length := by
  have hs : ((z.length : Int)).natAbs.log2 < 1920 := Nat.lt_of_lt_of_le (PySem.Flt.log2_lt_of (k := 64) (by decide) (by omega)) (by decide)
  have := numC_len hs
  have e := str_len z
  show (116 :: (numC (z.length : Int) ++ (58 :: z.cps.toList))).length ≤ _
  rw [List.length_cons, List.length_append, List.length_cons]
  omega
/-- a value of the document: None, an int below 10 ** 60, a text of some signs -/
def It.sc : It → Prop
  | .non => True
  | .int i => -(10 ^ 60) < i ∧ i < 10 ^ 60
  | .str z => z.length ≤ 200
  | .tup _ => False
def vz : It → V
  | .non => .non
  | .int i => .int i
  | .str z => .str z
  | .tup _ => .non
theorem It.sc_fit {d : It} (h : d.sc) (n : Nat) : d.fit n := by
  cases d with
  | non => cases n <;> trivial
  | int i => cases n <;> exact h
  | str z =>
    have h : z.length ≤ 200 := h
    cases n <;> (show z.length ≤ 999999; omega)
  | tup xs => exact h.elim
theorem It.sc_len {d : It} (h : d.sc) : (encC d).length ≤ 2200 := by
  cases d with
  | non => show 1 ≤ 2200; decide
  | int i => exact Nat.le_trans (enc_int_len (log60 h)) (by decide)
  | str z =>
    have h : z.length ≤ 200 := h
    have := enc_str_len (z := z) (by omega)
    omega
  | tup xs => exact h.elim
theorem Dv.sc {K : PySem.W.Frag} {H : Hp} {d : It} (h : d.sc) : Dv K H (vz d) d := by
  cases d with
  | non => exact .non
  | int i => exact .int i
  | str z => exact .str z
  | tup xs => exact h.elim
theorem DvL.sc {K : PySem.W.Frag} {H : Hp} : ∀ {ds : List It}, (∀ d ∈ ds, d.sc) → DvL K H (ds.map vz) ds
  | [], _ => .nil
  | d :: ds, h => .cons (.sc (h d (List.mem_cons_self ..))) (.sc fun x hx => h x (List.mem_cons_of_mem _ hx))
theorem encL_len : ∀ {ds : List It} {m : Nat}, (∀ d ∈ ds, (encC d).length ≤ m) → (encL ds).length ≤ ds.length * m
  | [], m, _ => Nat.zero_le _
  | d :: ds, m, h => by
    have h1 := h d (List.mem_cons_self ..)
    have h2 := encL_len (ds := ds) (m := m) fun x hx => h x (List.mem_cons_of_mem _ hx)
    show (encC d ++ encL ds).length ≤ (ds.length + 1) * m
    rw [List.length_append, Nat.add_mul]
    omega
theorem enc_tup_len (ds : List It) : (encC (.tup ds)).length = (encL ds).length + 2 := by
  show (40 :: (encL ds ++ [41])).length = _
  rw [List.length_cons, List.length_append] <;> rfl


/-! ### what is read back -/
theorem numC_nat (n : Nat) : numC ((n : Nat) : Int) = TL.numL n := TL.tl_num n
theorem neg_text (n : Nat) : (toString (Int.negSucc n) : String) = "-" ++ toString ((n + 1 : Nat) : Int) := rfl
theorem ofString_app (a b : String) : Str.ofString (a ++ b) = Str.ofString a ++ Str.ofString b := by
  refine str_ext ?_
  rw [codes_app (signs_ofString a) (signs_ofString b), signs_ofString, String.toList_append, List.map_append]
theorem numC_neg (n : Nat) : numC (Int.negSucc n) = 45 :: TL.numL (n + 1) := by
  show (Str.ofString (toString (Int.negSucc n))).cps.toList = _
  rw [neg_text, ofString_app, codes_app (x := [45]) (by decide +kernel) rfl]
  exact congrArg (List.cons 45) (numC_nat (n + 1))
/-- digits without a leading zero -/
structure Digs (ds : List Nat) (most : Nat) : Prop where
  all : ∀ c ∈ ds, 48 ≤ c ∧ c ≤ 57
  ne : ds ≠ []
  len : ds.length ≤ most
  lead : ds.length = 1 ∨ ds.head? ≠ some 48
theorem numL_head : ∀ n : Nat, (TL.numL n).length = 1 ∨ (TL.numL n).head? ≠ some 48 := by
  intro n
  induction n using Nat.strongRecOn with
  | _ n ih =>
    by_cases h : n < 10
    · exact .inl (by rw [TL.numL_lt h] <;> rfl)
    · refine .inr ?_
      have h10 : 10 ≤ n := by omega
      rw [TL.numL_step h10]
      have hne := TL.numL_ne (n / 10)
      cases e : TL.numL (n / 10) with
      | nil => exact absurd e hne
      | cons c r =>
        show some c ≠ some 48
        rcases ih (n / 10) (by omega) with h1 | h1
        · rw [e] at h1
          have hr : r = [] := List.length_eq_zero_iff.mp (by simpa using h1)
          subst hr
          have hq : n / 10 < 10 := by
            by_cases hq : n / 10 < 10
            · exact hq
            · rw [TL.numL_step (by omega)] at e
              have := congrArg List.length e
              have h3 := List.length_pos_iff.mpr (TL.numL_ne (n / 10 / 10))
              rw [List.length_append, List.length_singleton, List.length_singleton] at this
              omega
          rw [TL.numL_lt hq] at e
          have e2 : 48 + n / 10 = c := by simpa using e
          intro z
          have := Option.some.inj z
          omega
        · rw [e] at h1
          exact h1
theorem digs_num {n most : Nat} (hm : 0 < most) (h : n < 10 ^ most) : Digs (TL.numL n) most := ⟨TL.numL_digits n, TL.numL_ne n, TL.numL_len hm h, numL_head n⟩
theorem slice_app {l a b c : List Nat} (h : l = a ++ (b ++ c)) : (l.drop a.length).take b.length = b := by
  rw [h, List.drop_left, List.take_left]
/-- text[i:j] of a text that is known there -/
theorem cutS_at {z : Str} {a b c : List Nat} (h : z.cps.toList = a ++ (b ++ c)) : cutS z (some (a.length : Int)) (some ((a.length + b.length : Nat) : Int)) = ⟨b.toArray⟩ := by
  have el : z.length = a.length + (b.length + c.length) := by rw [str_len, h, List.length_append, List.length_append]
  unfold cutS
  rw [HT.sIx_nat, HT.sIx_nat, Nat.min_eq_left (by omega), Nat.min_eq_left (by omega), Nat.add_sub_cancel_left, slice_app h]
theorem int_at {i : Int} (h : -(10 ^ 60) < i ∧ i < 10 ^ 60) : intText? (⟨(numC i).toArray⟩ : Str) = some i ∧ (⟨(numC i).toArray⟩ : Str).length ≤ 640 := by
  have e60 : (10 : Int) ^ 60 = 1000000000000000000000000000000000000000000000000000000000000 := by decide
  have n60 : (10 : Nat) ^ 60 = 1000000000000000000000000000000000000000000000000000000000000 := by decide
  rw [e60] at h
  cases i with
  | ofNat n =>
    have hn : n < 10 ^ 60 := by
      rw [n60]
      have := h.2
      simp at this
      omega
    have hl := TL.numL_len (by decide) hn
    have e : (⟨(numC (Int.ofNat n)).toArray⟩ : Str) = Str.ofString (toString ((n : Nat) : Int)) := str_ext rfl
    refine ⟨?_, ?_⟩
    · rw [e]
      exact TL.int_num (by omega)
    · rw [str_len]
      show (numC ((n : Nat) : Int)).length ≤ 640
      rw [numC_nat]
      omega
  | negSucc n =>
    have hn : n + 1 < 10 ^ 60 := by
      rw [n60]
      have := h.1
      omega
    have hl := TL.numL_len (by decide) hn
    have ec : (⟨(numC (Int.negSucc n)).toArray⟩ : Str).cps.toList = 45 :: TL.numL (n + 1) := numC_neg n
    have ln : (⟨(numC (Int.negSucc n)).toArray⟩ : Str).length = (TL.numL (n + 1)).length + 1 := by rw [str_len, ec] <;> rfl
    refine ⟨?_, by omega⟩
    have := PySem.intText_neg ec (TL.numL_digits _) (TL.numL_ne _) (by omega)
    rw [TL.numL_val] at this
    rw [this]
    exact congrArg some (by omega)
/-! ### a chain of two comparisons of texts -/
theorem le_str1 (a c : Nat) : (!decide ((⟨#[c]⟩ : Str).cps.toList < (⟨#[a]⟩ : Str).cps.toList)) = decide (a ≤ c) := by
  have e : ((⟨#[c]⟩ : Str).cps.toList < (⟨#[a]⟩ : Str).cps.toList) ↔ c < a := by
    show ([c] : List Nat) < [a] ↔ c < a
    constructor
    · intro h
      cases h with
      | rel h => exact h
      | cons h => cases h
    · intro h
      exact List.Lex.rel h
  by_cases h : c < a
  · rw [decide_eq_true (e.mpr h), decide_eq_false (by omega)] <;> rfl
  · rw [decide_eq_false (fun z => h (e.mp z)), decide_eq_true (by omega)] <;> rfl
abbrev rLeS : R2 := fun x y H Q => ∃ i j, x = .str i ∧ y = .str j ∧ Q (.bl (!decide (j.cps.toList < i.cps.toList))) H
theorem et_dig {σ : L2.St} {H : Hp} {tb : TE} {c : Nat} (hb : Ev tb σ H (.str ⟨#[c]⟩)) : EvT (tTest (tChain rLeS rLeS (tC (.str (Str.ofString "0"))) tb (tC (.str (Str.ofString "9"))))) σ H (decide (48 ≤ c ∧ c ≤ 57)) := fun H1 e Q q => by
  have e0 : (Str.ofString "0") = ⟨#[48]⟩ := by decide +kernel
  have e9 : (Str.ofString "9") = ⟨#[57]⟩ := by decide +kernel
  refine hb H1 e _ fun H2 e2 => ⟨_, _, rfl, rfl, decide (48 ≤ c), ?_, ?_⟩
  · rw [e0]
    exact congrArg V.bl (le_str1 48 c)
  · by_cases h : 48 ≤ c
    · rw [decide_eq_true h]
      refine iteT ⟨_, _, rfl, rfl, decide (c ≤ 57), ?_, ?_⟩
      · rw [e9]
        exact congrArg V.bl (le_str1 c 57)
      · have : decide (48 ≤ c ∧ c ≤ 57) = decide (c ≤ 57) := decide_eq_decide.mpr ⟨fun z => z.2, fun z => ⟨h, z⟩⟩
        rw [← this]
        exact q H2 e2
    · rw [decide_eq_false h]
      refine iteF ⟨false, rfl, ?_⟩
      have : decide (48 ≤ c ∧ c ≤ 57) = false := decide_eq_false fun z => h z.1
      rw [← this]
      exact q H2 e2
theorem str1_eq {a c : Nat} : decide ((⟨#[c]⟩ : Str) = ⟨#[a]⟩) = decide (c = a) := decide_eq_decide.mpr ⟨fun h => by
  have := congrArg (fun s : Str => s.cps.toList) h
  simpa using this, fun h => by rw [h]⟩
def spDec (K : PySem.W.Frag) : Sp := fun vs H Q _ => ∃ (z : Str) (d : It), vs = [.str z] ∧ z = ⟨(encC d).toArray⟩ ∧ d.fit 12 ∧ (encC d).length ≤ 16000000 ∧ ∀ v H', Ex H H' → Dv K H' v d → Q v H'


section
variable {P : Program} {w : World} {K : PySem.W.Frag} {mg : Str → Option Value} {base : Heap}

/-! ### _law_integer -/
def integerZ (cell : Int) : Int :=
  if cell % 8 = 0 then 0 else if cell % 8 = 1 then 1 + cell / 8 % 12 else if cell % 8 = 2 then -1 - cell / 8 % 12 else if cell % 8 = 3 then 10 ^ 60 - 1 - cell / 8 % 3 else
  if cell % 8 = 4 then 1 - 10 ^ 60 + cell / 8 % 3 else if cell % 8 = 5 then (cell / 8 * 10 ^ 52 + cell / 8) % 10 ^ 60 else if cell % 8 = 6 then -(cell / 8 % 10 ^ 60) else cell / 8 % 2001 - 1000
theorem integerZ_lt (cell : Int) : -(10 ^ 60) < integerZ cell ∧ integerZ cell < 10 ^ 60 := by
  unfold integerZ
  have h1 := Int.emod_nonneg (cell / 8) (by decide : (12 : Int) ≠ 0)
  have h2 := Int.emod_lt_of_pos (cell / 8) (by decide : (0 : Int) < 12)
  have h3 := Int.emod_nonneg (cell / 8) (by decide : (3 : Int) ≠ 0)
  have h4 := Int.emod_lt_of_pos (cell / 8) (by decide : (0 : Int) < 3)
  have h5 := Int.emod_nonneg (cell / 8 * 10 ^ 52 + cell / 8) (by decide : (10 ^ 60 : Int) ≠ 0)
  have h6 := Int.emod_lt_of_pos (cell / 8 * 10 ^ 52 + cell / 8) (by decide : (0 : Int) < 10 ^ 60)
  have h7 := Int.emod_nonneg (cell / 8) (by decide : (10 ^ 60 : Int) ≠ 0)
  have h8 := Int.emod_lt_of_pos (cell / 8) (by decide : (0 : Int) < 10 ^ 60)
  have h9 := Int.emod_nonneg (cell / 8) (by decide : (2001 : Int) ≠ 0)
  have h10 := Int.emod_lt_of_pos (cell / 8) (by decide : (0 : Int) < 2001)
  generalize (cell / 8 * 10 ^ 52 + cell / 8) % 10 ^ 60 = a at *
  generalize cell / 8 % 10 ^ 60 = b at *
  generalize cell / 8 % 2001 = c at *
  generalize cell / 8 % 12 = d at *
  generalize cell / 8 % 3 = e at *
  have e60 : (10 : Int) ^ 60 = 1000000000000000000000000000000000000000000000000000000000000 := by decide
  rw [e60] at *
  repeat' split
  all_goals omega
theorem integerZ_log (cell : Int) : (integerZ cell).natAbs.log2 < 1920 := by
  have h := integerZ_lt cell
  have e60 : (10 : Int) ^ 60 = 1000000000000000000000000000000000000000000000000000000000000 := by decide
  rw [e60] at h
  refine Nat.lt_of_lt_of_le (PySem.Flt.log2_lt_of (k := 256) (by decide) ?_) (by decide)
  omega
def sp_integer : Sp := fun vs H Q _ => ∃ cell : Int, vs = [.int cell] ∧ Wd cell ∧ ∀ H', Ex H H' → Q (.int (integerZ cell)) H'
theorem cv_integer {cell : Int} {H : Hp} (hc : Wd cell) : SpV sp_integer [.int cell] H (.int (integerZ cell)) := fun H1 e Q q E => ⟨cell, rfl, hc, fun H2 e2 => q H2 e2⟩
theorem ok_law_integer (T : Txt K mg) : FnOk P w K mg base CX0 1 T.f_law_integer T.d_law_integer ["cell"] sp_integer := by
  refine T.F_law_integer.ok sc_law_integer (fun vs H Q E h => ?_) (fun cdv A outer s H vs Q E hr h => ?_)
  · obtain ⟨n, rfl, _⟩ := h
    rfl
  · obtain ⟨n, rfl, hW, q⟩ := h
    unfold integerZ at q
    refine ⟨_, pss_cons (ps_set (i := 1) sc_law_integer.nd rfl (by first | exact Or.inl rfl | exact Or.inr rfl) (pe_op op_mod (pe_callTy call_int1 (by rfl) T.m_int (by decide +kernel) (pa_cons (pv 0) (pa_nil))) (pe_int)))
      (pss_cons (ps_set (i := 2) sc_law_integer.nd rfl (by first | exact Or.inl rfl | exact Or.inr rfl) (pe_op op_fdivW (pv 0) (pe_int)))
      (pss_cons (ps_if (pt_cmpR op_eq (pv 1) (pe_int) (nomark _))
      (pss_one (ps_ret (pe_int)))
      (pss_nil))
      (pss_cons (ps_if (pt_cmpR op_eq (pv 1) (pe_int) (nomark _))
      (pss_one (ps_ret (pe_op op_add (pe_int) (pe_op op_mod (pe_callTy call_int1 (by rfl) T.m_int (by decide +kernel) (pa_cons (pv 2) (pa_nil))) (pe_int)))))
      (pss_nil))
      (pss_cons (ps_if (pt_cmpR op_eq (pv 1) (pe_int) (nomark _))
      (pss_one (ps_ret (pe_op op_sub (pe_un un_neg (pe_int)) (pe_op op_mod (pe_callTy call_int1 (by rfl) T.m_int (by decide +kernel) (pa_cons (pv 2) (pa_nil))) (pe_int)))))
      (pss_nil))
      (pss_cons (ps_if (pt_cmpR op_eq (pv 1) (pe_int) (nomark _))
      (pss_one (ps_ret (pe_op op_sub (pe_op op_sub (pe_op op_pow (pe_int) (pe_int)) (pe_int)) (pe_op op_mod (pe_callTy call_int1 (by rfl) T.m_int (by decide +kernel) (pa_cons (pv 2) (pa_nil))) (pe_int)))))
      (pss_nil))
      (pss_cons (ps_if (pt_cmpR op_eq (pv 1) (pe_int) (nomark _))
      (pss_one (ps_ret (pe_op op_add (pe_op op_sub (pe_int) (pe_op op_pow (pe_int) (pe_int))) (pe_op op_mod (pe_callTy call_int1 (by rfl) T.m_int (by decide +kernel) (pa_cons (pv 2) (pa_nil))) (pe_int)))))
      (pss_nil))
      (pss_cons (ps_if (pt_cmpR op_eq (pv 1) (pe_int) (nomark _))
      (pss_one (ps_ret (pe_op op_mod (pe_callTy call_int1 (by rfl) T.m_int (by decide +kernel) (pa_cons (pe_op op_add (pe_op op_mulX (pv 2) (pe_op op_pow (pe_int) (pe_int))) (pv 2)) (pa_nil))) (pe_op op_pow (pe_int) (pe_int)))))
      (pss_nil))
      (pss_cons (ps_if (pt_cmpR op_eq (pv 1) (pe_int) (nomark _))
      (pss_one (ps_ret (pe_un un_neg (pe_op op_mod (pe_callTy call_int1 (by rfl) T.m_int (by decide +kernel) (pa_cons (pv 2) (pa_nil))) (pe_op op_pow (pe_int) (pe_int))))))
      (pss_nil))
      (pss_one (ps_ret (pe_op op_sub (pe_op op_mod (pe_callTy call_int1 (by rfl) T.m_int (by decide +kernel) (pa_cons (pv 2) (pa_nil))) (pe_int)) (pe_int)))))))))))), ?_⟩
    have p60 : ∀ {σ : L2.St} {H : Hp}, Ev (tOp (rI CPow fun i j => V.int (i ^ j.toNat)) (tC (.int 10)) (tC (.int 60))) σ H (.int (10 ^ 60)) := ev_bin ev_c ev_c ⟨by decide, by decide, by decide⟩
    have p52 : ∀ {σ : L2.St} {H : Hp}, Ev (tOp (rI CPow fun i j => V.int (i ^ j.toNat)) (tC (.int 10)) (tC (.int 52))) σ H (.int (10 ^ 52)) := ev_bin ev_c ev_c ⟨by decide, by decide, by decide⟩
    refine q_asg (ev_bin (ev_intI (ev_var rfl)) ev_c (by decide)) fun H1 e1 => ?_
    refine q_asg (ev_bin (ev_var rfl) ev_c ⟨by decide, by decide⟩) fun H2 e2 => ?_
    have e := e1.trans e2
    refine q_when (et_test (ev_eqI (ev_var rfl) ev_c)) (fun hb H3 e3 => ?_) (fun hb H3 e3 => ?_)
    · rw [if_pos (of_decide_eq_true hb)] at q
      exact s_ret ev_c fun H4 e4 => q H4 ((e.trans e3).trans e4)
    rw [if_neg (of_decide_eq_false hb)] at q
    have e := e.trans e3
    refine q_when (et_test (ev_eqI (ev_var rfl) ev_c)) (fun hb H3 e3 => ?_) (fun hb H3 e3 => ?_)
    · rw [if_pos (of_decide_eq_true hb)] at q
      exact s_ret (ev_bin0 ev_c (ev_bin (ev_intI (ev_var rfl)) ev_c (by decide))) fun H4 e4 => q H4 ((e.trans e3).trans e4)
    rw [if_neg (of_decide_eq_false hb)] at q
    have e := e.trans e3
    refine q_when (et_test (ev_eqI (ev_var rfl) ev_c)) (fun hb H3 e3 => ?_) (fun hb H3 e3 => ?_)
    · rw [if_pos (of_decide_eq_true hb)] at q
      exact s_ret (ev_bin0 (ev_neg ev_c) (ev_bin (ev_intI (ev_var rfl)) ev_c (by decide))) fun H4 e4 => q H4 ((e.trans e3).trans e4)
    rw [if_neg (of_decide_eq_false hb)] at q
    have e := e.trans e3
    refine q_when (et_test (ev_eqI (ev_var rfl) ev_c)) (fun hb H3 e3 => ?_) (fun hb H3 e3 => ?_)
    · rw [if_pos (of_decide_eq_true hb)] at q
      exact s_ret (ev_bin0 (ev_bin0 p60 ev_c) (ev_bin (ev_intI (ev_var rfl)) ev_c (by decide))) fun H4 e4 => q H4 ((e.trans e3).trans e4)
    rw [if_neg (of_decide_eq_false hb)] at q
    have e := e.trans e3
    refine q_when (et_test (ev_eqI (ev_var rfl) ev_c)) (fun hb H3 e3 => ?_) (fun hb H3 e3 => ?_)
    · rw [if_pos (of_decide_eq_true hb)] at q
      exact s_ret (ev_bin0 (ev_bin0 ev_c p60) (ev_bin (ev_intI (ev_var rfl)) ev_c (by decide))) fun H4 e4 => q H4 ((e.trans e3).trans e4)
    rw [if_neg (of_decide_eq_false hb)] at q
    have e := e.trans e3
    refine q_when (et_test (ev_eqI (ev_var rfl) ev_c)) (fun hb H3 e3 => ?_) (fun hb H3 e3 => ?_)
    · rw [if_pos (of_decide_eq_true hb)] at q
      exact s_ret (ev_bin (ev_intI (ev_bin0 (ev_bin (ev_var rfl) p52 (Wd.mul (Wd.div hW) (Wd.lit (by decide)))) (ev_var rfl))) p60 (by decide)) fun H4 e4 => q H4 ((e.trans e3).trans e4)
    rw [if_neg (of_decide_eq_false hb)] at q
    have e := e.trans e3
    refine q_when (et_test (ev_eqI (ev_var rfl) ev_c)) (fun hb H3 e3 => ?_) (fun hb H3 e3 => ?_)
    · rw [if_pos (of_decide_eq_true hb)] at q
      exact s_ret (ev_neg (ev_bin (ev_intI (ev_var rfl)) p60 (by decide))) fun H4 e4 => q H4 ((e.trans e3).trans e4)
    rw [if_neg (of_decide_eq_false hb)] at q
    have e := e.trans e3
    exact s_ret (ev_bin0 (ev_bin (ev_intI (ev_var rfl)) ev_c (by decide)) ev_c) fun H4 e4 => q H4 (e.trans e4)


/-! ### _law_draws -/
def drawMix (cell salt : Int) (k : Nat) : Int :=
  ((cell * 48271 + (salt * 97 + (k : Int)) * 69621) % 2147483647 / 8 * ((cell * 48271 + (salt * 97 + (k : Int)) * 69621) % 2147483647 % 50021 + 16807) + (k : Int)) % 998244353 / 11
def drawSt (cell salt base : Int) : Nat → Int × List Int
  | 0 => (if 10 ^ 18 ≤ cell then cell else 0, [])
  | k + 1 => if 0 < (drawSt cell salt base k).1 then ((drawSt cell salt base k).1 / base, (drawSt cell salt base k).2 ++ [(drawSt cell salt base k).1 % base]) else ((drawSt cell salt base k).1, (drawSt cell salt base k).2 ++ [drawMix cell salt k])
theorem drawSt_succ (cell salt base : Int) (k : Nat) : drawSt cell salt base (k + 1) = if 0 < (drawSt cell salt base k).1 then ((drawSt cell salt base k).1 / base, (drawSt cell salt base k).2 ++ [(drawSt cell salt base k).1 % base]) else ((drawSt cell salt base k).1, (drawSt cell salt base k).2 ++ [drawMix cell salt k]) := rfl
def draws (cell salt : Int) (count : Nat) (base : Int) : List Int := (drawSt cell salt base count).2
theorem drawSt_len (cell salt base : Int) : ∀ k, (drawSt cell salt base k).2.length = k
  | 0 => rfl
  | k + 1 => by
    have ih := drawSt_len cell salt base k
    rw [drawSt_succ]
    split <;> simp [ih]
theorem draws_len (cell salt : Int) (n : Nat) (base : Int) : (draws cell salt n base).length = n := drawSt_len cell salt base n
theorem drawMix_ge (cell salt : Int) (k : Nat) : 0 ≤ drawMix cell salt k ∧ drawMix cell salt k < 998244353 := by
  unfold drawMix
  generalize (((cell * 48271 + (salt * 97 + (k : Int)) * 69621) % 2147483647 / 8 * ((cell * 48271 + (salt * 97 + (k : Int)) * 69621) % 2147483647 % 50021 + 16807) + (k : Int))) = m
  omega
theorem drawSt_ok {cell salt base : Int} (hc : Wd cell) (hb : 0 < base) (hbw : Wd base) : ∀ k, Wd (drawSt cell salt base k).1 ∧ ∀ n ∈ (drawSt cell salt base k).2, 0 ≤ n ∧ Wd n
  | 0 => by
    refine ⟨?_, fun n hn => by cases hn⟩
    show Wd (if _ then _ else _)
    split
    · exact hc
    · exact Wd.lit (by decide)
  | k + 1 => by
    obtain ⟨h1, h2⟩ := drawSt_ok (salt := salt) hc hb hbw k
    rw [drawSt_succ]
    split
    · refine ⟨Wd.div h1, fun n hn => ?_⟩
      rcases List.mem_append.mp hn with e | e
      · exact h2 n e
      · rw [List.mem_singleton.mp e]
        exact ⟨Int.emod_nonneg _ (by omega), Wd.mod hb hbw⟩
    · refine ⟨h1, fun n hn => ?_⟩
      rcases List.mem_append.mp hn with e | e
      · exact h2 n e
      · rw [List.mem_singleton.mp e]
        have := drawMix_ge cell salt k
        exact ⟨this.1, Wd.small (by omega) (by omega)⟩
theorem draws_ok {cell salt base : Int} (hc : Wd cell) (hb : 0 < base) (hbw : Wd base) (n : Nat) : ∀ x ∈ draws cell salt n base, 0 ≤ x ∧ Wd x := (drawSt_ok hc hb hbw n).2
theorem drawSt_lt {cell salt base : Int} (hb : 0 < base) (hB : base ≤ 1000000000) : ∀ k, ∀ n ∈ (drawSt cell salt base k).2, 0 ≤ n ∧ n < 1000000000
  | 0 => fun n hn => by cases hn
  | k + 1 => by
    have h2 := drawSt_lt (cell := cell) (salt := salt) hb hB k
    rw [drawSt_succ]
    split
    · intro n hn
      rcases List.mem_append.mp hn with e | e
      · exact h2 n e
      · rw [List.mem_singleton.mp e]
        have a1 := Int.emod_nonneg (drawSt cell salt base k).1 (by omega : base ≠ 0)
        have a2 := Int.emod_lt_of_pos (drawSt cell salt base k).1 hb
        omega
    · intro n hn
      rcases List.mem_append.mp hn with e | e
      · exact h2 n e
      · rw [List.mem_singleton.mp e]
        have := drawMix_ge cell salt k
        omega
theorem draws_lt {cell salt base : Int} (hb : 0 < base) (hB : base ≤ 1000000000) (n : Nat) : ∀ x ∈ draws cell salt n base, 0 ≤ x ∧ x < 1000000000 := drawSt_lt hb hB n
def sp_draws (K : PySem.W.Frag) : Sp := fun vs H Q _ => ∃ (cell salt : Int) (count : Nat) (base : Int), vs = [.int cell, .int salt, .int (count : Int), .int base] ∧ Wd cell ∧ (-100000 ≤ salt ∧ salt ≤ 100000) ∧ count ≤ 90000 ∧ 0 < base ∧ base.natAbs.log2 < 9000 ∧
  ∀ p H', H p = none → Ex H H' → H' p = some (.lst ((draws cell salt count base).map V.int)) → Q (.ref p) H'
theorem cl_draws {cell salt base : Int} {count : Nat} {H : Hp} (h1 : Wd cell) (h2 : -100000 ≤ salt ∧ salt ≤ 100000) (h3 : count ≤ 90000) (h4 : 0 < base) (h5 : base.natAbs.log2 < 9000) :
    SpL (sp_draws K) [.int cell, .int salt, .int (count : Int), .int base] H ((draws cell salt count base).map V.int) := fun H1 e Q q E => ⟨cell, salt, count, base, rfl, h1, h2, h3, h4, h5, fun p H2 hp e2 hl => q p H2 hp e2 hl⟩
theorem ok_law_draws (T : Txt K mg) : FnOk P w K mg base CX0 1 T.f_law_draws T.d_law_draws ["cell", "salt", "count", "base"] (sp_draws K) := by
  refine T.F_law_draws.ok sc_law_draws (fun vs H Q E h => ?_) (fun cdv A outer s H vs Q E hr h => ?_)
  · obtain ⟨cell, salt, count, base, rfl, _⟩ := h
    rfl
  · obtain ⟨cell, salt, count, b, rfl, hc, hs, hn, hb, hbl, q⟩ := h
    have hbw : Wd b := ⟨by omega⟩
    refine ⟨_, pss_cons (ps_set (i := 4) sc_law_draws.nd rfl (by first | exact Or.inl rfl | exact Or.inr rfl) (pe_int))
      (pss_cons (ps_if (pt_cmpR op_ge (pv 0) (pe_op op_pow (pe_int) (pe_int)) (nomark _))
      (pss_one (ps_set (i := 4) sc_law_draws.nd rfl (by first | exact Or.inl rfl | exact Or.inr rfl) (pv 0)))
      (pss_nil))
      (pss_cons (ps_set (i := 5) sc_law_draws.nd rfl (by first | exact Or.inl rfl | exact Or.inr rfl) (pe_lst (pa_nil)))
      (pss_cons (ps_for PassesOwn.never rfl (pi_range1 (by rfl) T.m_range (pa_cons (pv 2) (pa_nil))) (pg_name (i := 6) sc_law_draws.nd rfl (by first | exact Or.inl rfl | exact Or.inr rfl))
      (pss_one (ps_if (pt_cmpR op_gt (pv 4) (pe_int) (nomark _))
      (pss_cons (ps_expr (pe_bm PySem.F.plainAttrs_list PySem.F.slot_list_append PySem.F.type_list_append mt_append (pv 5) (pa_cons (pe_op op_mod (pe_callTy call_int1 (by rfl) T.m_int (by decide +kernel) (pa_cons (pv 4) (pa_nil))) (pv 3)) (pa_nil))))
      (pss_one (ps_set (i := 4) sc_law_draws.nd rfl (by first | exact Or.inl rfl | exact Or.inr rfl) (pe_op op_fdivW (pv 4) (pv 3)))))
      (pss_cons (ps_set (i := 7) sc_law_draws.nd rfl (by first | exact Or.inl rfl | exact Or.inr rfl) (pe_op op_mod (pe_callTy call_int1 (by rfl) T.m_int (by decide +kernel) (pa_cons (pe_op op_add (pe_op op_mulX (pv 0) (pe_int)) (pe_op op_mulX (pe_op op_add (pe_op op_mulX (pv 1) (pe_int)) (pv 6)) (pe_int))) (pa_nil))) (pe_int)))
      (pss_cons (ps_set (i := 7) sc_law_draws.nd rfl (by first | exact Or.inl rfl | exact Or.inr rfl) (pe_op op_mod (pe_callTy call_int1 (by rfl) T.m_int (by decide +kernel) (pa_cons (pe_op op_add (pe_op op_mulX (pe_op op_fdivW (pv 7) (pe_int)) (pe_op op_add (pe_op op_mod (pe_callTy call_int1 (by rfl) T.m_int (by decide +kernel) (pa_cons (pv 7) (pa_nil))) (pe_int)) (pe_int))) (pv 6)) (pa_nil))) (pe_int)))
      (pss_one (ps_expr (pe_bm PySem.F.plainAttrs_list PySem.F.slot_list_append PySem.F.type_list_append mt_append (pv 5) (pa_cons (pe_op op_fdivW (pv 7) (pe_int)) (pa_nil))))))))))
      (pss_one (ps_ret (pv 5)))))), ?_⟩
    refine q_asg ev_c fun H1 e1 => ?_
    refine q_ifAsg (v := .int (drawSt cell salt b 0).1) (b := decide (10 ^ 18 ≤ cell)) (et_test (ev_bin0 (j := 10 ^ 18) (ev_var rfl) (ev_is (ev_bin ev_c ev_c ⟨by decide, by decide, by decide⟩) (by decide)))) (fun h => ?_) (fun h => ?_) fun H2 e2 => ?_
    · have e0 : (drawSt cell salt b 0).1 = cell := if_pos (of_decide_eq_true h)
      rw [e0]
      exact ev_var rfl
    · have e0 : (drawSt cell salt b 0).1 = 0 := if_neg (of_decide_eq_false h)
      rw [e0]
      rfl
    refine q_asgL (el_lst ea_nil (by decide)) fun p H3 hp e3 h3 => ?_
    have hp0 : H p = none := fresh_back (e1.trans e2) hp
    refine q_forR1 (n := (count : Int)) (ea_cons (ev_var rfl) ea_nil) (by omega) (fun i σ' H' => ∃ kv mv : Option V, σ' = [some (.int cell), some (.int salt), some (.int (count : Int)), some (.int b), some (.int (drawSt cell salt b i).1), some (.ref p), kv, mv] ∧ Ex H H' ∧ H' p = some (.lst ((drawSt cell salt b i).2.map V.int)))
      (fun H4 e4 => ⟨none, none, rfl, ((e1.trans e2).trans e3).trans e4, e4 p _ h3⟩) (fun i σ' H' hi hP => ?_) (fun σ' H' hP => ?_)
    · obtain ⟨kv, mv, rfl, eH, hl⟩ := hP
      have hW := (drawSt_ok (salt := salt) hc hb hbw i).1
      have hz : ((drawSt cell salt b i).2.map V.int).length < 100000 := by
        rw [List.length_map, drawSt_len]
        omega
      refine s_if (b := decide (0 < (drawSt cell salt b i).1)) (et_test (ev_bin0 (ev_var rfl) ev_c)) (fun h H1 e1 => ?_) (fun h H1 e1 => ?_)
      · have e0 : drawSt cell salt b (i + 1) = ((drawSt cell salt b i).1 / b, (drawSt cell salt b i).2 ++ [(drawSt cell salt b i).1 % b]) := if_pos (of_decide_eq_true h)
        refine q_app (K := K) (e1 p _ hl) (ev_var rfl) (ev_bin (ev_intI (ev_var rfl)) (ev_var rfl) hb) hz fun H2 e2 => ?_
        refine s_asg (ev_bin (ev_var rfl) (ev_var rfl) ⟨hb, hbl⟩) fun H3 e3 => ⟨some (.int (i : Int)), mv, ?_, (((eH.trans e1).trans e2).mut hp0).trans e3, ?_⟩
        · rw [e0]; rfl
        · rw [e3 p _ upd_same, e0, List.map_append] <;> rfl
      · have e0 : drawSt cell salt b (i + 1) = ((drawSt cell salt b i).1, (drawSt cell salt b i).2 ++ [drawMix cell salt i]) := if_neg (of_decide_eq_false h)
        have hm := Int.emod_nonneg (cell * 48271 + (salt * 97 + (i : Int)) * 69621) (by decide : (2147483647 : Int) ≠ 0)
        have hm2 := Int.emod_lt_of_pos (cell * 48271 + (salt * 97 + (i : Int)) * 69621) (by decide : (0 : Int) < 2147483647)
        refine q_asg (v := .int ((cell * 48271 + (salt * 97 + (i : Int)) * 69621) % 2147483647)) (ev_bin (ev_intI (ev_bin0 (ev_bin (ev_var rfl) ev_c (Wd.mul hc (Wd.lit (by decide)))) (ev_bin (ev_bin0 (ev_bin (ev_var rfl) ev_c (Wd.mul (Wd.small (by omega) (by omega)) (Wd.lit (by decide)))) (ev_var rfl)) ev_c (Wd.mul (Wd.small (by omega) (by omega)) (Wd.lit (by decide)))))) ev_c (by decide)) fun H2 e2 => ?_
        refine q_asg (v := .int (((cell * 48271 + (salt * 97 + (i : Int)) * 69621) % 2147483647 / 8 * ((cell * 48271 + (salt * 97 + (i : Int)) * 69621) % 2147483647 % 50021 + 16807) + (i : Int)) % 998244353)) (ev_bin (ev_intI (ev_bin0 (ev_bin (ev_bin (ev_var rfl) ev_c ⟨by decide, by decide⟩) (ev_bin0 (ev_bin (ev_intI (ev_var rfl)) ev_c (by decide)) ev_c) (Wd.mul (Wd.div (Wd.small (by omega) (by omega))) (Wd.small (by omega) (by omega)))) (ev_var rfl))) ev_c (by decide)) fun H3 e3 => ?_
        refine s_app (K := K) (((e1.trans e2).trans e3) p _ hl) (ev_var rfl) (v := .int (drawMix cell salt i)) (ev_bin (ev_var rfl) ev_c ⟨by decide, by decide⟩) hz fun H4 e4 => ⟨some (.int (i : Int)), some (.int (((cell * 48271 + (salt * 97 + (i : Int)) * 69621) % 2147483647 / 8 * ((cell * 48271 + (salt * 97 + (i : Int)) * 69621) % 2147483647 % 50021 + 16807) + (i : Int)) % 998244353)), ?_, ((((eH.trans e1).trans e2).trans e3).trans e4).mut hp0, ?_⟩
        · rw [e0]; rfl
        · rw [upd_same, e0, List.map_append] <;> rfl
    · obtain ⟨kv, mv, rfl, eH, hl⟩ := hP
      have ec : (count : Int).toNat = count := by omega
      rw [ec] at hl
      exact s_ret (ev_var rfl) fun H1 e1 => q p H1 hp0 (eH.trans e1) (e1 p _ hl)


/-! ### _law_signs -/
def sgnZ : List Nat := [110, 105, 116, 40, 41, 59, 58, 45, 48, 49, 50, 51, 52, 53, 54, 55, 56, 57]
theorem sgn_eq : (Str.ofString "nit();:-0123456789" : Str) = ⟨sgnZ.toArray⟩ := by decide +kernel
def sgnC (n : Int) : Nat := sgnZ.getD (n % 18).toNat 0
def signsC (cell : Int) (n : Nat) : List Nat := (draws cell 4 n 18).map sgnC
def signsT (cell : Int) (n : Nat) : Str := ⟨(signsC cell n).toArray⟩
theorem signsC_len (cell : Int) (n : Nat) : (signsC cell n).length = n := by
  unfold signsC
  rw [List.length_map, draws_len]
def sp_signs : Sp := fun vs H Q _ => ∃ (cell : Int) (n : Nat), vs = [.int cell, .int (n : Int)] ∧ Wd cell ∧ n ≤ 1000 ∧ ∀ H', Ex H H' → Q (.str (signsT cell n)) H'
theorem cv_signs {cell : Int} {n : Nat} {H : Hp} (hc : Wd cell) (hn : n ≤ 1000) : SpV sp_signs [.int cell, .int (n : Int)] H (.str (signsT cell n)) := fun H1 e Q q E => ⟨cell, n, rfl, hc, hn, fun H2 e2 => q H2 e2⟩
theorem ok_law_signs (T : Txt K mg) : FnOk P w K mg base CX0 2 T.f_law_signs T.d_law_signs ["cell", "length"] sp_signs := by
  refine T.F_law_signs.ok sc_law_signs (fun vs H Q E h => ?_) (fun cdv A outer s H vs Q E hr h => ?_)
  · obtain ⟨c, n, rfl, _⟩ := h
    rfl
  · obtain ⟨c, n, rfl, hW, hn, q⟩ := h
    refine ⟨_, pss_cons (ps_set (i := 2) sc_law_signs.nd rfl (by first | exact Or.inl rfl | exact Or.inr rfl) (pe_str))
      (pss_one (ps_ret (pe_join (pe_str) (pe_lc (own := [("number", 3)]) (g := gName 3) (tt := tYes) rfl sc_law_signs.nd (pi_list (pe_call (ok_law_draws T) (hr.mono (by first | decide | omega)) (by rfl) T.g_law_draws T.F_law_draws.kp T.b_law_draws .nil pass0 (pa_cons (pv 0) (pa_cons (pe_int) (pa_cons (pv 1) (pa_cons (pe_int) (pa_nil))))))) (blkOk_by (N := ["cell", "length", "signs", "number"]) (sc := defScope s_law_signs) (by decide +kernel)) (fun _ _ _ _ _ => pg_name (i := 3) sc_law_signs.nd rfl (Or.inl rfl)) (fun _ _ _ _ _ => pts_nil) (fun _ _ _ _ _ => pe_ix ix_str (pv 2) (pe_op op_mod (pe_callTy call_int1 (by rfl) T.m_int (by decide +kernel) (pa_cons (pv 3) (pa_nil))) (pe_int)) (fun _ _ => rfl)))))), ?_⟩
    refine q_asg ev_c fun H1 e1 => ?_
    have et : signsT c n = Txt.join (Str.ofString "") ((signsC c n).map fun c => (⟨#[c]⟩ : Str)) := (join_signs (signsC c n)).symm
    refine s_ret (v := .str (signsT c n)) ?_ fun H4 e4 => q H4 (e1.trans e4)
    rw [et]
    refine ev_joinN (K := K) ev_c ?_ ?_
    · have em : ((signsC c n).map fun c => (⟨#[c]⟩ : Str)).map V.str = (draws c 4 n 18).map fun m => V.str ⟨#[sgnC m]⟩ := by
        unfold signsC
        rw [List.map_map, List.map_map] <;> rfl
      rw [em]
      refine el_mapN (K := K) (el_call (ea_cons (ev_var rfl) (ea_cons ev_c (ea_cons (ev_var rfl) (ea_cons ev_c ea_nil)))) (cl_draws hW (by decide) (by omega) (by decide) (by decide))) (by rw [draws_len]; omega) (fun x => rfl) fun m _ H5 e5 => ?_
      have h1 := Int.emod_nonneg m (by decide : (18 : Int) ≠ 0)
      have h2 := Int.emod_lt_of_pos m (by decide : (0 : Int) < 18)
      exact ev_ixS (z := ⟨sgnZ.toArray⟩) (c := sgnC m) (ev_is (ev_var rfl) (congrArg V.str sgn_eq)) (ev_bin (ev_intI (ev_var rfl)) ev_c (by decide)) (by decide +kernel) (at_cps rfl h1 (by show m % 18 < (18 : Nat); omega))
    · rw [sum_ones, List.length_map, signsC_len]
      show n + n * 0 ≤ 16777216
      omega


/-! ### _law_char -/
/-- the law's signs -/
def signsZ : List Nat := [32, 33, 34, 35, 36] ++ (List.range 89).map (· + 38)
theorem signs_len : signsZ.length = 94 := by decide +kernel
theorem signs_ok : ∀ c ∈ signsZ, 32 ≤ c ∧ c ≤ 126 ∧ c ≠ 37 := by decide +kernel
theorem signs_eq : (Str.ofString " !\"#$&'()*+,-./0123456789:;<=>?@ABCDEFGHIJKLMNOPQRSTUVWXYZ[\\]^_`" ++ Str.ofString "abcdefghijklmnopqrstuvwxyz{|}~" : Str) = ⟨signsZ.toArray⟩ := by decide +kernel
def charC (n : Int) : Nat := signsZ.getD (n % 94).toNat 0
def charZ (n : Int) : Str := ⟨#[charC n]⟩
theorem charC_mem (n : Int) : charC n ∈ signsZ := by
  have h1 := Int.emod_nonneg n (by decide : (94 : Int) ≠ 0)
  have h2 := Int.emod_lt_of_pos n (by decide : (0 : Int) < 94)
  have h3 : (n % 94).toNat < signsZ.length := by rw [signs_len]; omega
  unfold charC
  rw [List.getD_eq_getElem?_getD, List.getElem?_eq_getElem h3]
  exact List.getElem_mem h3
def sp_char : Sp := fun vs H Q _ => ∃ n : Int, vs = [.int n] ∧ ∀ H', Ex H H' → Q (.str (charZ n)) H'
theorem cv_char {n : Int} {H : Hp} : SpV sp_char [.int n] H (.str (charZ n)) := fun H1 e Q q E => ⟨n, rfl, fun H2 e2 => q H2 e2⟩
theorem ok_law_char (T : Txt K mg) : FnOk P w K mg base CX0 1 T.f_law_char T.d_law_char ["number"] sp_char := by
  refine T.F_law_char.ok sc_law_char (fun vs H Q E h => ?_) (fun cdv A outer s H vs Q E hr h => ?_)
  · obtain ⟨n, rfl, _⟩ := h
    rfl
  · obtain ⟨n, rfl, q⟩ := h
    have h1 := Int.emod_nonneg n (by decide : (94 : Int) ≠ 0)
    have h2 := Int.emod_lt_of_pos n (by decide : (0 : Int) < 94)
    refine ⟨_, pss_cons (ps_set (i := 1) sc_law_char.nd rfl (by first | exact Or.inl rfl | exact Or.inr rfl) (pe_str))
      (pss_cons (ps_set (i := 1) sc_law_char.nd rfl (by first | exact Or.inl rfl | exact Or.inr rfl) (pe_op op_add_str (pv 1) (pe_str)))
      (pss_one (ps_ret (pe_ix ix_str (pv 1) (pe_op op_mod (pe_callTy call_int1 (by rfl) T.m_int (by decide +kernel) (pa_cons (pv 0) (pa_nil))) (pe_int)) (fun _ _ => rfl))))), ?_⟩
    refine q_asg ev_c fun H1 e1 => ?_
    refine q_asg (ev_addS (ev_var rfl) ev_c (by decide +kernel)) fun H2 e2 => ?_
    refine s_ret (ev_ixS (z := ⟨signsZ.toArray⟩) (c := charC n) (ev_is (ev_var rfl) (congrArg V.str signs_eq)) (ev_bin (ev_intI (ev_var rfl)) ev_c (by decide)) (by decide +kernel) (at_cps rfl h1 (by rw [signs_len]; exact h2))) fun H3 e3 => q H3 ((e1.trans e2).trans e3)


/-! ### _law_text -/
def textLen (cell : Int) : Nat := ([0, 1, 2, 3, 4, 6, (cell / 8 % 61).toNat, 60] : List Nat).getD (cell % 8).toNat 0
theorem textLen_le (cell : Int) : textLen cell ≤ 60 := by
  have h1 := Int.emod_nonneg (cell / 8) (by decide : (61 : Int) ≠ 0)
  have h2 := Int.emod_lt_of_pos (cell / 8) (by decide : (0 : Int) < 61)
  have h3 : ∀ x ∈ ([0, 1, 2, 3, 4, 6, (cell / 8 % 61).toNat, 60] : List Nat), x ≤ 60 := by
    intro x hx
    simp only [List.mem_cons, List.not_mem_nil, or_false] at hx
    omega
  unfold textLen
  rw [List.getD_eq_getElem?_getD]
  cases e : ([0, 1, 2, 3, 4, 6, (cell / 8 % 61).toNat, 60] : List Nat)[(cell % 8).toNat]? with
  | none => exact Nat.zero_le _
  | some x => exact h3 x (List.mem_of_getElem? e)
def textC (cell : Int) : List Nat := (draws (cell / 8) (cell % 8) (textLen cell) 94).map charC
def textZ (cell : Int) : Str := ⟨(textC cell).toArray⟩
theorem textC_len (cell : Int) : (textC cell).length ≤ 60 := by
  unfold textC
  rw [List.length_map, draws_len]
  exact textLen_le cell
theorem textZ_len (cell : Int) : (textZ cell).length ≤ 60 := textC_len cell
theorem textC_ok (cell : Int) : ∀ c ∈ textC cell, c ∈ signsZ := fun c hc => by
  obtain ⟨n, _, e⟩ := List.mem_map.mp hc
  rw [← e]
  exact charC_mem n
def sp_text : Sp := fun vs H Q _ => ∃ cell : Int, vs = [.int cell] ∧ Wd cell ∧ ∀ H', Ex H H' → Q (.str (textZ cell)) H'
theorem cv_text {cell : Int} {H : Hp} (hc : Wd cell) : SpV sp_text [.int cell] H (.str (textZ cell)) := fun H1 e Q q E => ⟨cell, rfl, hc, fun H2 e2 => q H2 e2⟩
theorem ok_law_text (T : Txt K mg) : FnOk P w K mg base CX0 2 T.f_law_text T.d_law_text ["cell"] sp_text := by
  refine T.F_law_text.ok sc_law_text (fun vs H Q E h => ?_) (fun cdv A outer s H vs Q E hr h => ?_)
  · obtain ⟨n, rfl, _⟩ := h
    rfl
  · obtain ⟨n, rfl, hW, q⟩ := h
    have h1 := Int.emod_nonneg n (by decide : (8 : Int) ≠ 0)
    have h2 := Int.emod_lt_of_pos n (by decide : (0 : Int) < 8)
    have h3 := Int.emod_nonneg (n / 8) (by decide : (61 : Int) ≠ 0)
    have hL := textLen_le n
    refine ⟨_, pss_cons (ps_set (i := 1) sc_law_text.nd rfl (by first | exact Or.inl rfl | exact Or.inr rfl) (pe_op op_mod (pe_callTy call_int1 (by rfl) T.m_int (by decide +kernel) (pa_cons (pv 0) (pa_nil))) (pe_int)))
      (pss_cons (ps_set (i := 2) sc_law_text.nd rfl (by first | exact Or.inl rfl | exact Or.inr rfl) (pe_op op_fdivW (pv 0) (pe_int)))
      (pss_cons (ps_set (i := 3) sc_law_text.nd rfl (by first | exact Or.inl rfl | exact Or.inr rfl) (pe_ix (r := rIxL K) ix_list (pe_lst (pa_cons (pe_int) (pa_cons (pe_int) (pa_cons (pe_int) (pa_cons (pe_int) (pa_cons (pe_int) (pa_cons (pe_int) (pa_cons (pe_op op_mod (pe_callTy call_int1 (by rfl) T.m_int (by decide +kernel) (pa_cons (pv 2) (pa_nil))) (pe_int)) (pa_cons (pe_int) (pa_nil)))))))))) (pv 1) (fun _ _ => rfl)))
      (pss_one (ps_ret (pe_join (pe_str) (pe_lc (own := [("number", 4)]) (g := gName 4) (tt := tYes) rfl sc_law_text.nd (pi_list (pe_call (ok_law_draws T) (hr.mono (by first | decide | omega)) (by rfl) T.g_law_draws T.F_law_draws.kp T.b_law_draws .nil pass0 (pa_cons (pv 2) (pa_cons (pv 1) (pa_cons (pv 3) (pa_cons (pe_int) (pa_nil))))))) (blkOk_by (N := ["cell", "choice", "rest", "length", "number"]) (sc := defScope s_law_text) (by decide +kernel)) (fun _ _ _ _ _ => pg_name (i := 4) sc_law_text.nd rfl (Or.inl rfl)) (fun _ _ _ _ _ => pts_nil) (fun _ _ _ _ _ => pe_call (ok_law_char T) (hr.mono (by first | decide | omega)) (by rfl) T.g_law_char T.F_law_char.kp T.b_law_char .nil pass0 (pa_cons (pv 4) (pa_nil))))))))), ?_⟩
    refine q_asg (ev_bin (ev_intI (ev_var rfl)) ev_c (by decide)) fun H1 e1 => ?_
    refine q_asg (ev_bin (ev_var rfl) ev_c ⟨by decide, by decide⟩) fun H2 e2 => ?_
    refine q_asg (v := .int (textLen n : Int)) (ev_ixN (el_lst (ea_cons ev_c (ea_cons ev_c (ea_cons ev_c (ea_cons ev_c (ea_cons ev_c (ea_cons ev_c (ea_cons (ev_bin (ev_intI (ev_var rfl)) ev_c (by decide)) (ea_cons ev_c ea_nil)))))))) (by show 8 ≤ 100000; decide)) (fun _ _ => ev_var rfl) (atI_of h1 ?_)) fun H3 e3 => ?_
    · unfold textLen
      have hh : n % 8 = 0 ∨ n % 8 = 1 ∨ n % 8 = 2 ∨ n % 8 = 3 ∨ n % 8 = 4 ∨ n % 8 = 5 ∨ n % 8 = 6 ∨ n % 8 = 7 := by omega
      rcases hh with e | e | e | e | e | e | e | e <;> rw [e]
      all_goals first | rfl | skip
      show some (V.int (n / 8 % 61)) = some (V.int (((n / 8 % 61).toNat : Nat) : Int))
      rw [Int.toNat_of_nonneg h3]
    · have et : textZ n = Txt.join (Str.ofString "") ((textC n).map fun c => (⟨#[c]⟩ : Str)) := (join_signs (textC n)).symm
      refine s_ret (v := .str (textZ n)) ?_ fun H4 e4 => q H4 (((e1.trans e2).trans e3).trans e4)
      rw [et]
      refine ev_joinN (K := K) ev_c ?_ ?_
      · have em : ((textC n).map fun c => (⟨#[c]⟩ : Str)).map V.str = (draws (n / 8) (n % 8) (textLen n) 94).map fun m => V.str (charZ m) := by
          unfold textC
          rw [List.map_map, List.map_map] <;> rfl
        rw [em]
        refine el_mapN (K := K) (el_call (ea_cons (ev_var rfl) (ea_cons (ev_var rfl) (ea_cons (ev_var rfl) (ea_cons ev_c ea_nil)))) (cl_draws (Wd.div hW) (by omega) (by omega) (by decide) (by decide))) (by rw [draws_len]; omega) (fun x => rfl) fun m _ H5 e5 => ev_call (ea_cons (ev_var rfl) ea_nil) cv_char
      · rw [sum_ones, List.length_map]
        have := textC_len n
        show (textC n).length + (textC n).length * 0 ≤ 16777216
        omega


/-! ### _law_leaf -/
def leafLen (cell : Int) : Nat := ([(cell / 4 % 12).toNat, (9 + cell / 4 % 3).toNat, (99 + cell / 4 % 3).toNat, (cell / 4 % 130).toNat] : List Nat).getD (cell / 4 / 12 % 4).toNat 0
def leafZ (cell : Int) : It := if cell % 4 = 0 then .non else if cell % 4 = 1 then .int (integerZ (cell / 4)) else if cell % 4 = 2 then .str (textZ (cell / 4)) else .str (signsT (cell / 4 / 48) (leafLen cell))
theorem leafLen_le (cell : Int) : leafLen cell ≤ 130 := by
  have a1 := Int.emod_nonneg (cell / 4) (by decide : (12 : Int) ≠ 0)
  have a2 := Int.emod_lt_of_pos (cell / 4) (by decide : (0 : Int) < 12)
  have a3 := Int.emod_nonneg (cell / 4) (by decide : (3 : Int) ≠ 0)
  have a4 := Int.emod_lt_of_pos (cell / 4) (by decide : (0 : Int) < 3)
  have a5 := Int.emod_nonneg (cell / 4) (by decide : (130 : Int) ≠ 0)
  have a6 := Int.emod_lt_of_pos (cell / 4) (by decide : (0 : Int) < 130)
  have hh : cell / 4 / 12 % 4 = 0 ∨ cell / 4 / 12 % 4 = 1 ∨ cell / 4 / 12 % 4 = 2 ∨ cell / 4 / 12 % 4 = 3 := by omega
  unfold leafLen
  rcases hh with e | e | e | e <;> rw [e]
  · show (cell / 4 % 12).toNat ≤ 130; omega
  · show (9 + cell / 4 % 3).toNat ≤ 130; omega
  · show (99 + cell / 4 % 3).toNat ≤ 130; omega
  · show (cell / 4 % 130).toNat ≤ 130; omega
theorem leafZ_sc (cell : Int) : (leafZ cell).sc := by
  unfold leafZ
  split
  · trivial
  · split
    · exact integerZ_lt _
    · split
      · have := textZ_len (cell / 4)
        show (textZ (cell / 4)).length ≤ 200
        omega
      · have h1 := leafLen_le cell
        have h2 := signsC_len (cell / 4 / 48) (leafLen cell)
        show (signsT (cell / 4 / 48) (leafLen cell)).length ≤ 200
        rw [str_len]
        show (signsC (cell / 4 / 48) (leafLen cell)).length ≤ 200
        omega
def sp_leaf : Sp := fun vs H Q _ => ∃ cell : Int, vs = [.int cell] ∧ Wd cell ∧ ∀ H', Ex H H' → Q (vz (leafZ cell)) H'
theorem cv_leaf {cell : Int} {H : Hp} (hc : Wd cell) : SpV sp_leaf [.int cell] H (vz (leafZ cell)) := fun H1 e Q q E => ⟨cell, rfl, hc, fun H2 e2 => q H2 e2⟩
theorem ok_law_leaf (T : Txt K mg) : FnOk P w K mg base CX0 3 T.f_law_leaf T.d_law_leaf ["cell"] sp_leaf := by
  refine T.F_law_leaf.ok sc_law_leaf (fun vs H Q E h => ?_) (fun cdv A outer s H vs Q E hr h => ?_)
  · obtain ⟨n, rfl, _⟩ := h
    rfl
  · obtain ⟨n, rfl, hW, q⟩ := h
    unfold leafZ at q
    have h4 := leafLen_le n
    refine ⟨_, pss_cons (ps_set (i := 1) sc_law_leaf.nd rfl (by first | exact Or.inl rfl | exact Or.inr rfl) (pe_op op_mod (pe_callTy call_int1 (by rfl) T.m_int (by decide +kernel) (pa_cons (pv 0) (pa_nil))) (pe_int)))
      (pss_cons (ps_set (i := 2) sc_law_leaf.nd rfl (by first | exact Or.inl rfl | exact Or.inr rfl) (pe_op op_fdivW (pv 0) (pe_int)))
      (pss_cons (ps_if (pt_cmpR op_eq (pv 1) (pe_int) (nomark _))
      (pss_one (ps_ret (pe_non)))
      (pss_nil))
      (pss_cons (ps_if (pt_cmpR op_eq (pv 1) (pe_int) (nomark _))
      (pss_one (ps_ret (pe_call (ok_law_integer T) (hr.mono (by first | decide | omega)) (by rfl) T.g_law_integer T.F_law_integer.kp T.b_law_integer .nil pass0 (pa_cons (pv 2) (pa_nil)))))
      (pss_nil))
      (pss_cons (ps_if (pt_cmpR op_eq (pv 1) (pe_int) (nomark _))
      (pss_one (ps_ret (pe_call (ok_law_text T) (hr.mono (by first | decide | omega)) (by rfl) T.g_law_text T.F_law_text.kp T.b_law_text .nil pass0 (pa_cons (pv 2) (pa_nil)))))
      (pss_nil))
      (pss_cons (ps_set (i := 3) sc_law_leaf.nd rfl (by first | exact Or.inl rfl | exact Or.inr rfl) (pe_lst (pa_cons (pe_op op_mod (pe_callTy call_int1 (by rfl) T.m_int (by decide +kernel) (pa_cons (pv 2) (pa_nil))) (pe_int)) (pa_cons (pe_op op_add (pe_int) (pe_op op_mod (pe_callTy call_int1 (by rfl) T.m_int (by decide +kernel) (pa_cons (pv 2) (pa_nil))) (pe_int))) (pa_cons (pe_op op_add (pe_int) (pe_op op_mod (pe_callTy call_int1 (by rfl) T.m_int (by decide +kernel) (pa_cons (pv 2) (pa_nil))) (pe_int))) (pa_cons (pe_op op_mod (pe_callTy call_int1 (by rfl) T.m_int (by decide +kernel) (pa_cons (pv 2) (pa_nil))) (pe_int)) (pa_nil)))))))
      (pss_one (ps_ret (pe_call (ok_law_signs T) (hr.mono (by first | decide | omega)) (by rfl) T.g_law_signs T.F_law_signs.kp T.b_law_signs .nil pass0 (pa_cons (pe_op op_fdivW (pv 2) (pe_int)) (pa_cons (pe_ix (r := rIxL K) ix_list (pv 3) (pe_op op_mod (pe_callTy call_int1 (by rfl) T.m_int (by decide +kernel) (pa_cons (pe_op op_fdivW (pv 2) (pe_int)) (pa_nil))) (pe_int)) (fun _ _ => rfl)) (pa_nil))))))))))), ?_⟩
    refine q_asg (ev_bin (ev_intI (ev_var rfl)) ev_c (by decide)) fun H1 e1 => ?_
    refine q_asg (ev_bin (ev_var rfl) ev_c ⟨by decide, by decide⟩) fun H2 e2 => ?_
    have e := e1.trans e2
    refine q_when (et_test (ev_eqI (ev_var rfl) ev_c)) (fun hb H3 e3 => ?_) (fun hb H3 e3 => ?_)
    · rw [if_pos (of_decide_eq_true hb)] at q
      exact s_ret ev_c fun H4 e4 => q H4 ((e.trans e3).trans e4)
    rw [if_neg (of_decide_eq_false hb)] at q
    have e := e.trans e3
    refine q_when (et_test (ev_eqI (ev_var rfl) ev_c)) (fun hb H3 e3 => ?_) (fun hb H3 e3 => ?_)
    · rw [if_pos (of_decide_eq_true hb)] at q
      exact s_ret (ev_call (ea_cons (ev_var rfl) ea_nil) (cv_integer (Wd.div hW))) fun H4 e4 => q H4 ((e.trans e3).trans e4)
    rw [if_neg (of_decide_eq_false hb)] at q
    have e := e.trans e3
    refine q_when (et_test (ev_eqI (ev_var rfl) ev_c)) (fun hb H3 e3 => ?_) (fun hb H3 e3 => ?_)
    · rw [if_pos (of_decide_eq_true hb)] at q
      exact s_ret (ev_call (ea_cons (ev_var rfl) ea_nil) (cv_text (Wd.div hW))) fun H4 e4 => q H4 ((e.trans e3).trans e4)
    rw [if_neg (of_decide_eq_false hb)] at q
    have e := e.trans e3
    refine q_asgL (el_lst (ea_cons (ev_bin (ev_intI (ev_var rfl)) ev_c (by decide)) (ea_cons (ev_bin0 ev_c (ev_bin (ev_intI (ev_var rfl)) ev_c (by decide))) (ea_cons (ev_bin0 ev_c (ev_bin (ev_intI (ev_var rfl)) ev_c (by decide))) (ea_cons (ev_bin (ev_intI (ev_var rfl)) ev_c (by decide)) ea_nil)))) (by show 4 ≤ 100000; decide)) fun l H4 _ e4 h4 => ?_
    have m0 := Int.emod_nonneg (n / 4 / 12) (by decide : (4 : Int) ≠ 0)
    refine s_ret (ev_call (ea_cons (ev_bin (ev_var rfl) ev_c ⟨by decide, by decide⟩) (ea_cons (ev_ixL (K := K) (v := .int (leafLen n : Int)) (ev_var rfl) (ev_bin (ev_intI (ev_bin (ev_var rfl) ev_c ⟨by decide, by decide⟩)) ev_c (by decide)) (sq_of h4) (atI_of m0 ?_)) ea_nil)) (cv_signs (Wd.div (Wd.div hW)) (by omega))) fun H5 e5 => q H5 ((e.trans e4).trans e5)
    have a1 := Int.emod_nonneg (n / 4) (by decide : (12 : Int) ≠ 0)
    have a3 := Int.emod_nonneg (n / 4) (by decide : (3 : Int) ≠ 0)
    have a5 := Int.emod_nonneg (n / 4) (by decide : (130 : Int) ≠ 0)
    have hh : n / 4 / 12 % 4 = 0 ∨ n / 4 / 12 % 4 = 1 ∨ n / 4 / 12 % 4 = 2 ∨ n / 4 / 12 % 4 = 3 := by omega
    unfold leafLen
    rcases hh with e | e | e | e <;> rw [e]
    · show some (V.int (n / 4 % 12)) = some (V.int (((n / 4 % 12).toNat : Nat) : Int))
      rw [Int.toNat_of_nonneg a1]
    · show some (V.int (9 + n / 4 % 3)) = some (V.int (((9 + n / 4 % 3).toNat : Nat) : Int))
      rw [Int.toNat_of_nonneg (by omega)]
    · show some (V.int (99 + n / 4 % 3)) = some (V.int (((99 + n / 4 % 3).toNat : Nat) : Int))
      rw [Int.toNat_of_nonneg (by omega)]
    · show some (V.int (n / 4 % 130)) = some (V.int (((n / 4 % 130).toNat : Nat) : Int))
      rw [Int.toNat_of_nonneg a5]


/-! ### _law_leaf_text -/
def sp_leaf_text : Sp := fun vs H Q _ => ∃ d : It, vs = [vz d] ∧ d.sc ∧ ∀ H', Ex H H' → Q (.str ⟨(encC d).toArray⟩) H'
theorem cv_leaf_text {d : It} {H : Hp} (h : d.sc) : SpV sp_leaf_text [vz d] H (.str ⟨(encC d).toArray⟩) := fun H1 e Q q E => ⟨d, rfl, h, fun H2 e2 => q H2 e2⟩
theorem ok_law_leaf_text (T : Txt K mg) : FnOk P w K mg base CX0 1 T.f_law_leaf_text T.d_law_leaf_text ["leaf"] sp_leaf_text := by
  refine T.F_law_leaf_text.ok sc_law_leaf_text (fun vs H Q E h => ?_) (fun cdv A outer s H vs Q E hr h => ?_)
  · obtain ⟨d, rfl, _⟩ := h
    rfl
  · obtain ⟨d, rfl, hsc, q⟩ := h
    have hf := It.sc_fit hsc 0
    have hz : (encC d).length ≤ 16000000 := Nat.le_trans (It.sc_len hsc) (by decide)
    refine ⟨_, pss_cons (ps_if (pt_cmpR op_isN (pv 0) (pe_non) (nomark _))
      (pss_one (ps_ret (pe_str)))
      (pss_nil))
      (pss_cons (ps_if (pt_val (pe_callB (r := rIsi K) call_isi (by rfl) T.m_isinstance (by decide +kernel) (pa_cons (pv 0) (pa_cons (pe_bltn (v := .ty "str") (by rfl) T.m_str (by decide +kernel) rfl) (pa_nil)))))
      (pss_one (ps_ret (pe_op op_add_str (pe_op op_add_str (pe_op op_add_str (pe_str) (pe_callTy call_str_int (by rfl) T.m_str (by decide +kernel) (pa_cons (pe_callB call_len_str (by rfl) T.m_len (by decide +kernel) (pa_cons (pv 0) (pa_nil))) (pa_nil)))) (pe_str)) (pv 0))))
      (pss_nil))
      (pss_one (ps_ret (pe_op op_add_str (pe_op op_add_str (pe_str) (pe_callTy call_str_int (by rfl) T.m_str (by decide +kernel) (pa_cons (pv 0) (pa_nil)))) (pe_str))))), ?_⟩
    cases d with
    | tup xs => exact hsc.elim
    | non => exact q_when (b := true) (et_test (ev_isNt (ev_var rfl))) (fun _ H1 e1 => s_ret ev_c fun H2 e2 => q H2 (e1.trans e2)) (fun z => nomatch z)
    | int i =>
      refine q_when (b := false) (et_test (ev_isNf (v := .int i) (ev_var rfl))) (fun z => nomatch z) fun _ H1 e1 => ?_
      refine q_when (b := false) (et_B (ev_isi (K := K) (a := "int") (x := .int i) (ev_var rfl) (fun _ _ => .base (.int i)) (by decide +kernel))) (fun z => nomatch z) fun _ H2 e2 => ?_
      exact wr_int hf hz fun H4 e4 => q H4 ((e1.trans e2).trans e4)
    | str z =>
      refine q_when (b := false) (et_test (ev_isNf (v := .str z) (ev_var rfl))) (fun z => nomatch z) fun _ H1 e1 => ?_
      refine q_when (b := true) (et_B (ev_isi (K := K) (a := "str") (x := .str z) (ev_var rfl) (fun _ _ => .base (.str z)) (by decide +kernel))) (fun _ H2 e2 => ?_) (fun z => nomatch z)
      exact wr_str hf hz fun H4 e4 => q H4 ((e1.trans e2).trans e4)


/-! ### _law_built -/
/-! what the building loop holds: the items with a depth each -/
theorem cut_lo (xs : List V) (n : Nat) (h : n ≤ xs.length) : cutV xs none (some (n : Int)) = xs.take n := by
  unfold cutV
  rw [HT.sIx_none, HT.sIx_nat, List.drop_zero, Nat.sub_zero, Nat.min_eq_left h]
theorem cut_hi (xs : List V) (n : Nat) (h : n ≤ xs.length) : cutV xs (some (n : Int)) none = xs.drop n := by
  unfold cutV
  rw [HT.sIx_none, HT.sIx_nat, Nat.min_eq_left h]
  exact List.take_of_length_le (by rw [List.length_drop]; omega)
theorem ixN_last (n : Nat) : ixN (n + 1) (-1) = some n := by
  unfold ixN
  rw [if_neg (by decide), if_pos (by omega)]
  exact congrArg some (by omega)
theorem el_cat {σ : L2.St} {H : Hp} {ta tb : TE} {xs ys : List V} (ha : EvL ta σ H xs) (hb : EvL tb σ H ys) (hz : xs.length + ys.length ≤ 100000) : EvL (tOp rCat ta tb) σ H (xs ++ ys) := fun H1 e Q q =>
  ha H1 e _ fun p H2 hp e2 h2 => hb H2 (e.trans e2) _ fun r H3 hr e3 h3 => ⟨p, r, xs, ys, rfl, rfl, e3 p _ h2, h3, sz_of hz, fun l hl => q l _ (fresh_back (e2.trans e3) hl) ((e2.trans e3).trans (Ex.new hl)) upd_same⟩
theorem q_maxAsg {K : PySem.W.Frag} {σ : L2.St} {H : Hp} {te : TE} {ns : List Int} {tz : TS} {D : Ends} {i : Nat} (h : EvL te σ H (ns.map V.int)) (h0 : 0 < ns.length) (k : ∀ m H1, Ex H H1 → m ∈ ns → (∀ y ∈ ns, y ≤ m) → tz D (σ.set i (some (.int (1 + m)))) H1) :
    tSeq (tAsg (tOp (rI0 fun i j => .int (i + j)) (tC (.int 1)) (tCB (rMax K) (tCons te tNil))) (gName i)) tz D σ H :=
  h H (Ex.refl H) _ fun p H1 _ e1 hp => ⟨p, ns, rfl, sq_of hp, h0, fun m hm hle => ⟨1, m, rfl, rfl, k m H1 e1 hm hle⟩⟩
theorem ev_min2 {σ : L2.St} {H : Hp} {ta tb : TE} {i j : Int} (ha : Ev ta σ H (.int i)) (hb : Ev tb σ H (.int j)) : Ev (tCB (fun xs H Q => ∃ i j, xs = [V.int i, V.int j] ∧ Q (.int (if j < i then j else i)) H) (tCons ta (tCons tb tNil))) σ H (.int (if j < i then j else i)) := fun H1 e Q q =>
  ha H1 e _ fun H2 e2 => hb H2 (e.trans e2) _ fun H3 e3 => ⟨i, j, rfl, q H3 (e2.trans e3)⟩
/-- a list of one new tuple -/
theorem el_one {te : TE} {σ : L2.St} {H : Hp} {xs : List V} (h : EvU te σ H xs) : ∀ H1, Ex H H1 → ∀ Q : VK, (∀ t l H2, H1 l = none → Ex H1 H2 → H2 t = some (.tup xs) → H2 l = some (.lst [.ref t]) → Q (.ref l) H2) → tLst (tCons te tNil) σ H1 Q := fun H1 e Q q =>
  h H1 e _ fun t H2 _ e2 h2 => ⟨(by show 1 ≤ sizeLine; decide), fun r hr => q t r _ (fresh_back e2 hr) (e2.trans (Ex.new hr)) (by rw [upd_ne (ne_of_none h2 hr)]; exact h2) upd_same⟩
theorem q_wrap {K : PySem.W.Frag} {σ : L2.St} {H : Hp} {te ts : TE} {a : Addr} {xs : List V} {n : Nat} {tz : TS} {D : Ends} {i : Nat} (h : ∀ H1, Ex H H1 → Ev te σ H1 (.ref a)) (hs : ∀ H1, Ex H H1 → Ev ts σ H1 (.int (n : Int))) (hx : SqL K H a xs) (hn : n ≤ xs.length) (hz : xs.length ≤ 1000)
    (k : ∀ p t H1, Ex H H1 → H p = none → H1 t = some (.tup (xs.drop n)) → H1 p = some (.lst (xs.take n ++ [.ref t])) → tz D (σ.set i (some (.ref p))) H1) :
    tSeq (tAsg (tOp rCat (tSl (rSlL K) te tNoPart (tPart ts)) (tLst (tCons (tCB (rTupOf K) (tCons (tSl (rSlL K) te (tPart ts) tNoPart) tNil)) tNil))) (gName i)) tz D σ H := by
  refine (el_sl (K := K) (h H (Ex.refl H)) eo_none (eo_some (hs H (Ex.refl H))) hx) H (Ex.refl H) _ fun p H1 hp e1 h1 => ?_
  refine el_one (eu_ofN (K := K) (el_sl (K := K) (h H1 e1) (eo_some (hs H1 e1)) eo_none (ex_l e1 hx))) H1 (Ex.refl H1) _ fun t r H2 hr e2 h2 h3 => ?_
  rw [cut_lo xs n hn] at h1
  rw [cut_hi xs n hn] at h2
  refine ⟨p, r, xs.take n, [.ref t], rfl, rfl, e2 p _ h1, h3, (by rw [List.length_take]; exact Nat.le_trans (show _ ≤ 2000 by show min n xs.length + 1 ≤ 2000; omega) (by decide)), fun l hl => ?_⟩
  have n3 : t ≠ l := ne_of_none h2 hl
  exact k l t _ ((e1.trans e2).trans (Ex.new hl)) (fresh_back (e1.trans e2) hl) (by rw [upd_ne n3]; exact h2) upd_same
/-- the last item of a list is stored anew -/
theorem set_last {xs : List V} {x v : V} : (xs ++ [x]).set xs.length v = xs ++ [v] := by
  rw [List.set_append_right _ _ (Nat.le_refl _), Nat.sub_self]
  all_goals rfl
theorem s_setLastV {σ : L2.St} {H : Hp} {te ta tb : TE} {xs : List V} {x v : V} {p : Addr} {D : Ends} (h : Ev te σ H v) (ha : ∀ H1, Ex H H1 → Ev ta σ H1 (.ref p)) (hb : ∀ H1, Ex H H1 → Ev tb σ H1 (.int (-1))) (hp : H p = some (.lst (xs ++ [x])))
    (k : ∀ H1, Ex H H1 → D.nx σ (upd H1 p (.lst (xs ++ [v])))) : tAsg te (gSub ta tb rSetL) D σ H := h H (Ex.refl H) _ fun H1 e1 => ha H1 e1 H1 (Ex.refl H1) _ fun H2 e2 => hb H2 (e1.trans e2) H2 (Ex.refl H2) _ fun H3 e3 => by
  refine ⟨p, xs ++ [x], -1, xs.length, rfl, rfl, ((e1.trans e2).trans e3) p _ hp, by rw [List.length_append]; exact ixN_last _, ?_⟩
  rw [set_last]
  exact k H3 ((e1.trans e2).trans e3)
theorem q_setLastV {σ : L2.St} {H : Hp} {te ta tb : TE} {xs : List V} {x v : V} {p : Addr} {tz : TS} {D : Ends} (h : Ev te σ H v) (ha : ∀ H1, Ex H H1 → Ev ta σ H1 (.ref p)) (hb : ∀ H1, Ex H H1 → Ev tb σ H1 (.int (-1))) (hp : H p = some (.lst (xs ++ [x])))
    (k : ∀ H1, Ex H H1 → tz D σ (upd H1 p (.lst (xs ++ [v])))) : tSeq (tAsg te (gSub ta tb rSetL)) tz D σ H := s_setLastV (D := { D with nx := tz D }) h ha hb hp k
theorem q_setLast {σ : L2.St} {H : Hp} {te ta tb : TE} {xs ys : List V} {x : V} {p : Addr} {tz : TS} {D : Ends} (h : EvU te σ H ys) (ha : ∀ H1, Ex H H1 → Ev ta σ H1 (.ref p)) (hb : ∀ H1, Ex H H1 → Ev tb σ H1 (.int (-1))) (hp : H p = some (.lst (xs ++ [x])))
    (k : ∀ t H1, H t = none → Ex H H1 → H1 t = some (.tup ys) → tz D σ (upd H1 p (.lst (xs ++ [.ref t])))) : tSeq (tAsg te (gSub ta tb rSetL)) tz D σ H := h H (Ex.refl H) _ fun t H1 ht e1 h1 => ha H1 e1 H1 (Ex.refl H1) _ fun H2 e2 => hb H2 (e1.trans e2) H2 (Ex.refl H2) _ fun H3 e3 => by
  refine ⟨p, xs ++ [x], -1, xs.length, rfl, rfl, ((e1.trans e2).trans e3) p _ hp, by rw [List.length_append]; exact ixN_last _, ?_⟩
  rw [set_last]
  exact k t H3 ht ((e1.trans e2).trans e3) ((e2.trans e3) _ _ h1)
structure Bst (K : PySem.W.Frag) (H0 H' : Hp) (p q r : Addr) (ps : List (It × Nat)) (vs : List V) : Prop where
  ex : Ex H0 H'
  np : H0 p = none
  nq : H0 q = none
  nr : H0 r = none
  pq : p ≠ q
  pr : p ≠ r
  qr : q ≠ r
  hp : H' p = some (.lst vs)
  dv : DvL K H' vs (ps.map Prod.fst)
  hq : H' q = some (.lst (ps.map fun x => V.str ⟨(encC x.1).toArray⟩))
  hr : H' r = some (.lst (ps.map fun x => V.int (x.2 : Int)))
  ft : ∀ x ∈ ps, x.1.fit x.2 ∧ x.2 ≤ 11
theorem Bst.mono {K : PySem.W.Frag} {H0 H' H'' : Hp} {p q r : Addr} {ps : List (It × Nat)} {vs : List V} (b : Bst K H0 H' p q r ps vs) (e : Ex H' H'') : Bst K H0 H'' p q r ps vs :=
  ⟨b.ex.trans e, b.np, b.nq, b.nr, b.pq, b.pr, b.qr, e _ _ b.hp, b.dv.mono e, e _ _ b.hq, e _ _ b.hr, b.ft⟩
theorem Bst.len {K : PySem.W.Frag} {H0 H' : Hp} {p q r : Addr} {ps : List (It × Nat)} {vs : List V} (b : Bst K H0 H' p q r ps vs) : vs.length = ps.length := by
  rw [b.dv.len, List.length_map]
/-- a list that is there -/
def EvS (K : PySem.W.Frag) (te : TE) (σ : L2.St) (H : Hp) (xs : List V) : Prop := ∀ H1, Ex H H1 → ∀ Q : VK, (∀ p H2, Ex H1 H2 → SqL K H2 p xs → Q (.ref p) H2) → te σ H1 Q
theorem evs_l {K : PySem.W.Frag} {te : TE} {σ : L2.St} {H : Hp} {xs : List V} (h : EvL te σ H xs) : EvS K te σ H xs := fun H1 e Q q => h H1 e Q fun p H2 _ e2 hp => q p H2 e2 (sq_of hp)
theorem evs_v {K : PySem.W.Frag} {te : TE} {σ : L2.St} {H : Hp} {xs : List V} {p : Addr} (h : Ev te σ H (.ref p)) (hx : SqL K H p xs) : EvS K te σ H xs := fun H1 e Q q => h H1 e Q fun H2 e2 => q p H2 e2 (ex_l (e.trans e2) hx)
theorem ev_joinS {K : PySem.W.Frag} {σ : L2.St} {H : Hp} {to te : TE} {a : Str} {ys : List Str} (h0 : Ev to σ H (.str a)) (h : EvS K te σ H (ys.map V.str)) (hz : (ys.map (·.length)).sum + ys.length * a.length ≤ 16777216) :
    Ev (tM1 (fun x xs H Q => ∃ a p, ∃ ys : List Str, x = .str a ∧ xs = [.ref p] ∧ (SqL K H p (ys.map V.str) ∨ SqT K H p (ys.map V.str)) ∧ (ys.map (·.length)).sum + ys.length * a.length ≤ 16777216 ∧ Q (.str (Txt.join a ys)) H) to te) σ H (.str (Txt.join a ys)) :=
  fun H1 e Q q => h0 H1 e _ fun H2 e2 => ⟨⟨a, rfl⟩, h H2 (e.trans e2) _ fun p H3 e3 hl => ⟨a, p, ys, rfl, rfl, .inl hl, hz, q H3 (e2.trans e3)⟩⟩
/-- '(' + ''.join(xs) + ')' of texts -/
theorem ev_wrapT {K : PySem.W.Frag} {σ : L2.St} {H : Hp} {te : TE} {ds : List It} (h : EvS K te σ H (ds.map fun d => V.str ⟨(encC d).toArray⟩)) (hz : (encL ds).length ≤ 10000000) :
    Ev (tOp rCatS' (tOp rCatS' (tC (.str (Str.ofString "("))) (tM1 (fun x xs H Q => ∃ a p, ∃ ys : List Str, x = .str a ∧ xs = [.ref p] ∧ (SqL K H p (ys.map V.str) ∨ SqT K H p (ys.map V.str)) ∧ (ys.map (·.length)).sum + ys.length * a.length ≤ 16777216 ∧ Q (.str (Txt.join a ys)) H) (tC (.str (Str.ofString ""))) te)) (tC (.str (Str.ofString ")")))) σ H (.str ⟨(encC (.tup ds)).toArray⟩) := by
  have ej : Txt.join (Str.ofString "") ((ds.map encC).map fun c => (⟨c.toArray⟩ : Str)) = ⟨(encL ds).toArray⟩ := by rw [join_codes, encL_flat]
  have a1 : (Str.ofString "(").cps.toList = [40] := by decide +kernel
  have a2 : (Str.ofString ")").cps.toList = [41] := by decide +kernel
  have e1 : (Str.ofString "(" ++ Txt.join (Str.ofString "") ((ds.map encC).map fun c => (⟨c.toArray⟩ : Str)) ++ Str.ofString ")") = (⟨(encC (.tup ds)).toArray⟩ : Str) := mk_of (by
    rw [ej, codes_app (codes_app a1 rfl) a2]
    show _ = 40 :: (encL ds ++ [41])
    simp)
  have l1 : (Str.ofString "(").length = 1 := by decide +kernel
  have l2 : (Str.ofString ")").length = 1 := by decide +kernel
  have l4 : (Txt.join (Str.ofString "") ((ds.map encC).map fun c => (⟨c.toArray⟩ : Str))).length = (encL ds).length := by
    rw [ej, str_len]
  have l3 : (Str.ofString "(" ++ Txt.join (Str.ofString "") ((ds.map encC).map fun c => (⟨c.toArray⟩ : Str))).length = 1 + (encL ds).length := by
    rw [ej, str_len, codes_app a1 rfl, List.length_append]
    simp
  have em : (ds.map fun d => V.str ⟨(encC d).toArray⟩) = ((ds.map encC).map fun c => (⟨c.toArray⟩ : Str)).map V.str := by
    rw [List.map_map, List.map_map] <;> rfl
  rw [em] at h
  refine ev_is (ev_addS (ev_addS ev_c (ev_joinS (K := K) ev_c h ?_) ?_) ev_c ?_) (congrArg V.str e1)
  · rw [sum_codes, ← encL_flat]
    show _ + _ * 0 ≤ 16777216
    omega
  · rw [l1, l4]; omega
  · rw [l3, l2]; omega
/-- '(' + x + ')' -/
theorem ev_wrapOne {σ : L2.St} {H : Hp} {te : TE} {d : It} (h : Ev te σ H (.str ⟨(encC d).toArray⟩)) (hz : (encC d).length ≤ 10000000) :
    Ev (tOp rCatS' (tOp rCatS' (tC (.str (Str.ofString "("))) te) (tC (.str (Str.ofString ")")))) σ H (.str ⟨(encC (.tup [d])).toArray⟩) := by
  have a1 : (Str.ofString "(").cps.toList = [40] := by decide +kernel
  have a2 : (Str.ofString ")").cps.toList = [41] := by decide +kernel
  have e1 : (Str.ofString "(" ++ (⟨(encC d).toArray⟩ : Str) ++ Str.ofString ")") = (⟨(encC (.tup [d])).toArray⟩ : Str) := mk_of (by
    rw [codes_app (codes_app a1 rfl) a2]
    show _ = 40 :: ((encC d ++ []) ++ [41])
    simp)
  have l1 : (Str.ofString "(").length = 1 := by decide +kernel
  have l2 : (Str.ofString ")").length = 1 := by decide +kernel
  have l4 : ((⟨(encC d).toArray⟩ : Str)).length = (encC d).length := by rw [str_len]
  have l3 : (Str.ofString "(" ++ (⟨(encC d).toArray⟩ : Str)).length = 1 + (encC d).length := by
    rw [str_len, codes_app a1 rfl, List.length_append]
    simp
  refine ev_is (ev_addS (ev_addS ev_c h ?_) ev_c ?_) (congrArg V.str e1)
  · rw [l1, l4]; omega
  · rw [l3, l2]; omega
/-- a pair of a new tuple and a value -/
theorem eu_pair {σ : L2.St} {H : Hp} {ta tb : TE} {xs : List V} {y : V} (h : EvU ta σ H xs) (hb : Ev tb σ H y) : ∀ H1, Ex H H1 → ∀ Q : VK, (∀ t u H2, Ex H1 H2 → H2 u = some (.tup xs) → H2 t = some (.tup [.ref u, y]) → Q (.ref t) H2) → tTup (tCons ta (tCons tb tNil)) σ H1 Q := fun H1 e Q q =>
  h H1 e _ fun u H2 _ e2 hu => hb H2 (e.trans e2) _ fun H3 e3 => ⟨(by show 2 ≤ sizeLine; decide), fun t ht => q t u _ ((e2.trans e3).trans (Ex.new ht)) (by rw [upd_ne (ne_of_none (e3 _ _ hu) ht)]; exact e3 _ _ hu) upd_same⟩
/-- return (tuple(items), '(' + ''.join(texts) + ')') -/
theorem s_built {K : PySem.W.Frag} {σ : L2.St} {H : Hp} {ta tb : TE} {p q : Addr} {vs : List V} {ds : List It} {D : Ends} (ha : Ev ta σ H (.ref p)) (hx : SqL K H p vs) (hb : Ev tb σ H (.ref q)) (hq : SqL K H q (ds.map fun d => V.str ⟨(encC d).toArray⟩)) (hz : (encL ds).length ≤ 10000000)
    (k : ∀ t u H1, Ex H H1 → H1 u = some (.tup vs) → H1 t = some (.tup [.ref u, .str ⟨(encC (.tup ds)).toArray⟩]) → D.rt (.ref t) H1) :
    tRet (tTup (tCons (tCB (rTupOf K) (tCons ta tNil)) (tCons (tOp rCatS' (tOp rCatS' (tC (.str (Str.ofString "("))) (tM1 (fun x xs H Q => ∃ a p, ∃ ys : List Str, x = .str a ∧ xs = [.ref p] ∧ (SqL K H p (ys.map V.str) ∨ SqT K H p (ys.map V.str)) ∧ (ys.map (·.length)).sum + ys.length * a.length ≤ 16777216 ∧ Q (.str (Txt.join a ys)) H) (tC (.str (Str.ofString ""))) tb)) (tC (.str (Str.ofString ")")))) tNil))) D σ H := by
  exact eu_pair (eu_ofL (K := K) ha hx) (ev_wrapT (K := K) (evs_v hb hq) hz) H (Ex.refl H) _ fun t u H1 e1 hu ht => k t u H1 e1 hu ht
def lone : List (It × Nat) → Bool
  | [x] => decide (x.2 < 11)
  | _ => false
theorem lone_of {ps : List (It × Nat)} (h : lone ps = true) : ∃ x, ps = [x] ∧ x.2 < 11 := by
  match ps, h with
  | [x], h => exact ⟨x, rfl, of_decide_eq_true h⟩
theorem Bst.snoc {K : PySem.W.Frag} {H0 H' : Hp} {p q r : Addr} {ps : List (It × Nat)} {vs : List V} (b : Bst K H0 H' p q r ps vs) (h : ps ≠ []) : ∃ (qs : List (It × Nat)) (x : It × Nat) (us : List V) (v : V), ps = qs ++ [x] ∧ vs = us ++ [v] ∧ DvL K H' us (qs.map Prod.fst) ∧ Dv K H' v x.1 := by
  have hl := b.len
  have e1 : ps = ps.dropLast ++ [ps.getLast h] := (List.dropLast_concat_getLast h).symm
  have hv : vs ≠ [] := fun z => by
    rw [z] at hl
    exact h (List.length_eq_zero_iff.mp hl.symm)
  have e2 : vs = vs.dropLast ++ [vs.getLast hv] := (List.dropLast_concat_getLast hv).symm
  refine ⟨_, _, _, _, e1, e2, ?_, ?_⟩
  · have := b.dv.take (vs.length - 1)
    rw [← List.dropLast_eq_take, hl, ← List.map_take, ← List.dropLast_eq_take] at this
    exact this
  · refine b.dv.at (i := vs.length - 1) ?_ ?_
    · rw [← List.getLast?_eq_getElem?, List.getLast?_eq_getLast hv]
    · rw [hl, List.getElem?_map, ← List.getLast?_eq_getElem?, List.getLast?_eq_getLast h] <;> rfl
def spBuilt (K : PySem.W.Frag) : Sp := fun vs H Q _ => ∃ (a : Addr) (ns : List Int), vs = [.ref a] ∧ SqL K H a (ns.map V.int) ∧ ns.length ≤ 62 ∧ (∀ n ∈ ns, Wd n) ∧
  ∀ t H' v d, Ex H H' → H' t = some (.tup [v, .str ⟨(encC d).toArray⟩]) → Dv K H' v d → It.fit 12 d → (encC d).length ≤ 1000000 → Q (.ref t) H'
theorem ok_law_built (T : Txt K mg) : FnOk P w K mg base CX0 4 T.f_law_built T.d_law_built ["cells"] (spBuilt K) := by
  refine T.F_law_built.ok sc_law_built (fun vs H Q E h => ?_) (fun cdv A outer s H vs Q E hr h => ?_)
  · obtain ⟨a, ns, rfl, _⟩ := h
    rfl
  · obtain ⟨a, ns, rfl, hS, hlen, hW, q⟩ := h
    refine ⟨_, pss_cons (ps_set (i := 1) sc_law_built.nd rfl (by first | exact Or.inl rfl | exact Or.inr rfl) (pe_lst (pa_nil)))
      (pss_cons (ps_set (i := 2) sc_law_built.nd rfl (by first | exact Or.inl rfl | exact Or.inr rfl) (pe_lst (pa_nil)))
      (pss_cons (ps_set (i := 3) sc_law_built.nd rfl (by first | exact Or.inl rfl | exact Or.inr rfl) (pe_lst (pa_nil)))
      (pss_cons (ps_for PassesOwn.never rfl (pi_list (pv 0)) (pg_name (i := 4) sc_law_built.nd rfl (by first | exact Or.inl rfl | exact Or.inr rfl))
      (pss_cons (ps_set (i := 5) sc_law_built.nd rfl (by first | exact Or.inl rfl | exact Or.inr rfl) (pe_op op_mod (pe_callTy call_int1 (by rfl) T.m_int (by decide +kernel) (pa_cons (pv 4) (pa_nil))) (pe_int)))
      (pss_cons (ps_set (i := 6) sc_law_built.nd rfl (by first | exact Or.inl rfl | exact Or.inr rfl) (pe_op op_fdivW (pv 4) (pe_int)))
      (pss_cons (ps_if (pt_cmpR op_lt (pv 5) (pe_int) (nomark _))
      (pss_cons (ps_expr (pe_bm PySem.F.plainAttrs_list PySem.F.slot_list_append PySem.F.type_list_append mt_append (pv 1) (pa_cons (pe_call (ok_law_leaf T) (hr.mono (by first | decide | omega)) (by rfl) T.g_law_leaf T.F_law_leaf.kp T.b_law_leaf .nil pass0 (pa_cons (pv 6) (pa_nil))) (pa_nil))))
      (pss_cons (ps_expr (pe_bm PySem.F.plainAttrs_list PySem.F.slot_list_append PySem.F.type_list_append mt_append (pv 2) (pa_cons (pe_call (ok_law_leaf_text T) (hr.mono (by first | decide | omega)) (by rfl) T.g_law_leaf_text T.F_law_leaf_text.kp T.b_law_leaf_text .nil pass0 (pa_cons (pe_ix (r := rIxL K) ix_list (pv 1) (pe_un un_neg (pe_int)) (fun _ _ => rfl)) (pa_nil))) (pa_nil))))
      (pss_cons (ps_expr (pe_bm PySem.F.plainAttrs_list PySem.F.slot_list_append PySem.F.type_list_append mt_append (pv 3) (pa_cons (pe_int) (pa_nil))))
      (pss_one (ps_continue)))))
      (pss_nil))
      (pss_cons (ps_set (i := 7) sc_law_built.nd rfl (by first | exact Or.inl rfl | exact Or.inr rfl) (pe_op op_sub (pe_callB (r := rLenQ K) call_len_seq (by rfl) T.m_len (by decide +kernel) (pa_cons (pv 1) (pa_nil))) (pe_callB (call_min2 rfl) (by rfl) T.m_min (by decide +kernel) (pa_cons (pe_op op_mod (pe_callTy call_int1 (by rfl) T.m_int (by decide +kernel) (pa_cons (pv 6) (pa_nil))) (pe_int)) (pa_cons (pe_callB (r := rLenQ K) call_len_seq (by rfl) T.m_len (by decide +kernel) (pa_cons (pv 1) (pa_nil))) (pa_nil))))))
      (pss_cons (ps_set (i := 8) sc_law_built.nd rfl (by first | exact Or.inl rfl | exact Or.inr rfl) (pe_op op_add (pe_int) (pe_callB (cr_max rfl) (by rfl) T.m_max (by decide +kernel) (pa_cons (pe_op op_cat (pe_lst (pa_cons (pe_int) (pa_nil))) (pe_slice (r := rSlL K) sl_list (pv 3) (po_some (pv 7)) (po_none))) (pa_nil)))))
      (pss_cut (ps_if (pt_cmpR op_lt (pv 8) (pe_int) (nomark _))
      (pss_cons (ps_set (i := 1) sc_law_built.nd rfl (by first | exact Or.inl rfl | exact Or.inr rfl) (pe_op op_cat (pe_slice (r := rSlL K) sl_list (pv 1) (po_none) (po_some (pv 7))) (pe_lst (pa_cons (pe_callTy (r := rTupOf K) call_tuple_of (by rfl) T.m_tuple (by decide +kernel) (pa_cons (pe_slice (r := rSlL K) sl_list (pv 1) (po_some (pv 7)) (po_none)) (pa_nil))) (pa_nil)))))
      (pss_cons (ps_set (i := 2) sc_law_built.nd rfl (by first | exact Or.inl rfl | exact Or.inr rfl) (pe_op op_cat (pe_slice (r := rSlL K) sl_list (pv 2) (po_none) (po_some (pv 7))) (pe_lst (pa_cons (pe_op op_add_str (pe_op op_add_str (pe_str) (pe_join (pe_str) (pe_slice (r := rSlL K) sl_list (pv 2) (po_some (pv 7)) (po_none)))) (pe_str)) (pa_nil)))))
      (pss_one (ps_set (i := 3) sc_law_built.nd rfl (by first | exact Or.inl rfl | exact Or.inr rfl) (pe_op op_cat (pe_slice (r := rSlL K) sl_list (pv 3) (po_none) (po_some (pv 7))) (pe_lst (pa_cons (pv 8) (pa_nil))))))))
      (pss_nil))
      (pss_one (ps_if (pt_cmpR op_eq (pv 5) (pe_int) (nomark _))
      (pss_one (ps_for PassesOwn.never rfl (pi_range1 (by rfl) T.m_range (pa_cons (pe_op op_mod (pe_callTy call_int1 (by rfl) T.m_int (by decide +kernel) (pa_cons (pe_op op_fdivW (pv 6) (pe_int)) (pa_nil))) (pe_int)) (pa_nil))) (pg_name (i := 9) sc_law_built.nd rfl (by first | exact Or.inl rfl | exact Or.inr rfl))
      (pss_one (ps_if (pt_cmpR op_lt (pe_ix (r := rIxL K) ix_list (pv 3) (pe_un un_neg (pe_int)) (fun _ _ => rfl)) (pe_int) (nomark _))
      (pss_cons (ps_asg (pe_tup (pa_cons (pe_ix (r := rIxL K) ix_list (pv 1) (pe_un un_neg (pe_int)) (fun _ _ => rfl)) (pa_nil))) (pg_sub (pv 1) (pe_un un_neg (pe_int)) set_list))
      (pss_cons (ps_asg (pe_op op_add_str (pe_op op_add_str (pe_str) (pe_ix (r := rIxL K) ix_list (pv 2) (pe_un un_neg (pe_int)) (fun _ _ => rfl))) (pe_str)) (pg_sub (pv 2) (pe_un un_neg (pe_int)) set_list))
      (pss_one (ps_asg (pe_op op_add (pe_ix (r := rIxL K) ix_list (pv 3) (pe_un un_neg (pe_int)) (fun _ _ => rfl)) (pe_int)) (pg_sub (pv 3) (pe_un un_neg (pe_int)) set_list)))))
      (pss_nil)))))
      (pss_nil))))))))))
      (pss_cons (ps_if (PW.pt (pw_and (pt_cmpR op_eq (pe_callB (r := rLenQ K) call_len_seq (by rfl) T.m_len (by decide +kernel) (pa_cons (pv 1) (pa_nil))) (pe_int) (nomark _)) (pw_and1 (pt_cmpR op_lt (pe_ix (r := rIxL K) ix_list (pv 3) (pe_int) (fun _ _ => rfl)) (pe_int) (nomark _)))))
      (pss_one (ps_ret (pe_tup (pa_cons (pe_ix (r := rIxL K) ix_list (pv 1) (pe_int) (fun _ _ => rfl)) (pa_cons (pe_ix (r := rIxL K) ix_list (pv 2) (pe_int) (fun _ _ => rfl)) (pa_nil))))))
      (pss_nil))
      (pss_one (ps_ret (pe_tup (pa_cons (pe_callTy (r := rTupOf K) call_tuple_of (by rfl) T.m_tuple (by decide +kernel) (pa_cons (pv 1) (pa_nil))) (pa_cons (pe_op op_add_str (pe_op op_add_str (pe_str) (pe_join (pe_str) (pv 2))) (pe_str)) (pa_nil)))))))))), ?_⟩
    refine q_asgL (el_lst ea_nil (by decide)) fun p H1 np e1 hp => ?_
    refine q_asgL (el_lst ea_nil (by decide)) fun qa H2 nq e2 hq => ?_
    refine q_asgL (el_lst ea_nil (by decide)) fun r H3 nr e3 hr2 => ?_
    have b0 : Bst K H H3 p qa r [] [] := ⟨(e1.trans e2).trans e3, np, fresh_back e1 nq, fresh_back (e1.trans e2) nr, ne_of_none hp nq, ne_of_none (e2 _ _ hp) nr, ne_of_none hq nr, e3 _ _ (e2 _ _ hp), .nil, e3 _ _ hq, hr2, fun x hx => by cases hx⟩
    refine q_forLn (K := K) (ev_var rfl) (ex_l ((e1.trans e2).trans e3) hS) (fun i σ' H' => ∃ (p q r : Addr) (ps : List (It × Nat)) (vs : List V) (x1 x2 x3 x4 x5 x6 : Option V), σ' = [some (.ref a), some (.ref p), some (.ref q), some (.ref r), x1, x2, x3, x4, x5, x6] ∧ Bst K H H' p q r ps vs ∧ ps.length ≤ i ∧ (encL (ps.map Prod.fst)).length ≤ i * 2300)
      (fun H4 e4 => ⟨p, qa, r, [], [], _, _, _, _, _, _, rfl, b0.mono e4, Nat.le_refl 0, Nat.zero_le _⟩) (fun i σ' H' _ hP => ?_) (fun i x σ' H' hx hP => ?_) (fun σ' H' hP => ?_)
    · obtain ⟨p, q, r, ps, vs, x1, x2, x3, x4, x5, x6, rfl, b, _⟩ := hP
      exact ex_l b.ex hS
    · obtain ⟨p, q, r, ps, vs, x1, x2, x3, x4, x5, x6, rfl, b, hl, hz⟩ := hP
      have hi : i < ns.length := by
        have := (List.getElem?_eq_some_iff.mp hx).1
        rw [List.length_map] at this
        exact this
      obtain ⟨cell, hcell, rfl⟩ : ∃ c, ns[i]? = some c ∧ x = V.int c := by
        rw [List.getElem?_map, List.getElem?_eq_getElem hi] at hx
        exact ⟨_, List.getElem?_eq_getElem hi, (Option.some.inj hx).symm⟩
      have cW : Wd cell := hW cell (List.mem_of_getElem? hcell)
      have vl := b.len
      refine q_asg (ev_bin (ev_intI (ev_var rfl)) ev_c (by decide)) fun H1 e1 => ?_
      refine q_asg (ev_bin (ev_var rfl) ev_c ⟨by decide, by decide⟩) fun H2 e2 => ?_
      have b2 := b.mono (e1.trans e2)
      refine q_when (et_test (ev_bin0 (ev_var rfl) ev_c)) (fun hb H3 e3 => ?_) (fun hb H3 e3 => ?_)
      · have b3 := b2.mono e3
        have lsc := leafZ_sc (cell / 8)
        refine q_app (K := K) b3.hp (ev_var rfl) (ev_call (ea_cons (ev_var rfl) ea_nil) (cv_leaf (Wd.div cW))) (by omega) fun H4 e4 => ?_
        have b4 := b3.mono e4
        generalize leafZ (cell / 8) = lf at lsc
        have hp5 : (upd H4 p (.lst (vs ++ [vz lf]))) p = some (.lst (vs ++ [vz lf])) := upd_same
        have hq5 : (upd H4 p (.lst (vs ++ [vz lf]))) q = some (.lst (ps.map fun x => V.str ⟨(encC x.1).toArray⟩)) := by rw [upd_ne b4.pq.symm]; exact b4.hq
        have hr5 : (upd H4 p (.lst (vs ++ [vz lf]))) r = some (.lst (ps.map fun x => V.int (x.2 : Int))) := by rw [upd_ne b4.pr.symm]; exact b4.hr
        have dv5 : DvL K (upd H4 p (.lst (vs ++ [vz lf]))) (vs ++ [vz lf]) ((ps ++ [(lf, 0)]).map Prod.fst) := by
          rw [List.map_append]
          exact (b4.dv.monoN (.upd b4.hp)).app (.cons (.sc lsc) .nil)
        have ex5 : Ex H (upd H4 p (.lst (vs ++ [vz lf]))) := b4.ex.mut b4.np
        refine q_app (K := K) hq5 (ev_var rfl) (ev_call (ea_cons (ev_ixL (K := K) (ev_var rfl) (ev_neg ev_c) (sq_of hp5) (atI_last _ _)) ea_nil) (cv_leaf_text lsc)) (by rw [List.length_map]; omega) fun H6 e6 => ?_
        have hp7 : (upd H6 q (.lst ((ps.map fun x => V.str ⟨(encC x.1).toArray⟩) ++ [V.str ⟨(encC lf).toArray⟩]))) p = some (.lst (vs ++ [vz lf])) := by rw [upd_ne b4.pq]; exact e6 _ _ hp5
        have hr7 : (upd H6 q (.lst ((ps.map fun x => V.str ⟨(encC x.1).toArray⟩) ++ [V.str ⟨(encC lf).toArray⟩]))) r = some (.lst (ps.map fun x => V.int (x.2 : Int))) := by rw [upd_ne b4.qr.symm]; exact e6 _ _ hr5
        have dv7 := (dv5.mono e6).monoN (ExN.upd (o := .lst ((ps.map fun x => V.str ⟨(encC x.1).toArray⟩) ++ [V.str ⟨(encC lf).toArray⟩])) (e6 _ _ hq5))
        have ex7 : Ex H (upd H6 q (.lst ((ps.map fun x => V.str ⟨(encC x.1).toArray⟩) ++ [V.str ⟨(encC lf).toArray⟩]))) := (ex5.trans e6).mut b4.nq
        refine q_app (K := K) hr7 (ev_var rfl) ev_c (by rw [List.length_map]; omega) fun H8 e8 => ?_
        refine ⟨p, q, r, ps ++ [(lf, 0)], vs ++ [vz lf], _, _, _, _, _, _, rfl, ⟨(ex7.trans e8).mut b4.nr, b4.np, b4.nq, b4.nr, b4.pq, b4.pr, b4.qr, ?_, (dv7.mono e8).monoN (.upd (e8 _ _ hr7)), ?_, ?_, fun x hx => ?_⟩, ?_, ?_⟩
        · rw [upd_ne b4.pr]; exact e8 _ _ hp7
        · rw [upd_ne b4.qr, e8 _ _ upd_same, List.map_append] <;> rfl
        · rw [upd_same, List.map_append] <;> rfl
        · rcases List.mem_append.mp hx with h | h
          · exact b4.ft x h
          · rw [List.mem_singleton.mp h]
            exact ⟨It.sc_fit lsc 0, Nat.zero_le _⟩
        · rw [List.length_append, List.length_singleton]; omega
        · have := It.sc_len lsc
          rw [List.map_append, encL_app, List.length_append]
          show _ + (encC lf ++ []).length ≤ _
          rw [List.append_nil]
          omega
      · have b3 := b2.mono e3
        obtain ⟨st, hst, est⟩ : ∃ st : Nat, st ≤ vs.length ∧ ((vs.length : Int) - (if (vs.length : Int) < cell / 8 % 4 then (vs.length : Int) else cell / 8 % 4)) = (st : Int) ∧ vs.length ≤ st + 3 := by
          have m0 := Int.emod_nonneg (cell / 8) (by decide : (4 : Int) ≠ 0)
          have m1 := Int.emod_lt_of_pos (cell / 8) (by decide : (0 : Int) < 4)
          refine ⟨((vs.length : Int) - (if (vs.length : Int) < cell / 8 % 4 then (vs.length : Int) else cell / 8 % 4)).toNat, ?_, ?_, ?_⟩
          all_goals split <;> omega
        have hst3 := est.2
        refine q_asg (v := .int (st : Int)) (ev_is (ev_bin0 (ev_lenQ (K := K) (ev_var rfl) (sq_of b3.hp)) (ev_min2 (ev_bin (ev_intI (ev_var rfl)) ev_c (by decide)) (ev_lenQ (K := K) (ev_var rfl) (sq_of b3.hp)))) (congrArg V.int est.1)) fun H4 e4 => ?_
        have b4 := b3.mono e4
        have dl : ((0 : Int) :: (ps.drop st).map fun x => (x.2 : Int)).map V.int = [V.int 0] ++ cutV (ps.map fun x => V.int (x.2 : Int)) (some (st : Int)) none := by
          rw [cut_hi _ _ (by rw [List.length_map]; omega), List.map_cons, List.map_map, ← List.map_drop] <;> rfl
        refine q_maxAsg (K := K) (ns := (0 : Int) :: (ps.drop st).map fun x => (x.2 : Int)) (by
          rw [dl]
          refine el_cat (el_lst (ea_cons ev_c ea_nil) (by show 1 ≤ 100000; decide)) (el_sl (K := K) (ev_var rfl) (eo_some (ev_var rfl)) eo_none (sq_of b4.hr)) ?_
          rw [cut_hi _ _ (by rw [List.length_map]; omega), List.length_drop, List.length_map]
          show 1 + _ ≤ _
          omega) (by simp) fun m H5 e5 hm hle => ?_
        have b5 := b4.mono e5
        have m0 : 0 ≤ m := hle 0 (by simp)
        have hle2 : ∀ x ∈ ps.drop st, x.2 ≤ m.toNat := fun x hx => by
          have := hle x.2 (List.mem_cons_of_mem _ (List.mem_map_of_mem (f := fun x : It × Nat => (x.2 : Int)) hx))
          omega
        refine q_cut (M := fun σ' H' => ∃ (p q r : Addr) (ps : List (It × Nat)) (vs : List V) (x5 : Option V), σ' = [some (.ref a), some (.ref p), some (.ref q), some (.ref r), some (.int cell), some (.int (cell % 8)), some (.int (cell / 8)), some (.int (st : Int)), some (.int (1 + m)), x5] ∧ Bst K H H' p q r ps vs ∧ ps ≠ [] ∧ ps.length ≤ i + 1 ∧ (encL (ps.map Prod.fst)).length ≤ i * 2300 + 2) ?_ fun σ' H' hM => ?_
        · refine s_when (b := decide (1 + m < 12)) (et_test (ev_bin0 (ev_var rfl) ev_c)) (fun hb H6 e6 => ?_) (fun hb H6 e6 => ?_)
          · have hm12 : 1 + m < 12 := of_decide_eq_true hb
            have b6 := b5.mono e6
            refine q_wrap (K := K) (n := st) (fun _ _ => ev_var rfl) (fun _ _ => ev_var rfl) (sq_of b6.hp) hst (by omega) fun p2 t H7 e7 np2 ht hp2 => ?_
            have b7 := b6.mono e7
            have elen : (encL ((ps.drop st).map Prod.fst)).length ≤ (encL (ps.map Prod.fst)).length := by
              have : ps.map Prod.fst = (ps.take st).map Prod.fst ++ (ps.drop st).map Prod.fst := by rw [← List.map_append, List.take_append_drop]
              rw [this, encL_app, List.length_append]
              omega
            have tx : EvL (tSl (rSlL K) (tVar 2) (tPart (tVar 7)) tNoPart) [some (.ref a), some (.ref p2), some (.ref q), some (.ref r), some (.int cell), some (.int (cell % 8)), some (.int (cell / 8)), some (.int (st : Int)), some (.int (1 + m)), x6] H7 (((ps.drop st).map Prod.fst).map fun d => V.str ⟨(encC d).toArray⟩) := by
              have := el_sl (K := K) (te := tVar 2) (σ := [some (.ref a), some (.ref p2), some (.ref q), some (.ref r), some (.int cell), some (.int (cell % 8)), some (.int (cell / 8)), some (.int (st : Int)), some (.int (1 + m)), x6]) (tl := tPart (tVar 7)) (th := tNoPart) (ev_var rfl) (eo_some (ev_var rfl)) eo_none (sq_of b7.hq)
              rw [cut_hi _ _ (by rw [List.length_map]; omega), ← List.map_drop] at this
              rw [List.map_map]
              exact this
            have t0 : EvL (tSl (rSlL K) (tVar 2) tNoPart (tPart (tVar 7))) [some (.ref a), some (.ref p2), some (.ref q), some (.ref r), some (.int cell), some (.int (cell % 8)), some (.int (cell / 8)), some (.int (st : Int)), some (.int (1 + m)), x6] H7 ((ps.take st).map fun x => V.str ⟨(encC x.1).toArray⟩) := by
              have := el_sl (K := K) (te := tVar 2) (σ := [some (.ref a), some (.ref p2), some (.ref q), some (.ref r), some (.int cell), some (.int (cell % 8)), some (.int (cell / 8)), some (.int (st : Int)), some (.int (1 + m)), x6]) (tl := tNoPart) (th := tPart (tVar 7)) (ev_var rfl) eo_none (eo_some (ev_var rfl)) (sq_of b7.hq)
              rw [cut_lo _ _ (by rw [List.length_map]; omega), ← List.map_take] at this
              exact this
            refine q_asgL (el_cat t0 (el_lst (ea_cons (ev_wrapT (K := K) (evs_l tx) (by omega)) ea_nil) (by show 1 ≤ 100000; decide)) (by rw [List.length_map, List.length_take]; show _ + 1 ≤ _; omega)) fun q2 H8 nq2 e8 hq2 => ?_
            have b8 := b7.mono e8
            have t1 := el_sl (K := K) (te := tVar 3) (σ := [some (.ref a), some (.ref p2), some (.ref q2), some (.ref r), some (.int cell), some (.int (cell % 8)), some (.int (cell / 8)), some (.int (st : Int)), some (.int (1 + m)), x6]) (tl := tNoPart) (th := tPart (tVar 7)) (ev_var rfl) eo_none (eo_some (ev_var rfl)) (sq_of b8.hr)
            rw [cut_lo _ _ (by rw [List.length_map]; omega), ← List.map_take] at t1
            refine s_asgL (el_cat t1 (el_lst (ea_cons (ev_var rfl) ea_nil) (by show 1 ≤ 100000; decide)) (by rw [List.length_map, List.length_take]; show _ + 1 ≤ _; omega)) fun r2 H9 nr2 e9 hr2 => ?_
            have E := (e7.trans e8).trans e9
            refine ⟨p2, q2, r2, ps.take st ++ [(.tup ((ps.drop st).map Prod.fst), m.toNat + 1)], vs.take st ++ [.ref t], _, rfl, ⟨b6.ex.trans E, fresh_back b6.ex np2, fresh_back b7.ex nq2, fresh_back b8.ex nr2, ne_of_none hp2 nq2, ne_of_none (e8 _ _ hp2) nr2, ne_of_none hq2 nr2, e9 _ _ (e8 _ _ hp2), ?_, ?_, ?_, fun x hx => ?_⟩, by simp, ?_, ?_⟩
            · rw [List.map_append]
              have ht0 := (b6.dv.mono E).take st
              rw [← List.map_take] at ht0
              refine ht0.app (.cons (.tup (st_of (e9 _ _ (e8 _ _ ht))) ?_) .nil)
              have := (b6.dv.mono E).drop st
              rw [← List.map_drop] at this
              exact this
            · rw [e9 _ _ hq2, List.map_append] <;> rfl
            · rw [hr2, List.map_append]
              have : (1 : Int) + m = ((m.toNat + 1 : Nat) : Int) := by omega
              rw [this] <;> rfl
            · rcases List.mem_append.mp hx with h | h
              · exact b6.ft x (List.mem_of_mem_take h)
              · rw [List.mem_singleton.mp h]
                refine ⟨⟨?_, fun y hy => ?_⟩, ?_⟩
                · rw [List.length_map, List.length_drop]; omega
                · obtain ⟨z, hz, rfl⟩ := List.mem_map.mp hy
                  exact It.fit_mono (b6.ft z (List.mem_of_mem_drop hz)).1 (hle2 z hz)
                · show m.toNat + 1 ≤ 11; omega
            · rw [List.length_append, List.length_take, List.length_singleton]; omega
            · have e0 : ps.map Prod.fst = (ps.take st).map Prod.fst ++ (ps.drop st).map Prod.fst := by rw [← List.map_append, List.take_append_drop]
              rw [e0, encL_app, List.length_append] at hz
              rw [List.map_append, encL_app, List.length_append]
              show _ + (encC (.tup ((ps.drop st).map Prod.fst)) ++ []).length ≤ _
              rw [List.append_nil, enc_tup_len]
              omega
          · have hm12 : ¬ 1 + m < 12 := of_decide_eq_false hb
            refine ⟨p, q, r, ps, vs, _, rfl, b5.mono e6, fun z => ?_, by omega, by omega⟩
            rw [z] at hm
            simp at hm
            omega
        · obtain ⟨p, q, r, ps, vs, x5, rfl, b, hne, hl, hz⟩ := hM
          refine s_when (b := decide (cell % 8 = 7)) (et_test (ev_eqI (ev_var rfl) ev_c)) (fun hb H6 e6 => ?_) (fun hb H6 e6 => ?_)
          · have m0 := Int.emod_nonneg (cell / 8 / 4) (by decide : (12 : Int) ≠ 0)
            have m1 := Int.emod_lt_of_pos (cell / 8 / 4) (by decide : (0 : Int) < 12)
            refine s_forR1 (n := cell / 8 / 4 % 12) (ea_cons (ev_bin (ev_intI (ev_bin (ev_var rfl) ev_c ⟨by decide, by decide⟩)) ev_c (by decide)) ea_nil) (by omega) (fun j σ' H' => ∃ (p q r : Addr) (ps : List (It × Nat)) (vs : List V) (x5 : Option V), σ' = [some (.ref a), some (.ref p), some (.ref q), some (.ref r), some (.int cell), some (.int (cell % 8)), some (.int (cell / 8)), some (.int (st : Int)), some (.int (1 + m)), x5] ∧ Bst K H H' p q r ps vs ∧ ps ≠ [] ∧ ps.length ≤ i + 1 ∧ (encL (ps.map Prod.fst)).length ≤ i * 2300 + 2 + 2 * j)
              (fun H7 e7 => ⟨p, q, r, ps, vs, _, rfl, (b.mono e6).mono e7, hne, hl, hz⟩) (fun j σ' H' hj hP => ?_) (fun σ' H' hP => ?_)
            · obtain ⟨p, q, r, ps, vs, x5, rfl, b, hne, hl, hz⟩ := hP
              obtain ⟨qs, x, us, v, rfl, rfl, du, dx⟩ := b.snoc hne
              have hrr : H' r = some (.lst ((qs.map fun x => V.int (x.2 : Int)) ++ [V.int (x.2 : Int)])) := by rw [b.hr, List.map_append] <;> rfl
              have hqq : H' q = some (.lst ((qs.map fun x => V.str ⟨(encC x.1).toArray⟩) ++ [V.str ⟨(encC x.1).toArray⟩])) := by rw [b.hq, List.map_append] <;> rfl
              refine s_when (b := decide ((x.2 : Int) < 11)) (et_test (ev_bin0 (ev_ixL (K := K) (ev_var rfl) (ev_neg ev_c) (sq_of hrr) (atI_last _ _)) ev_c)) (fun hb H7 e7 => ?_) (fun hb H7 e7 => ?_)
              · have hx11 : (x.2 : Int) < 11 := of_decide_eq_true hb
                have hzx : (encC x.1).length ≤ (encL ((qs ++ [x]).map Prod.fst)).length := encL_mem (List.mem_map_of_mem (f := Prod.fst) (List.mem_append_right _ (List.mem_singleton.mpr rfl)))
                have b7 := b.mono e7
                refine q_setLast (eu_tup (ea_cons (ev_ixL (K := K) (ev_var rfl) (ev_neg ev_c) (sq_of b7.hp) (atI_last _ _)) ea_nil) (by show 1 ≤ 100000; decide)) (fun _ _ => ev_var rfl) (fun _ _ => ev_neg ev_c) b7.hp fun t H8 nt e8 ht => ?_
                have b8 := b7.mono e8
                have ntp : t ≠ p := fun z => by
                  rw [z, e8 _ _ b7.hp] at ht
                  cases ht
                have tq : (upd H8 p (.lst (us ++ [.ref t]))) q = some (.lst ((qs.map fun x => V.str ⟨(encC x.1).toArray⟩) ++ [V.str ⟨(encC x.1).toArray⟩])) := by rw [upd_ne b.pq.symm]; exact e8 _ _ (e7 _ _ hqq)
                have tr : (upd H8 p (.lst (us ++ [.ref t]))) r = some (.lst ((qs.map fun x => V.int (x.2 : Int)) ++ [V.int (x.2 : Int)])) := by rw [upd_ne b.pr.symm]; exact e8 _ _ (e7 _ _ hrr)
                have tt : (upd H8 p (.lst (us ++ [.ref t]))) t = some (.tup [v]) := by rw [upd_ne ntp]; exact ht
                have eP : ExN H8 (upd H8 p (.lst (us ++ [.ref t]))) := .upd b8.hp
                have du9 := ((du.mono (e7.trans e8)).monoN eP)
                have dx9 := ((dx.mono (e7.trans e8)).monoN eP)
                have ex9 : Ex H (upd H8 p (.lst (us ++ [.ref t]))) := b8.ex.mut b.np
                refine q_setLastV (v := .str ⟨(encC (.tup [x.1])).toArray⟩) (ev_wrapOne (ev_ixL (K := K) (ev_var rfl) (ev_neg ev_c) (sq_of tq) (atI_last _ _)) (by omega)) (fun _ _ => ev_var rfl) (fun _ _ => ev_neg ev_c) tq fun H10 e10 => ?_
                have sr : (upd H10 q (.lst ((qs.map fun x => V.str ⟨(encC x.1).toArray⟩) ++ [V.str ⟨(encC (.tup [x.1])).toArray⟩]))) r = some (.lst ((qs.map fun x => V.int (x.2 : Int)) ++ [V.int (x.2 : Int)])) := by rw [upd_ne b.qr.symm]; exact e10 _ _ tr
                have eQ : ExN H10 (upd H10 q (.lst ((qs.map fun x => V.str ⟨(encC x.1).toArray⟩) ++ [V.str ⟨(encC (.tup [x.1])).toArray⟩]))) := .upd (e10 _ _ tq)
                refine s_setLastV (v := .int ((x.2 : Int) + 1)) (ev_bin0 (ev_ixL (K := K) (ev_var rfl) (ev_neg ev_c) (sq_of sr) (atI_last _ _)) ev_c) (fun _ _ => ev_var rfl) (fun _ _ => ev_neg ev_c) sr fun H11 e11 => ?_
                have eR : ExN H11 (upd H11 r (.lst ((qs.map fun x => V.int (x.2 : Int)) ++ [V.int ((x.2 : Int) + 1)]))) := .upd (e11 _ _ sr)
                have eAll : ExN (upd H8 p (.lst (us ++ [.ref t]))) (upd H11 r (.lst ((qs.map fun x => V.int (x.2 : Int)) ++ [V.int ((x.2 : Int) + 1)]))) := (((Ex.n e10).trans eQ).trans (Ex.n e11)).trans eR
                refine ⟨p, q, r, qs ++ [(.tup [x.1], x.2 + 1)], us ++ [.ref t], _, rfl, ⟨((((ex9.trans e10).mut b.nq).trans e11).mut b.nr), b.np, b.nq, b.nr, b.pq, b.pr, b.qr, ?_, ?_, ?_, ?_, fun y hy => ?_⟩, by simp, by simpa using hl, ?_⟩
                · rw [upd_ne b.pr]
                  refine e11 _ _ ?_
                  rw [upd_ne b.pq]
                  exact e10 _ _ upd_same
                · rw [List.map_append]
                  exact (du9.monoN eAll).app (.cons (.tup (exN_t eAll (st_of tt)) (.cons (dx9.monoN eAll) .nil)) .nil)
                · rw [upd_ne b.qr, e11 _ _ upd_same, List.map_append] <;> rfl
                · rw [upd_same, List.map_append] <;> rfl
                · rcases List.mem_append.mp hy with h | h
                  · exact b.ft y (List.mem_append_left _ h)
                  · rw [List.mem_singleton.mp h]
                    have := b.ft x (List.mem_append_right _ (List.mem_singleton.mpr rfl))
                    refine ⟨⟨by show 1 ≤ 1000; decide, fun z hz => ?_⟩, ?_⟩
                    · rw [List.mem_singleton.mp hz]
                      exact this.1
                    · show x.2 + 1 ≤ 11; omega
                · rw [List.map_append, encL_app, List.length_append] at hz
                  rw [List.map_append, encL_app, List.length_append]
                  show _ + (encC (.tup [x.1]) ++ []).length ≤ _
                  have h1 : (encL ([x].map Prod.fst)).length = (encC x.1).length := by
                    show (encC x.1 ++ []).length = _
                    rw [List.append_nil]
                  have h2 : (encL [x.1]).length = (encC x.1).length := h1
                  rw [List.append_nil, enc_tup_len, h2]
                  omega
              · exact ⟨p, q, r, _, _, _, rfl, b.mono e7, hne, hl, by omega⟩
            · obtain ⟨p, q, r, ps, vs, x5, rfl, b, hne, hl, hz⟩ := hP
              exact ⟨p, q, r, ps, vs, _, _, _, _, _, _, rfl, b, hl, by omega⟩
          · exact ⟨p, q, r, ps, vs, _, _, _, _, _, _, rfl, b.mono e6, hl, by omega⟩
    · obtain ⟨p, q2, r, ps, vs, x1, x2, x3, x4, x5, x6, rfl, b, hl, hz⟩ := hP
      rw [List.length_map] at hl hz
      have vl := b.len
      have hz2 : (encL (ps.map Prod.fst)).length ≤ 150000 := Nat.le_trans hz (by omega)
      refine q_when (b := lone ps) ?_ (fun hb H1 e1 => ?_) (fun hb H1 e1 => ?_)
      · match ps, b, vl with
        | [], b, vl => exact et_is (et_and (a := false) (b := false) (et_test (ev_is (ev_eqI (ev_lenQ (K := K) (ev_var rfl) (sq_of b.hp)) ev_c) (congrArg V.bl (by rw [vl]; decide)))) fun z => nomatch z) rfl
        | [x], b, vl => exact et_is (et_and (a := true) (b := decide (x.2 < 11)) (et_test (ev_is (ev_eqI (ev_lenQ (K := K) (ev_var rfl) (sq_of b.hp)) ev_c) (congrArg V.bl (by rw [vl]; exact decide_eq_true rfl)))) fun _ => et_test (ev_is (ev_bin0 (ev_ixL (K := K) (i := 0) (v := .int (x.2 : Int)) (ev_var rfl) ev_c (sq_of b.hr) rfl) ev_c) (congrArg V.bl (decide_eq_decide.mpr (by omega))))) rfl
        | x :: y :: ps, b, vl => exact et_is (et_and (a := false) (b := false) (et_test (ev_is (ev_eqI (ev_lenQ (K := K) (ev_var rfl) (sq_of b.hp)) ev_c) (congrArg V.bl (by rw [vl, List.length_cons, List.length_cons]; exact decide_eq_false (by omega))))) fun z => nomatch z) rfl
      · obtain ⟨x, rfl, hx⟩ := lone_of hb
        obtain ⟨v, rfl⟩ := List.length_eq_one_iff.mp (show vs.length = 1 from vl)
        have b1 := b.mono e1
        have dx : Dv K H1 v x.1 := b1.dv.at (i := 0) rfl rfl
        have hzx : (encC x.1).length ≤ 150000 := Nat.le_trans (encL_mem (List.mem_map_of_mem (f := Prod.fst) (List.mem_singleton.mpr rfl))) hz2
        refine s_retU (eu_tup (ea_cons (ev_ixL (K := K) (i := 0) (v := v) (ev_var rfl) ev_c (sq_of b1.hp) rfl) (ea_cons (ev_ixL (K := K) (i := 0) (v := .str ⟨(encC x.1).toArray⟩) (ev_var rfl) ev_c (sq_of b1.hq) rfl) ea_nil)) (by show 2 ≤ 100000; decide)) fun t H2 _ e2 ht => ?_
        exact q t H2 v x.1 (b1.ex.trans e2) ht (dx.mono e2) (It.fit_mono (b.ft x (List.mem_singleton.mpr rfl)).1 (by omega)) (by omega)
      · have b1 := b.mono e1
        have ft : It.fit 12 (.tup (ps.map Prod.fst)) := by
          refine ⟨by rw [List.length_map]; omega, fun y hy => ?_⟩
          obtain ⟨z, hz, rfl⟩ := List.mem_map.mp hy
          exact It.fit_mono (b.ft z hz).1 (b.ft z hz).2
        have fz : (encC (.tup (ps.map Prod.fst))).length ≤ 1000000 := by rw [enc_tup_len]; omega
        refine s_built (K := K) (ev_var rfl) (sq_of b1.hp) (ev_var rfl) (by
          have := sq_of (K := K) b1.hq
          rw [List.map_map]
          exact this) (by omega) fun t u H2 e2 hu ht => ?_
        exact q t H2 (.ref u) _ (b1.ex.trans e2) ht (.tup (st_of hu) (b1.dv.mono e2)) ft fz
def countZ (a b : Int) : Nat := ([(b % 12).toNat, (1 + b % 3).toNat, (b % 30).toNat, 62] : List Nat).getD (a % 4).toNat 0
theorem countZ_le (a b : Int) : countZ a b ≤ 62 := by
  have hh : a % 4 = 0 ∨ a % 4 = 1 ∨ a % 4 = 2 ∨ a % 4 = 3 := by omega
  unfold countZ
  rcases hh with e | e | e | e <;> rw [e]
  · show (b % 12).toNat ≤ 62; omega
  · show (1 + b % 3).toNat ≤ 62; omega
  · show (b % 30).toNat ≤ 62; omega
  · show 62 ≤ 62; omega
def sizesZ : List Int := [999, 1000, 9999, 10000, 99999, 100000, 999999]
def sizeZ (a : Int) : Nat := (sizesZ.getD (a % 7).toNat 0).toNat
theorem sizeZ_le (a : Int) : sizeZ a ≤ 999999 ∧ sizesZ[(a % 7).toNat]? = some ((sizeZ a : Nat) : Int) := by
  have hh : a % 7 = 0 ∨ a % 7 = 1 ∨ a % 7 = 2 ∨ a % 7 = 3 ∨ a % 7 = 4 ∨ a % 7 = 5 ∨ a % 7 = 6 := by omega
  unfold sizeZ
  rcases hh with e | e | e | e | e | e | e <;> rw [e] <;> decide
theorem repC_one (c n : Nat) : (repC ⟨#[c]⟩ n).length = n := by
  show ((List.replicate n [c]).flatten).length = n
  rw [List.length_flatten, List.map_replicate, List.sum_replicate_nat]
  show n * 1 = n
  omega
def pairI (z : Str) (n : Int) : It := .tup [.str z, .int n]
theorem pairC (z : Str) (n : Int) : encC (pairI z n) = 40 :: ((116 :: (numC (z.length : Int) ++ (58 :: z.cps.toList))) ++ ((105 :: (numC n ++ [59])) ++ []) ++ [41]) := rfl
/-- item, text = _law_built(a new list) -/
theorem q_built {K : PySem.W.Frag} {E : XK} {σ : L2.St} {H : Hp} {te : TE} {ns : List Int} {tz : TS} {D : Ends} {n i j : Nat} (hl : EvL te σ H (ns.map V.int)) (h1 : ns.length ≤ 62) (h2 : ∀ n ∈ ns, Wd n) (hn : 2 = n)
    (k : ∀ v d H1, Ex H H1 → Dv K H1 v d → It.fit 12 d → (encC d).length ≤ 1000000 → tz D ((σ.set i (some v)).set j (some (.str ⟨(encC d).toArray⟩))) H1) :
    tSeq (tAsg (tCall (spBuilt K) [] E (tCons te tNil)) (gTup K n (gCons (gName i) (gCons (gName j) gNil)))) tz D σ H :=
  hl H (Ex.refl H) _ fun p H1 _ e1 hp => ⟨p, ns, rfl, sq_of hp, h1, h2, fun t H2 v d e2 ht hv hf hz => ⟨t, _, rfl, st_of ht, hn, v, _, rfl, _, _, rfl, rfl, k v d H2 (e1.trans e2) hv hf hz⟩⟩


/-! ### _law_cell -/
def cellZ (ns : List Int) (k : Nat) : Int := ns.getD k 0
def sp_cell (K : PySem.W.Frag) : Sp := fun vs H Q _ => ∃ (a : Addr) (ns : List Int) (k : Nat), vs = [.ref a, .int (k : Int)] ∧ SqL K H a (ns.map V.int) ∧ ∀ H', Ex H H' → Q (.int (cellZ ns k)) H'
theorem ok_law_cell (T : Txt K mg) : FnOk P w K mg base CX0 1 T.f_law_cell T.d_law_cell ["script", "k"] (sp_cell K) := by
  refine T.F_law_cell.ok sc_law_cell (fun vs H Q E h => ?_) (fun cdv A outer s H vs Q E hr h => ?_)
  · obtain ⟨a, ns, k, rfl, _⟩ := h
    rfl
  · obtain ⟨a, ns, k, rfl, hS, q⟩ := h
    refine ⟨_, pss_cons (ps_if (pt_cmpR op_lt (pv 1) (pe_callB (r := rLenQ K) call_len_seq (by rfl) T.m_len (by decide +kernel) (pa_cons (pv 0) (pa_nil))) (nomark _))
      (pss_one (ps_ret (pe_ix (r := rIxL K) ix_list (pv 0) (pv 1) (fun _ _ => rfl))))
      (pss_nil))
      (pss_one (ps_ret (pe_int))), ?_⟩
    refine q_when (b := decide ((k : Int) < ((ns.map V.int).length : Int))) (et_test (ev_bin0 (ev_var rfl) (ev_lenQ (K := K) (ev_var rfl) hS))) (fun hb H1 e1 => ?_) (fun hb H1 e1 => ?_)
    · have hk : k < ns.length := by
        have := of_decide_eq_true hb
        rw [List.length_map] at this
        omega
      refine s_ret (ev_ixL (K := K) (ev_var rfl) (ev_var rfl) (ex_l e1 hS) (at_nat (v := .int (cellZ ns k)) ?_)) fun H2 e2 => q H2 (e1.trans e2)
      rw [List.getElem?_map, List.getElem?_eq_getElem hk]
      unfold cellZ
      rw [List.getD_eq_getElem?_getD, List.getElem?_eq_getElem hk] <;> rfl
    · have hk : ¬ k < ns.length := by
        have := of_decide_eq_false hb
        rw [List.length_map] at this
        omega
      have e0 : cellZ ns k = 0 := by
        unfold cellZ
        rw [List.getD_eq_getElem?_getD, List.getElem?_eq_none (by omega)] <;> rfl
      refine s_ret ev_c fun H2 e2 => ?_
      rw [e0] at q
      exact q H2 (e1.trans e2)
theorem cv_cell {a : Addr} {ns : List Int} {k : Nat} {H : Hp} (h : SqL K H a (ns.map V.int)) : SpV (sp_cell K) [.ref a, .int (k : Int)] H (.int (cellZ ns k)) := fun H1 e Q q E => ⟨a, ns, k, rfl, ex_l e h, fun H2 e2 => q H2 e2⟩
theorem Wd.cell {ns : List Int} (h : ∀ n ∈ ns, Wd n) (k : Nat) : Wd (cellZ ns k) := by
  unfold cellZ
  rw [List.getD_eq_getElem?_getD]
  cases e : ns[k]? with
  | none => exact Wd.lit (by decide)
  | some x => exact h x (List.mem_of_getElem? e)


/-! ### _sign_at -/
def spSign : Sp := fun vs H Q _ => ∃ (z : Str) (i c : Nat), vs = [.str z, .int (i : Int)] ∧ z.length ≤ 16000000 ∧ z.cps.toList[i]? = some c ∧ ∀ H', Ex H H' → Q (.str ⟨#[c]⟩) H'
theorem cv_sign {z : Str} {i c : Nat} {H : Hp} (hz : z.length ≤ 16000000) (h : z.cps.toList[i]? = some c) : SpV spSign [.str z, .int (i : Int)] H (.str ⟨#[c]⟩) := fun H1 e Q q E => ⟨z, i, c, rfl, hz, h, fun H2 e2 => q H2 e2⟩
theorem ok_sign_at (T : Txt K mg) : FnOk P w K mg base CX0 1 T.f_sign_at T.d_sign_at ["text", "index"] spSign := by
  refine T.F_sign_at.ok sc_sign_at (fun vs H Q E h => ?_) (fun cdv A outer s H vs Q E hr h => ?_)
  · obtain ⟨z, i, c, rfl, _⟩ := h
    rfl
  · obtain ⟨z, i, c, rfl, hz, hc, q⟩ := h
    have hl : i < z.length := by
      rw [str_len]
      exact (List.getElem?_eq_some_iff.mp hc).1
    refine ⟨_, pss_cons (ps_if (pt_cmpR op_eq (pv 1) (pe_callB call_len_str (by rfl) T.m_len (by decide +kernel) (pa_cons (pv 0) (pa_nil))) (nomark _))
      (pss_one (ps_never))
      (pss_nil))
      (pss_one (ps_ret (pe_ix ix_str (pv 0) (pv 1) (fun _ _ => rfl)))), ?_⟩
    refine q_when (b := false) (et_is (et_test (ev_eqI (ev_var rfl) (ev_lenB (ev_var rfl) (by omega)))) (decide_eq_false (by omega))) (fun z => nomatch z) fun _ H1 e1 => ?_
    exact s_ret (ev_ixB (ev_var rfl) (ev_var rfl) (by omega) (at_natS hc)) fun H2 e2 => q H2 (e1.trans e2)


/-- text[len(text)] is asked for -/
def spTorn (CT : Addr) : Sp := fun vs H _ E => ∃ z : Str, vs = [.str z, .int (z.length : Int)] ∧ z.length ≤ 16000000 ∧ ∀ H', Ex H H' → E (.ref CT) none H'
def spTorn3 (CT : Addr) : Sp := fun vs H _ E => ∃ (z : Str) (l : V), vs = [.str z, .int (z.length : Int), l] ∧ z.length ≤ 16000000 ∧ ∀ H', Ex H H' → E (.ref CT) none H'
theorem ok_sign_at_torn (T : Txt K mg) : FnOk P w K mg base (L2N.CX P w) 1 T.f_sign_at T.d_sign_at ["text", "index"] (spTorn T.C_TornText) := by
  refine okN T.F_sign_at sc_sign_at (fun vs H Q E h => ?_) (fun cdv A outer s H vs Q E hr h => ?_)
  · obtain ⟨z, rfl, _⟩ := h
    rfl
  · obtain ⟨z, rfl, hz, q⟩ := h
    refine ⟨_, pss_cons (ps_if (pt_cmpR op_eq (pv 1) (pe_callB call_len_str (by rfl) T.m_len (by decide +kernel) (pa_cons (pv 0) (pa_nil))) (nomark _))
      (pss_one (L2N.ps_raise rfl (L2N.takes_of rfl rfl rfl rfl) (L2N.pmk_own PySem.F.excBase_ValueError T.e_TornText.x T.e_TornText.g T.e_TornText.kp (L2.raises_own T.e_TornText.b T.e_TornText.t) rfl)))
      (pss_nil)) pss_never, ?_⟩
    exact q_when (b := true) (et_is (et_test (ev_eqI (ev_var rfl) (ev_lenB (ev_var rfl) (by omega)))) (decide_eq_true rfl)) (fun _ H1 e1 => q H1 e1) (fun z => nomatch z)


def spSignA (CT : Addr) : Sp := fun vs H Q E => spSign vs H Q E ∨ spTorn CT vs H Q E
theorem ok_sign_at_any (T : Txt K mg) : FnOk P w K mg base (L2N.CX P w) 1 T.f_sign_at T.d_sign_at ["text", "index"] (spSignA T.C_TornText) := (ok_sign_at T).both (ok_sign_at_torn T)
theorem cv_signA {CT : Addr} {z : Str} {i c : Nat} {H : Hp} (hz : z.length ≤ 16000000) (h : z.cps.toList[i]? = some c) : SpV (spSignA CT) [.str z, .int (i : Int)] H (.str ⟨#[c]⟩) := fun H1 e Q q E => .inl (cv_sign hz h H1 e Q q E)
theorem torn_at {CT : Addr} {z : Str} {a : List Nat} {H : Hp} {Q : VK} {E : XK} (h : z.cps.toList = a) (hz : z.length ≤ 16000000) (q : ∀ H', Ex H H' → E (.ref CT) none H') : spTorn CT [.str z, .int (a.length : Int)] H Q E := ⟨z, by rw [str_len, h], hz, q⟩


/-! ### _end_of_digits -/
def spEnd : Sp := fun vs H Q _ => ∃ (z : Str) (a ds r : List Nat) (cl most : Nat), vs = [.str z, .int (a.length : Int), .int (most : Int), .str ⟨#[cl]⟩] ∧ z.length ≤ 16000000 ∧ z.cps.toList = a ++ (ds ++ (cl :: r)) ∧ Digs ds most ∧ ¬ (48 ≤ cl ∧ cl ≤ 57) ∧ ∀ H', Ex H H' → Q (.int ((a.length + ds.length : Nat) : Int)) H'
theorem cv_end {z : Str} {a ds r : List Nat} {cl most : Nat} {H : Hp} (hz : z.length ≤ 16000000) (h : z.cps.toList = a ++ (ds ++ (cl :: r))) (hd : Digs ds most) (hc : ¬ (48 ≤ cl ∧ cl ≤ 57)) : SpV spEnd [.str z, .int (a.length : Int), .int (most : Int), .str ⟨#[cl]⟩] H (.int ((a.length + ds.length : Nat) : Int)) := fun H1 e Q q E => ⟨z, a, ds, r, cl, most, rfl, hz, h, hd, hc, fun H2 e2 => q H2 e2⟩
theorem ok_end_of_digits (T : Txt K mg) : FnOk P w K mg base CX0 2 T.f_end_of_digits T.d_end_of_digits ["text", "first", "most", "closing"] spEnd := by
  refine T.F_end_of_digits.ok sc_end_of_digits (fun vs H Q E h => ?_) (fun cdv A outer s H vs Q E hr h => ?_)
  · obtain ⟨z, a, ds, r, cl, most, rfl, _⟩ := h
    rfl
  · obtain ⟨z, a, ds, r, cl, most, rfl, hz, hl, hd, hcl, q⟩ := h
    have at1 : ∀ j, j ≤ ds.length → ∃ c, z.cps.toList[a.length + j]? = some c ∧ (j < ds.length → ds[j]? = some c) ∧ (j = ds.length → c = cl) := fun j hj => by
      rw [hl, List.getElem?_append_right (by omega), Nat.add_sub_cancel_left]
      by_cases h : j < ds.length
      · rw [List.getElem?_append_left h]
        exact ⟨ds[j], List.getElem?_eq_getElem h, fun _ => List.getElem?_eq_getElem h, fun z => by omega⟩
      · have : j = ds.length := by omega
        subst this
        rw [List.getElem?_append_right (by omega), Nat.sub_self]
        exact ⟨cl, rfl, fun z => absurd z h, fun _ => rfl⟩
    have h0 : 0 < ds.length := List.length_pos_iff.mpr hd.ne
    refine ⟨_, pss_cons (ps_set (i := 4) sc_end_of_digits.nd rfl (by first | exact Or.inl rfl | exact Or.inr rfl) (pv 1))
      (pss_cons (ps_set (i := 5) sc_end_of_digits.nd rfl (by first | exact Or.inl rfl | exact Or.inr rfl) (pe_call (ok_sign_at T) (hr.mono (by first | decide | omega)) (by rfl) T.g_sign_at T.F_sign_at.kp T.b_sign_at .nil pass0 (pa_cons (pv 0) (pa_cons (pv 4) (pa_nil)))))
      (pss_cons (ps_while PassesOwn.never (pt_chain op_le_str op_le_str (pe_str) (pv 5) (pe_str))
      (pss_cons (ps_set (i := 6) sc_end_of_digits.nd rfl (by first | exact Or.inl rfl | exact Or.inr rfl) (pe_op op_sub (pv 4) (pv 1)))
      (pss_cons (ps_if (PW.pt (pw_or (pt_cmpR op_eq (pv 6) (pv 2) (nomark _)) (pw_or1 (PW.pt (pw_and (pt_cmpR op_eq (pv 6) (pe_int) (nomark _)) (pw_and1 (pt_cmpR op_eq (pe_ix ix_str (pv 0) (pv 1) (fun _ _ => rfl)) (pe_str) (nomark _))))))))
      (pss_one (ps_never))
      (pss_nil))
      (pss_cons (ps_aug (i := 4) sc_end_of_digits.nd rfl (by first | exact Or.inl rfl | exact Or.inr rfl) (pe_int) ip_add)
      (pss_one (ps_set (i := 5) sc_end_of_digits.nd rfl (by first | exact Or.inl rfl | exact Or.inr rfl) (pe_call (ok_sign_at T) (hr.mono (by first | decide | omega)) (by rfl) T.g_sign_at T.F_sign_at.kp T.b_sign_at .nil pass0 (pa_cons (pv 0) (pa_cons (pv 4) (pa_nil))))))))))
      (pss_cons (ps_if (PW.pt (pw_or (pt_cmpR op_eq (pv 4) (pv 1) (nomark _)) (pw_or1 (pt_cmpR op_ne (pv 5) (pv 3) (nomark _)))))
      (pss_one (ps_never))
      (pss_nil))
      (pss_one (ps_ret (pv 4)))))), ?_⟩
    refine q_asg (ev_var rfl) fun H1 e1 => ?_
    obtain ⟨c0, hc0, _, _⟩ := at1 0 (Nat.zero_le _)
    refine q_asg (ev_call (ea_cons (ev_var rfl) (ea_cons (ev_var rfl) ea_nil)) (cv_sign (i := a.length) hz (by simpa using hc0))) fun H2 e2 => ?_
    refine q_while (fun m σ' H' => ∃ (j c : Nat) (cv : Option V), m = ds.length - j ∧ j ≤ ds.length ∧ σ' = [some (.str z), some (.int (a.length : Int)), some (.int (most : Int)), some (.str ⟨#[cl]⟩), some (.int ((a.length + j : Nat) : Int)), some (.str ⟨#[c]⟩), cv] ∧ z.cps.toList[a.length + j]? = some c ∧ Ex H H') ds.length ⟨0, c0, none, rfl, Nat.zero_le _, rfl, hc0, e1.trans e2⟩ (fun m σ' H' hW => ?_)
    obtain ⟨j, c, cv, rfl, hj, rfl, hc, eH⟩ := hW
    obtain ⟨c', hc', hin, hout⟩ := at1 j hj
    have ecc : c' = c := Option.some.inj (hc'.symm.trans hc)
    subst ecc
    refine ⟨_, et_dig (ev_var rfl), fun hb H3 e3 => ?_, fun hb H3 e3 => ?_⟩
    · have hdig := of_decide_eq_true hb
      have hjl : j < ds.length := by
        by_cases h : j < ds.length
        · exact h
        · have := hout (by omega)
          rw [this] at hdig
          exact absurd hdig hcl
      have hlen := hd.len
      obtain ⟨c2, hc2, _, _⟩ := at1 (j + 1) (by omega)
      refine ⟨fun σ' H' => ∃ cv : Option V, σ' = [some (.str z), some (.int (a.length : Int)), some (.int (most : Int)), some (.str ⟨#[cl]⟩), some (.int ((a.length + (j + 1) : Nat) : Int)), some (.str ⟨#[c2]⟩), cv] ∧ Ex H H', fun σ2 H2 hN => ?_, ?_⟩
      · obtain ⟨cv, rfl, eN⟩ := hN
        exact ⟨ds.length - (j + 1), by omega, j + 1, c2, cv, rfl, by omega, rfl, hc2, eN⟩
      · refine q_asg (v := .int (j : Int)) (ev_is (ev_bin0 (ev_var rfl) (ev_var rfl)) (congrArg V.int (by omega))) fun H4 e4 => ?_
        refine q_when (b := false) (et_is (et_or (a := false) (b := false) (et_is (et_test (ev_eqI (ev_var rfl) (ev_var rfl))) (decide_eq_false (by omega))) fun _ => ?_) rfl) (fun z => nomatch z) fun _ H5 e5 => ?_
        · by_cases h1 : j = 1
          · obtain ⟨d0, hd0, hin0, _⟩ := at1 0 (Nat.zero_le _)
            have hd0' := hin0 h0
            have hne : d0 ≠ 48 := fun z => by
              rcases hd.lead with h | h
              · omega
              · apply h
                rw [← z, List.head?_eq_getElem?]
                exact hd0'
            refine et_is (et_and (a := true) (b := false) (et_is (et_test (ev_eqI (ev_var rfl) ev_c)) (decide_eq_true (by omega))) fun _ => et_is (et_test (ev_eqS (ev_ixB (c := d0) (ev_var rfl) (ev_var rfl) (by omega) (at_natS (by simpa using hd0))) ev_c)) ?_) rfl
            have e0 : (Str.ofString "0") = ⟨#[48]⟩ := by decide +kernel
            rw [e0, str1_eq]
            exact decide_eq_false hne
          · exact et_is (et_and (a := false) (b := false) (et_is (et_test (ev_eqI (ev_var rfl) ev_c)) (decide_eq_false (by omega))) fun z => nomatch z) rfl
        · refine q_asgAug (b := 1) rfl ev_c fun H6 e6 => ?_
          have ei : (((a.length + j : Nat) : Int) + 1) = ((a.length + (j + 1) : Nat) : Int) := by omega
          rw [ei]
          exact s_asg (ev_call (ea_cons (ev_var rfl) (ea_cons (ev_var rfl) ea_nil)) (cv_sign hz hc2)) fun H7 e7 => ⟨some (.int (j : Int)), rfl, ((((eH.trans e3).trans e4).trans e5).trans e6).trans e7⟩
    · have hdig := of_decide_eq_false hb
      have hjl : j = ds.length := by
        by_cases h : j < ds.length
        · have := hd.all _ (List.mem_of_getElem? (hin h))
          exact absurd this hdig
        · omega
      have hcc := hout hjl
      subst hjl
      subst hcc
      refine q_when (b := false) (et_is (et_or (a := false) (b := false) (et_is (et_test (ev_eqI (ev_var rfl) (ev_var rfl))) (decide_eq_false (by omega))) fun _ => et_is (et_test (ev_neS (ev_var rfl) (ev_var rfl))) (by simp)) rfl) (fun z => nomatch z) fun _ H4 e4 => ?_
      exact s_ret (ev_var rfl) fun H5 e5 => q H5 (((eH.trans e3).trans e4).trans e5)


/-- digits, and then the text ends -/
def spEndT (CT : Addr) : Sp := fun vs H _ E => ∃ (z : Str) (a ds D rest : List Nat) (cl most : Nat), vs = [.str z, .int (a.length : Int), .int (most : Int), .str ⟨#[cl]⟩] ∧ z.length ≤ 16000000 ∧ z.cps.toList = a ++ ds ∧ Digs D most ∧ D = ds ++ rest ∧ ∀ H', Ex H H' → E (.ref CT) none H'
theorem ok_end_torn (T : Txt K mg) : FnOk P w K mg base (L2N.CX P w) 2 T.f_end_of_digits T.d_end_of_digits ["text", "first", "most", "closing"] (spEndT T.C_TornText) := by
  refine okN T.F_end_of_digits sc_end_of_digits (fun vs H Q E h => ?_) (fun cdv A outer s H vs Q E hr h => ?_)
  · obtain ⟨z, a, ds, D, rest, cl, most, rfl, _⟩ := h
    rfl
  · obtain ⟨z, a, ds, D, rest, cl, most, rfl, hz, hl, hd, hD, q⟩ := h
    have at1 : ∀ j, z.cps.toList[a.length + j]? = ds[j]? := fun j => by
      rw [hl, List.getElem?_append_right (by omega), Nat.add_sub_cancel_left]
    have hdl : D.length = ds.length + rest.length := by rw [hD, List.length_append]
    have hmost := hd.len
    refine ⟨_, pss_cons (ps_set (i := 4) sc_end_of_digits.nd rfl (by first | exact Or.inl rfl | exact Or.inr rfl) (pv 1))
      (pss_cons (ps_set (i := 5) sc_end_of_digits.nd rfl (by first | exact Or.inl rfl | exact Or.inr rfl) (pe_call (ok_sign_at_any T) (hr.mono (by first | decide | omega)) (by rfl) T.g_sign_at T.F_sign_at.kp T.b_sign_at .nil (L2N.passes_call (L2N.takes_of rfl rfl rfl rfl) fun _ _ _ _ h => h) (pa_cons (pv 0) (pa_cons (pv 4) (pa_nil)))))
      (pss_cons (ps_while (L2.passes_of rfl) (pt_chain op_le_str op_le_str (pe_str) (pv 5) (pe_str))
      (pss_cons (ps_set (i := 6) sc_end_of_digits.nd rfl (by first | exact Or.inl rfl | exact Or.inr rfl) (pe_op op_sub (pv 4) (pv 1)))
      (pss_cons (ps_if (PW.pt (pw_or (pt_cmpR op_eq (pv 6) (pv 2) (nomark _)) (pw_or1 (PW.pt (pw_and (pt_cmpR op_eq (pv 6) (pe_int) (nomark _)) (pw_and1 (pt_cmpR op_eq (pe_ix ix_str (pv 0) (pv 1) (fun _ _ => rfl)) (pe_str) (nomark _))))))))
      (pss_one (ps_never))
      (pss_nil))
      (pss_cons (ps_aug (i := 4) sc_end_of_digits.nd rfl (by first | exact Or.inl rfl | exact Or.inr rfl) (pe_int) ip_add)
      (pss_one (ps_set (i := 5) sc_end_of_digits.nd rfl (by first | exact Or.inl rfl | exact Or.inr rfl) (pe_call (ok_sign_at_any T) (hr.mono (by first | decide | omega)) (by rfl) T.g_sign_at T.F_sign_at.kp T.b_sign_at .nil (L2N.passes_call (L2N.takes_of rfl rfl rfl rfl) fun _ _ _ _ h => h) (pa_cons (pv 0) (pa_cons (pv 4) (pa_nil))))))))))
      (pss_cons (ps_if (PW.pt (pw_or (pt_cmpR op_eq (pv 4) (pv 1) (nomark _)) (pw_or1 (pt_cmpR op_ne (pv 5) (pv 3) (nomark _)))))
      (pss_one (ps_never))
      (pss_nil))
      (pss_one (ps_ret (pv 4)))))), ?_⟩
    refine q_asg (ev_var rfl) fun H1 e1 => ?_
    by_cases h0 : ds.length = 0
    · have hl0 : z.cps.toList = a := by rw [hl, List.length_eq_zero_iff.mp h0, List.append_nil]
      exact q_callE (ea_cons (ev_var rfl) (ea_cons (ev_var rfl) ea_nil)) fun H2 Q2 e2 => .inr (torn_at hl0 hz fun H3 e3 => q H3 ((e1.trans e2).trans e3))
    · have hpos : 0 < ds.length := by omega
      have hc0 : z.cps.toList[a.length]? = some ds[0] := by rw [← List.getElem?_eq_getElem hpos, ← at1 0] <;> rfl
      refine q_asg (ev_call (ea_cons (ev_var rfl) (ea_cons (ev_var rfl) ea_nil)) (cv_signA (i := a.length) hz hc0)) fun H2 e2 => ?_
      refine q_while (fun m σ' H' => ∃ (j c : Nat) (cv : Option V), m = ds.length - j ∧ j < ds.length ∧ σ' = [some (.str z), some (.int (a.length : Int)), some (.int (most : Int)), some (.str ⟨#[cl]⟩), some (.int ((a.length + j : Nat) : Int)), some (.str ⟨#[c]⟩), cv] ∧ ds[j]? = some c ∧ Ex H H') ds.length ⟨0, ds[0], none, rfl, hpos, rfl, List.getElem?_eq_getElem hpos, e1.trans e2⟩ (fun m σ' H' hW => ?_)
      obtain ⟨j, c, cv, rfl, hj, rfl, hc, eH⟩ := hW
      have hdig := hd.all c (by rw [hD]; exact List.mem_append_left _ (List.mem_of_getElem? hc))
      refine ⟨true, et_is (et_dig (ev_var rfl)) (decide_eq_true hdig), fun _ H3 e3 => ?_, fun z => nomatch z⟩
      refine ⟨fun σ' H' => ∃ (c2 : Nat) (cv : Option V), j + 1 < ds.length ∧ σ' = [some (.str z), some (.int (a.length : Int)), some (.int (most : Int)), some (.str ⟨#[cl]⟩), some (.int ((a.length + (j + 1) : Nat) : Int)), some (.str ⟨#[c2]⟩), cv] ∧ ds[j + 1]? = some c2 ∧ Ex H H', fun σ2 H2 hN => ?_, ?_⟩
      · obtain ⟨c2, cv, hj2, rfl, hc2, eN⟩ := hN
        exact ⟨ds.length - (j + 1), by omega, j + 1, c2, cv, rfl, hj2, rfl, hc2, eN⟩
      · refine q_asg (v := .int (j : Int)) (ev_is (ev_bin0 (ev_var rfl) (ev_var rfl)) (congrArg V.int (by omega))) fun H4 e4 => ?_
        refine q_when (b := false) (et_is (et_or (a := false) (b := false) (et_is (et_test (ev_eqI (ev_var rfl) (ev_var rfl))) (decide_eq_false (by omega))) fun _ => ?_) rfl) (fun z => nomatch z) fun _ H5 e5 => ?_
        · by_cases h1 : j = 1
          · have hne : ds[0] ≠ 48 := fun z => by
              rcases hd.lead with h | h
              · omega
              · apply h
                rw [hD, ← z, List.head?_append, List.head?_eq_getElem?, List.getElem?_eq_getElem hpos] <;> rfl
            refine et_is (et_and (a := true) (b := false) (et_is (et_test (ev_eqI (ev_var rfl) ev_c)) (decide_eq_true (by omega))) fun _ => et_is (et_test (ev_eqS (ev_ixB (c := ds[0]) (ev_var rfl) (ev_var rfl) (by omega) (at_natS hc0)) ev_c)) ?_) rfl
            have e0 : (Str.ofString "0") = ⟨#[48]⟩ := by decide +kernel
            rw [e0, str1_eq]
            exact decide_eq_false hne
          · exact et_is (et_and (a := false) (b := false) (et_is (et_test (ev_eqI (ev_var rfl) ev_c)) (decide_eq_false (by omega))) fun z => nomatch z) rfl
        · refine q_asgAug (b := 1) rfl ev_c fun H6 e6 => ?_
          have ei : (((a.length + j : Nat) : Int) + 1) = ((a.length + (j + 1) : Nat) : Int) := by omega
          rw [ei]
          by_cases hj2 : j + 1 < ds.length
          · exact s_asg (ev_call (ea_cons (ev_var rfl) (ea_cons (ev_var rfl) ea_nil)) (cv_signA hz (by rw [at1, List.getElem?_eq_getElem hj2]))) fun H7 e7 => ⟨_, some (.int (j : Int)), hj2, rfl, List.getElem?_eq_getElem hj2, ((((eH.trans e3).trans e4).trans e5).trans e6).trans e7⟩
          · have hl2 : (a ++ ds).length = a.length + (j + 1) := by rw [List.length_append]; omega
            rw [← hl2]
            exact s_callEA (ea_cons (ev_var rfl) (ea_cons (ev_var rfl) ea_nil)) fun H7 Q7 e7 => .inr (torn_at hl hz fun H8 e8 => q H8 (((((eH.trans e3).trans e4).trans e5).trans e6).trans (e7.trans e8)))
theorem ok_end_of_digits_any (T : Txt K mg) : FnOk P w K mg base (L2N.CX P w) 2 T.f_end_of_digits T.d_end_of_digits ["text", "first", "most", "closing"] (fun vs H Q E => spEnd vs H Q E ∨ spEndT T.C_TornText vs H Q E) := (ok_end_of_digits T).both (ok_end_torn T)
theorem cv_endA {CT : Addr} {z : Str} {a ds r : List Nat} {cl most : Nat} {H : Hp} (hz : z.length ≤ 16000000) (h : z.cps.toList = a ++ (ds ++ (cl :: r))) (hd : Digs ds most) (hc : ¬ (48 ≤ cl ∧ cl ≤ 57)) : SpV (fun vs H Q E => spEnd vs H Q E ∨ spEndT CT vs H Q E) [.str z, .int (a.length : Int), .int (most : Int), .str ⟨#[cl]⟩] H (.int ((a.length + ds.length : Nat) : Int)) := fun H1 e Q q E => .inl (cv_end hz h hd hc H1 e Q q E)


/-! ### _read_integer -/
/-- a pair (value, place) -/
def spPair (K : PySem.W.Frag) (d : It) (e : Int) (H : Hp) (Q : VK) : Prop := ∀ t H' v, Ex H H' → H' t = some (.tup [v, .int e]) → Dv K H' v d → Q (.ref t) H'
theorem eu_ret2 {σ : L2.St} {H : Hp} {ta tb : TE} {D : Ends} {x y : V} (ha : Ev ta σ H x) (hb : Ev tb σ H y) (k : ∀ t H1, Ex H H1 → H1 t = some (.tup [x, y]) → D.rt (.ref t) H1) : tRet (tTup (tCons ta (tCons tb tNil))) D σ H :=
  s_retU (eu_tup (ea_cons ha (ea_cons hb ea_nil)) (by show 2 ≤ 100000; decide)) fun t H1 _ e1 ht => k t H1 e1 ht
theorem ev_intT {σ : L2.St} {H : Hp} {te : TE} {z : Str} {n : Int} (h : Ev te σ H (.str z)) (hn : PySem.intText? z = some n) (hl : z.length ≤ 640) : Ev (tCB (fun xs H Q => ∃ a n, xs = [V.str a] ∧ PySem.intText? a = some n ∧ a.length ≤ 640 ∧ Q (.int n) H) (tCons te tNil)) σ H (.int n) := fun H1 e Q q =>
  h H1 e _ fun H2 e2 => ⟨z, n, rfl, hn, hl, q H2 e2⟩
def spRInt (K : PySem.W.Frag) : Sp := fun vs H Q _ => ∃ (z : Str) (a r : List Nat) (i : Int), vs = [.str z, .int (a.length : Int)] ∧ z.length ≤ 16000000 ∧ z.cps.toList = a ++ (numC i ++ (59 :: r)) ∧ (-(10 ^ 60) < i ∧ i < 10 ^ 60) ∧ spPair K (.int i) ((a.length + (numC i).length + 1 : Nat) : Int) H Q
theorem ok_read_integer (T : Txt K mg) : FnOk P w K mg base CX0 3 T.f_read_integer T.d_read_integer ["text", "index"] (spRInt K) := by
  refine T.F_read_integer.ok sc_read_integer (fun vs H Q E h => ?_) (fun cdv A outer s H vs Q E hr h => ?_)
  · obtain ⟨z, a, r, i, rfl, _⟩ := h
    rfl
  · obtain ⟨z, a, r, i, rfl, hz, hl, hi, q⟩ := h
    obtain ⟨hti, htl⟩ := int_at hi
    have e60 : (10 : Int) ^ 60 = 1000000000000000000000000000000000000000000000000000000000000 := by decide
    have n60 : (10 : Nat) ^ 60 = 1000000000000000000000000000000000000000000000000000000000000 := by decide
    have e58 : (Str.ofString ";") = ⟨#[59]⟩ := by decide +kernel
    have e45 : (Str.ofString "-") = ⟨#[45]⟩ := by decide +kernel
    have e48 : (Str.ofString "0") = ⟨#[48]⟩ := by decide +kernel
    have cz := cutS_at hl
    refine ⟨_, pss_cons (ps_set (i := 2) sc_read_integer.nd rfl (by first | exact Or.inl rfl | exact Or.inr rfl) (pv 1))
      (pss_cut (ps_if (pt_cmpR op_eq (pe_call (ok_sign_at T) (hr.mono (by first | decide | omega)) (by rfl) T.g_sign_at T.F_sign_at.kp T.b_sign_at .nil pass0 (pa_cons (pv 0) (pa_cons (pv 1) (pa_nil)))) (pe_str) (nomark _))
      (pss_cons (ps_set (i := 2) sc_read_integer.nd rfl (by first | exact Or.inl rfl | exact Or.inr rfl) (pe_op op_add (pv 1) (pe_int)))
      (pss_one (ps_if (pt_cmpR op_eq (pe_call (ok_sign_at T) (hr.mono (by first | decide | omega)) (by rfl) T.g_sign_at T.F_sign_at.kp T.b_sign_at .nil pass0 (pa_cons (pv 0) (pa_cons (pv 2) (pa_nil)))) (pe_str) (nomark _))
      (pss_one (ps_never))
      (pss_nil))))
      (pss_nil))
      (pss_cons (ps_set (i := 3) sc_read_integer.nd rfl (by first | exact Or.inl rfl | exact Or.inr rfl) (pe_call (ok_end_of_digits T) (hr.mono (by first | decide | omega)) (by rfl) T.g_end_of_digits T.F_end_of_digits.kp T.b_end_of_digits .nil pass0 (pa_cons (pv 0) (pa_cons (pv 2) (pa_cons (pe_glob (v := .int 60) rfl T.k_MOST_DIGITS ⟨_, rfl⟩) (pa_cons (pe_str) (pa_nil)))))))
      (pss_one (ps_ret (pe_tup (pa_cons (pe_callTy call_int_str (by rfl) T.m_int (by decide +kernel) (pa_cons (pe_slice sl_str (pv 0) (po_some (pv 1)) (po_some (pv 3))) (pa_nil))) (pa_cons (pe_op op_add (pv 3) (pe_int)) (pa_nil)))))))), ?_⟩
    refine q_asg (ev_var rfl) fun H1 e1 => ?_
    refine q_cut (M := fun σ' H' => ∃ (b : List Nat) (n : Nat), σ' = [some (.str z), some (.int (a.length : Int)), some (.int (b.length : Int)), none] ∧ Ex H H' ∧ z.cps.toList = b ++ (TL.numL n ++ (59 :: r)) ∧ n < 10 ^ 60 ∧ b.length + (TL.numL n).length = a.length + (numC i).length) ?_ fun σ' H' hM => ?_
    · cases i with
      | ofNat n =>
        have hn : n < 10 ^ 60 := by
          rw [n60]
          have := hi.2
          rw [e60] at this
          have h2 : ((n : Nat) : Int) < 1000000000000000000000000000000000000000000000000000000000000 := this
          omega
        have el : z.cps.toList = a ++ (TL.numL n ++ (59 :: r)) := by
          rw [hl, show numC (Int.ofNat n) = TL.numL n from numC_nat n]
        cases ec : TL.numL n with
        | nil => exact absurd ec (TL.numL_ne n)
        | cons c cs =>
          have hc : z.cps.toList[a.length]? = some c := by
            rw [el, ec, List.getElem?_append_right (Nat.le_refl _), Nat.sub_self] <;> rfl
          have hdig := TL.numL_digits n c (by rw [ec]; exact List.mem_cons_self ..)
          refine s_when (b := false) (et_is (et_test (ev_eqS (ev_call (ea_cons (ev_var rfl) (ea_cons (ev_var rfl) ea_nil)) (cv_sign hz hc)) ev_c)) ?_) (fun z => nomatch z) fun _ H2 e2 => ⟨a, n, rfl, e1.trans e2, el, hn, by rw [show numC (Int.ofNat n) = TL.numL n from numC_nat n]⟩
          rw [e45, str1_eq]
          exact decide_eq_false (by omega)
      | negSucc n =>
        have hn : n + 1 < 10 ^ 60 := by
          rw [n60]
          have := hi.1
          rw [e60] at this
          omega
        have el0 : z.cps.toList = a ++ (45 :: (TL.numL (n + 1) ++ (59 :: r))) := by
          rw [hl, numC_neg] <;> rfl
        have el : z.cps.toList = (a ++ [45]) ++ (TL.numL (n + 1) ++ (59 :: r)) := by
          rw [el0, List.append_assoc] <;> rfl
        have hc : z.cps.toList[a.length]? = some 45 := by
          rw [el0, List.getElem?_append_right (Nat.le_refl _), Nat.sub_self] <;> rfl
        refine s_when (b := true) (et_is (et_test (ev_eqS (ev_call (ea_cons (ev_var rfl) (ea_cons (ev_var rfl) ea_nil)) (cv_sign hz hc)) ev_c)) (by rw [e45]; exact decide_eq_true rfl)) (fun _ H2 e2 => ?_) (fun z => nomatch z)
        refine q_asg (v := .int ((a ++ [45]).length : Int)) (ev_is (ev_bin0 (ev_var rfl) ev_c) (congrArg V.int (by rw [List.length_append] <;> rfl))) fun H3 e3 => ?_
        cases ec : TL.numL (n + 1) with
        | nil => exact absurd ec (TL.numL_ne (n + 1))
        | cons c cs =>
          have hc2 : z.cps.toList[(a ++ [45]).length]? = some c := by
            rw [el, ec, List.getElem?_append_right (Nat.le_refl _), Nat.sub_self] <;> rfl
          have hne : c ≠ 48 := fun z => by
            rcases numL_head (n + 1) with h | h
            · rw [ec] at h
              have hr : cs = [] := List.length_eq_zero_iff.mp (by simpa using h)
              have hv := TL.numL_val (n + 1)
              rw [ec, hr, z] at hv
              have : (0 : Nat) = n + 1 := hv
              omega
            · rw [ec, z] at h
              exact h rfl
          refine s_when (b := false) (et_is (et_test (ev_eqS (ev_call (ea_cons (ev_var rfl) (ea_cons (ev_var rfl) ea_nil)) (cv_sign hz hc2)) ev_c)) ?_) (fun z => nomatch z) fun _ H4 e4 => ⟨a ++ [45], n + 1, rfl, ((e1.trans e2).trans e3).trans e4, el, hn, ?_⟩
          · rw [e48, str1_eq]
            exact decide_eq_false hne
          · simp only [numC_neg, List.length_append, List.length_cons, List.length_nil]
            omega
    · obtain ⟨b, n, rfl, eM, el, hn, hlen⟩ := hM
      have dg : Digs (TL.numL n) 60 := digs_num (by decide) hn
      refine q_asg (v := .int ((b.length + (TL.numL n).length : Nat) : Int)) (ev_call (ea_cons (ev_var rfl) (ea_cons (ev_var rfl) (ea_cons ev_c (ea_cons (ev_is ev_c (congrArg V.str e58)) ea_nil)))) (cv_end (most := 60) hz el dg (by omega))) fun H2 e2 => ?_
      rw [hlen]
      refine eu_ret2 (ev_intT (ev_is (ev_slB (ev_var rfl) (eo_some (ev_var rfl)) (eo_some (ev_var rfl)) (by omega)) (congrArg V.str cz)) hti htl) (ev_is (ev_bin0 (ev_var rfl) ev_c) (congrArg V.int (show ((a.length + (numC i).length : Nat) : Int) + 1 = ((a.length + (numC i).length + 1 : Nat) : Int) by omega))) fun t H3 e3 ht => q t H3 (.int i) (eM.trans (e2.trans e3)) ht (.int i)


/-- the text ends within a number -/
def spRIntT (CT : Addr) : Sp := fun vs H _ E => ∃ (z : Str) (a t r : List Nat) (i : Int) (c : Nat), vs = [.str z, .int (a.length : Int)] ∧ z.length ≤ 16000000 ∧ z.cps.toList = a ++ t ∧ numC i ++ [59] = t ++ (c :: r) ∧ (-(10 ^ 60) < i ∧ i < 10 ^ 60) ∧ ∀ H', Ex H H' → E (.ref CT) none H'
theorem ok_read_integer_torn (T : Txt K mg) : FnOk P w K mg base (L2N.CX P w) 3 T.f_read_integer T.d_read_integer ["text", "index"] (spRIntT T.C_TornText) := by
  refine okN T.F_read_integer sc_read_integer (fun vs H Q E h => ?_) (fun cdv A outer s H vs Q E hr h => ?_)
  · obtain ⟨z, a, t, r, i, c, rfl, _⟩ := h
    rfl
  · obtain ⟨z, a, t, r, i, c, rfl, hz, hl, ht, hi, q⟩ := h
    have e60 : (10 : Int) ^ 60 = 1000000000000000000000000000000000000000000000000000000000000 := by decide
    have n60 : (10 : Nat) ^ 60 = 1000000000000000000000000000000000000000000000000000000000000 := by decide
    have e58 : (Str.ofString ";") = ⟨#[59]⟩ := by decide +kernel
    have e45 : (Str.ofString "-") = ⟨#[45]⟩ := by decide +kernel
    have e48 : (Str.ofString "0") = ⟨#[48]⟩ := by decide +kernel
    refine ⟨_, pss_cons (ps_set (i := 2) sc_read_integer.nd rfl (by first | exact Or.inl rfl | exact Or.inr rfl) (pv 1))
      (pss_cut (ps_if (pt_cmpR op_eq (pe_call (ok_sign_at_any T) (hr.mono (by first | decide | omega)) (by rfl) T.g_sign_at T.F_sign_at.kp T.b_sign_at .nil (L2N.passes_call (L2N.takes_of rfl rfl rfl rfl) fun _ _ _ _ h => h) (pa_cons (pv 0) (pa_cons (pv 1) (pa_nil)))) (pe_str) (nomark _))
      (pss_cons (ps_set (i := 2) sc_read_integer.nd rfl (by first | exact Or.inl rfl | exact Or.inr rfl) (pe_op op_add (pv 1) (pe_int)))
      (pss_one (ps_if (pt_cmpR op_eq (pe_call (ok_sign_at_any T) (hr.mono (by first | decide | omega)) (by rfl) T.g_sign_at T.F_sign_at.kp T.b_sign_at .nil (L2N.passes_call (L2N.takes_of rfl rfl rfl rfl) fun _ _ _ _ h => h) (pa_cons (pv 0) (pa_cons (pv 2) (pa_nil)))) (pe_str) (nomark _))
      (pss_one (ps_never))
      (pss_nil))))
      (pss_nil))
      (pss_cons (ps_set (i := 3) sc_read_integer.nd rfl (by first | exact Or.inl rfl | exact Or.inr rfl) (pe_call (ok_end_of_digits_any T) (hr.mono (by first | decide | omega)) (by rfl) T.g_end_of_digits T.F_end_of_digits.kp T.b_end_of_digits .nil (L2N.passes_call (L2N.takes_of rfl rfl rfl rfl) fun _ _ _ _ h => h) (pa_cons (pv 0) (pa_cons (pv 2) (pa_cons (pe_glob (v := .int 60) rfl T.k_MOST_DIGITS ⟨_, rfl⟩) (pa_cons (pe_str) (pa_nil)))))))
      (pss_one (ps_ret (pe_tup (pa_cons (pe_callTy call_int_str (by rfl) T.m_int (by decide +kernel) (pa_cons (pe_slice sl_str (pv 0) (po_some (pv 1)) (po_some (pv 3))) (pa_nil))) (pa_cons (pe_op op_add (pv 3) (pe_int)) (pa_nil)))))))), ?_⟩
    refine q_asg (ev_var rfl) fun H1 e1 => ?_
    cases t with
    | nil =>
      rw [List.append_nil] at hl
      exact q_cut (M := fun _ _ => False) (s_ifX (ea_cons (ev_var rfl) (ea_cons (ev_var rfl) ea_nil)) fun H2 Q2 e2 => .inr (torn_at hl hz fun H3 e3 => q H3 ((e1.trans e2).trans e3))) fun _ _ z => z.elim
    | cons c0 t' =>
      have hc : z.cps.toList[a.length]? = some c0 := by
        rw [hl, List.getElem?_append_right (Nat.le_refl _), Nat.sub_self] <;> rfl
      obtain ⟨rest0, hpre⟩ := pre_one ht
      refine q_cut (M := fun σ' H' => ∃ (b ds rest : List Nat) (n : Nat), σ' = [some (.str z), some (.int (a.length : Int)), some (.int (b.length : Int)), none] ∧ Ex H H' ∧ z.cps.toList = b ++ ds ∧ TL.numL n = ds ++ rest ∧ n < 10 ^ 60) ?_ fun σ' H' hM => ?_
      · cases i with
        | ofNat n =>
          have hn : n < 10 ^ 60 := by
            rw [n60]
            have := hi.2
            rw [e60] at this
            have h2 : ((n : Nat) : Int) < 1000000000000000000000000000000000000000000000000000000000000 := this
            omega
          rw [show numC (Int.ofNat n) = TL.numL n from numC_nat n] at hpre
          have hdig := TL.numL_digits n c0 (by rw [hpre]; exact List.mem_cons_self ..)
          refine s_when (b := false) (et_is (et_test (ev_eqS (ev_call (ea_cons (ev_var rfl) (ea_cons (ev_var rfl) ea_nil)) (cv_signA hz hc)) ev_c)) ?_) (fun z => nomatch z) fun _ H2 e2 => ⟨a, c0 :: t', rest0, n, rfl, e1.trans e2, hl, hpre, hn⟩
          rw [e45, str1_eq]
          exact decide_eq_false (by omega)
        | negSucc n =>
          have hn : n + 1 < 10 ^ 60 := by
            rw [n60]
            have := hi.1
            rw [e60] at this
            omega
          rw [numC_neg] at hpre
          have h45 : c0 = 45 := by
            have := congrArg List.head? hpre
            exact (Option.some.inj this).symm
          subst h45
          have hpre' : TL.numL (n + 1) = t' ++ rest0 := by
            have := congrArg List.tail hpre
            exact this
          have el : z.cps.toList = (a ++ [45]) ++ t' := by
            rw [hl, List.append_assoc] <;> rfl
          refine s_when (b := true) (et_is (et_test (ev_eqS (ev_call (ea_cons (ev_var rfl) (ea_cons (ev_var rfl) ea_nil)) (cv_signA hz hc)) ev_c)) (by rw [e45]; exact decide_eq_true rfl)) (fun _ H2 e2 => ?_) (fun z => nomatch z)
          refine q_asg (v := .int ((a ++ [45]).length : Int)) (ev_is (ev_bin0 (ev_var rfl) ev_c) (congrArg V.int (by rw [List.length_append] <;> rfl))) fun H3 e3 => ?_
          cases t' with
          | nil =>
            rw [List.append_nil] at el
            exact s_ifX (ea_cons (ev_var rfl) (ea_cons (ev_var rfl) ea_nil)) fun H4 Q4 e4 => .inr (torn_at el hz fun H5 e5 => q H5 ((((e1.trans e2).trans e3).trans e4).trans e5))
          | cons c1 cs =>
            have hc2 : z.cps.toList[(a ++ [45]).length]? = some c1 := by
              rw [el, List.getElem?_append_right (Nat.le_refl _), Nat.sub_self] <;> rfl
            have hne : c1 ≠ 48 := fun z => by
              rcases numL_head (n + 1) with h | h
              · rw [hpre'] at h
                have hr : cs ++ rest0 = [] := List.length_eq_zero_iff.mp (by simpa using h)
                have hv := TL.numL_val (n + 1)
                rw [hpre', List.cons_append, hr, z] at hv
                have : (0 : Nat) = n + 1 := hv
                omega
              · rw [hpre', z] at h
                exact h rfl
            refine s_when (b := false) (et_is (et_test (ev_eqS (ev_call (ea_cons (ev_var rfl) (ea_cons (ev_var rfl) ea_nil)) (cv_signA hz hc2)) ev_c)) ?_) (fun z => nomatch z) fun _ H4 e4 => ⟨a ++ [45], c1 :: cs, rest0, n + 1, rfl, ((e1.trans e2).trans e3).trans e4, el, hpre', hn⟩
            rw [e48, str1_eq]
            exact decide_eq_false hne
      · obtain ⟨b, ds, rest, n, rfl, eM, el, hpre, hn⟩ := hM
        have dg : Digs (TL.numL n) 60 := digs_num (by decide) hn
        exact q_callE (ea_cons (ev_var rfl) (ea_cons (ev_var rfl) (ea_cons ev_c (ea_cons (ev_is ev_c (congrArg V.str e58)) ea_nil)))) fun H2 Q2 e2 => .inr ⟨z, b, ds, TL.numL n, rest, 59, 60, rfl, hz, el, dg, hpre, fun H3 e3 => q H3 ((eM.trans e2).trans e3)⟩
theorem ok_read_integer_any (T : Txt K mg) : FnOk P w K mg base (L2N.CX P w) 3 T.f_read_integer T.d_read_integer ["text", "index"] (fun vs H Q E => spRInt K vs H Q E ∨ spRIntT T.C_TornText vs H Q E) := (ok_read_integer T).both (ok_read_integer_torn T)


/-! ### _read_text -/
def spRText (K : PySem.W.Frag) : Sp := fun vs H Q _ => ∃ (z : Str) (a r : List Nat) (x : Str), vs = [.str z, .int (a.length : Int)] ∧ z.length ≤ 16000000 ∧ z.cps.toList = a ++ (numC (x.length : Int) ++ (58 :: (x.cps.toList ++ r))) ∧ x.length ≤ 999999 ∧ spPair K (.str x) ((a.length + (numC (x.length : Int)).length + 1 + x.length : Nat) : Int) H Q
theorem ok_read_text (T : Txt K mg) : FnOk P w K mg base CX0 3 T.f_read_text T.d_read_text ["text", "index"] (spRText K) := by
  refine T.F_read_text.ok sc_read_text (fun vs H Q E h => ?_) (fun cdv A outer s H vs Q E hr h => ?_)
  · obtain ⟨z, a, r, x, rfl, _⟩ := h
    rfl
  · obtain ⟨z, a, r, x, rfl, hz, hl, hx, q⟩ := h
    have e58 : (Str.ofString ":") = ⟨#[58]⟩ := by decide +kernel
    have hx6 : x.length < 10 ^ 6 := by
      show x.length < 1000000
      omega
    have hn : numC (x.length : Int) = TL.numL x.length := numC_nat _
    rw [hn] at hl q
    have dg : Digs (TL.numL x.length) 6 := digs_num (by decide) hx6
    have d6 := dg.len
    have cz := cutS_at hl
    have hlen : z.length = a.length + ((TL.numL x.length).length + (1 + (x.length + r.length))) := by
      rw [str_len, hl, List.length_append, List.length_append, List.length_cons, List.length_append, ← str_len]
      omega
    have hl2 : z.cps.toList = (a ++ (TL.numL x.length ++ [58])) ++ (x.cps.toList ++ r) := by
      rw [hl]
      simp
    have la : (a ++ (TL.numL x.length ++ [58])).length = a.length + (TL.numL x.length).length + 1 := by
      rw [List.length_append, List.length_append, List.length_singleton]
      omega
    have cx := cutS_at hl2
    rw [la, ← str_len] at cx
    have ex : (⟨x.cps.toList.toArray⟩ : Str) = x := str_ext rfl
    rw [ex] at cx
    have hti : intText? (⟨(TL.numL x.length).toArray⟩ : Str) = some (x.length : Int) := by
      have e : (⟨(TL.numL x.length).toArray⟩ : Str) = Str.ofString (toString ((x.length : Nat) : Int)) := str_ext (TL.tl_num x.length).symm
      rw [e]
      exact TL.int_num (by omega)
    refine ⟨_, pss_cons (ps_set (i := 2) sc_read_text.nd rfl (by first | exact Or.inl rfl | exact Or.inr rfl) (pe_call (ok_end_of_digits T) (hr.mono (by first | decide | omega)) (by rfl) T.g_end_of_digits T.F_end_of_digits.kp T.b_end_of_digits .nil pass0 (pa_cons (pv 0) (pa_cons (pv 1) (pa_cons (pe_glob (v := .int 6) rfl T.k_MOST_LENGTH_DIGITS ⟨_, rfl⟩) (pa_cons (pe_str) (pa_nil)))))))
      (pss_cons (ps_set (i := 3) sc_read_text.nd rfl (by first | exact Or.inl rfl | exact Or.inr rfl) (pe_op op_add (pv 2) (pe_int)))
      (pss_cons (ps_set (i := 4) sc_read_text.nd rfl (by first | exact Or.inl rfl | exact Or.inr rfl) (pe_op op_add (pv 3) (pe_callTy call_int_str (by rfl) T.m_int (by decide +kernel) (pa_cons (pe_slice sl_str (pv 0) (po_some (pv 1)) (po_some (pv 2))) (pa_nil)))))
      (pss_cons (ps_if (pt_cmpR op_gt (pv 4) (pe_callB call_len_str (by rfl) T.m_len (by decide +kernel) (pa_cons (pv 0) (pa_nil))) (nomark _))
      (pss_one (ps_never))
      (pss_nil))
      (pss_one (ps_ret (pe_tup (pa_cons (pe_slice sl_str (pv 0) (po_some (pv 3)) (po_some (pv 4))) (pa_cons (pv 4) (pa_nil))))))))), ?_⟩
    refine q_asg (v := .int ((a.length + (TL.numL x.length).length : Nat) : Int)) (ev_call (ea_cons (ev_var rfl) (ea_cons (ev_var rfl) (ea_cons ev_c (ea_cons (ev_is ev_c (congrArg V.str e58)) ea_nil)))) (cv_end (most := 6) hz hl dg (by omega))) fun H1 e1 => ?_
    refine q_asg (v := .int ((a.length + (TL.numL x.length).length + 1 : Nat) : Int)) (ev_is (ev_bin0 (ev_var rfl) ev_c) (congrArg V.int (by omega))) fun H2 e2 => ?_
    refine q_asg (v := .int ((a.length + (TL.numL x.length).length + 1 + x.length : Nat) : Int)) (ev_is (ev_bin0 (ev_var rfl) (ev_intT (ev_is (ev_slB (ev_var rfl) (eo_some (ev_var rfl)) (eo_some (ev_var rfl)) (by omega)) (congrArg V.str cz)) hti (by show (TL.numL x.length).toArray.size ≤ 640; rw [List.size_toArray]; omega))) (congrArg V.int (by omega))) fun H3 e3 => ?_
    refine q_when (b := false) (et_is (et_test (ev_bin0 (ev_var rfl) (ev_lenB (ev_var rfl) (by omega)))) (decide_eq_false (by omega))) (fun z => nomatch z) fun _ H4 e4 => ?_
    refine eu_ret2 (ev_is (ev_slB (ev_var rfl) (eo_some (ev_var rfl)) (eo_some (ev_var rfl)) (by omega)) (congrArg V.str cx)) (ev_var rfl) fun t H5 e5 ht => q t H5 (.str x) ((((e1.trans e2).trans e3).trans e4).trans e5) ht (.str x)


/-- the text ends within a written text -/
def spRTextT (CT : Addr) : Sp := fun vs H _ E => ∃ (z : Str) (a t r : List Nat) (x : Str) (c : Nat), vs = [.str z, .int (a.length : Int)] ∧ z.length ≤ 16000000 ∧ z.cps.toList = a ++ t ∧ numC (x.length : Int) ++ (58 :: x.cps.toList) = t ++ (c :: r) ∧ x.length ≤ 999999 ∧ ∀ H', Ex H H' → E (.ref CT) none H'
theorem ok_read_text_torn (T : Txt K mg) : FnOk P w K mg base (L2N.CX P w) 3 T.f_read_text T.d_read_text ["text", "index"] (spRTextT T.C_TornText) := by
  refine okN T.F_read_text sc_read_text (fun vs H Q E h => ?_) (fun cdv A outer s H vs Q E hr h => ?_)
  · obtain ⟨z, a, t, r, x, c, rfl, _⟩ := h
    rfl
  · obtain ⟨z, a, t, r, x, c, rfl, hz, hl, ht, hx, q⟩ := h
    have e58 : (Str.ofString ":") = ⟨#[58]⟩ := by decide +kernel
    have hx6 : x.length < 10 ^ 6 := by
      show x.length < 1000000
      omega
    rw [show numC (x.length : Int) = TL.numL x.length from numC_nat _] at ht
    have dg : Digs (TL.numL x.length) 6 := digs_num (by decide) hx6
    have d6 := dg.len
    refine ⟨_, pss_cons (ps_set (i := 2) sc_read_text.nd rfl (by first | exact Or.inl rfl | exact Or.inr rfl) (pe_call (ok_end_of_digits_any T) (hr.mono (by first | decide | omega)) (by rfl) T.g_end_of_digits T.F_end_of_digits.kp T.b_end_of_digits .nil (L2N.passes_call (L2N.takes_of rfl rfl rfl rfl) fun _ _ _ _ h => h) (pa_cons (pv 0) (pa_cons (pv 1) (pa_cons (pe_glob (v := .int 6) rfl T.k_MOST_LENGTH_DIGITS ⟨_, rfl⟩) (pa_cons (pe_str) (pa_nil)))))))
      (pss_cons (ps_set (i := 3) sc_read_text.nd rfl (by first | exact Or.inl rfl | exact Or.inr rfl) (pe_op op_add (pv 2) (pe_int)))
      (pss_cons (ps_set (i := 4) sc_read_text.nd rfl (by first | exact Or.inl rfl | exact Or.inr rfl) (pe_op op_add (pv 3) (pe_callTy call_int_str (by rfl) T.m_int (by decide +kernel) (pa_cons (pe_slice sl_str (pv 0) (po_some (pv 1)) (po_some (pv 2))) (pa_nil)))))
      (pss_cons (ps_if (pt_cmpR op_gt (pv 4) (pe_callB call_len_str (by rfl) T.m_len (by decide +kernel) (pa_cons (pv 0) (pa_nil))) (nomark _))
      (pss_one (L2N.ps_raise rfl (L2N.takes_of rfl rfl rfl rfl) (L2N.pmk_own PySem.F.excBase_ValueError T.e_TornText.x T.e_TornText.g T.e_TornText.kp (L2.raises_own T.e_TornText.b T.e_TornText.t) rfl)))
      (pss_nil))
      (pss_one (ps_ret (pe_tup (pa_cons (pe_slice sl_str (pv 0) (po_some (pv 3)) (po_some (pv 4))) (pa_cons (pv 4) (pa_nil))))))))), ?_⟩
    by_cases hle : t.length ≤ (TL.numL x.length).length
    · obtain ⟨rest, hp⟩ := pre_le ht hle
      exact q_callE (ea_cons (ev_var rfl) (ea_cons (ev_var rfl) (ea_cons ev_c (ea_cons (ev_is ev_c (congrArg V.str e58)) ea_nil)))) fun H1 Q1 e1 => .inr ⟨z, a, t, TL.numL x.length, rest, 58, 6, rfl, hz, hl, dg, hp, fun H2 e2 => q H2 (e1.trans e2)⟩
    · obtain ⟨x', hp⟩ : ∃ x' : List Nat, t = TL.numL x.length ++ (58 :: x') := by
        obtain ⟨u, hu⟩ := pre_le ht.symm (Nat.le_of_lt (Nat.lt_of_not_le hle))
        cases u with
        | nil => exact absurd (by rw [hu, List.append_nil] <;> exact Nat.le_refl _) hle
        | cons y u =>
          have h2 := ht
          rw [hu, List.append_assoc] at h2
          have h3 := List.append_cancel_left h2
          have h4 : (58 : Nat) = y := Option.some.inj (congrArg List.head? h3)
          exact ⟨u, by rw [hu, h4]⟩
      have hlx : x'.length < x.length := by
        have := congrArg List.length ht
        rw [hp] at this
        simp only [List.length_append, List.length_cons] at this
        rw [str_len]
        omega
      rw [hp] at hl
      have hti : intText? (⟨(TL.numL x.length).toArray⟩ : Str) = some (x.length : Int) := by
        have e : (⟨(TL.numL x.length).toArray⟩ : Str) = Str.ofString (toString ((x.length : Nat) : Int)) := str_ext (TL.tl_num x.length).symm
        rw [e]
        exact TL.int_num (by omega)
      have cz := cutS_at hl
      have hlen : z.length = a.length + ((TL.numL x.length).length + (1 + x'.length)) := by
        rw [str_len, hl, List.length_append, List.length_append, List.length_cons]
        omega
      refine q_asg (v := .int ((a.length + (TL.numL x.length).length : Nat) : Int)) (ev_call (ea_cons (ev_var rfl) (ea_cons (ev_var rfl) (ea_cons ev_c (ea_cons (ev_is ev_c (congrArg V.str e58)) ea_nil)))) (cv_endA (most := 6) hz hl dg (by omega))) fun H1 e1 => ?_
      refine q_asg (v := .int ((a.length + (TL.numL x.length).length + 1 : Nat) : Int)) (ev_is (ev_bin0 (ev_var rfl) ev_c) (congrArg V.int (by omega))) fun H2 e2 => ?_
      refine q_asg (v := .int ((a.length + (TL.numL x.length).length + 1 + x.length : Nat) : Int)) (ev_is (ev_bin0 (ev_var rfl) (ev_intT (ev_is (ev_slB (ev_var rfl) (eo_some (ev_var rfl)) (eo_some (ev_var rfl)) (by omega)) (congrArg V.str cz)) hti (by show (TL.numL x.length).toArray.size ≤ 640; rw [List.size_toArray]; omega))) (congrArg V.int (by omega))) fun H3 e3 => ?_
      exact q_when (b := true) (et_is (et_test (ev_bin0 (ev_var rfl) (ev_lenB (ev_var rfl) (by omega)))) (decide_eq_true (by omega))) (fun _ H4 e4 => q H4 (((e1.trans e2).trans e3).trans e4)) (fun z => nomatch z)
theorem ok_read_text_any (T : Txt K mg) : FnOk P w K mg base (L2N.CX P w) 3 T.f_read_text T.d_read_text ["text", "index"] (fun vs H Q E => spRText K vs H Q E ∨ spRTextT T.C_TornText vs H Q E) := (ok_read_text T).both (ok_read_text_torn T)


/-! ### _read_item -/
/-- the item d stands in the text behind a -/
def spItem (K : PySem.W.Frag) (n : Nat) : Sp := fun vs H Q _ => ∃ (z : Str) (a r : List Nat) (level : Nat) (d : It), vs = [.str z, .int (a.length : Int), .int (level : Int)] ∧ z.length ≤ 16000000 ∧ z.cps.toList = a ++ (encC d ++ r) ∧ d.fit n ∧ level + n ≤ 12 ∧ spPair K d ((a.length + (encC d).length : Nat) : Int) H Q
/-- the parts ds and a closing sign stand behind a -/
def spTup (K : PySem.W.Frag) (n : Nat) : Sp := fun vs H Q _ => ∃ (z : Str) (a r : List Nat) (level : Nat) (ds : List It), vs = [.str z, .int (a.length : Int), .int (level : Int)] ∧ z.length ≤ 16000000 ∧ z.cps.toList = a ++ (encL ds ++ (41 :: r)) ∧ (∀ d ∈ ds, It.fit n d) ∧ ds.length ≤ 1000 ∧ level + n ≤ 12 ∧ spPair K (.tup ds) ((a.length + (encL ds).length + 1 : Nat) : Int) H Q
theorem encC_first (d : It) : ∃ c rest, encC d = c :: rest ∧ c ≠ 41 := by
  cases d with
  | non => exact ⟨110, [], rfl, by decide⟩
  | int i => exact ⟨105, _, rfl, by decide⟩
  | str z => exact ⟨116, _, rfl, by decide⟩
  | tup xs => exact ⟨40, _, rfl, by decide⟩
theorem sg (c : Nat) (s : String) (x : Nat) (h : (Str.ofString s) = ⟨#[x]⟩) : decide ((⟨#[c]⟩ : Str) = Str.ofString s) = decide (c = x) := by rw [h, str1_eq]
/-- part, index = f(text, index, level) -/
theorem q_part {sp : Sp} {E : XK} {K : PySem.W.Frag} {σ : L2.St} {H : Hp} {ta tb tc : TE} {x y u : V} {tz : TS} {D : Ends} {n i j : Nat} (ha : Ev ta σ H x) (hb : Ev tb σ H y) (hc : Ev tc σ H u) (hn : 2 = n)
    (h : ∀ H1, Ex H H1 → sp [x, y, u] H1 (fun v H2 => gTup K 2 (gCons (gName i) (gCons (gName j) gNil)) v σ H2 fun σ' H' => tz D σ' H') E) : tSeq (tAsg (tCall sp [] E (tCons ta (tCons tb (tCons tc tNil)))) (gTup K n (gCons (gName i) (gCons (gName j) gNil)))) tz D σ H := by
  subst hn
  exact ha H (Ex.refl H) _ fun H1 e1 => hb H1 e1 _ fun H2 e2 => hc H2 (e1.trans e2) _ fun H3 e3 => h H3 ((e1.trans e2).trans e3)
/-- a pair of a new tuple and a value -/
theorem eu_pair' {σ : L2.St} {H : Hp} {ta tb : TE} {xs : List V} {y : V} (h : EvU ta σ H xs) (hb : Ev tb σ H y) : ∀ H1, Ex H H1 → ∀ Q : VK, (∀ t u H2, Ex H1 H2 → H2 u = some (.tup xs) → H2 t = some (.tup [.ref u, y]) → Q (.ref t) H2) → tTup (tCons ta (tCons tb tNil)) σ H1 Q := fun H1 e Q q =>
  h H1 e _ fun u H2 _ e2 hu => hb H2 (e.trans e2) _ fun H3 e3 => ⟨(by show 2 ≤ sizeLine; decide), fun t ht => q t u _ ((e2.trans e3).trans (Ex.new ht)) (by rw [upd_ne (ne_of_none (e3 _ _ hu) ht)]; exact e3 _ _ hu) upd_same⟩
theorem s_retP {σ : L2.St} {H : Hp} {ta tb : TE} {xs : List V} {y : V} {D : Ends} (h : EvU ta σ H xs) (hb : Ev tb σ H y) (k : ∀ t u H2, Ex H H2 → H2 u = some (.tup xs) → H2 t = some (.tup [.ref u, y]) → D.rt (.ref t) H2) : tRet (tTup (tCons ta (tCons tb tNil))) D σ H := eu_pair' h hb H (Ex.refl H) _ k
theorem s_callP {sp : Sp} {E : XK} {σ : L2.St} {H : Hp} {ta tb : TE} {x y : V} {D : Ends} (ha : Ev ta σ H x) (hb : Ev tb σ H y) (h : ∀ H1, Ex H H1 → sp [x, y] H1 D.rt E) : tRet (tCall sp [] E (tCons ta (tCons tb tNil))) D σ H :=
  ha H (Ex.refl H) _ fun H1 e1 => hb H1 e1 _ fun H2 e2 => h H2 (e1.trans e2)
theorem s_callP3 {sp : Sp} {E : XK} {σ : L2.St} {H : Hp} {ta tb tc : TE} {x y u : V} {D : Ends} (ha : Ev ta σ H x) (hb : Ev tb σ H y) (hc : Ev tc σ H u) (h : ∀ H1, Ex H H1 → sp [x, y, u] H1 D.rt E) : tRet (tCall sp [] E (tCons ta (tCons tb (tCons tc tNil)))) D σ H :=
  ha H (Ex.refl H) _ fun H1 e1 => hb H1 e1 _ fun H2 e2 => hc H2 (e1.trans e2) _ fun H3 e3 => h H3 ((e1.trans e2).trans e3)
theorem ok_read_tuple_of {n k : Nat} (T : Txt K mg) (hk : 4 ≤ k) (IHI : FnOk P w K mg base CX0 k T.f_read_item T.d_read_item ["text", "index", "level"] (spItem K n)) : FnOk P w K mg base CX0 (k + 1) T.f_read_tuple T.d_read_tuple ["text", "index", "level"] (spTup K n) := by
  refine T.F_read_tuple.ok sc_read_tuple (fun vs H Q E h => ?_) (fun cdv A outer s H vs Q E hr h => ?_)
  · obtain ⟨z, a, r, l, ds, rfl, _⟩ := h
    rfl
  · obtain ⟨z, a, r, l, ds, rfl, hz, hl, hf, h1000, hlv, q⟩ := h
    have ec : (Str.ofString ")") = ⟨#[41]⟩ := by decide +kernel
    refine ⟨_, pss_cons (ps_set (i := 3) sc_read_tuple.nd rfl (by first | exact Or.inl rfl | exact Or.inr rfl) (pe_lst (pa_nil)))
      (pss_cons (ps_while PassesOwn.never (pt_cmpR op_ne (pe_call (ok_sign_at T) (hr.mono (by first | decide | omega)) (by rfl) T.g_sign_at T.F_sign_at.kp T.b_sign_at .nil pass0 (pa_cons (pv 0) (pa_cons (pv 1) (pa_nil)))) (pe_str) (nomark _))
      (pss_cons (ps_asg (pe_call IHI (hr.mono (by omega)) (by rfl) T.g_read_item T.F_read_item.kp T.b_read_item .nil pass0 (pa_cons (pv 0) (pa_cons (pv 1) (pa_cons (pv 2) (pa_nil))))) (pg_tup rfl (pgs_cons (pg_name (i := 4) sc_read_tuple.nd rfl (by first | exact Or.inl rfl | exact Or.inr rfl)) (pgs_cons (pg_name (i := 1) sc_read_tuple.nd rfl (by first | exact Or.inl rfl | exact Or.inr rfl)) (pgs_nil)))))
      (pss_one (ps_expr (pe_bm PySem.F.plainAttrs_list PySem.F.slot_list_append PySem.F.type_list_append mt_append (pv 3) (pa_cons (pv 4) (pa_nil)))))))
      (pss_one (ps_ret (pe_tup (pa_cons (pe_callTy (r := rTupOf K) call_tuple_of (by rfl) T.m_tuple (by decide +kernel) (pa_cons (pv 3) (pa_nil))) (pa_cons (pe_op op_add (pv 1) (pe_int)) (pa_nil))))))), ?_⟩
    refine q_asgL (el_lst ea_nil (by decide)) fun p H1 np e1 hp => ?_
    have cat : ∀ j, encL ds = encL (ds.take j) ++ encL (ds.drop j) := fun j => by rw [← encL_app, List.take_append_drop]
    refine q_while (fun m σ' H' => ∃ (j : Nat) (vs : List V) (pv : Option V), m = ds.length - j ∧ j ≤ ds.length ∧ σ' = [some (.str z), some (.int ((a.length + (encL (ds.take j)).length : Nat) : Int)), some (.int (l : Int)), some (.ref p), pv] ∧ Ex H H' ∧ H' p = some (.lst vs) ∧ DvL K H' vs (ds.take j)) ds.length ⟨0, [], none, rfl, Nat.zero_le _, rfl, e1, hp, .nil⟩ (fun m σ' H' hW => ?_)
    obtain ⟨j, vs, pv, rfl, hj, rfl, eH, hp, hv⟩ := hW
    have hvl : vs.length = j := by
      rw [hv.len, List.length_take]
      omega
    by_cases hjl : j < ds.length
    · have hdj : ds.drop j = ds[j] :: ds.drop (j + 1) := List.drop_eq_getElem_cons hjl
      have el : z.cps.toList = (a ++ encL (ds.take j)) ++ (encC ds[j] ++ (encL (ds.drop (j + 1)) ++ (41 :: r))) := by
        rw [hl, cat j, hdj]
        show a ++ ((encL (ds.take j) ++ (encC ds[j] ++ encL (ds.drop (j + 1)))) ++ (41 :: r)) = _
        simp
      have la : (a ++ encL (ds.take j)).length = a.length + (encL (ds.take j)).length := List.length_append ..
      obtain ⟨c, rest, hc1, hc2⟩ := encC_first ds[j]
      have hc : z.cps.toList[a.length + (encL (ds.take j)).length]? = some c := by
        rw [el, hc1, ← la, List.getElem?_append_right (Nat.le_refl _), Nat.sub_self] <;> rfl
      refine ⟨true, et_is (et_test (ev_neS (ev_call (ea_cons (ev_var rfl) (ea_cons (ev_var rfl) ea_nil)) (cv_sign hz hc)) ev_c)) (by rw [ec, str1_eq, decide_eq_false hc2] <;> rfl), fun _ H2 e2 => ?_, fun z => nomatch z⟩
      refine ⟨fun σ' H' => ∃ (vs : List V) (pv : Option V), σ' = [some (.str z), some (.int ((a.length + (encL (ds.take (j + 1))).length : Nat) : Int)), some (.int (l : Int)), some (.ref p), pv] ∧ Ex H H' ∧ H' p = some (.lst vs) ∧ DvL K H' vs (ds.take (j + 1)), fun σ2 H3 hN => ?_, ?_⟩
      · obtain ⟨vs, pv, rfl, e3, h3, h4⟩ := hN
        exact ⟨ds.length - (j + 1), by omega, j + 1, vs, pv, rfl, by omega, rfl, e3, h3, h4⟩
      · have tk : ds.take (j + 1) = ds.take j ++ [ds[j]] := by rw [List.take_add_one, List.getElem?_eq_getElem hjl] <;> rfl
        have lk : (encL (ds.take (j + 1))).length = (encL (ds.take j)).length + (encC ds[j]).length := by
          rw [tk, encL_app, List.length_append]
          show _ + (encC ds[j] ++ []).length = _
          rw [List.append_nil]
        refine q_part (ev_var rfl) (ev_is (ev_var rfl) (congrArg V.int (by rw [la]))) (ev_var rfl) (by rfl) fun H4 e4 => ⟨z, a ++ encL (ds.take j), _, l, ds[j], rfl, hz, el, hf _ (List.getElem_mem hjl), hlv, fun t H5 v e5 h5 hv5 => ⟨t, _, rfl, st_of h5, rfl, v, _, rfl, _, _, rfl, rfl, ?_⟩⟩
        have ei : (((a ++ encL (ds.take j)).length + (encC ds[j]).length : Nat) : Int) = ((a.length + (encL (ds.take (j + 1))).length : Nat) : Int) := by
          rw [la, lk]
          omega
        rw [ei]
        have E5 := (e2.trans e4).trans e5
        refine s_app (K := K) (E5 _ _ hp) (ev_var rfl) (ev_var rfl) (by omega) fun H6 e6 => ⟨vs ++ [v], some v, rfl, ((eH.trans E5).trans e6).mut np, upd_same, ?_⟩
        rw [tk]
        exact ((hv.mono (E5.trans e6)).app (.cons (hv5.mono e6) .nil)).monoN (.upd ((E5.trans e6) _ _ hp))
    · have hje : j = ds.length := by omega
      subst hje
      rw [List.take_length] at hv
      rw [List.take_length]
      have hc : z.cps.toList[a.length + (encL ds).length]? = some 41 := by
        rw [hl, ← List.append_assoc, ← List.length_append, List.getElem?_append_right (Nat.le_refl _), Nat.sub_self] <;> rfl
      refine ⟨false, et_is (et_test (ev_neS (ev_call (ea_cons (ev_var rfl) (ea_cons (ev_var rfl) ea_nil)) (cv_sign hz hc)) ev_c)) (by rw [ec, str1_eq, decide_eq_true rfl] <;> rfl), (fun z => nomatch z), fun _ H2 e2 => ?_⟩
      refine s_retP (eu_ofL (K := K) (ev_var rfl) (sq_of (e2 _ _ hp))) (ev_is (ev_bin0 (ev_var rfl) ev_c) (congrArg V.int (show ((a.length + (encL ds).length : Nat) : Int) + 1 = ((a.length + (encL ds).length + 1 : Nat) : Int) by omega))) fun t u H3 e3 hu ht => q t H3 (.ref u) ((eH.trans e2).trans e3) ht (.tup (st_of hu) (hv.mono (e2.trans e3)))
theorem ok_item_at (T : Txt K mg) : ∀ n : Nat, FnOk P w K mg base CX0 (2 * n + 4) T.f_read_item T.d_read_item ["text", "index", "level"] (spItem K n)
  | 0 => by
    refine T.F_read_item.ok sc_read_item (fun vs H Q E h => ?_) (fun cdv A outer s H vs Q E hr h => ?_)
    · obtain ⟨z, a, r, l, d, rfl, _⟩ := h
      rfl
    · obtain ⟨z, a, r, l, d, rfl, hz, hl, hf, hlv, q⟩ := h
      have en : (Str.ofString "n") = ⟨#[110]⟩ := by decide +kernel
      have ei : (Str.ofString "i") = ⟨#[105]⟩ := by decide +kernel
      have et : (Str.ofString "t") = ⟨#[116]⟩ := by decide +kernel
      have eo : (Str.ofString "(") = ⟨#[40]⟩ := by decide +kernel
      have hd0 : ∀ c rest, encC d = c :: rest → z.cps.toList[a.length]? = some c := fun c rest e => by
        rw [hl, e, List.getElem?_append_right (Nat.le_refl _), Nat.sub_self] <;> rfl
      have hs : ∀ (c x : Nat), c ≠ x → ∀ s, (Str.ofString s) = ⟨#[x]⟩ → decide ((⟨#[c]⟩ : Str) = Str.ofString s) = false := fun c x h s hx => by
        rw [hx, str1_eq]
        exact decide_eq_false h
      have ht : ∀ (x : Nat) (s : String), (Str.ofString s) = ⟨#[x]⟩ → decide ((⟨#[x]⟩ : Str) = Str.ofString s) = true := fun x s hx => by
        rw [hx]
        exact decide_eq_true rfl
      refine ⟨_, pss_cons (ps_set (i := 3) sc_read_item.nd rfl (by first | exact Or.inl rfl | exact Or.inr rfl) (pe_call (ok_sign_at T) (hr.mono (by first | decide | omega)) (by rfl) T.g_sign_at T.F_sign_at.kp T.b_sign_at .nil pass0 (pa_cons (pv 0) (pa_cons (pv 1) (pa_nil)))))
      (pss_cons (ps_if (pt_cmpR op_eq (pv 3) (pe_str) (nomark _))
      (pss_one (ps_ret (pe_tup (pa_cons (pe_non) (pa_cons (pe_op op_add (pv 1) (pe_int)) (pa_nil))))))
      (pss_nil))
      (pss_cons (ps_if (pt_cmpR op_eq (pv 3) (pe_str) (nomark _))
      (pss_one (ps_ret (pe_call (ok_read_integer T) (hr.mono (by first | decide | omega)) (by rfl) T.g_read_integer T.F_read_integer.kp T.b_read_integer .nil pass0 (pa_cons (pv 0) (pa_cons (pe_op op_add (pv 1) (pe_int)) (pa_nil))))))
      (pss_nil))
      (pss_cons (ps_if (pt_cmpR op_eq (pv 3) (pe_str) (nomark _))
      (pss_one (ps_ret (pe_call (ok_read_text T) (hr.mono (by first | decide | omega)) (by rfl) T.g_read_text T.F_read_text.kp T.b_read_text .nil pass0 (pa_cons (pv 0) (pa_cons (pe_op op_add (pv 1) (pe_int)) (pa_nil))))))
      (pss_nil))
      (pss_cons (ps_if (PW.pt (pw_and (pt_cmpR op_eq (pv 3) (pe_str) (nomark _)) (pw_and1 (pt_cmpR op_lt (pv 2) (pe_glob (v := .int 12) rfl T.k_MOST_LEVELS ⟨_, rfl⟩) (nomark _)))))
      (pss_one (ps_never))
      (pss_nil))
      (pss_one (ps_never)))))), ?_⟩
      cases d with
      | non =>
        refine q_asg (ev_call (ea_cons (ev_var rfl) (ea_cons (ev_var rfl) ea_nil)) (cv_sign hz (hd0 110 [] rfl))) fun H1 e1 => ?_
        refine q_when (b := true) (et_is (et_test (ev_eqS (ev_var rfl) ev_c)) (ht 110 _ en)) (fun _ H2 e2 => ?_) (fun z => nomatch z)
        exact eu_ret2 ev_c (ev_is (ev_bin0 (ev_var rfl) ev_c) (congrArg V.int (show (a.length : Int) + 1 = ((a.length + (encC .non).length : Nat) : Int) by show _ = ((a.length + 1 : Nat) : Int); omega))) fun t H3 e3 h3 => q t H3 .non ((e1.trans e2).trans e3) h3 .non
      | int i =>
        refine q_asg (ev_call (ea_cons (ev_var rfl) (ea_cons (ev_var rfl) ea_nil)) (cv_sign hz (hd0 105 _ rfl))) fun H1 e1 => ?_
        refine q_when (b := false) (et_is (et_test (ev_eqS (ev_var rfl) ev_c)) (hs 105 110 (by decide) _ en)) (fun z => nomatch z) fun _ H2 e2 => ?_
        refine q_when (b := true) (et_is (et_test (ev_eqS (ev_var rfl) ev_c)) (ht 105 _ ei)) (fun _ H3 e3 => ?_) (fun z => nomatch z)
        have hl2 : z.cps.toList = (a ++ [105]) ++ (numC i ++ (59 :: r)) := by
          rw [hl]
          show a ++ ((105 :: (numC i ++ [59])) ++ r) = _
          simp
        refine s_callP (ev_var rfl) (ev_is (ev_bin0 (ev_var rfl) ev_c) (congrArg V.int (show (a.length : Int) + 1 = ((a ++ [105]).length : Int) by rw [List.length_append] <;> rfl))) fun H4 e4 => ⟨z, a ++ [105], r, i, rfl, hz, hl2, fit_int60 hf, fun t H5 v e5 h5 hv => ?_⟩
        refine q t H5 v ((((e1.trans e2).trans e3).trans e4).trans e5) ?_ hv
        rw [h5]
        have : (a ++ [105]).length + (numC i).length + 1 = a.length + (encC (.int i)).length := by
          show _ = a.length + (105 :: (numC i ++ [59])).length
          simp only [List.length_append, List.length_cons, List.length_nil]
          omega
        rw [this]
      | str x =>
        refine q_asg (ev_call (ea_cons (ev_var rfl) (ea_cons (ev_var rfl) ea_nil)) (cv_sign hz (hd0 116 _ rfl))) fun H1 e1 => ?_
        refine q_when (b := false) (et_is (et_test (ev_eqS (ev_var rfl) ev_c)) (hs 116 110 (by decide) _ en)) (fun z => nomatch z) fun _ H2 e2 => ?_
        refine q_when (b := false) (et_is (et_test (ev_eqS (ev_var rfl) ev_c)) (hs 116 105 (by decide) _ ei)) (fun z => nomatch z) fun _ H3 e3 => ?_
        refine q_when (b := true) (et_is (et_test (ev_eqS (ev_var rfl) ev_c)) (ht 116 _ et)) (fun _ H4 e4 => ?_) (fun z => nomatch z)
        have hl2 : z.cps.toList = (a ++ [116]) ++ (numC (x.length : Int) ++ (58 :: (x.cps.toList ++ r))) := by
          rw [hl]
          show a ++ ((116 :: (numC (x.length : Int) ++ (58 :: x.cps.toList))) ++ r) = _
          simp
        refine s_callP (ev_var rfl) (ev_is (ev_bin0 (ev_var rfl) ev_c) (congrArg V.int (show (a.length : Int) + 1 = ((a ++ [116]).length : Int) by rw [List.length_append] <;> rfl))) fun H5 e5 => ⟨z, a ++ [116], r, x, rfl, hz, hl2, fit_str hf, fun t H6 v e6 h6 hv => ?_⟩
        refine q t H6 v (((((e1.trans e2).trans e3).trans e4).trans e5).trans e6) ?_ hv
        rw [h6]
        have : (a ++ [116]).length + (numC (x.length : Int)).length + 1 + x.length = a.length + (encC (.str x)).length := by
          show _ = a.length + (116 :: (numC (x.length : Int) ++ (58 :: x.cps.toList))).length
          simp only [List.length_append, List.length_cons, List.length_nil, str_len]
          omega
        rw [this]
      | tup ds =>
        exact hf.elim
  | n + 1 => by
    have IHT := ok_read_tuple_of T (by omega) (ok_item_at T n)
    refine T.F_read_item.ok sc_read_item (fun vs H Q E h => ?_) (fun cdv A outer s H vs Q E hr h => ?_)
    · obtain ⟨z, a, r, l, d, rfl, _⟩ := h
      rfl
    · obtain ⟨z, a, r, l, d, rfl, hz, hl, hf, hlv, q⟩ := h
      have en : (Str.ofString "n") = ⟨#[110]⟩ := by decide +kernel
      have ei : (Str.ofString "i") = ⟨#[105]⟩ := by decide +kernel
      have et : (Str.ofString "t") = ⟨#[116]⟩ := by decide +kernel
      have eo : (Str.ofString "(") = ⟨#[40]⟩ := by decide +kernel
      have hd0 : ∀ c rest, encC d = c :: rest → z.cps.toList[a.length]? = some c := fun c rest e => by
        rw [hl, e, List.getElem?_append_right (Nat.le_refl _), Nat.sub_self] <;> rfl
      have hs : ∀ (c x : Nat), c ≠ x → ∀ s, (Str.ofString s) = ⟨#[x]⟩ → decide ((⟨#[c]⟩ : Str) = Str.ofString s) = false := fun c x h s hx => by
        rw [hx, str1_eq]
        exact decide_eq_false h
      have ht : ∀ (x : Nat) (s : String), (Str.ofString s) = ⟨#[x]⟩ → decide ((⟨#[x]⟩ : Str) = Str.ofString s) = true := fun x s hx => by
        rw [hx]
        exact decide_eq_true rfl
      refine ⟨_, pss_cons (ps_set (i := 3) sc_read_item.nd rfl (by first | exact Or.inl rfl | exact Or.inr rfl) (pe_call (ok_sign_at T) (hr.mono (by first | decide | omega)) (by rfl) T.g_sign_at T.F_sign_at.kp T.b_sign_at .nil pass0 (pa_cons (pv 0) (pa_cons (pv 1) (pa_nil)))))
      (pss_cons (ps_if (pt_cmpR op_eq (pv 3) (pe_str) (nomark _))
      (pss_one (ps_ret (pe_tup (pa_cons (pe_non) (pa_cons (pe_op op_add (pv 1) (pe_int)) (pa_nil))))))
      (pss_nil))
      (pss_cons (ps_if (pt_cmpR op_eq (pv 3) (pe_str) (nomark _))
      (pss_one (ps_ret (pe_call (ok_read_integer T) (hr.mono (by first | decide | omega)) (by rfl) T.g_read_integer T.F_read_integer.kp T.b_read_integer .nil pass0 (pa_cons (pv 0) (pa_cons (pe_op op_add (pv 1) (pe_int)) (pa_nil))))))
      (pss_nil))
      (pss_cons (ps_if (pt_cmpR op_eq (pv 3) (pe_str) (nomark _))
      (pss_one (ps_ret (pe_call (ok_read_text T) (hr.mono (by first | decide | omega)) (by rfl) T.g_read_text T.F_read_text.kp T.b_read_text .nil pass0 (pa_cons (pv 0) (pa_cons (pe_op op_add (pv 1) (pe_int)) (pa_nil))))))
      (pss_nil))
      (pss_cons (ps_if (PW.pt (pw_and (pt_cmpR op_eq (pv 3) (pe_str) (nomark _)) (pw_and1 (pt_cmpR op_lt (pv 2) (pe_glob (v := .int 12) rfl T.k_MOST_LEVELS ⟨_, rfl⟩) (nomark _)))))
      (pss_one (ps_ret (pe_call IHT (hr.mono (by omega)) (by rfl) T.g_read_tuple T.F_read_tuple.kp T.b_read_tuple .nil pass0 (pa_cons (pv 0) (pa_cons (pe_op op_add (pv 1) (pe_int)) (pa_cons (pe_op op_add (pv 2) (pe_int)) (pa_nil)))))))
      (pss_nil))
      (pss_one (ps_never)))))), ?_⟩
      cases d with
      | non =>
        refine q_asg (ev_call (ea_cons (ev_var rfl) (ea_cons (ev_var rfl) ea_nil)) (cv_sign hz (hd0 110 [] rfl))) fun H1 e1 => ?_
        refine q_when (b := true) (et_is (et_test (ev_eqS (ev_var rfl) ev_c)) (ht 110 _ en)) (fun _ H2 e2 => ?_) (fun z => nomatch z)
        exact eu_ret2 ev_c (ev_is (ev_bin0 (ev_var rfl) ev_c) (congrArg V.int (show (a.length : Int) + 1 = ((a.length + (encC .non).length : Nat) : Int) by show _ = ((a.length + 1 : Nat) : Int); omega))) fun t H3 e3 h3 => q t H3 .non ((e1.trans e2).trans e3) h3 .non
      | int i =>
        refine q_asg (ev_call (ea_cons (ev_var rfl) (ea_cons (ev_var rfl) ea_nil)) (cv_sign hz (hd0 105 _ rfl))) fun H1 e1 => ?_
        refine q_when (b := false) (et_is (et_test (ev_eqS (ev_var rfl) ev_c)) (hs 105 110 (by decide) _ en)) (fun z => nomatch z) fun _ H2 e2 => ?_
        refine q_when (b := true) (et_is (et_test (ev_eqS (ev_var rfl) ev_c)) (ht 105 _ ei)) (fun _ H3 e3 => ?_) (fun z => nomatch z)
        have hl2 : z.cps.toList = (a ++ [105]) ++ (numC i ++ (59 :: r)) := by
          rw [hl]
          show a ++ ((105 :: (numC i ++ [59])) ++ r) = _
          simp
        refine s_callP (ev_var rfl) (ev_is (ev_bin0 (ev_var rfl) ev_c) (congrArg V.int (show (a.length : Int) + 1 = ((a ++ [105]).length : Int) by rw [List.length_append] <;> rfl))) fun H4 e4 => ⟨z, a ++ [105], r, i, rfl, hz, hl2, fit_int60 hf, fun t H5 v e5 h5 hv => ?_⟩
        refine q t H5 v ((((e1.trans e2).trans e3).trans e4).trans e5) ?_ hv
        rw [h5]
        have : (a ++ [105]).length + (numC i).length + 1 = a.length + (encC (.int i)).length := by
          show _ = a.length + (105 :: (numC i ++ [59])).length
          simp only [List.length_append, List.length_cons, List.length_nil]
          omega
        rw [this]
      | str x =>
        refine q_asg (ev_call (ea_cons (ev_var rfl) (ea_cons (ev_var rfl) ea_nil)) (cv_sign hz (hd0 116 _ rfl))) fun H1 e1 => ?_
        refine q_when (b := false) (et_is (et_test (ev_eqS (ev_var rfl) ev_c)) (hs 116 110 (by decide) _ en)) (fun z => nomatch z) fun _ H2 e2 => ?_
        refine q_when (b := false) (et_is (et_test (ev_eqS (ev_var rfl) ev_c)) (hs 116 105 (by decide) _ ei)) (fun z => nomatch z) fun _ H3 e3 => ?_
        refine q_when (b := true) (et_is (et_test (ev_eqS (ev_var rfl) ev_c)) (ht 116 _ et)) (fun _ H4 e4 => ?_) (fun z => nomatch z)
        have hl2 : z.cps.toList = (a ++ [116]) ++ (numC (x.length : Int) ++ (58 :: (x.cps.toList ++ r))) := by
          rw [hl]
          show a ++ ((116 :: (numC (x.length : Int) ++ (58 :: x.cps.toList))) ++ r) = _
          simp
        refine s_callP (ev_var rfl) (ev_is (ev_bin0 (ev_var rfl) ev_c) (congrArg V.int (show (a.length : Int) + 1 = ((a ++ [116]).length : Int) by rw [List.length_append] <;> rfl))) fun H5 e5 => ⟨z, a ++ [116], r, x, rfl, hz, hl2, fit_str hf, fun t H6 v e6 h6 hv => ?_⟩
        refine q t H6 v (((((e1.trans e2).trans e3).trans e4).trans e5).trans e6) ?_ hv
        rw [h6]
        have : (a ++ [116]).length + (numC (x.length : Int)).length + 1 + x.length = a.length + (encC (.str x)).length := by
          show _ = a.length + (116 :: (numC (x.length : Int) ++ (58 :: x.cps.toList))).length
          simp only [List.length_append, List.length_cons, List.length_nil, str_len]
          omega
        rw [this]
      | tup ds =>
        refine q_asg (ev_call (ea_cons (ev_var rfl) (ea_cons (ev_var rfl) ea_nil)) (cv_sign hz (hd0 40 _ rfl))) fun H1 e1 => ?_
        refine q_when (b := false) (et_is (et_test (ev_eqS (ev_var rfl) ev_c)) (hs 40 110 (by decide) _ en)) (fun z => nomatch z) fun _ H2 e2 => ?_
        refine q_when (b := false) (et_is (et_test (ev_eqS (ev_var rfl) ev_c)) (hs 40 105 (by decide) _ ei)) (fun z => nomatch z) fun _ H3 e3 => ?_
        refine q_when (b := false) (et_is (et_test (ev_eqS (ev_var rfl) ev_c)) (hs 40 116 (by decide) _ et)) (fun z => nomatch z) fun _ H4 e4 => ?_
        refine q_when (b := true) (et_is (et_and (a := true) (b := true) (et_is (et_test (ev_eqS (ev_var rfl) ev_c)) (ht 40 _ eo)) fun _ => et_is (et_test (ev_bin0 (ev_var rfl) ev_c)) (decide_eq_true (by omega))) rfl) (fun _ H5 e5 => ?_) (fun z => nomatch z)
        have hl2 : z.cps.toList = (a ++ [40]) ++ (encL ds ++ (41 :: r)) := by
          rw [hl]
          show a ++ ((40 :: (encL ds ++ [41])) ++ r) = _
          simp
        refine s_callP3 (ev_var rfl) (ev_is (ev_bin0 (ev_var rfl) ev_c) (congrArg V.int (show (a.length : Int) + 1 = ((a ++ [40]).length : Int) by rw [List.length_append] <;> rfl))) (ev_is (ev_bin0 (ev_var rfl) ev_c) (congrArg V.int (show (l : Int) + 1 = ((l + 1 : Nat) : Int) by omega))) fun H6 e6 => ⟨z, a ++ [40], r, l + 1, ds, rfl, hz, hl2, hf.2, hf.1, by omega, fun t H7 v e7 h7 hv => ?_⟩
        refine q t H7 v ((((((e1.trans e2).trans e3).trans e4).trans e5).trans e6).trans e7) ?_ hv
        rw [h7]
        have : (a ++ [40]).length + (encL ds).length + 1 = a.length + (encC (.tup ds)).length := by
          rw [enc_tup_len, List.length_append, List.length_singleton]
          omega
        rw [this]
theorem ok_read_item (T : Txt K mg) : FnOk P w K mg base CX0 28 T.f_read_item T.d_read_item ["text", "index", "level"] (spItem K 12) := ok_item_at T 12


/-- the text ends within the item d -/
def spItemT (CT : Addr) (n : Nat) : Sp := fun vs H _ E => ∃ (z : Str) (a t r : List Nat) (level : Nat) (d : It) (c : Nat), vs = [.str z, .int (a.length : Int), .int (level : Int)] ∧ z.length ≤ 16000000 ∧ z.cps.toList = a ++ t ∧ encC d = t ++ (c :: r) ∧ d.fit n ∧ level + n ≤ 12 ∧ ∀ H', Ex H H' → E (.ref CT) none H'
def spItemA (K : PySem.W.Frag) (CT : Addr) (n : Nat) : Sp := fun vs H Q E => spItem K n vs H Q E ∨ spItemT CT n vs H Q E
def spTupT (CT : Addr) (n : Nat) : Sp := fun vs H _ E => ∃ (z : Str) (a t r : List Nat) (level : Nat) (ds : List It) (c : Nat), vs = [.str z, .int (a.length : Int), .int (level : Int)] ∧ z.length ≤ 16000000 ∧ z.cps.toList = a ++ t ∧ encL ds ++ [41] = t ++ (c :: r) ∧ (∀ d ∈ ds, It.fit n d) ∧ ds.length ≤ 1000 ∧ level + n ≤ 12 ∧ ∀ H', Ex H H' → E (.ref CT) none H'
theorem ok_tuple_torn_of {n k : Nat} (T : Txt K mg) (hk : 4 ≤ k) (IHI : FnOk P w K mg base (L2N.CX P w) k T.f_read_item T.d_read_item ["text", "index", "level"] (spItemA K T.C_TornText n)) : FnOk P w K mg base (L2N.CX P w) (k + 1) T.f_read_tuple T.d_read_tuple ["text", "index", "level"] (spTupT T.C_TornText n) := by
  refine okN T.F_read_tuple sc_read_tuple (fun vs H Q E h => ?_) (fun cdv A outer s H vs Q E hr h => ?_)
  · obtain ⟨z, a, t, r, l, ds, c, rfl, _⟩ := h
    rfl
  · obtain ⟨z, a, t, r, l, ds, c, rfl, hz, hl, ht, hf, h1000, hlv, q⟩ := h
    have ec : (Str.ofString ")") = ⟨#[41]⟩ := by decide +kernel
    refine ⟨_, pss_cons (ps_set (i := 3) sc_read_tuple.nd rfl (by first | exact Or.inl rfl | exact Or.inr rfl) (pe_lst (pa_nil)))
      (pss_cons (ps_while (L2.passes_of rfl) (pt_cmpR op_ne (pe_call (ok_sign_at_any T) (hr.mono (by first | decide | omega)) (by rfl) T.g_sign_at T.F_sign_at.kp T.b_sign_at .nil (L2N.passes_call (L2N.takes_of rfl rfl rfl rfl) fun _ _ _ _ h => h) (pa_cons (pv 0) (pa_cons (pv 1) (pa_nil)))) (pe_str) (nomark _))
      (pss_cons (ps_asg (pe_call IHI (hr.mono (by first | decide | omega)) (by rfl) T.g_read_item T.F_read_item.kp T.b_read_item .nil (L2N.passes_call (L2N.takes_of rfl rfl rfl rfl) fun _ _ _ _ h => h) (pa_cons (pv 0) (pa_cons (pv 1) (pa_cons (pv 2) (pa_nil))))) (pg_tup rfl (pgs_cons (pg_name (i := 4) sc_read_tuple.nd rfl (by first | exact Or.inl rfl | exact Or.inr rfl)) (pgs_cons (pg_name (i := 1) sc_read_tuple.nd rfl (by first | exact Or.inl rfl | exact Or.inr rfl)) (pgs_nil)))))
      (pss_one (ps_expr (pe_bm PySem.F.plainAttrs_list PySem.F.slot_list_append PySem.F.type_list_append mt_append (pv 3) (pa_cons (pv 4) (pa_nil)))))))
      (pss_one (ps_ret (pe_tup (pa_cons (pe_callTy (r := rTupOf K) call_tuple_of (by rfl) T.m_tuple (by decide +kernel) (pa_cons (pv 3) (pa_nil))) (pa_cons (pe_op op_add (pv 1) (pe_int)) (pa_nil))))))), ?_⟩
    refine q_asgL (el_lst ea_nil (by decide)) fun p H1 np e1 hp => ?_
    have cat : ∀ j, encL ds = encL (ds.take j) ++ encL (ds.drop j) := fun j => by rw [← encL_app, List.take_append_drop]
    refine q_whileX (fun m σ' H' => ∃ (j : Nat) (vs : List V) (pv : Option V) (tj : List Nat), m = ds.length - j ∧ j ≤ ds.length ∧ t = encL (ds.take j) ++ tj ∧ encL (ds.drop j) ++ [41] = tj ++ (c :: r) ∧ σ' = [some (.str z), some (.int ((a.length + (encL (ds.take j)).length : Nat) : Int)), some (.int (l : Int)), some (.ref p), pv] ∧ Ex H H' ∧ H' p = some (.lst vs) ∧ vs.length = j) ds.length ⟨0, [], none, t, rfl, Nat.zero_le _, rfl, ht, rfl, e1, hp, rfl⟩ (fun m σ' H' hW => ?_)
    obtain ⟨j, vs, pv, tj, rfl, hj, htj, hrj, rfl, eH, hp, hvl⟩ := hW
    have el : z.cps.toList = (a ++ encL (ds.take j)) ++ tj := by rw [hl, htj, List.append_assoc]
    have la : (a ++ encL (ds.take j)).length = a.length + (encL (ds.take j)).length := List.length_append ..
    cases tj with
    | nil =>
      rw [List.append_nil] at el
      rw [← la]
      exact t_testX (ea_cons (ev_var rfl) (ea_cons (ev_var rfl) ea_nil)) fun H2 Q2 e2 => .inr (torn_at el hz fun H3 e3 => q H3 ((eH.trans e2).trans e3))
    | cons c0 t' =>
      by_cases hjl : j < ds.length
      · have hdj : ds.drop j = ds[j] :: ds.drop (j + 1) := List.drop_eq_getElem_cons hjl
        obtain ⟨c1, rest, hc1, hc2⟩ := encC_first ds[j]
        have hrj2 : encC ds[j] ++ (encL (ds.drop (j + 1)) ++ [41]) = (c0 :: t') ++ (c :: r) := by
          rw [← hrj, hdj]
          show _ = encC ds[j] ++ encL (ds.drop (j + 1)) ++ [41]
          rw [List.append_assoc]
        have h01 : c1 = c0 := by
          rw [hc1] at hrj2
          exact Option.some.inj (congrArg List.head? hrj2)
        have hc : z.cps.toList[a.length + (encL (ds.take j)).length]? = some c0 := by
          rw [el, ← la, List.getElem?_append_right (Nat.le_refl _), Nat.sub_self] <;> rfl
        refine et_is (et_test (ev_neS (ev_call (ea_cons (ev_var rfl) (ea_cons (ev_var rfl) ea_nil)) (cv_signA hz hc)) ev_c)) (b := true) (by rw [ec, str1_eq, decide_eq_false (by omega)] <;> rfl) H' (Ex.refl H') _ fun H2 e2 => iteT ?_
        have tk : ds.take (j + 1) = ds.take j ++ [ds[j]] := by rw [List.take_add_one, List.getElem?_eq_getElem hjl] <;> rfl
        have lk : (encL (ds.take (j + 1))).length = (encL (ds.take j)).length + (encC ds[j]).length := by
          rw [tk, encL_app, List.length_append]
          show _ + (encC ds[j] ++ []).length = _
          rw [List.append_nil]
        refine ⟨fun σ' H' => ∃ (vs : List V) (pv : Option V) (tj : List Nat), t = encL (ds.take (j + 1)) ++ tj ∧ encL (ds.drop (j + 1)) ++ [41] = tj ++ (c :: r) ∧ σ' = [some (.str z), some (.int ((a.length + (encL (ds.take (j + 1))).length : Nat) : Int)), some (.int (l : Int)), some (.ref p), pv] ∧ Ex H H' ∧ H' p = some (.lst vs) ∧ vs.length = j + 1, fun σ2 H3 hN => ?_, ?_⟩
        · obtain ⟨vs, pv, tj, g1, g2, rfl, g3, g4, g5⟩ := hN
          exact ⟨ds.length - (j + 1), by omega, j + 1, vs, pv, tj, rfl, by omega, g1, g2, rfl, g3, g4, g5⟩
        · refine q_part (ev_var rfl) (ev_is (w := .int ((a ++ encL (ds.take j)).length : Int)) (ev_var rfl) (congrArg V.int (by rw [la]))) (ev_var rfl) (by rfl) fun H4 e4 => ?_
          by_cases hfull : (encC ds[j]).length ≤ (c0 :: t').length
          · obtain ⟨tr, htr⟩ := pre_le hrj2.symm hfull
            have hrr : encL (ds.drop (j + 1)) ++ [41] = tr ++ (c :: r) := by
              have h3 := hrj2
              rw [htr, List.append_assoc] at h3
              exact List.append_cancel_left h3
            rw [htr] at el
            refine .inl ⟨z, a ++ encL (ds.take j), tr, l, ds[j], rfl, hz, el, hf _ (List.getElem_mem hjl), hlv, fun t1 H5 v e5 h5 hv5 => ⟨t1, _, rfl, st_of h5, rfl, v, _, rfl, _, _, rfl, rfl, ?_⟩⟩
            have ei : (((a ++ encL (ds.take j)).length + (encC ds[j]).length : Nat) : Int) = ((a.length + (encL (ds.take (j + 1))).length : Nat) : Int) := by
              rw [la, lk]
              omega
            rw [ei]
            have E5 := (e2.trans e4).trans e5
            refine s_app (K := K) (E5 _ _ hp) (ev_var rfl) (ev_var rfl) (by omega) fun H6 e6 => ⟨vs ++ [v], some v, tr, ?_, hrr, rfl, ((eH.trans E5).trans e6).mut np, upd_same, ?_⟩
            · rw [htj, htr, tk, encL_app, List.append_assoc]
              show encL (ds.take j) ++ (encC ds[j] ++ tr) = encL (ds.take j) ++ ((encC ds[j] ++ []) ++ tr)
              rw [List.append_nil]
            · rw [List.length_append, hvl] <;> rfl
          · obtain ⟨u, hu⟩ := pre_le hrj2 (Nat.le_of_lt (Nat.lt_of_not_le hfull))
            cases u with
            | nil => exact absurd (by rw [hu, List.append_nil] <;> exact Nat.le_refl _) hfull
            | cons y u => exact .inr ⟨z, a ++ encL (ds.take j), c0 :: t', u, l, ds[j], y, rfl, hz, el, hu, hf _ (List.getElem_mem hjl), hlv, fun H5 e5 => q H5 (((eH.trans e2).trans e4).trans e5)⟩
      · exfalso
        have hje : j = ds.length := by omega
        subst hje
        rw [List.drop_length] at hrj
        have := congrArg List.length hrj
        simp only [List.length_append, List.length_cons, List.length_nil, encL] at this
        omega
theorem ok_item_torn_at (T : Txt K mg) : ∀ n : Nat, FnOk P w K mg base (L2N.CX P w) (2 * n + 4) T.f_read_item T.d_read_item ["text", "index", "level"] (spItemT T.C_TornText n)
  | 0 => by
    refine okN T.F_read_item sc_read_item (fun vs H Q E h => ?_) (fun cdv A outer s H vs Q E hr h => ?_)
    · obtain ⟨z, a, t, r, l, d, c, rfl, _⟩ := h
      rfl
    · obtain ⟨z, a, t, r, l, d, c, rfl, hz, hl, ht, hf, hlv, q⟩ := h
      have en : (Str.ofString "n") = ⟨#[110]⟩ := by decide +kernel
      have ei : (Str.ofString "i") = ⟨#[105]⟩ := by decide +kernel
      have et : (Str.ofString "t") = ⟨#[116]⟩ := by decide +kernel
      have eo : (Str.ofString "(") = ⟨#[40]⟩ := by decide +kernel
      have hs : ∀ (c x : Nat), c ≠ x → ∀ s, (Str.ofString s) = ⟨#[x]⟩ → decide ((⟨#[c]⟩ : Str) = Str.ofString s) = false := fun c x h s hx => by
        rw [hx, str1_eq]
        exact decide_eq_false h
      have hq : ∀ (x : Nat) (s : String), (Str.ofString s) = ⟨#[x]⟩ → decide ((⟨#[x]⟩ : Str) = Str.ofString s) = true := fun x s hx => by
        rw [hx]
        exact decide_eq_true rfl
      refine ⟨_, pss_cons (ps_set (i := 3) sc_read_item.nd rfl (by first | exact Or.inl rfl | exact Or.inr rfl) (pe_call (ok_sign_at_any T) (hr.mono (by first | decide | omega)) (by rfl) T.g_sign_at T.F_sign_at.kp T.b_sign_at .nil (L2N.passes_call (L2N.takes_of rfl rfl rfl rfl) fun _ _ _ _ h => h) (pa_cons (pv 0) (pa_cons (pv 1) (pa_nil)))))
      (pss_cons (ps_if (pt_cmpR op_eq (pv 3) (pe_str) (nomark _))
      (pss_one (ps_ret (pe_tup (pa_cons (pe_non) (pa_cons (pe_op op_add (pv 1) (pe_int)) (pa_nil))))))
      (pss_nil))
      (pss_cons (ps_if (pt_cmpR op_eq (pv 3) (pe_str) (nomark _))
      (pss_one (ps_ret (pe_call (ok_read_integer_any T) (hr.mono (by first | decide | omega)) (by rfl) T.g_read_integer T.F_read_integer.kp T.b_read_integer .nil (L2N.passes_call (L2N.takes_of rfl rfl rfl rfl) fun _ _ _ _ h => h) (pa_cons (pv 0) (pa_cons (pe_op op_add (pv 1) (pe_int)) (pa_nil))))))
      (pss_nil))
      (pss_cons (ps_if (pt_cmpR op_eq (pv 3) (pe_str) (nomark _))
      (pss_one (ps_ret (pe_call (ok_read_text_any T) (hr.mono (by first | decide | omega)) (by rfl) T.g_read_text T.F_read_text.kp T.b_read_text .nil (L2N.passes_call (L2N.takes_of rfl rfl rfl rfl) fun _ _ _ _ h => h) (pa_cons (pv 0) (pa_cons (pe_op op_add (pv 1) (pe_int)) (pa_nil))))))
      (pss_nil))
      (pss_cons (ps_if (PW.pt (pw_and (pt_cmpR op_eq (pv 3) (pe_str) (nomark _)) (pw_and1 (pt_cmpR op_lt (pv 2) (pe_glob (v := .int 12) rfl T.k_MOST_LEVELS ⟨_, rfl⟩) (nomark _)))))
      (pss_one (ps_never))
      (pss_nil))
      (pss_one (ps_never)))))), ?_⟩
      cases t with
      | nil =>
        rw [List.append_nil] at hl
        exact q_callE (ea_cons (ev_var rfl) (ea_cons (ev_var rfl) ea_nil)) fun H1 Q1 e1 => .inr (torn_at hl hz fun H2 e2 => q H2 (e1.trans e2))
      | cons c0 t' =>
        have hc : z.cps.toList[a.length]? = some c0 := by
          rw [hl, List.getElem?_append_right (Nat.le_refl _), Nat.sub_self] <;> rfl
        have hl2 : z.cps.toList = (a ++ [c0]) ++ t' := by rw [hl, List.append_assoc] <;> rfl
        have la : (a.length : Int) + 1 = ((a ++ [c0]).length : Int) := by rw [List.length_append] <;> rfl
        refine q_asg (ev_call (ea_cons (ev_var rfl) (ea_cons (ev_var rfl) ea_nil)) (cv_signA hz hc)) fun H1 e1 => ?_
        cases d with
        | non =>
          have := congrArg List.length ht
          simp only [List.length_append, List.length_cons, encC, List.length_nil] at this
          omega
        | int i =>
          have h0 : 105 = c0 := Option.some.inj (congrArg List.head? ht)
          subst h0
          have h1 : numC i ++ [59] = t' ++ (c :: r) := congrArg List.tail ht
          refine q_when (b := false) (et_is (et_test (ev_eqS (ev_var rfl) ev_c)) (hs 105 110 (by decide) _ en)) (fun z => nomatch z) fun _ H2 e2 => ?_
          refine q_when (b := true) (et_is (et_test (ev_eqS (ev_var rfl) ev_c)) (hq 105 _ ei)) (fun _ H3 e3 => ?_) (fun z => nomatch z)
          exact s_callE (ea_cons (ev_var rfl) (ea_cons (ev_is (ev_bin0 (ev_var rfl) ev_c) (congrArg V.int la)) ea_nil)) fun H4 Q4 e4 => .inr ⟨z, a ++ [105], t', r, i, c, rfl, hz, hl2, h1, fit_int60 hf, fun H5 e5 => q H5 ((((e1.trans e2).trans e3).trans e4).trans e5)⟩
        | str x =>
          have h0 : 116 = c0 := Option.some.inj (congrArg List.head? ht)
          subst h0
          have h1 : numC (x.length : Int) ++ (58 :: x.cps.toList) = t' ++ (c :: r) := congrArg List.tail ht
          refine q_when (b := false) (et_is (et_test (ev_eqS (ev_var rfl) ev_c)) (hs 116 110 (by decide) _ en)) (fun z => nomatch z) fun _ H2 e2 => ?_
          refine q_when (b := false) (et_is (et_test (ev_eqS (ev_var rfl) ev_c)) (hs 116 105 (by decide) _ ei)) (fun z => nomatch z) fun _ H3 e3 => ?_
          refine q_when (b := true) (et_is (et_test (ev_eqS (ev_var rfl) ev_c)) (hq 116 _ et)) (fun _ H4 e4 => ?_) (fun z => nomatch z)
          exact s_callE (ea_cons (ev_var rfl) (ea_cons (ev_is (ev_bin0 (ev_var rfl) ev_c) (congrArg V.int la)) ea_nil)) fun H5 Q5 e5 => .inr ⟨z, a ++ [116], t', r, x, c, rfl, hz, hl2, h1, fit_str hf, fun H6 e6 => q H6 (((((e1.trans e2).trans e3).trans e4).trans e5).trans e6)⟩
        | tup ds => exact hf.elim
  | n + 1 => by
    have IHT := ok_tuple_torn_of T (by omega) ((ok_item_at T n).both (ok_item_torn_at T n))
    refine okN T.F_read_item sc_read_item (fun vs H Q E h => ?_) (fun cdv A outer s H vs Q E hr h => ?_)
    · obtain ⟨z, a, t, r, l, d, c, rfl, _⟩ := h
      rfl
    · obtain ⟨z, a, t, r, l, d, c, rfl, hz, hl, ht, hf, hlv, q⟩ := h
      have en : (Str.ofString "n") = ⟨#[110]⟩ := by decide +kernel
      have ei : (Str.ofString "i") = ⟨#[105]⟩ := by decide +kernel
      have et : (Str.ofString "t") = ⟨#[116]⟩ := by decide +kernel
      have eo : (Str.ofString "(") = ⟨#[40]⟩ := by decide +kernel
      have hs : ∀ (c x : Nat), c ≠ x → ∀ s, (Str.ofString s) = ⟨#[x]⟩ → decide ((⟨#[c]⟩ : Str) = Str.ofString s) = false := fun c x h s hx => by
        rw [hx, str1_eq]
        exact decide_eq_false h
      have hq : ∀ (x : Nat) (s : String), (Str.ofString s) = ⟨#[x]⟩ → decide ((⟨#[x]⟩ : Str) = Str.ofString s) = true := fun x s hx => by
        rw [hx]
        exact decide_eq_true rfl
      refine ⟨_, pss_cons (ps_set (i := 3) sc_read_item.nd rfl (by first | exact Or.inl rfl | exact Or.inr rfl) (pe_call (ok_sign_at_any T) (hr.mono (by first | decide | omega)) (by rfl) T.g_sign_at T.F_sign_at.kp T.b_sign_at .nil (L2N.passes_call (L2N.takes_of rfl rfl rfl rfl) fun _ _ _ _ h => h) (pa_cons (pv 0) (pa_cons (pv 1) (pa_nil)))))
      (pss_cons (ps_if (pt_cmpR op_eq (pv 3) (pe_str) (nomark _))
      (pss_one (ps_ret (pe_tup (pa_cons (pe_non) (pa_cons (pe_op op_add (pv 1) (pe_int)) (pa_nil))))))
      (pss_nil))
      (pss_cons (ps_if (pt_cmpR op_eq (pv 3) (pe_str) (nomark _))
      (pss_one (ps_ret (pe_call (ok_read_integer_any T) (hr.mono (by first | decide | omega)) (by rfl) T.g_read_integer T.F_read_integer.kp T.b_read_integer .nil (L2N.passes_call (L2N.takes_of rfl rfl rfl rfl) fun _ _ _ _ h => h) (pa_cons (pv 0) (pa_cons (pe_op op_add (pv 1) (pe_int)) (pa_nil))))))
      (pss_nil))
      (pss_cons (ps_if (pt_cmpR op_eq (pv 3) (pe_str) (nomark _))
      (pss_one (ps_ret (pe_call (ok_read_text_any T) (hr.mono (by first | decide | omega)) (by rfl) T.g_read_text T.F_read_text.kp T.b_read_text .nil (L2N.passes_call (L2N.takes_of rfl rfl rfl rfl) fun _ _ _ _ h => h) (pa_cons (pv 0) (pa_cons (pe_op op_add (pv 1) (pe_int)) (pa_nil))))))
      (pss_nil))
      (pss_cons (ps_if (PW.pt (pw_and (pt_cmpR op_eq (pv 3) (pe_str) (nomark _)) (pw_and1 (pt_cmpR op_lt (pv 2) (pe_glob (v := .int 12) rfl T.k_MOST_LEVELS ⟨_, rfl⟩) (nomark _)))))
      (pss_one (ps_ret (pe_call IHT (hr.mono (by first | decide | omega)) (by rfl) T.g_read_tuple T.F_read_tuple.kp T.b_read_tuple .nil (L2N.passes_call (L2N.takes_of rfl rfl rfl rfl) fun _ _ _ _ h => h) (pa_cons (pv 0) (pa_cons (pe_op op_add (pv 1) (pe_int)) (pa_cons (pe_op op_add (pv 2) (pe_int)) (pa_nil)))))))
      (pss_nil))
      (pss_one (ps_never)))))), ?_⟩
      cases t with
      | nil =>
        rw [List.append_nil] at hl
        exact q_callE (ea_cons (ev_var rfl) (ea_cons (ev_var rfl) ea_nil)) fun H1 Q1 e1 => .inr (torn_at hl hz fun H2 e2 => q H2 (e1.trans e2))
      | cons c0 t' =>
        have hc : z.cps.toList[a.length]? = some c0 := by
          rw [hl, List.getElem?_append_right (Nat.le_refl _), Nat.sub_self] <;> rfl
        have hl2 : z.cps.toList = (a ++ [c0]) ++ t' := by rw [hl, List.append_assoc] <;> rfl
        have la : (a.length : Int) + 1 = ((a ++ [c0]).length : Int) := by rw [List.length_append] <;> rfl
        refine q_asg (ev_call (ea_cons (ev_var rfl) (ea_cons (ev_var rfl) ea_nil)) (cv_signA hz hc)) fun H1 e1 => ?_
        cases d with
        | non =>
          have := congrArg List.length ht
          simp only [List.length_append, List.length_cons, encC, List.length_nil] at this
          omega
        | int i =>
          have h0 : 105 = c0 := Option.some.inj (congrArg List.head? ht)
          subst h0
          have h1 : numC i ++ [59] = t' ++ (c :: r) := congrArg List.tail ht
          refine q_when (b := false) (et_is (et_test (ev_eqS (ev_var rfl) ev_c)) (hs 105 110 (by decide) _ en)) (fun z => nomatch z) fun _ H2 e2 => ?_
          refine q_when (b := true) (et_is (et_test (ev_eqS (ev_var rfl) ev_c)) (hq 105 _ ei)) (fun _ H3 e3 => ?_) (fun z => nomatch z)
          exact s_callE (ea_cons (ev_var rfl) (ea_cons (ev_is (ev_bin0 (ev_var rfl) ev_c) (congrArg V.int la)) ea_nil)) fun H4 Q4 e4 => .inr ⟨z, a ++ [105], t', r, i, c, rfl, hz, hl2, h1, fit_int60 hf, fun H5 e5 => q H5 ((((e1.trans e2).trans e3).trans e4).trans e5)⟩
        | str x =>
          have h0 : 116 = c0 := Option.some.inj (congrArg List.head? ht)
          subst h0
          have h1 : numC (x.length : Int) ++ (58 :: x.cps.toList) = t' ++ (c :: r) := congrArg List.tail ht
          refine q_when (b := false) (et_is (et_test (ev_eqS (ev_var rfl) ev_c)) (hs 116 110 (by decide) _ en)) (fun z => nomatch z) fun _ H2 e2 => ?_
          refine q_when (b := false) (et_is (et_test (ev_eqS (ev_var rfl) ev_c)) (hs 116 105 (by decide) _ ei)) (fun z => nomatch z) fun _ H3 e3 => ?_
          refine q_when (b := true) (et_is (et_test (ev_eqS (ev_var rfl) ev_c)) (hq 116 _ et)) (fun _ H4 e4 => ?_) (fun z => nomatch z)
          exact s_callE (ea_cons (ev_var rfl) (ea_cons (ev_is (ev_bin0 (ev_var rfl) ev_c) (congrArg V.int la)) ea_nil)) fun H5 Q5 e5 => .inr ⟨z, a ++ [116], t', r, x, c, rfl, hz, hl2, h1, fit_str hf, fun H6 e6 => q H6 (((((e1.trans e2).trans e3).trans e4).trans e5).trans e6)⟩
        | tup ds =>
          have h0 : 40 = c0 := Option.some.inj (congrArg List.head? ht)
          subst h0
          have h1 : encL ds ++ [41] = t' ++ (c :: r) := congrArg List.tail ht
          refine q_when (b := false) (et_is (et_test (ev_eqS (ev_var rfl) ev_c)) (hs 40 110 (by decide) _ en)) (fun z => nomatch z) fun _ H2 e2 => ?_
          refine q_when (b := false) (et_is (et_test (ev_eqS (ev_var rfl) ev_c)) (hs 40 105 (by decide) _ ei)) (fun z => nomatch z) fun _ H3 e3 => ?_
          refine q_when (b := false) (et_is (et_test (ev_eqS (ev_var rfl) ev_c)) (hs 40 116 (by decide) _ et)) (fun z => nomatch z) fun _ H4 e4 => ?_
          refine q_when (b := true) (et_is (et_and (a := true) (b := true) (et_is (et_test (ev_eqS (ev_var rfl) ev_c)) (hq 40 _ eo)) fun _ => et_is (et_test (ev_bin0 (ev_var rfl) ev_c)) (decide_eq_true (by omega))) rfl) (fun _ H5 e5 => ?_) (fun z => nomatch z)
          exact s_callE (ea_cons (ev_var rfl) (ea_cons (ev_is (ev_bin0 (ev_var rfl) ev_c) (congrArg V.int la)) (ea_cons (ev_is (ev_bin0 (ev_var rfl) ev_c) (congrArg V.int (show (l : Int) + 1 = ((l + 1 : Nat) : Int) by omega))) ea_nil))) fun H6 Q6 e6 => ⟨z, a ++ [40], t', r, l + 1, ds, c, rfl, hz, hl2, h1, hf.2, hf.1, by omega, fun H7 e7 => q H7 ((((((e1.trans e2).trans e3).trans e4).trans e5).trans e6).trans e7)⟩


/-! ### decode_prefix -/
theorem ok_decode_prefix (T : Txt K mg) : FnOk P w K mg base CX0 29 T.f_decode_prefix T.d_decode_prefix ["text", "index"] (fun vs H Q E => ∃ x y : V, vs = [x, y] ∧ spItem K 12 [x, y, .int 0] H Q E) := by
  refine T.F_decode_prefix.ok sc_decode_prefix (fun vs H Q E h => ?_) (fun cdv A outer s H vs Q E hr h => ?_)
  · obtain ⟨x, y, rfl, _⟩ := h
    rfl
  · obtain ⟨x, y, rfl, h⟩ := h
    obtain ⟨z, a, r, l, d, eq, hz, hl, hf, hlv, q⟩ := h
    refine ⟨_, pss_one (ps_ret (pe_call (ok_read_item T) (hr.mono (by first | decide | omega)) (by rfl) T.g_read_item T.F_read_item.kp T.b_read_item .nil pass0 (pa_cons (pv 0) (pa_cons (pv 1) (pa_cons (pe_int) (pa_nil)))))), ?_⟩
    refine s_callP3 (ev_var rfl) (ev_var rfl) ev_c fun H4 e4 => ⟨z, a, r, l, d, eq, hz, hl, hf, hlv, fun t H5 v e5 h5 hv => q t H5 v (e4.trans e5) h5 hv⟩


/-- the text ends within an item that begins at index -/
def spTornP (CT : Addr) : Sp := fun vs H _ E => ∃ (z : Str) (a t r : List Nat) (d : It) (c : Nat), vs = [.str z, .int (a.length : Int)] ∧ z.length ≤ 16000000 ∧ z.cps.toList = a ++ t ∧ encC d = t ++ (c :: r) ∧ d.fit 12 ∧ ∀ H', Ex H H' → E (.ref CT) none H'
theorem ok_decode_prefix_torn (T : Txt K mg) : FnOk P w K mg base (L2N.CX P w) 29 T.f_decode_prefix T.d_decode_prefix ["text", "index"] (spTornP T.C_TornText) := by
  refine okN T.F_decode_prefix sc_decode_prefix (fun vs H Q E h => ?_) (fun cdv A outer s H vs Q E hr h => ?_)
  · obtain ⟨z, a, t, r, d, c, rfl, _⟩ := h
    rfl
  · obtain ⟨z, a, t, r, d, c, rfl, hz, hl, ht, hf, q⟩ := h
    refine ⟨_, pss_one (ps_ret (pe_call (ok_item_torn_at T 12) (hr.mono (by decide)) (by rfl) T.g_read_item T.F_read_item.kp T.b_read_item .nil (L2N.passes_call (L2N.takes_of rfl rfl rfl rfl) fun _ _ _ _ h => h) (pa_cons (pv 0) (pa_cons (pv 1) (pa_cons (pe_int) (pa_nil)))))), ?_⟩
    exact s_callE (ea_cons (ev_var rfl) (ea_cons (ev_var rfl) (ea_cons ev_c ea_nil))) fun H1 Q1 e1 => ⟨z, a, t, r, 0, d, c, rfl, hz, hl, ht, hf, by omega, fun H2 e2 => q H2 (e1.trans e2)⟩


/-! ### decode -/
theorem q_part2 {sp : Sp} {E : XK} {K : PySem.W.Frag} {σ : L2.St} {H : Hp} {ta tb : TE} {x y : V} {tz : TS} {D : Ends} {n i j : Nat} (ha : Ev ta σ H x) (hb : Ev tb σ H y) (hn : 2 = n)
    (h : ∀ H1, Ex H H1 → sp [x, y] H1 (fun v H2 => gTup K 2 (gCons (gName i) (gCons (gName j) gNil)) v σ H2 fun σ' H' => tz D σ' H') E) : tSeq (tAsg (tCall sp [] E (tCons ta (tCons tb tNil))) (gTup K n (gCons (gName i) (gCons (gName j) gNil)))) tz D σ H := by
  subst hn
  exact ha H (Ex.refl H) _ fun H1 e1 => hb H1 e1 _ fun H2 e2 => h H2 (e1.trans e2)
theorem ok_decode (T : Txt K mg) : FnOk P w K mg base CX0 30 T.f_decode T.d_decode ["text"] (spDec K) := by
  refine T.F_decode.ok sc_decode (fun vs H Q E h => ?_) (fun cdv A outer s H vs Q E hr h => ?_)
  · obtain ⟨z, d, rfl, _⟩ := h
    rfl
  · obtain ⟨z, d, rfl, hz, hf, hl, q⟩ := h
    have el : z.length = (encC d).length := by rw [hz, str_len]
    refine ⟨_, pss_cons (ps_try_thru0 (pss_one (ps_asg (pe_call (ok_decode_prefix T) (hr.mono (by first | decide | omega)) (by rfl) T.g_decode_prefix T.F_decode_prefix.kp T.b_decode_prefix .nil pass0 (pa_cons (pv 0) (pa_cons (pe_int) (pa_nil)))) (pg_tup rfl (pgs_cons (pg_name (i := 1) sc_decode.nd rfl (by first | exact Or.inl rfl | exact Or.inr rfl)) (pgs_cons (pg_name (i := 2) sc_decode.nd rfl (by first | exact Or.inl rfl | exact Or.inr rfl)) (pgs_nil)))))))
      (pss_cons (ps_if (pt_cmpR op_lt (pv 2) (pe_callB call_len_str (by rfl) T.m_len (by decide +kernel) (pa_cons (pv 0) (pa_nil))) (nomark _))
      (pss_one (ps_never))
      (pss_nil))
      (pss_one (ps_ret (pv 1)))), ?_⟩
    refine q_part2 (ev_var rfl) ev_c (by rfl) fun H1 e1 => ⟨_, _, rfl, z, [], [], 0, d, rfl, by omega, by rw [hz]; simp, hf, by omega, fun t H2 v e2 h2 hv => ⟨t, _, rfl, st_of h2, rfl, v, _, rfl, _, _, rfl, rfl, ?_⟩⟩
    have ez : (([] : List Nat).length + (encC d).length : Nat) = z.length := by rw [el]; simp
    refine q_when (b := false) (et_is (et_test (ev_bin0 (ev_var rfl) (ev_lenB (ev_var rfl) (by omega)))) (decide_eq_false (by rw [ez]; omega))) (fun z => nomatch z) fun _ H3 e3 => ?_
    exact s_ret (ev_var rfl) fun H4 e4 => q v H4 (((e1.trans e2).trans e3).trans e4) (hv.mono (e3.trans e4))


/-- the text ends before its item does -/
def CutT (z : Str) : Prop := ∃ (d : It) (c : Nat) (r : List Nat), encC d = z.cps.toList ++ (c :: r) ∧ It.fit 12 d
def spBad (CI : Addr) : Sp := fun vs H _ E => ∃ z : Str, vs = [.str z] ∧ z.length ≤ 16000000 ∧ CutT z ∧ ∀ H', Ex H H' → E (.ref CI) none H'
theorem ok_decode_bad (T : Txt K mg) : FnOk P w K mg base (L2.CX P w) 30 T.f_decode T.d_decode ["text"] (spBad T.C_InvalidText) := by
  refine T.F_decode.okX sc_decode (fun vs H Q E h => ?_) (fun cdv A outer s H vs Q E hr h => ?_)
  · obtain ⟨z, rfl, _⟩ := h
    rfl
  · obtain ⟨z, rfl, hz, ⟨d, c, r, ht, hf⟩, q⟩ := h
    refine ⟨_, pss_cons (L2H.ps_try_onlyX (c := .ref T.C_TornText) (tb := fun W => tAsg (tCallS (spTornP T.C_TornText) (WE W) (tCons (tVar 0) (tCons (tC (.int 0)) tNil))) (gTup K 2 (gCons (gName 1) (gCons (gName 2) gNil)))) (ts := fun _ _ _ _ _ H1 => Ex H H1 ∧ E (.ref T.C_InvalidText) none H1) (Wout := fun cls d _ H' => E cls d H')
        rfl rfl ⟨rfl, by decide, .inl T.e_TornText.g⟩ (L2H.passesAt_of rfl) (L2.takes_of rfl rfl rfl rfl)
        (fun W pn xe tk _ _ => pss_one (ps_asg (by exact (pe_callS (ok_decode_prefix_torn T) (hr.mono (by decide)) (by rfl) T.g_decode_prefix T.F_decode_prefix.kp T.b_decode_prefix (fun σ => L2N.passAt tk σ) (by exact (pa_cons (pv 0) (pa_cons (pe_int) (pa_nil)))))) (by exact (pg_tup rfl (pgs_cons (pg_name (i := 1) sc_decode.nd rfl (Or.inl rfl)) (pgs_cons (pg_name (i := 2) sc_decode.nd rfl (Or.inl rfl)) (pgs_nil)))))))
        (fun a oe cls d pn _ _ tk hot => pss_one (ps_raiseFN hot tk T.e_InvalidText rfl rfl (by decide)))) pss_never, ?_⟩
    exact s_callT (ea_cons (ev_var rfl) (ea_cons ev_c ea_nil)) fun H1 Q1 e1 => ⟨z, [], z.cps.toList, r, d, c, rfl, hz, rfl, ht, hf, fun H2 e2 => ⟨true, T.e_TornText.self, fun _ a ha => ⟨e1.trans e2, q H2 (e1.trans e2)⟩, fun z => nomatch z⟩⟩


/-! ### _law_is_invalid -/
def spIsBad : Sp := fun vs H Q _ => ∃ z : Str, vs = [.str z] ∧ z.length ≤ 16000000 ∧ CutT z ∧ ∀ H', Ex H H' → Q (.bl true) H'
theorem cv_bad {z : Str} {H : Hp} (hz : z.length ≤ 16000000) (hb : CutT z) : SpV spIsBad [.str z] H (.bl true) := fun H1 e Q q E => ⟨z, rfl, hz, hb, fun H2 e2 => q H2 e2⟩
theorem ok_law_is_invalid (T : Txt K mg) : FnOk P w K mg base CX0 31 T.f_law_is_invalid T.d_law_is_invalid ["text"] spIsBad := by
  refine T.F_law_is_invalid.ok sc_law_is_invalid (fun vs H Q E h => ?_) (fun cdv A outer s H vs Q E hr h => ?_)
  · obtain ⟨z, rfl, _⟩ := h
    rfl
  · obtain ⟨z, rfl, hz, hb, q⟩ := h
    refine ⟨_, pss_cons (ps_try_as2 (i := 1) (c := .ref T.C_InvalidText) rfl rfl sc_law_is_invalid.nd rfl rfl ⟨rfl, by decide, .inl T.e_InvalidText.g⟩
      (fun W pn xe tk => pss_one (ps_expr (pe_callS (ok_decode_bad T) (hr.mono (by decide)) (by rfl) T.g_decode T.F_decode.kp T.b_decode (fun σ => L2.passAt tk σ) (pa_cons (pv 0) (pa_nil)))))
      (fun a oe cls d pn hz hf => pss_given (P := cls = .ref T.C_InvalidText ∧ d = none) fun p => pss_one (ps_ret (pe_and (pe_callB (call_isE T.e_InvalidText.is (zc_of p hz) hf) (by rfl) T.m_isinstance (by decide +kernel) (pa_cons (pv 1) (pa_cons (pe_glob (v := .ref T.C_VersionError) rfl T.g_VersionError rfl) pa_nil))) (pe_and (pe_callB (call_isE T.e_InvalidText.is (zc_of p hz) hf) (by rfl) T.m_isinstance (by decide +kernel) (pa_cons (pv 1) (pa_cons (pe_bltn (v := .ty "ValueError") (by rfl) T.m_ValueError (by decide +kernel) rfl) pa_nil)))
        (pe_one (pe_not (pe_callB (call_isE T.e_InvalidText.is (zc_of p hz) hf) (by rfl) T.m_isinstance (by decide +kernel) (pa_cons (pv 1) (pa_cons (pe_glob (v := .ref T.C_TornText) rfl T.e_TornText.g rfl) pa_nil)))))))))) pss_never, ?_⟩
    refine s_dropT (ea_cons (ev_var rfl) ea_nil) fun H1 Q1 e1 => ⟨z, rfl, hz, hb, fun H2 e2 => ⟨T.e_InvalidText.self, fun a ha => ⟨⟨rfl, rfl⟩, ?_⟩⟩⟩
    exact s_ret (v := .bl true) (ev_is (ev_andV (a := true) (b := true) (ev_isE (ev_var rfl) (fun u h => h) T.ku_InvalidText_VersionError) fun _ => ev_is (ev_andV (a := true) (b := true) (ev_isE (ev_var rfl) (fun u h => h) T.kv_InvalidText) fun _ => ev_is (ev_notV (ev_isE (b := false) (ev_var rfl) (fun u h => h) T.kt_InvalidText_TornText)) rfl) rfl) rfl) fun H3 e3 => q H3 ((e1.trans e2).trans e3)


/-! ### _law_is_torn -/
def spIsTorn : Sp := fun vs H Q _ => ∃ (z : Str) (a t r : List Nat) (d : It) (c : Nat), vs = [.str z, .int (a.length : Int)] ∧ z.length ≤ 16000000 ∧ z.cps.toList = a ++ t ∧ encC d = t ++ (c :: r) ∧ It.fit 12 d ∧ ∀ H', Ex H H' → Q (.bl true) H'
theorem cv_torn {z : Str} {a t r : List Nat} {d : It} {c : Nat} {n : Int} {H : Hp} (hn : n = (a.length : Int)) (hz : z.length ≤ 16000000) (hl : z.cps.toList = a ++ t) (ht : encC d = t ++ (c :: r)) (hf : It.fit 12 d) : SpV spIsTorn [.str z, .int n] H (.bl true) := fun H1 e Q q E => ⟨z, a, t, r, d, c, by rw [hn], hz, hl, ht, hf, fun H2 e2 => q H2 e2⟩
theorem ok_law_is_torn (T : Txt K mg) : FnOk P w K mg base CX0 30 T.f_law_is_torn T.d_law_is_torn ["text", "index"] spIsTorn := by
  refine T.F_law_is_torn.ok sc_law_is_torn (fun vs H Q E h => ?_) (fun cdv A outer s H vs Q E hr h => ?_)
  · obtain ⟨z, a, t, r, d, c, rfl, _⟩ := h
    rfl
  · obtain ⟨z, a, t, r, d, c, rfl, hz, hl, ht, hf, q⟩ := h
    refine ⟨_, pss_cons (ps_try_as1 (i := 2) (c := .ref T.C_TornText) rfl rfl sc_law_is_torn.nd rfl rfl ⟨rfl, by decide, .inl T.e_TornText.g⟩
      (fun W pn xe tk => pss_one (ps_expr (pe_callS (ok_decode_prefix_torn T) (hr.mono (by decide)) (by rfl) T.g_decode_prefix T.F_decode_prefix.kp T.b_decode_prefix (fun σ => L2N.passAt tk σ) (pa_cons (pv 0) (pa_cons (pv 1) (pa_nil))))))
      (fun a oe cls d pn hz hf => pss_given (P := cls = .ref T.C_TornText ∧ d = none) fun p => pss_one (ps_ret (pe_and (pe_callB (call_isE T.e_TornText.is (zc_of p hz) hf) (by rfl) T.m_isinstance (by decide +kernel) (pa_cons (pv 2) (pa_cons (pe_glob (v := .ref T.C_VersionError) rfl T.g_VersionError rfl) pa_nil))) (pe_and (pe_callB (call_isE T.e_TornText.is (zc_of p hz) hf) (by rfl) T.m_isinstance (by decide +kernel) (pa_cons (pv 2) (pa_cons (pe_bltn (v := .ty "ValueError") (by rfl) T.m_ValueError (by decide +kernel) rfl) pa_nil)))
        (pe_one (pe_not (pe_callB (call_isE T.e_TornText.is (zc_of p hz) hf) (by rfl) T.m_isinstance (by decide +kernel) (pa_cons (pv 2) (pa_cons (pe_glob (v := .ref T.C_InvalidText) rfl T.e_InvalidText.g rfl) pa_nil)))))))))) pss_never, ?_⟩
    refine s_dropT (ea_cons (ev_var rfl) (ea_cons (ev_var rfl) ea_nil)) fun H1 Q1 e1 => ⟨z, a, t, r, d, c, rfl, hz, hl, ht, hf, fun H2 e2 => ⟨T.e_TornText.self, fun a ha => ⟨⟨rfl, rfl⟩, ?_⟩⟩⟩
    exact s_ret (v := .bl true) (ev_is (ev_andV (a := true) (b := true) (ev_isE (ev_var rfl) (fun u h => h) T.ku_TornText_VersionError) fun _ => ev_is (ev_andV (a := true) (b := true) (ev_isE (ev_var rfl) (fun u h => h) T.kv_TornText) fun _ => ev_is (ev_notV (ev_isE (b := false) (ev_var rfl) (fun u h => h) T.kt_TornText_InvalidText)) rfl) rfl) rfl) fun H3 e3 => q H3 ((e1.trans e2).trans e3)


/-! ### _law_same -/
def spSame (K : PySem.W.Frag) (n : Nat) : Sp := fun vs H Q _ => ∃ (u v : V) (d : It), vs = [u, v] ∧ Dv K H u d ∧ Dv K H v d ∧ d.fit n ∧ ∀ H', Ex H H' → Q (.bl true) H'
theorem cv_same {K : PySem.W.Frag} {n : Nat} {u v : V} {d : It} {H : Hp} (h : Dv K H u d) (h2 : Dv K H v d) (hf : d.fit n) : SpV (spSame K n) [u, v] H (.bl true) := fun H1 e Q q E => ⟨u, v, d, rfl, h.mono e, h2.mono e, hf, fun H2 e2 => q H2 e2⟩
theorem DvL.get {K : PySem.W.Frag} {H : Hp} : ∀ {vs : List V} {ds : List It}, DvL K H vs ds → ∀ {i : Nat}, i < ds.length → ∃ v d, vs[i]? = some v ∧ ds[i]? = some d ∧ Dv K H v d
  | _, _, .cons h r, 0, _ => ⟨_, _, rfl, rfl, h⟩
  | _, _, .cons h r, i + 1, hi => by
    obtain ⟨v, d, h1, h2, h3⟩ := r.get (i := i) (Nat.lt_of_succ_lt_succ hi)
    exact ⟨v, d, by simpa using h1, by simpa using h2, h3⟩
theorem ok_law_same_at (T : Txt K mg) : ∀ n : Nat, FnOk P w K mg base CX0 (n + 1) T.f_law_same T.d_law_same ["actual", "expected"] (spSame K n)
  | 0 => by
    refine T.F_law_same.ok sc_law_same (fun vs H Q E h => ?_) (fun cdv A outer s H vs Q E hr h => ?_)
    · obtain ⟨u, v, d, rfl, _⟩ := h
      rfl
    · obtain ⟨u, v, d, rfl, hU, hV, hf, q⟩ := h
      refine ⟨_, pss_cons (ps_if (pt_cmpR op_isN (pv 1) (pe_non) (nomark _))
      (pss_one (ps_ret (pe_cmpR op_isN (pv 0) (pe_non) (nomark _))))
      (pss_nil))
      (pss_cons (ps_if (pt_val (pe_callB (r := rIsi K) call_isi (by rfl) T.m_isinstance (by decide +kernel) (pa_cons (pv 1) (pa_cons (pe_bltn (v := .ty "tuple") (by rfl) T.m_tuple (by decide +kernel) rfl) (pa_nil)))))
      (pss_cons (ps_if (PW.pt (pw_or (pt_not (pt_val (pe_callB (r := rIsi K) call_isi (by rfl) T.m_isinstance (by decide +kernel) (pa_cons (pv 0) (pa_cons (pe_bltn (v := .ty "tuple") (by rfl) T.m_tuple (by decide +kernel) rfl) (pa_nil)))))) (pw_or1 (pt_cmpR op_ne (pe_callB (r := rLenQ K) call_len_seq (by rfl) T.m_len (by decide +kernel) (pa_cons (pv 0) (pa_nil))) (pe_callB (r := rLenQ K) call_len_seq (by rfl) T.m_len (by decide +kernel) (pa_cons (pv 1) (pa_nil))) (nomark _)))))
      (pss_one (ps_ret (pe_bl)))
      (pss_nil))
      (pss_cons (ps_for PassesOwn.never rfl (pi_range1 (by rfl) T.m_range (pa_cons (pe_callB (r := rLenQ K) call_len_seq (by rfl) T.m_len (by decide +kernel) (pa_cons (pv 1) (pa_nil))) (pa_nil))) (pg_name (i := 2) sc_law_same.nd rfl (by first | exact Or.inl rfl | exact Or.inr rfl))
      (pss_one (ps_never)))
      (pss_one (ps_ret (pe_bl)))))
      (pss_nil))
      (pss_cons (ps_if (pt_val (pe_callB (r := rIsi K) call_isi (by rfl) T.m_isinstance (by decide +kernel) (pa_cons (pv 1) (pa_cons (pe_bltn (v := .ty "str") (by rfl) T.m_str (by decide +kernel) rfl) (pa_nil)))))
      (pss_one (ps_ret (pe_and (pe_callB (r := rIsi K) call_isi (by rfl) T.m_isinstance (by decide +kernel) (pa_cons (pv 0) (pa_cons (pe_bltn (v := .ty "str") (by rfl) T.m_str (by decide +kernel) rfl) (pa_nil)))) (pe_one (pe_cmpR op_eq (pv 0) (pv 1) (nomark _))))))
      (pss_nil))
      (pss_one (ps_ret (pe_and (pe_callB (r := rIsi K) call_isi (by rfl) T.m_isinstance (by decide +kernel) (pa_cons (pv 0) (pa_cons (pe_bltn (v := .ty "int") (by rfl) T.m_int (by decide +kernel) rfl) (pa_nil)))) (pe_and (pe_not (pe_callB (r := rIsi K) call_isi (by rfl) T.m_isinstance (by decide +kernel) (pa_cons (pv 0) (pa_cons (pe_bltn (v := .ty "bool") (by rfl) T.m_bool (by decide +kernel) rfl) (pa_nil))))) (pe_one (pe_cmpR op_eq (pv 0) (pv 1) (nomark _))))))))), ?_⟩
      cases hV with
      | tup hS r => exact hf.elim
      | non =>
        cases hU
        exact q_when (b := true) (et_test (ev_isNt (ev_var rfl))) (fun _ H1 e1 => s_ret (ev_isNt (ev_var rfl)) fun H2 e2 => q H2 (e1.trans e2)) (fun z => nomatch z)
      | int i =>
        cases hU
        refine q_when (b := false) (et_test (ev_isNf (ev_var rfl))) (fun z => nomatch z) fun _ H1 e1 => ?_
        refine q_when (b := false) (et_B (ev_isi (K := K) (a := "int") (ev_var rfl) (fun _ _ => .base (.int i)) (by decide +kernel))) (fun z => nomatch z) fun _ H2 e2 => ?_
        refine q_when (b := false) (et_B (ev_isi (K := K) (a := "int") (ev_var rfl) (fun _ _ => .base (.int i)) (by decide +kernel))) (fun z => nomatch z) fun _ H3 e3 => ?_
        refine s_ret (v := .bl true) (ev_is (ev_andV (a := true) (b := true) (ev_isi (K := K) (a := "int") (ev_var rfl) (fun _ _ => .base (.int i)) (by decide +kernel)) fun _ => ev_is (ev_andV (a := true) (b := true) (ev_is (ev_notV (ev_isi (K := K) (a := "int") (r := false) (ev_var rfl) (fun _ _ => .base (.int i)) (by decide +kernel))) rfl) fun _ => ev_is (ev_eqI (ev_var rfl) (ev_var rfl)) (congrArg V.bl (decide_eq_true rfl))) rfl) rfl) fun H4 e4 => q H4 (((e1.trans e2).trans e3).trans e4)
      | str z =>
        cases hU
        refine q_when (b := false) (et_test (ev_isNf (ev_var rfl))) (fun z => nomatch z) fun _ H1 e1 => ?_
        refine q_when (b := false) (et_B (ev_isi (K := K) (a := "str") (ev_var rfl) (fun _ _ => .base (.str z)) (by decide +kernel))) (fun z => nomatch z) fun _ H2 e2 => ?_
        refine q_when (b := true) (et_B (ev_isi (K := K) (a := "str") (ev_var rfl) (fun _ _ => .base (.str z)) (by decide +kernel))) (fun _ H3 e3 => ?_) (fun z => nomatch z)
        refine s_ret (v := .bl true) (ev_is (ev_andV (a := true) (b := true) (ev_isi (K := K) (a := "str") (ev_var rfl) (fun _ _ => .base (.str z)) (by decide +kernel)) fun _ => ev_is (ev_eqS (ev_var rfl) (ev_var rfl)) (congrArg V.bl (decide_eq_true rfl))) rfl) fun H4 e4 => q H4 (((e1.trans e2).trans e3).trans e4)
  | n + 1 => by
    have IH := ok_law_same_at T n
    refine T.F_law_same.ok sc_law_same (fun vs H Q E h => ?_) (fun cdv A outer s H vs Q E hr h => ?_)
    · obtain ⟨u, v, d, rfl, _⟩ := h
      rfl
    · obtain ⟨u, v, d, rfl, hU, hV, hf, q⟩ := h
      refine ⟨_, pss_cons (ps_if (pt_cmpR op_isN (pv 1) (pe_non) (nomark _))
      (pss_one (ps_ret (pe_cmpR op_isN (pv 0) (pe_non) (nomark _))))
      (pss_nil))
      (pss_cons (ps_if (pt_val (pe_callB (r := rIsi K) call_isi (by rfl) T.m_isinstance (by decide +kernel) (pa_cons (pv 1) (pa_cons (pe_bltn (v := .ty "tuple") (by rfl) T.m_tuple (by decide +kernel) rfl) (pa_nil)))))
      (pss_cons (ps_if (PW.pt (pw_or (pt_not (pt_val (pe_callB (r := rIsi K) call_isi (by rfl) T.m_isinstance (by decide +kernel) (pa_cons (pv 0) (pa_cons (pe_bltn (v := .ty "tuple") (by rfl) T.m_tuple (by decide +kernel) rfl) (pa_nil)))))) (pw_or1 (pt_cmpR op_ne (pe_callB (r := rLenQ K) call_len_seq (by rfl) T.m_len (by decide +kernel) (pa_cons (pv 0) (pa_nil))) (pe_callB (r := rLenQ K) call_len_seq (by rfl) T.m_len (by decide +kernel) (pa_cons (pv 1) (pa_nil))) (nomark _)))))
      (pss_one (ps_ret (pe_bl)))
      (pss_nil))
      (pss_cons (ps_for PassesOwn.never rfl (pi_range1 (by rfl) T.m_range (pa_cons (pe_callB (r := rLenQ K) call_len_seq (by rfl) T.m_len (by decide +kernel) (pa_cons (pv 1) (pa_nil))) (pa_nil))) (pg_name (i := 2) sc_law_same.nd rfl (by first | exact Or.inl rfl | exact Or.inr rfl))
      (pss_one (ps_if (pt_not (pt_val (pe_call IH (hr.mono (by omega)) (by rfl) T.g_law_same T.F_law_same.kp T.b_law_same .nil pass0 (pa_cons (pe_ix (r := rIxT K) ix_tup (pv 0) (pv 2) (fun _ _ => rfl)) (pa_cons (pe_ix (r := rIxT K) ix_tup (pv 1) (pv 2) (fun _ _ => rfl)) (pa_nil))))))
      (pss_one (ps_ret (pe_bl)))
      (pss_nil))))
      (pss_one (ps_ret (pe_bl)))))
      (pss_nil))
      (pss_cons (ps_if (pt_val (pe_callB (r := rIsi K) call_isi (by rfl) T.m_isinstance (by decide +kernel) (pa_cons (pv 1) (pa_cons (pe_bltn (v := .ty "str") (by rfl) T.m_str (by decide +kernel) rfl) (pa_nil)))))
      (pss_one (ps_ret (pe_and (pe_callB (r := rIsi K) call_isi (by rfl) T.m_isinstance (by decide +kernel) (pa_cons (pv 0) (pa_cons (pe_bltn (v := .ty "str") (by rfl) T.m_str (by decide +kernel) rfl) (pa_nil)))) (pe_one (pe_cmpR op_eq (pv 0) (pv 1) (nomark _))))))
      (pss_nil))
      (pss_one (ps_ret (pe_and (pe_callB (r := rIsi K) call_isi (by rfl) T.m_isinstance (by decide +kernel) (pa_cons (pv 0) (pa_cons (pe_bltn (v := .ty "int") (by rfl) T.m_int (by decide +kernel) rfl) (pa_nil)))) (pe_and (pe_not (pe_callB (r := rIsi K) call_isi (by rfl) T.m_isinstance (by decide +kernel) (pa_cons (pv 0) (pa_cons (pe_bltn (v := .ty "bool") (by rfl) T.m_bool (by decide +kernel) rfl) (pa_nil))))) (pe_one (pe_cmpR op_eq (pv 0) (pv 1) (nomark _))))))))), ?_⟩
      cases hV with
      | non =>
        cases hU
        exact q_when (b := true) (et_test (ev_isNt (ev_var rfl))) (fun _ H1 e1 => s_ret (ev_isNt (ev_var rfl)) fun H2 e2 => q H2 (e1.trans e2)) (fun z => nomatch z)
      | int i =>
        cases hU
        refine q_when (b := false) (et_test (ev_isNf (ev_var rfl))) (fun z => nomatch z) fun _ H1 e1 => ?_
        refine q_when (b := false) (et_B (ev_isi (K := K) (a := "int") (ev_var rfl) (fun _ _ => .base (.int i)) (by decide +kernel))) (fun z => nomatch z) fun _ H2 e2 => ?_
        refine q_when (b := false) (et_B (ev_isi (K := K) (a := "int") (ev_var rfl) (fun _ _ => .base (.int i)) (by decide +kernel))) (fun z => nomatch z) fun _ H3 e3 => ?_
        refine s_ret (v := .bl true) (ev_is (ev_andV (a := true) (b := true) (ev_isi (K := K) (a := "int") (ev_var rfl) (fun _ _ => .base (.int i)) (by decide +kernel)) fun _ => ev_is (ev_andV (a := true) (b := true) (ev_is (ev_notV (ev_isi (K := K) (a := "int") (r := false) (ev_var rfl) (fun _ _ => .base (.int i)) (by decide +kernel))) rfl) fun _ => ev_is (ev_eqI (ev_var rfl) (ev_var rfl)) (congrArg V.bl (decide_eq_true rfl))) rfl) rfl) fun H4 e4 => q H4 (((e1.trans e2).trans e3).trans e4)
      | str z =>
        cases hU
        refine q_when (b := false) (et_test (ev_isNf (ev_var rfl))) (fun z => nomatch z) fun _ H1 e1 => ?_
        refine q_when (b := false) (et_B (ev_isi (K := K) (a := "str") (ev_var rfl) (fun _ _ => .base (.str z)) (by decide +kernel))) (fun z => nomatch z) fun _ H2 e2 => ?_
        refine q_when (b := true) (et_B (ev_isi (K := K) (a := "str") (ev_var rfl) (fun _ _ => .base (.str z)) (by decide +kernel))) (fun _ H3 e3 => ?_) (fun z => nomatch z)
        refine s_ret (v := .bl true) (ev_is (ev_andV (a := true) (b := true) (ev_isi (K := K) (a := "str") (ev_var rfl) (fun _ _ => .base (.str z)) (by decide +kernel)) fun _ => ev_is (ev_eqS (ev_var rfl) (ev_var rfl)) (congrArg V.bl (decide_eq_true rfl))) rfl) fun H4 e4 => q H4 (((e1.trans e2).trans e3).trans e4)
      | @tup a xs ds hS r =>
        cases hU with
        | @tup b ys _ hS2 r2 =>
        have lx := r.len
        have ly := r2.len
        have hz := hf.1
        refine q_when (b := false) (et_test (ev_isNf (ev_var rfl))) (fun z => nomatch z) fun _ H1 e1 => ?_
        refine q_when (b := true) (et_B (ev_isi (K := K) (a := "tuple") (ev_var rfl) (fun H2 e2 => tyx_tup (ex_t (e1.trans e2) hS)) (by decide +kernel))) (fun _ H2 e2 => ?_) (fun z => nomatch z)
        have E2 := e1.trans e2
        refine q_when (b := false) (et_is (et_or (a := false) (b := false) (et_is (et_not (et_B (ev_isi (K := K) (a := "tuple") (r := true) (ev_var rfl) (fun H3 e3 => tyx_tup (ex_t (E2.trans e3) hS2)) (by decide +kernel)))) rfl) fun _ => et_is (et_test (ev_neI (ev_lenT (K := K) (ev_var rfl) (ex_t E2 hS2)) (ev_lenT (K := K) (ev_var rfl) (ex_t E2 hS)))) (by rw [lx, ly]; simp)) rfl) (fun z => nomatch z) fun _ H3 e3 => ?_
        have E3 := E2.trans e3
        refine q_forR1 (n := (ds.length : Int)) (ea_cons (ev_is (ev_lenT (K := K) (ev_var rfl) (ex_t E3 hS)) (by rw [lx])) ea_nil) (by omega) (fun i σ' H' => ∃ kv : Option V, σ' = [some (.ref b), some (.ref a), kv] ∧ Ex H H')
          (fun H4 e4 => ⟨none, rfl, E3.trans e4⟩) (fun i σ' H' hi hP => ?_) (fun σ' H' hP => ?_)
        · obtain ⟨kv, rfl, eH⟩ := hP
          have hi2 : i < ds.length := by omega
          obtain ⟨v1, d1, h1, h2, h3⟩ := r.get hi2
          obtain ⟨v2, d2, g1, g2, g3⟩ := r2.get hi2
          have ed : d1 = d2 := Option.some.inj (h2.symm.trans g2)
          subst ed
          have hm : d1 ∈ ds := List.mem_of_getElem? h2
          refine s_when (b := false) (et_is (et_not (et_B (ev_call (ea_cons (ev_ixT (K := K) (ev_var rfl) (ev_var rfl) (ex_t eH hS2) (at_nat g1)) (ea_cons (ev_ixT (K := K) (ev_var rfl) (ev_var rfl) (ex_t eH hS) (at_nat h1)) ea_nil)) (cv_same (g3.mono eH) (h3.mono eH) (hf.2 d1 hm))))) rfl) (fun z => nomatch z) fun _ H4 e4 => ⟨_, rfl, eH.trans e4⟩
        · obtain ⟨kv, rfl, eH⟩ := hP
          exact s_ret ev_c fun H4 e4 => q H4 (eH.trans e4)
theorem ok_law_same (T : Txt K mg) : FnOk P w K mg base CX0 14 T.f_law_same T.d_law_same ["actual", "expected"] (spSame K 13) := ok_law_same_at T 13
theorem ev_sameD {K : PySem.W.Frag} {E1 E2 : XK} {n : Nat} {σ : L2.St} {H : Hp} {te tv : TE} {v : V} {d : It} (ht : Ev te σ H (.str ⟨(encC d).toArray⟩)) (hv : Ev tv σ H v) (hD : Dv K H v d) (hf : d.fit 12) (hn : 12 ≤ n) (hz : (encC d).length ≤ 16000000) : Ev (tCall (spSame K n) [] E1 (tCons (tCall (spDec K) [] E2 (tCons te tNil)) (tCons tv tNil))) σ H (.bl true) := fun H1 e Q q =>
  ht H1 e _ fun H2 e2 => ⟨_, d, rfl, rfl, hf, hz, fun u H3 e3 hu => hv H3 ((e.trans e2).trans e3) _ fun H4 e4 => ⟨u, v, d, rfl, hu.mono e4, hD.mono (((e.trans e2).trans e3).trans e4), It.fit_mono hf hn, fun H5 e5 => q H5 (((e2.trans e3).trans e4).trans e5)⟩⟩
/-- against a pair made anew -/
theorem ev_samP {K : PySem.W.Frag} {E : XK} {n : Nat} {σ : L2.St} {H : Hp} {ta tb : TE} {u : V} {xs : List V} {ds : List It} (ha : Ev ta σ H u) (hb : EvU tb σ H xs) (hD : Dv K H u (.tup ds)) (hL : DvL K H xs ds) (hf : It.fit n (.tup ds)) : Ev (tCall (spSame K n) [] E (tCons ta (tCons tb tNil))) σ H (.bl true) := fun H1 e Q q =>
  ha H1 e _ fun H2 e2 => hb H2 (e.trans e2) _ fun p H3 _ e3 hp => ⟨u, .ref p, .tup ds, rfl, hD.mono ((e.trans e2).trans e3), .tup (st_of hp) (hL.mono ((e.trans e2).trans e3)), hf, fun H4 e4 => q H4 ((e2.trans e3).trans e4)⟩


/-! ### _law_thing -/
def thingZ (ns : List Int) (k : Nat) : Int := if k < ns.length then cellZ ns k else if ns.length = 0 then (k : Int) else (cellZ ns (k % ns.length) * 48271 + (k : Int) * 69621) % 2147483647
theorem Wd.thing {ns : List Int} (h : ∀ n ∈ ns, Wd n) {k : Nat} (hk : k ≤ 100000) : Wd (thingZ ns k) := by
  unfold thingZ
  split
  · exact Wd.cell h k
  · split
    · exact Wd.small (by omega) (by omega)
    · exact Wd.mod (by decide) (Wd.lit (by decide))
def sp_thing (K : PySem.W.Frag) : Sp := fun vs H Q _ => ∃ (a : Addr) (ns : List Int) (k : Nat), vs = [.ref a, .int (k : Int)] ∧ SqL K H a (ns.map V.int) ∧ (∀ n ∈ ns, Wd n) ∧ k ≤ 100000 ∧ ∀ H', Ex H H' → Q (.int (thingZ ns k)) H'
theorem cv_thing {a : Addr} {ns : List Int} {k : Nat} {H : Hp} (h : SqL K H a (ns.map V.int)) (hw : ∀ n ∈ ns, Wd n) (hk : k ≤ 100000) : SpV (sp_thing K) [.ref a, .int (k : Int)] H (.int (thingZ ns k)) := fun H1 e Q q E => ⟨a, ns, k, rfl, ex_l e h, hw, hk, fun H2 e2 => q H2 e2⟩
theorem ok_law_thing (T : Txt K mg) : FnOk P w K mg base CX0 1 T.f_law_thing T.d_law_thing ["script", "k"] (sp_thing K) := by
  refine T.F_law_thing.ok sc_law_thing (fun vs H Q E h => ?_) (fun cdv A outer s H vs Q E hr h => ?_)
  · obtain ⟨a, ns, k, rfl, _⟩ := h
    rfl
  · obtain ⟨a, ns, k, rfl, hS, hw, hk1, q⟩ := h
    have el : (ns.map V.int).length = ns.length := List.length_map ..
    have item : ∀ j : Nat, j < ns.length → (ns.map V.int)[j]? = some (.int (cellZ ns j)) := fun j hj => by
      rw [List.getElem?_map, List.getElem?_eq_getElem hj]
      unfold cellZ
      rw [List.getD_eq_getElem?_getD, List.getElem?_eq_getElem hj] <;> rfl
    refine ⟨_, pss_cons (ps_if (pt_cmpR op_lt (pv 1) (pe_callB (r := rLenQ K) call_len_seq (by rfl) T.m_len (by decide +kernel) (pa_cons (pv 0) (pa_nil))) (nomark _))
      (pss_one (ps_ret (pe_ix (r := rIxL K) ix_list (pv 0) (pv 1) (fun _ _ => rfl))))
      (pss_nil))
      (pss_cons (ps_if (pt_cmpR op_eq (pe_callB (r := rLenQ K) call_len_seq (by rfl) T.m_len (by decide +kernel) (pa_cons (pv 0) (pa_nil))) (pe_int) (nomark _))
      (pss_one (ps_ret (pv 1)))
      (pss_nil))
      (pss_one (ps_ret (pe_op op_mod (pe_callTy call_int1 (by rfl) T.m_int (by decide +kernel) (pa_cons (pe_op op_add (pe_op op_mulX (pe_ix (r := rIxL K) ix_list (pv 0) (pe_op op_mod (pe_callTy call_int1 (by rfl) T.m_int (by decide +kernel) (pa_cons (pv 1) (pa_nil))) (pe_callB (r := rLenQ K) call_len_seq (by rfl) T.m_len (by decide +kernel) (pa_cons (pv 0) (pa_nil)))) (fun _ _ => rfl)) (pe_int)) (pe_op op_mulX (pv 1) (pe_int))) (pa_nil))) (pe_int))))), ?_⟩
    refine q_when (b := decide ((k : Int) < ((ns.map V.int).length : Int))) (et_test (ev_bin0 (ev_var rfl) (ev_lenQ (K := K) (ev_var rfl) hS))) (fun hb H1 e1 => ?_) (fun hb H1 e1 => ?_)
    · have hk : k < ns.length := by
        have := of_decide_eq_true hb
        rw [el] at this
        omega
      refine s_ret (ev_ixL (K := K) (ev_var rfl) (ev_var rfl) (ex_l e1 hS) (at_nat (item k hk))) fun H2 e2 => ?_
      have e0 : thingZ ns k = cellZ ns k := if_pos hk
      rw [← e0]
      exact q H2 (e1.trans e2)
    · have hk : ¬ k < ns.length := by
        have := of_decide_eq_false hb
        rw [el] at this
        omega
      refine q_when (et_test (ev_eqI (ev_lenQ (K := K) (ev_var rfl) (ex_l e1 hS)) ev_c)) (fun hb H2 e2 => ?_) (fun hb H2 e2 => ?_)
      · have h0 : ns.length = 0 := by
          have := of_decide_eq_true hb
          rw [el] at this
          omega
        refine s_ret (ev_var rfl) fun H3 e3 => ?_
        have e0 : thingZ ns k = (k : Int) := by unfold thingZ; rw [if_neg hk, if_pos h0]
        rw [← e0]
        exact q H3 ((e1.trans e2).trans e3)
      · have h0 : ¬ ns.length = 0 := by
          have := of_decide_eq_false hb
          rw [el] at this
          omega
        have hm : k % ns.length < ns.length := Nat.mod_lt _ (by omega)
        refine s_ret (ev_bin (i := cellZ ns (k % ns.length) * 48271 + (k : Int) * 69621) (ev_intI (ev_bin0 (ev_bin (ev_ixL (K := K) (i := ((k % ns.length : Nat) : Int)) (ev_var rfl) (ev_is (ev_bin (ev_intI (ev_var rfl)) (ev_lenQ (K := K) (ev_var rfl) (ex_l (e1.trans e2) hS)) (by rw [el]; omega)) (by rw [el]; rfl)) (ex_l (e1.trans e2) hS) (at_nat (item _ hm))) ev_c (Wd.mul (Wd.cell hw _) (Wd.lit (by decide)))) (ev_bin (ev_var rfl) ev_c (Wd.mul (Wd.small (by omega) (by omega)) (Wd.lit (by decide)))))) ev_c (by decide)) fun H3 e3 => ?_
        have e0 : thingZ ns k = (cellZ ns (k % ns.length) * 48271 + (k : Int) * 69621) % 2147483647 := by unfold thingZ; rw [if_neg hk, if_neg h0]
        rw [← e0]
        exact q H3 ((e1.trans e2).trans e3)


/-! ### law -/
theorem cutS_lo {z : Str} {l : List Nat} {n : Nat} (h : z.cps.toList = l) (hn : n ≤ l.length) : cutS z none (some (n : Int)) = ⟨(l.take n).toArray⟩ := by
  have el : z.length = l.length := by rw [str_len, h]
  unfold cutS
  rw [HT.sIx_none, HT.sIx_nat, h, List.drop_zero, Nat.sub_zero, Nat.min_eq_left (by omega)]
theorem ev_sameQ {K : PySem.W.Frag} {E1 E2 : XK} {n : Nat} {σ : L2.St} {H : Hp} {ta : TA} {tb : TE} {z : Str} {a r : List Nat} {d : It} {v : V} {e : Int} (ha : EvA ta σ H [.str z, .int (a.length : Int)]) (hb : EvU tb σ H [v, .int e]) (hz : z.length ≤ 16000000) (hl : z.cps.toList = a ++ (encC d ++ r)) (hf : d.fit 12)
    (he : ((a.length + (encC d).length : Nat) : Int) = e) (hv : Dv K H v d) (hft : It.fit n (.tup [d, .int e])) : Ev (tCall (spSame K n) [] E1 (tCons (tCall (fun vs H Q E => ∃ x y : V, vs = [x, y] ∧ spItem K 12 [x, y, .int 0] H Q E) [] E2 ta) (tCons tb tNil))) σ H (.bl true) := fun H1 e1 Q q =>
  ha H1 e1 _ fun H2 e2 => ⟨_, _, rfl, z, a, r, 0, d, rfl, hz, hl, hf, by omega, fun t H3 u e3 ht hu => hb H3 ((e1.trans e2).trans e3) _ fun p H4 _ e4 hp => ⟨.ref t, .ref p, .tup [d, .int e], rfl, .tup (st_of (e4 _ _ ht)) (.cons (hu.mono e4) (.cons (by rw [he]; exact .int _) .nil)), .tup (st_of hp) (.cons (hv.mono (((e1.trans e2).trans e3).trans e4)) (.cons (.int _) .nil)), hft, fun H5 e5 => q H5 (((e2.trans e3).trans e4).trans e5)⟩⟩
def spLaw (K : PySem.W.Frag) : Sp := fun vs H Q _ => ∃ (a : Addr) (ns : List Int), vs = [.ref a] ∧ SqL K H a (ns.map V.int) ∧ ns.length ≤ 63 ∧ (∀ z ∈ ns, Builtin.Int.intBits z ≤ 1048576) ∧ ∀ H', Q (.bl true) H'
theorem ok_law (T : Txt K mg) : FnOk P w K mg base CX0 32 T.f_law T.d_law ["script"] (spLaw K) := by
  refine T.F_law.ok sc_law (fun vs H Q E h => ?_) (fun cdv A outer s H vs Q E hr h => ?_)
  · obtain ⟨a, ns, rfl, _⟩ := h
    rfl
  · obtain ⟨a, ns, rfl, hS, hlen, hbits, q⟩ := h
    have hw : ∀ n ∈ ns, Wd n := fun n hn => Wd.bits (hbits n hn)
    refine ⟨_, pss_cons (ps_set (i := 1) sc_law.nd rfl (by first | exact Or.inl rfl | exact Or.inr rfl) (pe_call (ok_law_draws T) (hr.mono (by first | decide | omega)) (by rfl) T.g_law_draws T.F_law_draws.kp T.b_law_draws .nil pass0 (pa_cons (pe_call (ok_law_cell T) (hr.mono (by first | decide | omega)) (by rfl) T.g_law_cell T.F_law_cell.kp T.b_law_cell .nil pass0 (pa_cons (pv 0) (pa_cons (pe_int) (pa_nil)))) (pa_cons (pe_int) (pa_cons (pe_int) (pa_cons (pe_int) (pa_nil)))))))
      (pss_cons (ps_set (i := 2) sc_law.nd rfl (by first | exact Or.inl rfl | exact Or.inr rfl) (pe_call (ok_law_signs T) (hr.mono (by first | decide | omega)) (by rfl) T.g_law_signs T.F_law_signs.kp T.b_law_signs .nil pass0 (pa_cons (pe_call (ok_law_thing T) (hr.mono (by first | decide | omega)) (by rfl) T.g_law_thing T.F_law_thing.kp T.b_law_thing .nil pass0 (pa_cons (pv 0) (pa_cons (pe_int) (pa_nil)))) (pa_cons (pe_op op_mod (pe_callTy call_int1 (by rfl) T.m_int (by decide +kernel) (pa_cons (pe_ix (r := rIxL K) ix_list (pv 1) (pe_int) (fun _ _ => rfl)) (pa_nil))) (pe_int)) (pa_nil)))))
      (pss_cons (ps_asg (pe_call (ok_law_built T) (hr.mono (by first | decide | omega)) (by rfl) T.g_law_built T.F_law_built.kp T.b_law_built .nil pass0 (pa_cons (pe_lc (own := [("k", 5)]) (g := gName 5) (tt := tYes) rfl sc_law.nd (pi_range1 (by rfl) T.m_range (pa_cons (pe_op op_mod (pe_callTy call_int1 (by rfl) T.m_int (by decide +kernel) (pa_cons (pe_ix (r := rIxL K) ix_list (pv 1) (pe_int) (fun _ _ => rfl)) (pa_nil))) (pe_int)) (pa_nil))) (blkOk_by (N := ["script", "head", "before", "item", "written", "k", "size", "cut"]) (sc := defScope s_law) (by decide +kernel)) (fun _ _ _ _ _ => pg_name (i := 5) sc_law.nd rfl (Or.inl rfl)) (fun _ _ _ _ _ => pts_nil) (fun _ _ _ _ _ => pe_call (ok_law_thing T) (hr.mono (by first | decide | omega)) (by rfl) T.g_law_thing T.F_law_thing.kp T.b_law_thing .nil pass0 (pa_cons (pv 0) (pa_cons (pe_op op_add (pe_int) (pv 5)) (pa_nil))))) (pa_nil))) (pg_tup rfl (pgs_cons (pg_name (i := 3) sc_law.nd rfl (by first | exact Or.inl rfl | exact Or.inr rfl)) (pgs_cons (pg_name (i := 4) sc_law.nd rfl (by first | exact Or.inl rfl | exact Or.inr rfl)) (pgs_nil)))))
      (pss_cons (ps_set (i := 6) sc_law.nd rfl (by first | exact Or.inl rfl | exact Or.inr rfl) (pe_callB call_len_str (by rfl) T.m_len (by decide +kernel) (pa_cons (pv 4) (pa_nil))))
      (pss_cons (ps_for PassesOwn.never rfl (pi_range1 (by rfl) T.m_range (pa_cons (pe_int) (pa_nil))) (pg_name (i := 5) sc_law.nd rfl (by first | exact Or.inl rfl | exact Or.inr rfl))
      (pss_cons (ps_set (i := 7) sc_law.nd rfl (by first | exact Or.inl rfl | exact Or.inr rfl) (pv 5))
      (pss_cut (ps_if (PW.pt (pw_and (pt_cmpR op_gt (pv 6) (pe_int) (nomark _)) (pw_and1 (pt_cmpR op_ge (pv 5) (pe_int) (nomark _)))))
      (pss_one (ps_set (i := 7) sc_law.nd rfl (by first | exact Or.inl rfl | exact Or.inr rfl) (pe_op op_sub (pe_op op_sub (pv 6) (pe_int)) (pe_op op_sub (pv 5) (pe_int)))))
      (pss_nil))
      (pss_cut (ps_if (PW.pt (pw_and (pt_cmpR op_gt (pv 6) (pe_int) (nomark _)) (pw_and1 (pt_cmpR op_ge (pv 5) (pe_int) (nomark _)))))
      (pss_one (ps_set (i := 7) sc_law.nd rfl (by first | exact Or.inl rfl | exact Or.inr rfl) (pe_op op_mod (pe_callTy call_int1 (by rfl) T.m_int (by decide +kernel) (pa_cons (pe_call (ok_law_thing T) (hr.mono (by first | decide | omega)) (by rfl) T.g_law_thing T.F_law_thing.kp T.b_law_thing .nil pass0 (pa_cons (pv 0) (pa_cons (pe_op op_sub (pv 5) (pe_int)) (pa_nil)))) (pa_nil))) (pv 6))))
      (pss_nil))
      (pss_one (ps_if (pt_cmpR op_lt (pv 7) (pv 6) (nomark _))
      (pss_one (ps_if (PW.pt (pw_or (pt_not (pt_val (pe_call (ok_law_is_torn T) (hr.mono (by first | decide | omega)) (by rfl) T.g_law_is_torn T.F_law_is_torn.kp T.b_law_is_torn .nil pass0 (pa_cons (pe_op op_add_str (pv 2) (pe_slice sl_str (pv 4) (po_none) (po_some (pv 7)))) (pa_cons (pe_callB call_len_str (by rfl) T.m_len (by decide +kernel) (pa_cons (pv 2) (pa_nil))) (pa_nil)))))) (pw_or1 (pt_not (pt_val (pe_call (ok_law_is_invalid T) (hr.mono (by first | decide | omega)) (by rfl) T.g_law_is_invalid T.F_law_is_invalid.kp T.b_law_is_invalid .nil pass0 (pa_cons (pe_slice sl_str (pv 4) (po_none) (po_some (pv 7))) (pa_nil))))))))
      (pss_one (ps_ret (pe_bl)))
      (pss_nil)))
      (pss_nil)))))))
      (pss_cons (ps_if (pt_not (pt_val (pe_call (ok_law_same T) (hr.mono (by first | decide | omega)) (by rfl) T.g_law_same T.F_law_same.kp T.b_law_same .nil pass0 (pa_cons (pe_call (ok_decode_prefix T) (hr.mono (by first | decide | omega)) (by rfl) T.g_decode_prefix T.F_decode_prefix.kp T.b_decode_prefix .nil pass0 (pa_cons (pe_op op_add_str (pv 2) (pv 4)) (pa_cons (pe_callB call_len_str (by rfl) T.m_len (by decide +kernel) (pa_cons (pv 2) (pa_nil))) (pa_nil)))) (pa_cons (pe_tup (pa_cons (pv 3) (pa_cons (pe_op op_add (pe_callB call_len_str (by rfl) T.m_len (by decide +kernel) (pa_cons (pv 2) (pa_nil))) (pv 6)) (pa_nil)))) (pa_nil))))))
      (pss_one (ps_ret (pe_bl)))
      (pss_nil))
      (pss_one (ps_ret (pe_call (ok_law_same T) (hr.mono (by first | decide | omega)) (by rfl) T.g_law_same T.F_law_same.kp T.b_law_same .nil pass0 (pa_cons (pe_call (ok_decode T) (hr.mono (by first | decide | omega)) (by rfl) T.g_decode T.F_decode.kp T.b_decode .nil pass0 (pa_cons (pv 4) (pa_nil))) (pa_cons (pv 3) (pa_nil))))))))))), ?_⟩
    have c0 : Wd (cellZ ns 0) := Wd.cell hw 0
    refine q_asgL (xs := (draws (cellZ ns 0) 0 3 1000).map V.int) (el_call (ea_cons (ev_call (ea_cons (ev_var rfl) (ea_cons ev_c ea_nil)) (cv_cell (k := 0) hS)) (ea_cons ev_c (ea_cons ev_c (ea_cons ev_c ea_nil)))) (cl_draws (count := 3) c0 (by decide) (by decide) (by decide) (by decide))) fun hd H1 hh0 e1 hh => ?_
    generalize hg : draws (cellZ ns 0) 0 3 1000 = gs at hh
    have gl : gs.length = 3 := by rw [← hg, draws_len]
    obtain ⟨g0, g1, g2, rfl⟩ : ∃ g0 g1 g2, gs = [g0, g1, g2] := by
      match gs, gl with
      | [x0, x1, x2], _ => exact ⟨x0, x1, x2, rfl⟩
    have m0 := Int.emod_nonneg g0 (by decide : (10 : Int) ≠ 0)
    have m0' := Int.emod_lt_of_pos g0 (by decide : (0 : Int) < 10)
    have m1 := Int.emod_nonneg g1 (by decide : (12 : Int) ≠ 0)
    have m1' := Int.emod_lt_of_pos g1 (by decide : (0 : Int) < 12)
    have it : ∀ {H' : Hp} {j : Nat} {x : Int} {σ : L2.St}, Ex H1 H' → σ[1]? = some (some (V.ref hd)) → [g0, g1, g2][j]? = some x → Ev (tOp (rIxL K) (tVar 1) (tC (.int (j : Int)))) σ H' (.int x) := fun e hσ hx => ev_ixL (K := K) (ev_var hσ) ev_c (sq_of (e _ _ hh)) (at_nat (by rw [List.getElem?_map, hx] <;> rfl))
    obtain ⟨m, hm⟩ : ∃ m : Nat, g0 % 10 = (m : Int) := ⟨(g0 % 10).toNat, (Int.toNat_of_nonneg m0).symm⟩
    refine q_asg (v := .str (signsT (thingZ ns 1) (g1 % 12).toNat)) (ev_call (ea_cons (ev_call (ea_cons (ev_var rfl) (ea_cons ev_c ea_nil)) (cv_thing (k := 1) (ex_l e1 hS) hw (by decide))) (ea_cons (ev_is (ev_bin (ev_intI (it (j := 1) (Ex.refl H1) rfl rfl)) ev_c (by decide)) (congrArg V.int (Int.toNat_of_nonneg m1).symm)) ea_nil)) (cv_signs (Wd.thing hw (by decide)) (by omega))) fun H2 e2 => ?_
    have lb : (signsT (thingZ ns 1) (g1 % 12).toNat).length ≤ 12 := by
      rw [str_len]
      show (signsC _ _).length ≤ 12
      rw [signsC_len]
      omega
    generalize signsT (thingZ ns 1) (g1 % 12).toNat = bef at lb
    refine q_built (K := K) (ns := (List.range m).map fun k => thingZ ns (2 + k)) ?_ ?_ ?_ (by rfl) fun v d H3 e3 hdv hf hz => ?_
    · refine el_mapR (n := m) (ea_cons (ev_is (ev_bin (ev_intI (it (j := 0) e2 rfl rfl)) ev_c (by decide)) (congrArg V.int hm)) ea_nil) (by omega) (fun x => rfl) (by rw [List.length_map, List.length_map, List.length_range]) fun k y hk hy H10 e10 => ?_
      rw [List.getElem?_map, List.getElem?_map, List.getElem?_range hk] at hy
      have ey : y = .int (thingZ ns (2 + k)) := (Option.some.inj hy).symm
      rw [ey]
      exact ev_call (ea_cons (ev_var rfl) (ea_cons (ev_is (ev_bin0 ev_c (ev_var rfl)) (congrArg V.int (show (2 : Int) + (k : Int) = ((2 + k : Nat) : Int) by omega))) ea_nil)) (cv_thing (ex_l ((e1.trans e2).trans e10) hS) hw (by omega))
    · rw [List.length_map, List.length_range]; omega
    · intro n hn
      obtain ⟨k, hk, rfl⟩ := List.mem_map.mp hn
      exact Wd.thing hw (by have := List.mem_range.mp hk; omega)
    have lz : (⟨(encC d).toArray⟩ : Str).length = (encC d).length := str_len _
    refine q_asg (v := .int ((encC d).length : Int)) (ev_is (ev_lenB (ev_var rfl) (by omega)) (congrArg V.int (by rw [lz]))) fun H4 e4 => ?_
    have E4 := (e2.trans e3).trans e4
    refine q_forR1 (n := 64) (ea_cons ev_c ea_nil) (by decide) (fun i σ' H' => ∃ (o5 o7 : Option V), σ' = [some (.ref a), some (.ref hd), some (.str bef), some v, some (.str ⟨(encC d).toArray⟩), o5, some (.int ((encC d).length : Int)), o7] ∧ Ex H4 H')
      (fun H5 e5 => ⟨none, none, rfl, e5⟩) (fun i σ' H' hi hP => ?_) (fun σ' H' hP => ?_)
    · obtain ⟨o5, o7, rfl, eH⟩ := hP
      have hi64 : i < 64 := by omega
      refine q_asg (v := .int (i : Int)) (ev_var rfl) fun H5 e5 => ?_
      refine q_cut (M := fun σ' H'' => ∃ cut : Int, σ' = [some (.ref a), some (.ref hd), some (.str bef), some v, some (.str ⟨(encC d).toArray⟩), some (.int (i : Int)), some (.int ((encC d).length : Int)), some (.int cut)] ∧ Ex H' H'' ∧ 0 ≤ cut) ?_ fun σ' H'' hM => ?_
      · refine s_when (b := decide (64 < ((encC d).length : Int)) && decide (24 ≤ (i : Int))) (et_and (et_test (ev_bin0 (ev_var rfl) ev_c)) fun _ => et_test (ev_bin0 (ev_var rfl) ev_c)) (fun hb H6 e6 => ?_) (fun hb H6 e6 => ⟨_, rfl, e5.trans e6, by omega⟩)
        simp only [Bool.and_eq_true, decide_eq_true_eq] at hb
        exact s_asg (ev_bin0 (ev_bin0 (ev_var rfl) ev_c) (ev_bin0 (ev_var rfl) ev_c)) fun H7 e7 => ⟨_, rfl, (e5.trans e6).trans e7, by omega⟩
      · obtain ⟨cut, rfl, eM, hcut⟩ := hM
        refine q_cut (M := fun σ' H'' => ∃ cut : Int, σ' = [some (.ref a), some (.ref hd), some (.str bef), some v, some (.str ⟨(encC d).toArray⟩), some (.int (i : Int)), some (.int ((encC d).length : Int)), some (.int cut)] ∧ Ex H' H'' ∧ 0 ≤ cut) ?_ fun σ' H'' hM => ?_
        · refine s_when (b := decide (64 < ((encC d).length : Int)) && decide (44 ≤ (i : Int))) (et_and (et_test (ev_bin0 (ev_var rfl) ev_c)) fun _ => et_test (ev_bin0 (ev_var rfl) ev_c)) (fun hb H6 e6 => ?_) (fun hb H6 e6 => ⟨_, rfl, eM.trans e6, hcut⟩)
          simp only [Bool.and_eq_true, decide_eq_true_eq] at hb
          have hpos : (0 : Int) < ((encC d).length : Int) := by omega
          exact s_asg (ev_bin (ev_intI (ev_call (ea_cons (ev_var rfl) (ea_cons (ev_is (ev_bin0 (ev_var rfl) ev_c) (congrArg V.int (show (i : Int) - 30 = ((i - 30 : Nat) : Int) by omega))) ea_nil)) (cv_thing (ex_l ((((e1.trans E4).trans eH).trans eM).trans e6) hS) hw (by omega)))) (ev_var rfl) hpos) fun H7 e7 => ⟨_, rfl, (eM.trans e6).trans e7, Int.emod_nonneg _ (by omega)⟩
        · obtain ⟨cut, rfl, eM2, hcut⟩ := hM
          obtain ⟨n, rfl⟩ : ∃ n : Nat, cut = (n : Int) := ⟨cut.toNat, (Int.toNat_of_nonneg hcut).symm⟩
          refine s_when (b := decide ((n : Int) < ((encC d).length : Int))) (et_test (ev_bin0 (ev_var rfl) (ev_var rfl))) (fun hb H6 e6 => ?_) (fun hb H6 e6 => ⟨_, _, rfl, (eH.trans eM2).trans e6⟩)
          have hn : n < (encC d).length := by have := of_decide_eq_true hb; omega
          have hcutS : cutS (⟨(encC d).toArray⟩ : Str) none (some (n : Int)) = ⟨((encC d).take n).toArray⟩ := cutS_lo rfl (by omega)
          have hsp : encC d = (encC d).take n ++ ((encC d)[n] :: (encC d).drop (n + 1)) := by
            rw [← List.drop_eq_getElem_cons hn, List.take_append_drop]
          have lt : (⟨((encC d).take n).toArray⟩ : Str).length = n := by
            rw [str_len]
            show ((encC d).take n).length = n
            rw [List.length_take]
            omega
          have sl : ∀ {H' : Hp} {o5 : Option V}, Ev (tSl rSlS (tVar 4) tNoPart (tPart (tVar 7))) [some (.ref a), some (.ref hd), some (.str bef), some v, some (.str ⟨(encC d).toArray⟩), o5, some (.int ((encC d).length : Int)), some (.int (n : Int))] H' (.str ⟨((encC d).take n).toArray⟩) := ev_is (ev_slB (ev_var rfl) eo_none (eo_some (ev_var rfl)) (by omega)) (congrArg V.str hcutS)
          refine s_when (b := false) (et_is (et_or (a := false) (b := false) (et_is (et_not (et_B (ev_call (ea_cons (ev_addS (ev_var rfl) sl (by omega)) (ea_cons (ev_lenB (ev_var rfl) (by omega)) ea_nil)) (cv_torn (a := bef.cps.toList) (by rw [← str_len]) (by
              rw [str_len, codes_app rfl rfl, List.length_append, ← str_len]
              show bef.length + ((encC d).take n).length ≤ 16000000
              rw [List.length_take]
              omega) (codes_app rfl rfl) hsp hf)))) rfl) fun _ => et_is (et_not (et_B (ev_call (ea_cons sl ea_nil) (cv_bad (by omega) ⟨d, _, _, hsp, hf⟩)))) rfl) rfl) (fun z => nomatch z) fun _ H7 e7 => ⟨_, _, rfl, ((eH.trans eM2).trans e6).trans e7⟩
    · obtain ⟨o5, o7, rfl, eH⟩ := hP
      have e60 : (10 : Int) ^ 60 = 1000000000000000000000000000000000000000000000000000000000000 := by decide
      have hdv4 : Dv K H' v d := hdv.mono (e4.trans eH)
      have fitP : It.fit 13 (.tup [d, .int ((bef.length : Int) + ((encC d).length : Int))]) := ⟨by show 2 ≤ 1000; decide, fun y hy => by
        simp only [List.mem_cons, List.not_mem_nil, or_false] at hy
        rcases hy with e | e
        · subst e
          exact hf
        · subst e
          show -(10 ^ 60) < _ ∧ _ < 10 ^ 60
          rw [e60]
          omega⟩
      refine q_when (b := false) (et_is (et_not (et_B (ev_sameQ (K := K) (a := bef.cps.toList) (r := []) (z := bef ++ ⟨(encC d).toArray⟩) (ea_cons (ev_addS (ev_var rfl) (ev_var rfl) (by omega)) (ea_cons (ev_is (ev_lenB (ev_var rfl) (by omega)) (congrArg V.int (by rw [← str_len]))) ea_nil)) (eu_tup (ea_cons (ev_var rfl) (ea_cons (ev_bin0 (ev_lenB (ev_var rfl) (by omega)) (ev_var rfl)) ea_nil)) (by show 2 ≤ 100000; decide))
        ?_ ?_ hf ?_ hdv4 fitP))) rfl) (fun z => nomatch z) fun _ H5 e5 => ?_
      · rw [str_len, codes_app rfl rfl, List.length_append, ← str_len]
        show bef.length + (encC d).length ≤ 16000000
        omega
      · rw [List.append_nil]
        exact codes_app rfl rfl
      · rw [← str_len]
        omega
      · exact s_ret (ev_sameD (ev_var rfl) (ev_var rfl) (hdv4.mono e5) hf (by decide) (by omega)) fun H6 e6 => q H6


end

theorem all_mk {l : PySem.W.OpenLaw} {w : World} {K : PySem.W.Frag} {h : Heap} {mg : Str → Option Value} {fa C_TornText C_InvalidText C_VersionError f_law_integer f_law_draws f_law_signs f_law_char f_law_text f_law_leaf f_law_leaf_text f_law_built f_law_cell f_sign_at f_end_of_digits f_read_integer f_read_text f_read_tuple f_read_item f_decode_prefix f_decode f_law_is_invalid f_law_is_torn f_law_same f_law_thing f_law : Addr} (X : K.In h) (G : h.Ns mainGlobals mg) (hfa : mg "law" = some (.ref fa))
    {od_law_integer an_law_integer : Option Addr} {sl_law_integer : Array (Option Value)} {oc_law_integer kV_law_integer dc_law_integer pm_law_integer cd_law_integer ct_law_integer : Value}
    {od_law_draws an_law_draws : Option Addr} {sl_law_draws : Array (Option Value)} {oc_law_draws kV_law_draws dc_law_draws pm_law_draws cd_law_draws ct_law_draws : Value}
    {od_law_signs an_law_signs : Option Addr} {sl_law_signs : Array (Option Value)} {oc_law_signs kV_law_signs dc_law_signs pm_law_signs cd_law_signs ct_law_signs : Value}
    {od_law_char an_law_char : Option Addr} {sl_law_char : Array (Option Value)} {oc_law_char kV_law_char dc_law_char pm_law_char cd_law_char ct_law_char : Value}
    {od_law_text an_law_text : Option Addr} {sl_law_text : Array (Option Value)} {oc_law_text kV_law_text dc_law_text pm_law_text cd_law_text ct_law_text : Value}
    {od_law_leaf an_law_leaf : Option Addr} {sl_law_leaf : Array (Option Value)} {oc_law_leaf kV_law_leaf dc_law_leaf pm_law_leaf cd_law_leaf ct_law_leaf : Value}
    {od_law_leaf_text an_law_leaf_text : Option Addr} {sl_law_leaf_text : Array (Option Value)} {oc_law_leaf_text kV_law_leaf_text dc_law_leaf_text pm_law_leaf_text cd_law_leaf_text ct_law_leaf_text : Value}
    {od_law_built an_law_built : Option Addr} {sl_law_built : Array (Option Value)} {oc_law_built kV_law_built dc_law_built pm_law_built cd_law_built ct_law_built : Value}
    {od_law_cell an_law_cell : Option Addr} {sl_law_cell : Array (Option Value)} {oc_law_cell kV_law_cell dc_law_cell pm_law_cell cd_law_cell ct_law_cell : Value}
    {od_sign_at an_sign_at : Option Addr} {sl_sign_at : Array (Option Value)} {oc_sign_at kV_sign_at dc_sign_at pm_sign_at cd_sign_at ct_sign_at : Value}
    {od_end_of_digits an_end_of_digits : Option Addr} {sl_end_of_digits : Array (Option Value)} {oc_end_of_digits kV_end_of_digits dc_end_of_digits pm_end_of_digits cd_end_of_digits ct_end_of_digits : Value}
    {od_read_integer an_read_integer : Option Addr} {sl_read_integer : Array (Option Value)} {oc_read_integer kV_read_integer dc_read_integer pm_read_integer cd_read_integer ct_read_integer : Value}
    {od_read_text an_read_text : Option Addr} {sl_read_text : Array (Option Value)} {oc_read_text kV_read_text dc_read_text pm_read_text cd_read_text ct_read_text : Value}
    {od_read_tuple an_read_tuple : Option Addr} {sl_read_tuple : Array (Option Value)} {oc_read_tuple kV_read_tuple dc_read_tuple pm_read_tuple cd_read_tuple ct_read_tuple : Value}
    {od_read_item an_read_item : Option Addr} {sl_read_item : Array (Option Value)} {oc_read_item kV_read_item dc_read_item pm_read_item cd_read_item ct_read_item : Value}
    {od_decode_prefix an_decode_prefix : Option Addr} {sl_decode_prefix : Array (Option Value)} {oc_decode_prefix kV_decode_prefix dc_decode_prefix pm_decode_prefix cd_decode_prefix ct_decode_prefix : Value}
    {od_decode an_decode : Option Addr} {sl_decode : Array (Option Value)} {oc_decode kV_decode dc_decode pm_decode cd_decode ct_decode : Value}
    {od_law_is_invalid an_law_is_invalid : Option Addr} {sl_law_is_invalid : Array (Option Value)} {oc_law_is_invalid kV_law_is_invalid dc_law_is_invalid pm_law_is_invalid cd_law_is_invalid ct_law_is_invalid : Value}
    {od_law_is_torn an_law_is_torn : Option Addr} {sl_law_is_torn : Array (Option Value)} {oc_law_is_torn kV_law_is_torn dc_law_is_torn pm_law_is_torn cd_law_is_torn ct_law_is_torn : Value}
    {od_law_same an_law_same : Option Addr} {sl_law_same : Array (Option Value)} {oc_law_same kV_law_same dc_law_same pm_law_same cd_law_same ct_law_same : Value}
    {od_law_thing an_law_thing : Option Addr} {sl_law_thing : Array (Option Value)} {oc_law_thing kV_law_thing dc_law_thing pm_law_thing cd_law_thing ct_law_thing : Value}
    {od_law an_law : Option Addr} {sl_law : Array (Option Value)} {oc_law kV_law dc_law pm_law cd_law ct_law : Value}
    {t_MOST_LEVELS : Tok}
    {t_MOST_DIGITS : Tok}
    {t_MOST_LENGTH_DIGITS : Tok}
    (ax_TornText : PySem.W.nsIn K mainGlobals "TornText" = some (some (.ref C_TornText)))
    (xx_TornText : PySem.W.excIn K C_TornText [.type "ValueError", .type "Exception", .type "BaseException", .type "object"] "ValueError.__new__" = true)
    (xk_TornText : PySem.W.keepIn K (.ref C_TornText) = true)
    (xb_TornText : PySem.W.subIn K (.ref C_TornText) (.type "BaseException") = some true)
    (xt_TornText : PySem.W.typeIn K (.ref C_TornText) = some (.type "type"))
    (xs_TornText : PySem.W.subIn K (.ref C_TornText) (.ref C_TornText) = some true)
    (xg_TornText : PySem.W.findIn K (.ref C_TornText) "__getattribute__" = some (some (.builtin "BaseException.__getattribute__")))
    (xq_TornText : PySem.W.findIn K (.ref C_TornText) "__getattr__" = some none)
    (xd_TornText : PySem.W.hasDictIn K C_TornText = true)
    (xa_TornText : PySem.W.findIn K (.ref C_TornText) "__class__" = some (some (.builtin "object.__class__")))
    (xn_TornText : PySem.W.specialIn K (.builtin "object.__class__") "__get__" = some (some (.builtin "getset_descriptor.__get__")))
    (xi_TornText : PySem.W.takesIn K (.builtin "object.__class__") = some true)
    (xm_TornText : PySem.W.mroIn K C_TornText (.type "object") = some true)
    (xv_TornText : PySem.W.kitOne K (.ref C_TornText) (.type "ValueError") = some true)
    (ax_InvalidText : PySem.W.nsIn K mainGlobals "InvalidText" = some (some (.ref C_InvalidText)))
    (xx_InvalidText : PySem.W.excIn K C_InvalidText [.type "ValueError", .type "Exception", .type "BaseException", .type "object"] "ValueError.__new__" = true)
    (xk_InvalidText : PySem.W.keepIn K (.ref C_InvalidText) = true)
    (xb_InvalidText : PySem.W.subIn K (.ref C_InvalidText) (.type "BaseException") = some true)
    (xt_InvalidText : PySem.W.typeIn K (.ref C_InvalidText) = some (.type "type"))
    (xs_InvalidText : PySem.W.subIn K (.ref C_InvalidText) (.ref C_InvalidText) = some true)
    (xg_InvalidText : PySem.W.findIn K (.ref C_InvalidText) "__getattribute__" = some (some (.builtin "BaseException.__getattribute__")))
    (xq_InvalidText : PySem.W.findIn K (.ref C_InvalidText) "__getattr__" = some none)
    (xd_InvalidText : PySem.W.hasDictIn K C_InvalidText = true)
    (xa_InvalidText : PySem.W.findIn K (.ref C_InvalidText) "__class__" = some (some (.builtin "object.__class__")))
    (xn_InvalidText : PySem.W.specialIn K (.builtin "object.__class__") "__get__" = some (some (.builtin "getset_descriptor.__get__")))
    (xi_InvalidText : PySem.W.takesIn K (.builtin "object.__class__") = some true)
    (xm_InvalidText : PySem.W.mroIn K C_InvalidText (.type "object") = some true)
    (xv_InvalidText : PySem.W.kitOne K (.ref C_InvalidText) (.type "ValueError") = some true)
    (ko_TornText_InvalidText : PySem.W.kitOne K (.ref C_TornText) (.ref C_InvalidText) = some false)
    (ko_InvalidText_TornText : PySem.W.kitOne K (.ref C_InvalidText) (.ref C_TornText) = some false)
    (ay_VersionError : PySem.W.nsIn K mainGlobals "VersionError" = some (some (.ref C_VersionError)))
    (kp_TornText_VersionError : PySem.W.kitOne K (.ref C_TornText) (.ref C_VersionError) = some true)
    (kp_InvalidText_VersionError : PySem.W.kitOne K (.ref C_InvalidText) (.ref C_VersionError) = some true)
    (a_law_integer : PySem.W.nsIn K mainGlobals "_law_integer" = some (some (.ref f_law_integer))) (l_law_integer : K.lookup f_law_integer = some ⟨oc_law_integer, od_law_integer, .func (PySem.W.fnOf "_law_integer" "_law_integer" (defArgs s_law_integer) (defBody s_law_integer) (defScope s_law_integer) .none kV_law_integer dc_law_integer pm_law_integer an_law_integer cd_law_integer ct_law_integer), sl_law_integer⟩) (c_law_integer : PySem.W.codeIn K cd_law_integer "_law_integer" = true) (k_law_integer : PySem.W.keepIn K (.ref f_law_integer) = true)
    (a_law_draws : PySem.W.nsIn K mainGlobals "_law_draws" = some (some (.ref f_law_draws))) (l_law_draws : K.lookup f_law_draws = some ⟨oc_law_draws, od_law_draws, .func (PySem.W.fnOf "_law_draws" "_law_draws" (defArgs s_law_draws) (defBody s_law_draws) (defScope s_law_draws) .none kV_law_draws dc_law_draws pm_law_draws an_law_draws cd_law_draws ct_law_draws), sl_law_draws⟩) (c_law_draws : PySem.W.codeIn K cd_law_draws "_law_draws" = true) (k_law_draws : PySem.W.keepIn K (.ref f_law_draws) = true)
    (a_law_signs : PySem.W.nsIn K mainGlobals "_law_signs" = some (some (.ref f_law_signs))) (l_law_signs : K.lookup f_law_signs = some ⟨oc_law_signs, od_law_signs, .func (PySem.W.fnOf "_law_signs" "_law_signs" (defArgs s_law_signs) (defBody s_law_signs) (defScope s_law_signs) .none kV_law_signs dc_law_signs pm_law_signs an_law_signs cd_law_signs ct_law_signs), sl_law_signs⟩) (c_law_signs : PySem.W.codeIn K cd_law_signs "_law_signs" = true) (k_law_signs : PySem.W.keepIn K (.ref f_law_signs) = true)
    (a_law_char : PySem.W.nsIn K mainGlobals "_law_char" = some (some (.ref f_law_char))) (l_law_char : K.lookup f_law_char = some ⟨oc_law_char, od_law_char, .func (PySem.W.fnOf "_law_char" "_law_char" (defArgs s_law_char) (defBody s_law_char) (defScope s_law_char) .none kV_law_char dc_law_char pm_law_char an_law_char cd_law_char ct_law_char), sl_law_char⟩) (c_law_char : PySem.W.codeIn K cd_law_char "_law_char" = true) (k_law_char : PySem.W.keepIn K (.ref f_law_char) = true)
    (a_law_text : PySem.W.nsIn K mainGlobals "_law_text" = some (some (.ref f_law_text))) (l_law_text : K.lookup f_law_text = some ⟨oc_law_text, od_law_text, .func (PySem.W.fnOf "_law_text" "_law_text" (defArgs s_law_text) (defBody s_law_text) (defScope s_law_text) .none kV_law_text dc_law_text pm_law_text an_law_text cd_law_text ct_law_text), sl_law_text⟩) (c_law_text : PySem.W.codeIn K cd_law_text "_law_text" = true) (k_law_text : PySem.W.keepIn K (.ref f_law_text) = true)
    (a_law_leaf : PySem.W.nsIn K mainGlobals "_law_leaf" = some (some (.ref f_law_leaf))) (l_law_leaf : K.lookup f_law_leaf = some ⟨oc_law_leaf, od_law_leaf, .func (PySem.W.fnOf "_law_leaf" "_law_leaf" (defArgs s_law_leaf) (defBody s_law_leaf) (defScope s_law_leaf) .none kV_law_leaf dc_law_leaf pm_law_leaf an_law_leaf cd_law_leaf ct_law_leaf), sl_law_leaf⟩) (c_law_leaf : PySem.W.codeIn K cd_law_leaf "_law_leaf" = true) (k_law_leaf : PySem.W.keepIn K (.ref f_law_leaf) = true)
    (a_law_leaf_text : PySem.W.nsIn K mainGlobals "_law_leaf_text" = some (some (.ref f_law_leaf_text))) (l_law_leaf_text : K.lookup f_law_leaf_text = some ⟨oc_law_leaf_text, od_law_leaf_text, .func (PySem.W.fnOf "_law_leaf_text" "_law_leaf_text" (defArgs s_law_leaf_text) (defBody s_law_leaf_text) (defScope s_law_leaf_text) .none kV_law_leaf_text dc_law_leaf_text pm_law_leaf_text an_law_leaf_text cd_law_leaf_text ct_law_leaf_text), sl_law_leaf_text⟩) (c_law_leaf_text : PySem.W.codeIn K cd_law_leaf_text "_law_leaf_text" = true) (k_law_leaf_text : PySem.W.keepIn K (.ref f_law_leaf_text) = true)
    (a_law_built : PySem.W.nsIn K mainGlobals "_law_built" = some (some (.ref f_law_built))) (l_law_built : K.lookup f_law_built = some ⟨oc_law_built, od_law_built, .func (PySem.W.fnOf "_law_built" "_law_built" (defArgs s_law_built) (defBody s_law_built) (defScope s_law_built) .none kV_law_built dc_law_built pm_law_built an_law_built cd_law_built ct_law_built), sl_law_built⟩) (c_law_built : PySem.W.codeIn K cd_law_built "_law_built" = true) (k_law_built : PySem.W.keepIn K (.ref f_law_built) = true)
    (a_law_cell : PySem.W.nsIn K mainGlobals "_law_cell" = some (some (.ref f_law_cell))) (l_law_cell : K.lookup f_law_cell = some ⟨oc_law_cell, od_law_cell, .func (PySem.W.fnOf "_law_cell" "_law_cell" (defArgs s_law_cell) (defBody s_law_cell) (defScope s_law_cell) .none kV_law_cell dc_law_cell pm_law_cell an_law_cell cd_law_cell ct_law_cell), sl_law_cell⟩) (c_law_cell : PySem.W.codeIn K cd_law_cell "_law_cell" = true) (k_law_cell : PySem.W.keepIn K (.ref f_law_cell) = true)
    (a_sign_at : PySem.W.nsIn K mainGlobals "_sign_at" = some (some (.ref f_sign_at))) (l_sign_at : K.lookup f_sign_at = some ⟨oc_sign_at, od_sign_at, .func (PySem.W.fnOf "_sign_at" "_sign_at" (defArgs s_sign_at) (defBody s_sign_at) (defScope s_sign_at) .none kV_sign_at dc_sign_at pm_sign_at an_sign_at cd_sign_at ct_sign_at), sl_sign_at⟩) (c_sign_at : PySem.W.codeIn K cd_sign_at "_sign_at" = true) (k_sign_at : PySem.W.keepIn K (.ref f_sign_at) = true)
    (a_end_of_digits : PySem.W.nsIn K mainGlobals "_end_of_digits" = some (some (.ref f_end_of_digits))) (l_end_of_digits : K.lookup f_end_of_digits = some ⟨oc_end_of_digits, od_end_of_digits, .func (PySem.W.fnOf "_end_of_digits" "_end_of_digits" (defArgs s_end_of_digits) (defBody s_end_of_digits) (defScope s_end_of_digits) .none kV_end_of_digits dc_end_of_digits pm_end_of_digits an_end_of_digits cd_end_of_digits ct_end_of_digits), sl_end_of_digits⟩) (c_end_of_digits : PySem.W.codeIn K cd_end_of_digits "_end_of_digits" = true) (k_end_of_digits : PySem.W.keepIn K (.ref f_end_of_digits) = true)
    (a_read_integer : PySem.W.nsIn K mainGlobals "_read_integer" = some (some (.ref f_read_integer))) (l_read_integer : K.lookup f_read_integer = some ⟨oc_read_integer, od_read_integer, .func (PySem.W.fnOf "_read_integer" "_read_integer" (defArgs s_read_integer) (defBody s_read_integer) (defScope s_read_integer) .none kV_read_integer dc_read_integer pm_read_integer an_read_integer cd_read_integer ct_read_integer), sl_read_integer⟩) (c_read_integer : PySem.W.codeIn K cd_read_integer "_read_integer" = true) (k_read_integer : PySem.W.keepIn K (.ref f_read_integer) = true)
    (a_read_text : PySem.W.nsIn K mainGlobals "_read_text" = some (some (.ref f_read_text))) (l_read_text : K.lookup f_read_text = some ⟨oc_read_text, od_read_text, .func (PySem.W.fnOf "_read_text" "_read_text" (defArgs s_read_text) (defBody s_read_text) (defScope s_read_text) .none kV_read_text dc_read_text pm_read_text an_read_text cd_read_text ct_read_text), sl_read_text⟩) (c_read_text : PySem.W.codeIn K cd_read_text "_read_text" = true) (k_read_text : PySem.W.keepIn K (.ref f_read_text) = true)
    (a_read_tuple : PySem.W.nsIn K mainGlobals "_read_tuple" = some (some (.ref f_read_tuple))) (l_read_tuple : K.lookup f_read_tuple = some ⟨oc_read_tuple, od_read_tuple, .func (PySem.W.fnOf "_read_tuple" "_read_tuple" (defArgs s_read_tuple) (defBody s_read_tuple) (defScope s_read_tuple) .none kV_read_tuple dc_read_tuple pm_read_tuple an_read_tuple cd_read_tuple ct_read_tuple), sl_read_tuple⟩) (c_read_tuple : PySem.W.codeIn K cd_read_tuple "_read_tuple" = true) (k_read_tuple : PySem.W.keepIn K (.ref f_read_tuple) = true)
    (a_read_item : PySem.W.nsIn K mainGlobals "_read_item" = some (some (.ref f_read_item))) (l_read_item : K.lookup f_read_item = some ⟨oc_read_item, od_read_item, .func (PySem.W.fnOf "_read_item" "_read_item" (defArgs s_read_item) (defBody s_read_item) (defScope s_read_item) .none kV_read_item dc_read_item pm_read_item an_read_item cd_read_item ct_read_item), sl_read_item⟩) (c_read_item : PySem.W.codeIn K cd_read_item "_read_item" = true) (k_read_item : PySem.W.keepIn K (.ref f_read_item) = true)
    (a_decode_prefix : PySem.W.nsIn K mainGlobals "decode_prefix" = some (some (.ref f_decode_prefix))) (l_decode_prefix : K.lookup f_decode_prefix = some ⟨oc_decode_prefix, od_decode_prefix, .func (PySem.W.fnOf "decode_prefix" "decode_prefix" (defArgs s_decode_prefix) (defBody s_decode_prefix) (defScope s_decode_prefix) .none kV_decode_prefix dc_decode_prefix pm_decode_prefix an_decode_prefix cd_decode_prefix ct_decode_prefix), sl_decode_prefix⟩) (c_decode_prefix : PySem.W.codeIn K cd_decode_prefix "decode_prefix" = true) (k_decode_prefix : PySem.W.keepIn K (.ref f_decode_prefix) = true)
    (a_decode : PySem.W.nsIn K mainGlobals "decode" = some (some (.ref f_decode))) (l_decode : K.lookup f_decode = some ⟨oc_decode, od_decode, .func (PySem.W.fnOf "decode" "decode" (defArgs s_decode) (defBody s_decode) (defScope s_decode) .none kV_decode dc_decode pm_decode an_decode cd_decode ct_decode), sl_decode⟩) (c_decode : PySem.W.codeIn K cd_decode "decode" = true) (k_decode : PySem.W.keepIn K (.ref f_decode) = true)
    (a_law_is_invalid : PySem.W.nsIn K mainGlobals "_law_is_invalid" = some (some (.ref f_law_is_invalid))) (l_law_is_invalid : K.lookup f_law_is_invalid = some ⟨oc_law_is_invalid, od_law_is_invalid, .func (PySem.W.fnOf "_law_is_invalid" "_law_is_invalid" (defArgs s_law_is_invalid) (defBody s_law_is_invalid) (defScope s_law_is_invalid) .none kV_law_is_invalid dc_law_is_invalid pm_law_is_invalid an_law_is_invalid cd_law_is_invalid ct_law_is_invalid), sl_law_is_invalid⟩) (c_law_is_invalid : PySem.W.codeIn K cd_law_is_invalid "_law_is_invalid" = true) (k_law_is_invalid : PySem.W.keepIn K (.ref f_law_is_invalid) = true)
    (a_law_is_torn : PySem.W.nsIn K mainGlobals "_law_is_torn" = some (some (.ref f_law_is_torn))) (l_law_is_torn : K.lookup f_law_is_torn = some ⟨oc_law_is_torn, od_law_is_torn, .func (PySem.W.fnOf "_law_is_torn" "_law_is_torn" (defArgs s_law_is_torn) (defBody s_law_is_torn) (defScope s_law_is_torn) .none kV_law_is_torn dc_law_is_torn pm_law_is_torn an_law_is_torn cd_law_is_torn ct_law_is_torn), sl_law_is_torn⟩) (c_law_is_torn : PySem.W.codeIn K cd_law_is_torn "_law_is_torn" = true) (k_law_is_torn : PySem.W.keepIn K (.ref f_law_is_torn) = true)
    (a_law_same : PySem.W.nsIn K mainGlobals "_law_same" = some (some (.ref f_law_same))) (l_law_same : K.lookup f_law_same = some ⟨oc_law_same, od_law_same, .func (PySem.W.fnOf "_law_same" "_law_same" (defArgs s_law_same) (defBody s_law_same) (defScope s_law_same) .none kV_law_same dc_law_same pm_law_same an_law_same cd_law_same ct_law_same), sl_law_same⟩) (c_law_same : PySem.W.codeIn K cd_law_same "_law_same" = true) (k_law_same : PySem.W.keepIn K (.ref f_law_same) = true)
    (a_law_thing : PySem.W.nsIn K mainGlobals "_law_thing" = some (some (.ref f_law_thing))) (l_law_thing : K.lookup f_law_thing = some ⟨oc_law_thing, od_law_thing, .func (PySem.W.fnOf "_law_thing" "_law_thing" (defArgs s_law_thing) (defBody s_law_thing) (defScope s_law_thing) .none kV_law_thing dc_law_thing pm_law_thing an_law_thing cd_law_thing ct_law_thing), sl_law_thing⟩) (c_law_thing : PySem.W.codeIn K cd_law_thing "_law_thing" = true) (k_law_thing : PySem.W.keepIn K (.ref f_law_thing) = true)
    (a_law : PySem.W.nsIn K mainGlobals "law" = some (some (.ref f_law))) (l_law : K.lookup f_law = some ⟨oc_law, od_law, .func (PySem.W.fnOf "law" "law" (defArgs s_law) (defBody s_law) (defScope s_law) .none kV_law dc_law pm_law an_law cd_law ct_law), sl_law⟩) (c_law : PySem.W.codeIn K cd_law "law" = true) (k_law : PySem.W.keepIn K (.ref f_law) = true)
    (z_ValueError : PySem.W.nsIn K mainGlobals "ValueError" = some none)
    (z_bool : PySem.W.nsIn K mainGlobals "bool" = some none)
    (z_int : PySem.W.nsIn K mainGlobals "int" = some none)
    (z_isinstance : PySem.W.nsIn K mainGlobals "isinstance" = some none)
    (z_len : PySem.W.nsIn K mainGlobals "len" = some none)
    (z_max : PySem.W.nsIn K mainGlobals "max" = some none)
    (z_min : PySem.W.nsIn K mainGlobals "min" = some none)
    (z_range : PySem.W.nsIn K mainGlobals "range" = some none)
    (z_str : PySem.W.nsIn K mainGlobals "str" = some none)
    (z_tuple : PySem.W.nsIn K mainGlobals "tuple" = some none)
    (z_MOST_LEVELS : PySem.W.nsIn K mainGlobals "MOST_LEVELS" = some (some (.int 12 t_MOST_LEVELS)))
    (z_MOST_DIGITS : PySem.W.nsIn K mainGlobals "MOST_DIGITS" = some (some (.int 60 t_MOST_DIGITS)))
    (z_MOST_LENGTH_DIGITS : PySem.W.nsIn K mainGlobals "MOST_LENGTH_DIGITS" = some (some (.int 6 t_MOST_LENGTH_DIGITS))) :
    ∃ fd : FuncData, (∀ (s : Shared) (v : Value), BindsTo s fd ⟨[v], []⟩ [("script", v)]) ∧ ∀ base : Heap, K.In base → base.Ns mainGlobals mg → FnOk l.prog w K mg base CX0 32 fa fd ["script"] (spLaw K) := by
  have e := hfa.symm.trans (PySem.W.mg_of X G a_law)
  cases e
  have F_law_integer := fun_mk (st := s_law_integer) l_law_integer c_law_integer k_law_integer
  have F_law_draws := fun_mk (st := s_law_draws) l_law_draws c_law_draws k_law_draws
  have F_law_signs := fun_mk (st := s_law_signs) l_law_signs c_law_signs k_law_signs
  have F_law_char := fun_mk (st := s_law_char) l_law_char c_law_char k_law_char
  have F_law_text := fun_mk (st := s_law_text) l_law_text c_law_text k_law_text
  have F_law_leaf := fun_mk (st := s_law_leaf) l_law_leaf c_law_leaf k_law_leaf
  have F_law_leaf_text := fun_mk (st := s_law_leaf_text) l_law_leaf_text c_law_leaf_text k_law_leaf_text
  have F_law_built := fun_mk (st := s_law_built) l_law_built c_law_built k_law_built
  have F_law_cell := fun_mk (st := s_law_cell) l_law_cell c_law_cell k_law_cell
  have F_sign_at := fun_mk (st := s_sign_at) l_sign_at c_sign_at k_sign_at
  have F_end_of_digits := fun_mk (st := s_end_of_digits) l_end_of_digits c_end_of_digits k_end_of_digits
  have F_read_integer := fun_mk (st := s_read_integer) l_read_integer c_read_integer k_read_integer
  have F_read_text := fun_mk (st := s_read_text) l_read_text c_read_text k_read_text
  have F_read_tuple := fun_mk (st := s_read_tuple) l_read_tuple c_read_tuple k_read_tuple
  have F_read_item := fun_mk (st := s_read_item) l_read_item c_read_item k_read_item
  have F_decode_prefix := fun_mk (st := s_decode_prefix) l_decode_prefix c_decode_prefix k_decode_prefix
  have F_decode := fun_mk (st := s_decode) l_decode c_decode k_decode
  have F_law_is_invalid := fun_mk (st := s_law_is_invalid) l_law_is_invalid c_law_is_invalid k_law_is_invalid
  have F_law_is_torn := fun_mk (st := s_law_is_torn) l_law_is_torn c_law_is_torn k_law_is_torn
  have F_law_same := fun_mk (st := s_law_same) l_law_same c_law_same k_law_same
  have F_law_thing := fun_mk (st := s_law_thing) l_law_thing c_law_thing k_law_thing
  have F_law := fun_mk (st := s_law) l_law c_law k_law
  let T : Txt K mg := {
    C_TornText := C_TornText, e_TornText := ⟨PySem.W.mg_of X G ax_TornText, xx_TornText, xk_TornText, xb_TornText, xt_TornText, xs_TornText, ⟨xg_TornText, xq_TornText, xb_TornText, xd_TornText, xa_TornText, xn_TornText, xi_TornText, xm_TornText⟩⟩, kv_TornText := xv_TornText,
    C_InvalidText := C_InvalidText, e_InvalidText := ⟨PySem.W.mg_of X G ax_InvalidText, xx_InvalidText, xk_InvalidText, xb_InvalidText, xt_InvalidText, xs_InvalidText, ⟨xg_InvalidText, xq_InvalidText, xb_InvalidText, xd_InvalidText, xa_InvalidText, xn_InvalidText, xi_InvalidText, xm_InvalidText⟩⟩, kv_InvalidText := xv_InvalidText,
    kt_TornText_InvalidText := ko_TornText_InvalidText,
    kt_InvalidText_TornText := ko_InvalidText_TornText,
    C_VersionError := C_VersionError, g_VersionError := PySem.W.mg_of X G ay_VersionError,
    ku_TornText_VersionError := kp_TornText_VersionError,
    ku_InvalidText_VersionError := kp_InvalidText_VersionError,
    f_law_integer := f_law_integer, d_law_integer := _, F_law_integer := F_law_integer, b_law_integer := (F_law_integer.binds (ps := ["cell"]) fun _ _ _ _ _ _ us hl => match us, hl with | [_], _ => rfl),
    g_law_integer := PySem.W.mg_of X G a_law_integer,
    f_law_draws := f_law_draws, d_law_draws := _, F_law_draws := F_law_draws, b_law_draws := (F_law_draws.binds (ps := ["cell", "salt", "count", "base"]) fun _ _ _ _ _ _ us hl => match us, hl with | [_, _, _, _], _ => rfl),
    g_law_draws := PySem.W.mg_of X G a_law_draws,
    f_law_signs := f_law_signs, d_law_signs := _, F_law_signs := F_law_signs, b_law_signs := (F_law_signs.binds (ps := ["cell", "length"]) fun _ _ _ _ _ _ us hl => match us, hl with | [_, _], _ => rfl),
    g_law_signs := PySem.W.mg_of X G a_law_signs,
    f_law_char := f_law_char, d_law_char := _, F_law_char := F_law_char, b_law_char := (F_law_char.binds (ps := ["number"]) fun _ _ _ _ _ _ us hl => match us, hl with | [_], _ => rfl),
    g_law_char := PySem.W.mg_of X G a_law_char,
    f_law_text := f_law_text, d_law_text := _, F_law_text := F_law_text, b_law_text := (F_law_text.binds (ps := ["cell"]) fun _ _ _ _ _ _ us hl => match us, hl with | [_], _ => rfl),
    g_law_text := PySem.W.mg_of X G a_law_text,
    f_law_leaf := f_law_leaf, d_law_leaf := _, F_law_leaf := F_law_leaf, b_law_leaf := (F_law_leaf.binds (ps := ["cell"]) fun _ _ _ _ _ _ us hl => match us, hl with | [_], _ => rfl),
    g_law_leaf := PySem.W.mg_of X G a_law_leaf,
    f_law_leaf_text := f_law_leaf_text, d_law_leaf_text := _, F_law_leaf_text := F_law_leaf_text, b_law_leaf_text := (F_law_leaf_text.binds (ps := ["leaf"]) fun _ _ _ _ _ _ us hl => match us, hl with | [_], _ => rfl),
    g_law_leaf_text := PySem.W.mg_of X G a_law_leaf_text,
    f_law_built := f_law_built, d_law_built := _, F_law_built := F_law_built, b_law_built := (F_law_built.binds (ps := ["cells"]) fun _ _ _ _ _ _ us hl => match us, hl with | [_], _ => rfl),
    g_law_built := PySem.W.mg_of X G a_law_built,
    f_law_cell := f_law_cell, d_law_cell := _, F_law_cell := F_law_cell, b_law_cell := (F_law_cell.binds (ps := ["script", "k"]) fun _ _ _ _ _ _ us hl => match us, hl with | [_, _], _ => rfl),
    g_law_cell := PySem.W.mg_of X G a_law_cell,
    f_sign_at := f_sign_at, d_sign_at := _, F_sign_at := F_sign_at, b_sign_at := (F_sign_at.binds (ps := ["text", "index"]) fun _ _ _ _ _ _ us hl => match us, hl with | [_, _], _ => rfl),
    g_sign_at := PySem.W.mg_of X G a_sign_at,
    f_end_of_digits := f_end_of_digits, d_end_of_digits := _, F_end_of_digits := F_end_of_digits, b_end_of_digits := (F_end_of_digits.binds (ps := ["text", "first", "most", "closing"]) fun _ _ _ _ _ _ us hl => match us, hl with | [_, _, _, _], _ => rfl),
    g_end_of_digits := PySem.W.mg_of X G a_end_of_digits,
    f_read_integer := f_read_integer, d_read_integer := _, F_read_integer := F_read_integer, b_read_integer := (F_read_integer.binds (ps := ["text", "index"]) fun _ _ _ _ _ _ us hl => match us, hl with | [_, _], _ => rfl),
    g_read_integer := PySem.W.mg_of X G a_read_integer,
    f_read_text := f_read_text, d_read_text := _, F_read_text := F_read_text, b_read_text := (F_read_text.binds (ps := ["text", "index"]) fun _ _ _ _ _ _ us hl => match us, hl with | [_, _], _ => rfl),
    g_read_text := PySem.W.mg_of X G a_read_text,
    f_read_tuple := f_read_tuple, d_read_tuple := _, F_read_tuple := F_read_tuple, b_read_tuple := (F_read_tuple.binds (ps := ["text", "index", "level"]) fun _ _ _ _ _ _ us hl => match us, hl with | [_, _, _], _ => rfl),
    g_read_tuple := PySem.W.mg_of X G a_read_tuple,
    f_read_item := f_read_item, d_read_item := _, F_read_item := F_read_item, b_read_item := (F_read_item.binds (ps := ["text", "index", "level"]) fun _ _ _ _ _ _ us hl => match us, hl with | [_, _, _], _ => rfl),
    g_read_item := PySem.W.mg_of X G a_read_item,
    f_decode_prefix := f_decode_prefix, d_decode_prefix := _, F_decode_prefix := F_decode_prefix, b_decode_prefix := (F_decode_prefix.binds (ps := ["text", "index"]) fun _ _ _ _ _ _ us hl => match us, hl with | [_, _], _ => rfl),
    g_decode_prefix := PySem.W.mg_of X G a_decode_prefix,
    f_decode := f_decode, d_decode := _, F_decode := F_decode, b_decode := (F_decode.binds (ps := ["text"]) fun _ _ _ _ _ _ us hl => match us, hl with | [_], _ => rfl),
    g_decode := PySem.W.mg_of X G a_decode,
    f_law_is_invalid := f_law_is_invalid, d_law_is_invalid := _, F_law_is_invalid := F_law_is_invalid, b_law_is_invalid := (F_law_is_invalid.binds (ps := ["text"]) fun _ _ _ _ _ _ us hl => match us, hl with | [_], _ => rfl),
    g_law_is_invalid := PySem.W.mg_of X G a_law_is_invalid,
    f_law_is_torn := f_law_is_torn, d_law_is_torn := _, F_law_is_torn := F_law_is_torn, b_law_is_torn := (F_law_is_torn.binds (ps := ["text", "index"]) fun _ _ _ _ _ _ us hl => match us, hl with | [_, _], _ => rfl),
    g_law_is_torn := PySem.W.mg_of X G a_law_is_torn,
    f_law_same := f_law_same, d_law_same := _, F_law_same := F_law_same, b_law_same := (F_law_same.binds (ps := ["actual", "expected"]) fun _ _ _ _ _ _ us hl => match us, hl with | [_, _], _ => rfl),
    g_law_same := PySem.W.mg_of X G a_law_same,
    f_law_thing := f_law_thing, d_law_thing := _, F_law_thing := F_law_thing, b_law_thing := (F_law_thing.binds (ps := ["script", "k"]) fun _ _ _ _ _ _ us hl => match us, hl with | [_, _], _ => rfl),
    g_law_thing := PySem.W.mg_of X G a_law_thing,
    f_law := fa, d_law := _, F_law := F_law, b_law := (F_law.binds (ps := ["script"]) fun _ _ _ _ _ _ us hl => match us, hl with | [_], _ => rfl),
    g_law := PySem.W.mg_of X G a_law,
    m_ValueError := PySem.W.mg_none_of X G z_ValueError,
    m_bool := PySem.W.mg_none_of X G z_bool,
    m_int := PySem.W.mg_none_of X G z_int,
    m_isinstance := PySem.W.mg_none_of X G z_isinstance,
    m_len := PySem.W.mg_none_of X G z_len,
    m_max := PySem.W.mg_none_of X G z_max,
    m_min := PySem.W.mg_none_of X G z_min,
    m_range := PySem.W.mg_none_of X G z_range,
    m_str := PySem.W.mg_none_of X G z_str,
    m_tuple := PySem.W.mg_none_of X G z_tuple,
    t_MOST_LEVELS := t_MOST_LEVELS, k_MOST_LEVELS := PySem.W.mg_of X G z_MOST_LEVELS,
    t_MOST_DIGITS := t_MOST_DIGITS, k_MOST_DIGITS := PySem.W.mg_of X G z_MOST_DIGITS,
    t_MOST_LENGTH_DIGITS := t_MOST_LENGTH_DIGITS, k_MOST_LENGTH_DIGITS := PySem.W.mg_of X G z_MOST_LENGTH_DIGITS }
  exact ⟨PySem.W.fnOf "law" "law" (defArgs s_law) (defBody s_law) (defScope s_law) .none kV_law dc_law pm_law an_law cd_law ct_law, fun s v => .of_eq rfl, fun base _ _ => ok_law T⟩

end Vt

open PySem PySem.W PyProof.Rows
set_option maxHeartbeats 0 in
theorem PySem.Challenge.cw_versiontables_k04_torn_texts_holds : PySem.Challenge.rw_versiontables_k04_torn_texts.Holds := by
  w_on; o_law; k_head; (case hw => w_witness2)
  k_fill
  refine L2.walk_ofB (l := PySem.Challenge.rw_versiontables_k04_torn_texts) (n := 63) (k := 32) (x := "script") (CX := fun _ => L2.CX0) (sp := fun w => Vt.spLaw _) rfl (by decide) rfl ⟨rfl, by decide, by decide⟩ (fun w h Y => PySem.W.kIn_of Y) ?F (fun _ _ a ns hl hb _ hS => ⟨a, ns, rfl, hS, hl, hb, fun _ => rfl⟩) (fun _ _ _ _ _ h => h)
  case F =>
    intro w mg fa h KX G hmg
    refine' Vt.all_mk KX G hmg ?ax_TornText ?xx_TornText ?xk_TornText ?xb_TornText ?xt_TornText ?xs_TornText ?xg_TornText ?xq_TornText ?xd_TornText ?xa_TornText ?xn_TornText ?xi_TornText ?xm_TornText ?xv_TornText ?ax_InvalidText ?xx_InvalidText ?xk_InvalidText ?xb_InvalidText ?xt_InvalidText ?xs_InvalidText ?xg_InvalidText ?xq_InvalidText ?xd_InvalidText ?xa_InvalidText ?xn_InvalidText ?xi_InvalidText ?xm_InvalidText ?xv_InvalidText ?ko_TornText_InvalidText ?ko_InvalidText_TornText ?ay_VersionError ?kp_TornText_VersionError ?kp_InvalidText_VersionError ?a_law_integer ?l_law_integer ?c_law_integer ?k_law_integer ?a_law_draws ?l_law_draws ?c_law_draws ?k_law_draws ?a_law_signs ?l_law_signs ?c_law_signs ?k_law_signs ?a_law_char ?l_law_char ?c_law_char ?k_law_char ?a_law_text ?l_law_text ?c_law_text ?k_law_text ?a_law_leaf ?l_law_leaf ?c_law_leaf ?k_law_leaf ?a_law_leaf_text ?l_law_leaf_text ?c_law_leaf_text ?k_law_leaf_text ?a_law_built ?l_law_built ?c_law_built ?k_law_built ?a_law_cell ?l_law_cell ?c_law_cell ?k_law_cell ?a_sign_at ?l_sign_at ?c_sign_at ?k_sign_at ?a_end_of_digits ?l_end_of_digits ?c_end_of_digits ?k_end_of_digits ?a_read_integer ?l_read_integer ?c_read_integer ?k_read_integer ?a_read_text ?l_read_text ?c_read_text ?k_read_text ?a_read_tuple ?l_read_tuple ?c_read_tuple ?k_read_tuple ?a_read_item ?l_read_item ?c_read_item ?k_read_item ?a_decode_prefix ?l_decode_prefix ?c_decode_prefix ?k_decode_prefix ?a_decode ?l_decode ?c_decode ?k_decode ?a_law_is_invalid ?l_law_is_invalid ?c_law_is_invalid ?k_law_is_invalid ?a_law_is_torn ?l_law_is_torn ?c_law_is_torn ?k_law_is_torn ?a_law_same ?l_law_same ?c_law_same ?k_law_same ?a_law_thing ?l_law_thing ?c_law_thing ?k_law_thing ?a_law ?l_law ?c_law ?k_law ?z_ValueError ?z_bool ?z_int ?z_isinstance ?z_len ?z_max ?z_min ?z_range ?z_str ?z_tuple ?z_MOST_LEVELS ?z_MOST_DIGITS ?z_MOST_LENGTH_DIGITS
    (case ax_TornText => k_is)
    (case xx_TornText => k_exc)
    (case xk_TornText => k_is)
    (case xb_TornText => k_is)
    (case xt_TornText => k_is)
    (case xs_TornText => first | rfl | k_is)
    (case xg_TornText => k_is)
    (case xq_TornText => k_is)
    (case xd_TornText => k_is)
    (case xa_TornText => k_is)
    (case xn_TornText => first | rfl | k_is)
    (case xi_TornText => first | rfl | k_is)
    (case xm_TornText => k_is)
    (case xv_TornText => first | rfl | k_is)
    (case ax_InvalidText => k_is)
    (case xx_InvalidText => k_exc)
    (case xk_InvalidText => k_is)
    (case xb_InvalidText => k_is)
    (case xt_InvalidText => k_is)
    (case xs_InvalidText => first | rfl | k_is)
    (case xg_InvalidText => k_is)
    (case xq_InvalidText => k_is)
    (case xd_InvalidText => k_is)
    (case xa_InvalidText => k_is)
    (case xn_InvalidText => first | rfl | k_is)
    (case xi_InvalidText => first | rfl | k_is)
    (case xm_InvalidText => k_is)
    (case xv_InvalidText => first | rfl | k_is)
    (case ko_TornText_InvalidText => first | rfl | k_is)
    (case ko_InvalidText_TornText => first | rfl | k_is)
    (case ay_VersionError => k_is)
    (case kp_TornText_VersionError => first | rfl | k_is)
    (case kp_InvalidText_VersionError => first | rfl | k_is)
    (case a_law_integer => k_is)
    (case l_law_integer => k_is)
    (case c_law_integer => k_is)
    (case k_law_integer => k_is)
    (case a_law_draws => k_is)
    (case l_law_draws => k_is)
    (case c_law_draws => k_is)
    (case k_law_draws => k_is)
    (case a_law_signs => k_is)
    (case l_law_signs => k_is)
    (case c_law_signs => k_is)
    (case k_law_signs => k_is)
    (case a_law_char => k_is)
    (case l_law_char => k_is)
    (case c_law_char => k_is)
    (case k_law_char => k_is)
    (case a_law_text => k_is)
    (case l_law_text => k_is)
    (case c_law_text => k_is)
    (case k_law_text => k_is)
    (case a_law_leaf => k_is)
    (case l_law_leaf => k_is)
    (case c_law_leaf => k_is)
    (case k_law_leaf => k_is)
    (case a_law_leaf_text => k_is)
    (case l_law_leaf_text => k_is)
    (case c_law_leaf_text => k_is)
    (case k_law_leaf_text => k_is)
    (case a_law_built => k_is)
    (case l_law_built => k_is)
    (case c_law_built => k_is)
    (case k_law_built => k_is)
    (case a_law_cell => k_is)
    (case l_law_cell => k_is)
    (case c_law_cell => k_is)
    (case k_law_cell => k_is)
    (case a_sign_at => k_is)
    (case l_sign_at => k_is)
    (case c_sign_at => k_is)
    (case k_sign_at => k_is)
    (case a_end_of_digits => k_is)
    (case l_end_of_digits => k_is)
    (case c_end_of_digits => k_is)
    (case k_end_of_digits => k_is)
    (case a_read_integer => k_is)
    (case l_read_integer => k_is)
    (case c_read_integer => k_is)
    (case k_read_integer => k_is)
    (case a_read_text => k_is)
    (case l_read_text => k_is)
    (case c_read_text => k_is)
    (case k_read_text => k_is)
    (case a_read_tuple => k_is)
    (case l_read_tuple => k_is)
    (case c_read_tuple => k_is)
    (case k_read_tuple => k_is)
    (case a_read_item => k_is)
    (case l_read_item => k_is)
    (case c_read_item => k_is)
    (case k_read_item => k_is)
    (case a_decode_prefix => k_is)
    (case l_decode_prefix => k_is)
    (case c_decode_prefix => k_is)
    (case k_decode_prefix => k_is)
    (case a_decode => k_is)
    (case l_decode => k_is)
    (case c_decode => k_is)
    (case k_decode => k_is)
    (case a_law_is_invalid => k_is)
    (case l_law_is_invalid => k_is)
    (case c_law_is_invalid => k_is)
    (case k_law_is_invalid => k_is)
    (case a_law_is_torn => k_is)
    (case l_law_is_torn => k_is)
    (case c_law_is_torn => k_is)
    (case k_law_is_torn => k_is)
    (case a_law_same => k_is)
    (case l_law_same => k_is)
    (case c_law_same => k_is)
    (case k_law_same => k_is)
    (case a_law_thing => k_is)
    (case l_law_thing => k_is)
    (case c_law_thing => k_is)
    (case k_law_thing => k_is)
    (case a_law => k_is)
    (case l_law => k_is)
    (case c_law => k_is)
    (case k_law => k_is)
    (case z_ValueError => k_is)
    (case z_bool => k_is)
    (case z_int => k_is)
    (case z_isinstance => k_is)
    (case z_len => k_is)
    (case z_max => k_is)
    (case z_min => k_is)
    (case z_range => k_is)
    (case z_str => k_is)
    (case z_tuple => k_is)
    (case z_MOST_LEVELS => k_is)
    (case z_MOST_DIGITS => k_is)
    (case z_MOST_LENGTH_DIGITS => k_is)
