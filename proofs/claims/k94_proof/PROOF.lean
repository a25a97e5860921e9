import PyProof.Rows.All
import Wide.All
import OpenK.AllK
import Wide.FinOn
import HandS.ForMost
import HandS.Evl
import HandS.IsInst
import HandS.FStr
import HandS.WideBits
import HandS.Wide
import HandS.EndBits
import HandS.Exc
import HandS.TupAny
import PyProof.StrOps2
import HandS.ExcOwn
import HandS.ExcIs
import HandS.ExcCtx
import HandS.SuiteRaise
import HandS.RaiseFrom
import HandS.ExcValue
import HandS.ExcValueFrom
import HandS.WordsExc
import HandS.Replace
import HandS.ReplaceLit
import HandS.NoneIn
import HandS.StrMore
import HandS.TupLe
import HandS.Sort
import HandS.SortKw
import HandS.Lambda
import HandS.EndTab
import KE.KNestM
import KE.SortKeyHeap
import KE.SortData
import HandS.Iter
import KE.GoesMore
import KE.GoesEnum
import HandS.SetTxt0
import HandS.Set
import HandS.Strs
import HandS.Star
import HandS.Zip
import KE.KDictZip
import HandS.ExcInit
import HandS.ExcField
import HandS.Nested
import KE.KExcSuper
import KE.KSuper
import KE.KExcIs
import HandS.Iter
import HandS.More
import HandS.Conv
import HandS.SortInts
import PySem.Challenge.RW_versiontables_k94_errors_apart


set_option Elab.async false
set_option linter.all false
set_option maxRecDepth 100000
set_option maxHeartbeats 400000

namespace Vt
open PySem PySem.Spec PyProof.Rows L2 Evl

def topS (i : Nat) : Stmt := PySem.Challenge.pw_versiontables_k94_errors_apart.main.body.getD i (.Pass ⟨0, 0, 0, 0⟩)

abbrev s_law_raise_first : Stmt := topS 36

theorem sc_law_raise_first : FnScope ["which", "text", "number"] ["which", "text", "number"] (defScope s_law_raise_first) := ⟨rfl, rfl, rfl, by decide +kernel, rfl, by decide +kernel, by decide +kernel⟩

abbrev s_law_raise : Stmt := topS 37

theorem sc_law_raise : FnScope ["which", "text", "number"] ["which", "text", "number"] (defScope s_law_raise) := ⟨rfl, rfl, rfl, by decide +kernel, rfl, by decide +kernel, by decide +kernel⟩

abbrev s_law_address : Stmt := topS 39

theorem sc_law_address : FnScope ["number", "e"] ["number"] (defScope s_law_address) := ⟨rfl, rfl, rfl, by decide +kernel, rfl, by decide +kernel, by decide +kernel⟩

abbrev s_law_cell : Stmt := topS 33

theorem sc_law_cell : FnScope ["script", "k"] ["script", "k"] (defScope s_law_cell) := ⟨rfl, rfl, rfl, by decide +kernel, rfl, by decide +kernel, by decide +kernel⟩

abbrev s_law_column : Stmt := topS 40

theorem sc_law_column : FnScope ["number", "e"] ["number"] (defScope s_law_column) := ⟨rfl, rfl, rfl, by decide +kernel, rfl, by decide +kernel, by decide +kernel⟩

abbrev s_law_is : Stmt := topS 41

theorem sc_law_is : FnScope ["actual", "expected"] ["actual", "expected"] (defScope s_law_is) := ⟨rfl, rfl, rfl, by decide +kernel, rfl, by decide +kernel, by decide +kernel⟩

abbrev s_law_numbers : Stmt := topS 34

theorem sc_law_numbers : FnScope ["cell", "count", "numbers", "k", "mixed"] ["cell", "count"] (defScope s_law_numbers) := ⟨rfl, rfl, rfl, by decide +kernel, rfl, by decide +kernel, by decide +kernel⟩

abbrev s_law_text : Stmt := topS 35

theorem sc_law_text : FnScope ["a", "b", "chars", "size", "k"] ["a", "b"] (defScope s_law_text) := ⟨rfl, rfl, rfl, by decide +kernel, rfl, by decide +kernel, by decide +kernel⟩

abbrev s_law_kinds : Stmt := topS 38

theorem sc_law_kinds : FnScope ["which", "text", "number", "told", "e"] ["which", "text", "number"] (defScope s_law_kinds) := ⟨rfl, rfl, rfl, by decide +kernel, rfl, by decide +kernel, by decide +kernel⟩

abbrev s_law : Stmt := topS 42

theorem sc_law : FnScope ["script", "numbers", "text", "number", "which", "k"] ["script"] (defScope s_law) := ⟨rfl, rfl, rfl, by decide +kernel, rfl, by decide +kernel, by decide +kernel⟩

abbrev s_MissingChunk___init : Stmt := inClass (topS 7) 0

theorem sc_MissingChunk___init : NdefX.NScope ["self", "address", "__class__"] ["self", "address"] [Str.ofString "__class__"] (defScope s_MissingChunk___init) := NdefX.nscope_by (by decide +kernel)

abbrev s_SyntaxFault___init : Stmt := inClass (topS 14) 0

theorem sc_SyntaxFault___init : NdefX.NScope ["self", "column", "__class__"] ["self", "column"] [Str.ofString "__class__"] (defScope s_SyntaxFault___init) := NdefX.nscope_by (by decide +kernel)

/-! ### what is raised -/
theorem okN {P : Program} {w : World} {K : PySem.W.Frag} {mg : Str → Option Value} {base : Heap} {x qual : Str} {st : Stmt} {f : Addr} {fd : FuncData} {N ps : List Str} {k : Nat} {sp : Sp} (F : Fun K x qual st f fd) (S : FnScope N ps (defScope st)) (len : ∀ vs H Q E, sp vs H Q E → vs.length = ps.length)
    (hb : ∀ (cdv : Value) (A : Around) (outer : List Env) (s : Shared) (H : Hp) (vs : List V) (Q : VK) (E : XK), Room k (A.deeper (envOfC qual (defScope st) s.heap.objs.size f cdv)) → sp vs H Q E →
      ∃ t, PSs (cxOf (L2N.CX P w) P w K mg base N qual (defScope st) f cdv A outer s H E) (defBody st) t ∧ t { nx := fun _ H' => Q .non H', rt := Q } (start N vs) H) : FnOk P w K mg base (L2N.CX P w) (k + 1) f fd ps sp := by
  obtain ⟨oc, od, kV, doc, pm, an, cdv, ct, osl, rfl, lk, hcd⟩ := F.ex
  exact fn_of lk hcd S len fun A outer s H vs Q E hr h => hb cdv A outer s H vs Q E hr h
/-- a reading that holds where P does -/
theorem pss_given {X : Cx} {sts : List Stmt} {t : TS} {P : Prop} (h : P → PSs X sts t) : PSs X sts (fun D σ H => P ∧ t D σ H) := ⟨fun pins s σ H D I z => (h z.1).run pins s σ H D I z.2⟩
theorem zc_of {cls : Value} {d : Option Addr} {C : Addr} {oe : Obj} (p : cls = .ref C ∧ d = none) (h : Zc cls d oe) : Zc (.ref C) none oe := by
  obtain ⟨rfl, rfl⟩ := p
  exact h
theorem ev_isE {K : PySem.W.Frag} {D a : Addr} {σ : L2.St} {H : Hp} {te : TE} {c : V} {cv : Value} {b : Bool} (h : Ev te σ H (.ref a)) (hc : ∀ u, RelV c u → u = cv) (hk : PySem.W.kitOne K (.ref D) cv = some b) : Ev (tCB (rIsE K D a) (tCons te (tCons (tC c) tNil))) σ H (.bl b) := fun H1 e Q q =>
  h H1 e _ fun H2 e2 => ⟨c, cv, b, rfl, hc, hk, q H2 e2⟩
theorem s_callE {sp : Sp} {dvs vs : List V} {E : XK} {ta : TA} {σ : L2.St} {H : Hp} {D : Ends} (h : EvA ta σ H vs) (k : ∀ H1 Q, Ex H H1 → sp (vs ++ dvs) H1 Q E) : tRet (tCall sp dvs E ta) D σ H := h H (Ex.refl H) _ fun H1 e1 => k H1 _ e1
theorem q_callE {sp : Sp} {dvs vs : List V} {E : XK} {ta : TA} {σ : L2.St} {H : Hp} {tz : TS} {D : Ends} {i : Nat} (h : EvA ta σ H vs) (k : ∀ H1 Q, Ex H H1 → sp (vs ++ dvs) H1 Q E) : tSeq (tAsg (tCall sp dvs E ta) (gName i)) tz D σ H := h H (Ex.refl H) _ fun H1 e1 => k H1 _ e1
/-- in a try's body -/
theorem s_callT {sp : Sp} {vs : List V} {E : L2.St → XK} {ta : TA} {g : TG} {σ : L2.St} {H : Hp} {D : Ends} (h : EvA ta σ H vs) (k : ∀ H1 Q, Ex H H1 → sp vs H1 Q (E σ)) : tAsg (tCallS sp E ta) g D σ H := h H (Ex.refl H) _ fun H1 e1 => k H1 _ e1
theorem s_dropT {sp : Sp} {vs : List V} {E : L2.St → XK} {ta : TA} {σ : L2.St} {H : Hp} {D : Ends} (h : EvA ta σ H vs) (k : ∀ H1 Q, Ex H H1 → sp vs H1 Q (E σ)) : tDrop (tCallS sp E ta) D σ H := h H (Ex.refl H) _ fun H1 e1 => k H1 _ e1
/-- an own error class, as the text has it -/
structure XcC (K : PySem.W.Frag) (mg : Str → Option Value) (x : Str) (C : Addr) : Prop where
  g : mg x = some (.ref C)
  x : PySem.W.excIn K C [.type "ValueError", .type "Exception", .type "BaseException", .type "object"] "ValueError.__new__" = true
  kp : PySem.W.keepIn K (.ref C) = true
  b : PySem.W.subIn K (.ref C) (.type "BaseException") = some true
  t : PySem.W.typeIn K (.ref C) = some (.type "type")
  s : PySem.W.subIn K (.ref C) (.ref C) = some true
  is : ExcC K C
theorem XcC.self {K : PySem.W.Frag} {mg : Str → Option Value} {x : Str} {C : Addr} (T : XcC K mg x C) : PySem.W.exmOne K (.ref C) (.ref C) = some true := PySem.W.exm_ref T.b T.is.hd T.t T.s
/-! try .. except X as n: .. and further clauses; what is raised is X's -/
def wAs1 (K : PySem.W.Frag) (c : Value) (i : Nat) (ts : Addr → Value → Option Addr → TS) (D : Ends) : WX := fun cls d σ H =>
  PySem.W.exmOne K cls c = some true ∧ ∀ a, H a = none → ts a cls d { nx := fun _ _ => False, rt := D.rt, bk := fun _ _ => False, ct := fun _ _ => False } (σ.set i (some (.ref a))) H
theorem ps_try_as1 {X : Cx} {x n : Str} {c : Value} {i : Nat} {body suite : List Stmt} {b₀ : Stmt} {np pos pos' : Pos} {more : List ExceptHandler} {tb : WX → TS} {ts : Addr → Value → Option Addr → TS}
    (hs : X.stack = X.env :: X.outer) (hf : X.env.frame = some X.env.locals) (hN : X.N.Nodup) (hi : X.N[i]? = some n) (hln : X.env.kindOf n = some .local) (hc : Names X x c)
    (hb : ∀ (W : WX) (pn : List (Addr × Obj)) (xe : Value → Shared → Prop), L2N.Takes (X.tr pn xe) W → PSs (X.tr pn xe) body (tb W))
    (hsu : ∀ (a : Addr) (oe : Obj) (cls : Value) (d : Option Addr) (pn : List (Addr × Obj)), Zc cls d oe → (∃ vs, oe.data = .fields vs) → PSs (X.suite a ((a, oe) :: pn)) (b₀ :: suite) (ts a cls d)) :
    PS X (.Try body (.ExceptHandler (some (.Name x np)) (some n) (b₀ :: suite) pos' :: more) [] [] pos) (fun D σ H => tb (wAs1 X.K c i ts D) D σ H) := by
  refine ⟨fun pins s σ H D I h => ?_⟩
  have ok := I.ok
  have frames : X.A.frames = some (X.env :: X.outer) := by rw [ok.frames, hs]
  refine wpAny_Try_except (wpAny_mono ((hb (wAs1 X.K c i ts D) (X.pn ++ pins) _ fun u s' z => ?_).run [] s σ H D (I.toTry _) h) (fun f s1 q => ?_) fun e s1 z => z)
  · obtain ⟨a, B, sI, pins', σ', H', cls, d, rfl, J', nb, up, sky, na, os, ag, hx, hy⟩ := z
    have J : Inv X pins σ' H' sI := J'.ofTry ok
    have sky' : L2.Sky B (X.env :: X.outer) a (L2N.Zn cls d) X.env.locals s'.heap := by rw [← hs]; exact sky
    show wpAny (model X.prog X.w) X.A (noteFrame (.ref a) X.env) _ _ _
    refine L2N.Sky.land L2N.Zn.steady frames hf sky' fun h3 fl up3 => ?_
    have J3 : Inv X pins σ' H' { s' with heap := h3 } := J.landed nb fl.1 (up.trans up3) os ag
    obtain ⟨o3, v3, g3, z3, d3⟩ := fl.there
    have nfr : a ∉ frs (X.env :: X.outer) := fun hm => by
      obtain ⟨_, o', e', no⟩ := fl.2.2.1.mem hm
      rw [g3] at e'
      cases e'
      exact no _ d3
    have nL : a ≠ X.env.locals := fun y => nfr (List.mem_filterMap.mpr ⟨X.env, List.mem_cons_self, by rw [hf, y]⟩)
    have nF : a ∉ X.fs := fun hm => by
      obtain ⟨e, he, q⟩ := List.mem_filterMap.mp hm
      exact nfr (List.mem_filterMap.mpr ⟨e, List.mem_cons_of_mem _ he, q⟩)
    have S3 := J3.suite g3 d3 na nL nF
    have LT : PySem.W.Looks (model X.prog X.w) h3 (typeOf (.ref a)) cls := fun A Q E s k q => wpAny_typeOf_ref (k _ _ g3) (by rw [z3.1]; exact q)
    have LM := PySem.W.exm_one (M := model X.prog X.w) J3.kIn LT hx
    refine wpAny_handleBy_cons (codeAny_handlers_test ?_) (by intro q; cases q)
    have test : ∀ {Q : Value → Shared → Prop} {E : Value → Shared → Prop}, Q c { s' with heap := h3 } → wpAny (model X.prog X.w) (X.A.mark (some (.ref a))) (eval (.Name x np) X.env) Q E { s' with heap := h3 } := fun q => by
      obtain ⟨hg, hd, hm | ⟨hm, hv, hn⟩⟩ := hc
      · exact ld_glob (X := X.suite a ((a, o3) :: (X.pn ++ pins))) S3 hg hm q hd
      · exact ld_blt (X := X.suite a ((a, o3) :: (X.pn ++ pins))) S3 hg hm hv q hn hd
    refine test (LM.here (codeAny_handlers_suite_as (HandSPX.lands_againZ fl fun h4 fl4 up4 => ?_)))
    have J4 : Inv X pins σ' H' { s' with heap := h4 } := J.landed nb fl4.1 ((up.trans up3).trans up4) os ag
    obtain ⟨o4, v4, g4, z4, d4⟩ := fl4.there
    refine store_ok (X := X.suite a ((a, o4) :: (X.pn ++ pins))) (v := .ref a) (J4.suite g4 d4 na nL nF) hN hi (.inl hln) rfl (fun s5 S5 => ?_) (.inr hln)
    refine wpAny_mono ((hsu a o4 cls d (X.pn ++ pins) ⟨z4.1, z4.2.1⟩ ⟨_, d4⟩).run [] s5 _ H' _ S5 (hy a na)) (fun f s6 q => ?_) (fun _ _ z => z.elim)
    cases f with
    | next =>
      obtain ⟨_, _, _, z⟩ := q
      exact z.elim
    | brk =>
      obtain ⟨_, _, _, z⟩ := q
      exact z.elim
    | cont =>
      obtain ⟨_, _, _, z⟩ := q
      exact z.elim
    | ret u =>
      obtain ⟨v6, σ6, H6, S6, r6, q6⟩ := q
      exact gone_ok (S6.unsuite ok) hN hi hln fun s7 J7 => ⟨_, _, _, J7, r6, q6⟩
  · cases f with
    | next =>
      obtain ⟨σ', H', J', z⟩ := q
      exact wpAny_execs_nil ⟨σ', H', J'.ofTry ok, z⟩
    | brk =>
      obtain ⟨σ', H', J', z⟩ := q
      exact ⟨σ', H', J'.ofTry ok, z⟩
    | cont =>
      obtain ⟨σ', H', J', z⟩ := q
      exact ⟨σ', H', J'.ofTry ok, z⟩
    | ret u =>
      obtain ⟨v, σ', H', J', r, z⟩ := q
      exact ⟨v, σ', H', J'.ofTry ok, r, z⟩
/-- as ps_try_as1, for what was raised while another error was handled -/
theorem ps_try_as2 {X : Cx} {x n : Str} {c : Value} {i : Nat} {body suite : List Stmt} {b₀ : Stmt} {np pos pos' : Pos} {more : List ExceptHandler} {tb : WX → TS} {ts : Addr → Value → Option Addr → TS}
    (hs : X.stack = X.env :: X.outer) (hf : X.env.frame = some X.env.locals) (hN : X.N.Nodup) (hi : X.N[i]? = some n) (hln : X.env.kindOf n = some .local) (hc : Names X x c)
    (hb : ∀ (W : WX) (pn : List (Addr × Obj)) (xe : Value → Shared → Prop), L2.Takes (X.tr pn xe) W → PSs (X.tr pn xe) body (tb W))
    (hsu : ∀ (a : Addr) (oe : Obj) (cls : Value) (d : Option Addr) (pn : List (Addr × Obj)), Zc cls d oe → (∃ vs, oe.data = .fields vs) → PSs (X.suite a ((a, oe) :: pn)) (b₀ :: suite) (ts a cls d)) :
    PS X (.Try body (.ExceptHandler (some (.Name x np)) (some n) (b₀ :: suite) pos' :: more) [] [] pos) (fun D σ H => tb (wAs1 X.K c i ts D) D σ H) := by
  refine ⟨fun pins s σ H D I h => ?_⟩
  have ok := I.ok
  have frames : X.A.frames = some (X.env :: X.outer) := by rw [ok.frames, hs]
  refine wpAny_Try_except (wpAny_mono ((hb (wAs1 X.K c i ts D) (X.pn ++ pins) _ fun u s' z => ?_).run [] s σ H D (I.toTry _) h) (fun f s1 q => ?_) fun e s1 z => z)
  · obtain ⟨a, B, sI, pins', σ', H', cls, d, rfl, J', nb, up, sky, na, os, ag, hx, hy⟩ := z
    have J : Inv X pins σ' H' sI := J'.ofTry ok
    have sky' : L2.Sky B (X.env :: X.outer) a (Zc cls d) X.env.locals s'.heap := by rw [← hs]; exact sky
    show wpAny (model X.prog X.w) X.A (noteFrame (.ref a) X.env) _ _ _
    refine L2.Sky.land Zc.steady frames hf sky' fun h3 fl up3 => ?_
    have J3 : Inv X pins σ' H' { s' with heap := h3 } := J.landed nb fl.1 (up.trans up3) os ag
    obtain ⟨o3, v3, g3, z3, d3⟩ := fl.there
    have nfr : a ∉ frs (X.env :: X.outer) := fun hm => by
      obtain ⟨_, o', e', no⟩ := fl.2.2.1.mem hm
      rw [g3] at e'
      cases e'
      exact no _ d3
    have nL : a ≠ X.env.locals := fun y => nfr (List.mem_filterMap.mpr ⟨X.env, List.mem_cons_self, by rw [hf, y]⟩)
    have nF : a ∉ X.fs := fun hm => by
      obtain ⟨e, he, q⟩ := List.mem_filterMap.mp hm
      exact nfr (List.mem_filterMap.mpr ⟨e, List.mem_cons_of_mem _ he, q⟩)
    have S3 := J3.suite g3 d3 na nL nF
    have LT : PySem.W.Looks (model X.prog X.w) h3 (typeOf (.ref a)) cls := fun A Q E s k q => wpAny_typeOf_ref (k _ _ g3) (by rw [z3.1]; exact q)
    have LM := PySem.W.exm_one (M := model X.prog X.w) J3.kIn LT hx
    refine wpAny_handleBy_cons (codeAny_handlers_test ?_) (by intro q; cases q)
    have test : ∀ {Q : Value → Shared → Prop} {E : Value → Shared → Prop}, Q c { s' with heap := h3 } → wpAny (model X.prog X.w) (X.A.mark (some (.ref a))) (eval (.Name x np) X.env) Q E { s' with heap := h3 } := fun q => by
      obtain ⟨hg, hd, hm | ⟨hm, hv, hn⟩⟩ := hc
      · exact ld_glob (X := X.suite a ((a, o3) :: (X.pn ++ pins))) S3 hg hm q hd
      · exact ld_blt (X := X.suite a ((a, o3) :: (X.pn ++ pins))) S3 hg hm hv q hn hd
    refine test (LM.here (codeAny_handlers_suite_as (HandSPX.lands_againZ fl fun h4 fl4 up4 => ?_)))
    have J4 : Inv X pins σ' H' { s' with heap := h4 } := J.landed nb fl4.1 ((up.trans up3).trans up4) os ag
    obtain ⟨o4, v4, g4, z4, d4⟩ := fl4.there
    refine store_ok (X := X.suite a ((a, o4) :: (X.pn ++ pins))) (v := .ref a) (J4.suite g4 d4 na nL nF) hN hi (.inl hln) rfl (fun s5 S5 => ?_) (.inr hln)
    refine wpAny_mono ((hsu a o4 cls d (X.pn ++ pins) z4 ⟨_, d4⟩).run [] s5 _ H' _ S5 (hy a na)) (fun f s6 q => ?_) (fun _ _ z => z.elim)
    cases f with
    | next =>
      obtain ⟨_, _, _, z⟩ := q
      exact z.elim
    | brk =>
      obtain ⟨_, _, _, z⟩ := q
      exact z.elim
    | cont =>
      obtain ⟨_, _, _, z⟩ := q
      exact z.elim
    | ret u =>
      obtain ⟨v6, σ6, H6, S6, r6, q6⟩ := q
      exact gone_ok (S6.unsuite ok) hN hi hln fun s7 J7 => ⟨_, _, _, J7, r6, q6⟩
  · cases f with
    | next =>
      obtain ⟨σ', H', J', z⟩ := q
      exact wpAny_execs_nil ⟨σ', H', J'.ofTry ok, z⟩
    | brk =>
      obtain ⟨σ', H', J', z⟩ := q
      exact ⟨σ', H', J'.ofTry ok, z⟩
    | cont =>
      obtain ⟨σ', H', J', z⟩ := q
      exact ⟨σ', H', J'.ofTry ok, z⟩
    | ret u =>
      obtain ⟨v, σ', H', J', r, z⟩ := q
      exact ⟨v, σ', H', J'.ofTry ok, r, z⟩
/-- raise X('..') from None in an except suite -/
theorem ps_raiseFN {X : Cx} {W : WX} {x m : Str} {C : Addr} {j j2 : Nat} {p p2 pos cpos pos2 : Pos} (hot : L2H.HotC X) (tk : L2.Takes X W) (T : XcC X.K X.mg x C) (hx : X.ex = []) (hg : Gl X x) (hdb : (x == ("__debug__" : Str)) = false) :
    PS X (.Raise (some (.Call (.Name x p) [.Constant (.str m) j p2] [] pos)) (some (.Constant .none j2 cpos)) pos2) (fun _ σ H => Ex X.H_0 H ∧ W (.ref C) none σ H) := by
  refine ⟨fun pins s σ H D I h => (L2H.ps_raiseHN hot tk (pmk_ret5 hx (pe_exc1 PySem.F.excBase_ValueError T.x T.g T.kp hg pe_str (by rfl) hdb))).run pins s σ H D I ?_⟩
  exact fun a ha => ⟨a, _, rfl, upd_same, fr0_none (fresh_back h.1 ha), L2.raises_own T.b T.t, by rw [delH_new ha]; exact h.2⟩
theorem _root_.L2.FnOk.both {P : Program} {w : World} {K : PySem.W.Frag} {mg : Str → Option Value} {base : Heap} {CX : CXT} {k : Nat} {f : Addr} {fd : FuncData} {ps : List Str} {sp0 sp1 : Sp} (F0 : FnOk P w K mg base CX0 k f fd ps sp0) (F1 : FnOk P w K mg base CX k f fd ps sp1) : FnOk P w K mg base CX k f fd ps (fun vs H Q E => sp0 vs H Q E ∨ sp1 vs H Q E) :=
  ⟨fun vs H Q E h => h.elim (F0.len vs H Q E) (F1.len vs H Q E), fun A outer s H args us vs Q E hr e0 hb r h => h.elim (fun h => codeAny_mono (F0.run A outer s H args us vs Q E hr e0 hb r h) fun res s' z => by
    cases res with
    | error e => exact False.elim z
    | ok f => cases f <;> exact z) (fun h => F1.run A outer s H args us vs Q E hr e0 hb r h)⟩
theorem s_callEA {sp : Sp} {dvs vs : List V} {E : XK} {ta : TA} {g : TG} {σ : L2.St} {H : Hp} {D : Ends} (h : EvA ta σ H vs) (k : ∀ H1 Q, Ex H H1 → sp (vs ++ dvs) H1 Q E) : tAsg (tCall sp dvs E ta) g D σ H := h H (Ex.refl H) _ fun H1 e1 => k H1 _ e1
theorem s_ifX {sp : Sp} {dvs vs : List V} {E : XK} {ta : TA} {tb : TE} {r : R2} {tu tw : TS} {σ : L2.St} {H : Hp} {D : Ends} (h : EvA ta σ H vs) (k : ∀ H1 Q, Ex H H1 → sp (vs ++ dvs) H1 Q E) : tIfS (tTest (tOp r (tCall sp dvs E ta) tb)) tu tw D σ H := h H (Ex.refl H) _ fun H1 e1 => k H1 _ e1
theorem t_testX {sp : Sp} {dvs vs : List V} {E : XK} {ta : TA} {tb : TE} {r : R2} {σ : L2.St} {H : Hp} {Q : Bool → Hp → Prop} (h : EvA ta σ H vs) (k : ∀ H1 Q, Ex H H1 → sp (vs ++ dvs) H1 Q E) : tTest (tOp r (tCall sp dvs E ta) tb) σ H Q := h H (Ex.refl H) _ fun H1 e1 => k H1 _ e1
theorem q_whileX {t : TT} {tu tz : TS} {σ : L2.St} {H : Hp} {D : Ends} (W : Nat → L2.St → Hp → Prop) (m0 : Nat) (h0 : W m0 σ H)
    (hs : ∀ m σ' H', W m σ' H' → t σ' H' fun b H1 => if b = true then ∃ N : L2.St → Hp → Prop, (∀ σ2 H2, N σ2 H2 → ∃ m', m' < m ∧ W m' σ2 H2) ∧ tu { D with nx := N, ct := N, bk := tz D } σ' H1 else tz D σ' H1) : tSeq (tWhile t tu) tz D σ H := ⟨W, ⟨m0, h0⟩, hs⟩
theorem pre_le {xs ys t u : List Nat} (h : xs ++ ys = t ++ u) (hl : t.length ≤ xs.length) : ∃ rest, xs = t ++ rest := by
  have e := congrArg (List.take t.length) h
  rw [List.take_append_of_le_length hl, List.take_left] at e
  have z := (List.take_append_drop t.length xs).symm
  rw [e] at z
  exact ⟨_, z⟩
theorem pre_one {xs t r : List Nat} {y c : Nat} (h : xs ++ [y] = t ++ (c :: r)) : ∃ rest, xs = t ++ rest := by
  refine pre_le h ?_
  have := congrArg List.length h
  simp only [List.length_append, List.length_cons, List.length_nil] at this
  omega


/-! ### super().__init__(..) in an error class over ValueError -/
section
open PySem PySem.W PySem.Spec PyProof.Rows L2
variable {prog : Program} {w : World} {A : Around} {E : Value → Shared → Prop} {h : Heap} {g : Array GenState} {d : Drawn} {t : Nat} {os : OsState}
/-- the bound __init__ is called: the exception's args are laid anew -/
theorem sup_bw {nm q : Str} {C N : Addr} {bs bm : List Value} {hdct : Bool} {sn : List Str} {sub : List Value} {ab : Bool} {col : Option Bool} {dd : Option Addr} {k0 k1 k2 k3 k5 : Option Value} {u e t0 : Addr} {rest : List Value} {Q : Value → Shared → Prop}
    (hC : h.get? C = some (excClassObj nm q C N bs bm hdct sn sub ab col dd k0 k1 k2 k3 k5 "ValueError.__new__")) (he : h.get? e = some (HandSPX.excO C t0)) (hu : h.get? u = some (kxs_mw "ValueError.__init__" e)) (hrest : rest.length ≤ sizeLine)
    (hq : ∀ h' t1, (∀ b o, b ≠ e → h.get? b = some o → h'.get? b = some o) → h'.get? e = some (HandSPX.excO C t1) → Q .none ⟨h', g, d, t, os⟩) :
    wpAny (model prog w) A (call (.ref u) rest) Q E ⟨h, g, d, t, os⟩ := by
  refine wpAny_call (codeAny_of_tree (show wpAny _ A.in1 (callAny (.ref u) ⟨rest, []⟩) _ _ _ from ?_))
  simp only [callAny]
  refine wpAny_bind (m := load u) (wpAny_load hu ?_)
  simp only [show (Value.type "method-wrapper" == Value.type "method" || Value.type "method-wrapper" == Value.type "builtin_function_or_method" || Value.type "method-wrapper" == Value.type "method-wrapper") = true from by decide, if_true]
  refine KFB.if_so (by decide) (wpAny_bind (check_bound_init F.excBase_ValueError.toExcCallFacts hC he rfl (wpAny_bind (wpAny_pure (wpAny_pure ?_)))))
  refine ⟨plainId_quiet F.excBase_ValueError.init.plain _, codeAny_builtin F.excBase_ValueError.initEntry (exc_init_tree (cls := .ref C) (t0 := t0) (dv := none) (c2 := .none) (c3 := .none) (b4 := .bool false) he hrest fun h' k e' _ => ?_)⟩
  exact hq h' h.objs.size k e'
end
section
open PySem PySem.W PySem.Spec PyProof.Rows L2
/-- a body, from some statement on, in the activation that is known -/
def PSA (X : Cx) (body sts : List Stmt) (t : TS) : Prop := ∀ (pins : List (Addr × Obj)) (s : Shared) (σ : L2.St) (H : Hp) (D : Ends), Inv X pins σ H s → t D σ H → _root_.PySem.wpAt (model X.prog X.w) X.A (.func body X.env) (execs sts X.env) (SP X pins D) X.xe s
/-- what the written part says of such an __init__ -/
structure SupK (K : PySem.W.Frag) (prog : Program) (C f cc cda : Addr) : Prop where
  fn : ∃ oc od fd osl ar, K.lookup f = some ⟨oc, od, .func fd, osl⟩ ∧ (fd.params.posonlyargs ++ fd.params.args).head? = some ar ∧ ar.arg = Str.ofString "self"
  code : ∃ ccl cdd vs ccs file tf, K.lookup cda = some ⟨ccl, cdd, .fields vs, ccs⟩ ∧ vs[2]? = some (.str file tf) ∧ (prog.main.file == file) = true
  cell : ∃ cl cld csl, K.lookup cc = some ⟨cl, cld, .cell (some (.ref C)), csl⟩
  init : ks_superIn K C C "__init__" = some (some (.builtin "ValueError.__init__"))
  tp : nsIn K cStatics "thirdparty.any" = some none
  mro : mroIn K C (.ref C) = some true
  ve : subIn K (.ref C) (.type "ValueError") = some true
/-- super().__init__(e, ..) -/
def tSup (C : Addr) (ta : TA) : TS := fun D σ H => ∃ a : Addr, σ[0]? = some (some (.ref a)) ∧ H a = some (exo a C none) ∧ ta σ H fun vs H1 => vs.length ≤ 1000 ∧ H1 a = some (exo a C none) ∧ D.nx σ H1
theorem pssa_sup {X : Cx} {C f cc cda : Addr} {body rest : List Stmt} {e : Expr} {es : List Expr} {p0 p1 p2 p3 p4 : Pos} {ta : TA} {u : TS} (T : SupK X.K X.prog C f cc cda) (O : OexC X.K C) (hf : X.env.func = some f) (hco : X.env.code = .ref cda) (hcells : X.env.cells.lookup (Str.ofString "__class__") = some cc)
    (hks : X.env.kindOf "super" = some .globalImplicit) (hkc : X.env.kindOf "__class__" = some .free) (hm : X.mg "super" = none) (hself : X.N[0]? = some (Str.ofString "self")) (hkself : X.env.kindOf "self" = some .local) (htop : (X.prog.main.scope.names.lookup (Str.ofString "super")).isSome = false)
    (ha : PA X (e :: es) ta) (hu : PSs X rest u) (he : starEach (e :: es) X.env = (false, eval e X.env) :: starEach es X.env := by rfl) (hpl : (backTo p3 (starEach es X.env)).any (·.1) = false := by rfl)
    (hi : interactive X.env = false := by rfl) (hsw : swapsWith (.Call (.Attribute (.Call (.Name "super" p0) [] [] p1) "__init__" p2) (e :: es) [] p3) none p4.line X.env = pure false := by rfl)
    (hev : eval (.Call (.Attribute (.Call (.Name "super" p0) [] [] p1) "__init__" p2) (e :: es) [] p3) X.env = (do
      let ov ← attributeBase (.Call (.Name "super" p0) [] [] p1) "__init__" X.env (eval (.Call (.Name "super" p0) [] [] p1) X.env)
      standAt p2.atName
      let (f, first) ← holding [ov] (getMethod ov "__init__" (pure false))
      callWith p3 f first (backTo p3 (starEach (e :: es) X.env)) []) := by rfl) :
    PSA X body (.Expr (.Call (.Attribute (.Call (.Name "super" p0) [] [] p1) "__init__" p2) (e :: es) [] p3) p4 :: rest) (tSeq (tSup C ta) u) := by
  intro pins s σ H D I h
  obtain ⟨a, h0, hea, h⟩ := h
  obtain ⟨oc, od, fd, osl, ar, lkf, hhead, harg⟩ := T.fn
  obtain ⟨ccl, cdd, vs, ccs, file, tf, lkc, hvs, hfile⟩ := T.code
  obtain ⟨cl, cld, csl, lkl⟩ := T.cell
  obtain ⟨nm, q, N, bs, bm, sn, sub, ab, col, dd, k0, k1, k2, k3, k5, hC, hbm⟩ := O.cls
  have KX := I.kIn
  refine ks_wpAt_execs_cons (ks_wpAt_Expr_any (ks_wpAt_MethodCall (pl := pure false) ?_ hev) hi hsw)
  refine ks_wpAt_super_base hks hkc rfl hf (KX _ _ lkf) rfl hhead hco (KX _ _ lkc) rfl hvs hfile htop ?_
  obtain ⟨mb, b1, b2⟩ := I.mod.blt
  refine ks_loadName_global I.ok.kind hks (Calls.loadGlobal_builtin (by rw [I.ok.glob]; exact I.mod.glob.keeps I.bk) hm (by rw [I.ok.blt]; exact b1.keeps I.bk) ((b2 _ (by decide)).trans (by decide +kernel : bootBuiltins "super" = some (.type "super"))) ⟨rfl, ?_⟩)
  refine wpAny_loadName_free I.ok.kind hkc hcells ⟨_, KX _ _ lkl, rfl⟩ ?_
  obtain ⟨m, hn, hl⟩ := I.loc
  obtain ⟨w0, rw0, l⟩ := hl 0 _ (.ref a) hself h0 (.inl hkself)
  obtain rfl : w0 = Value.ref a := rw0
  have hma : m (Str.ofString "self") = some (Value.ref a) := by
    rcases l with ⟨_, z⟩ | ⟨z, _⟩
    · exact z
    · rcases z with z | z
      · have y := hkself.symm.trans z
        cases y
      · have y := hkself.symm.trans z
        cases y
  rw [harg]
  refine wpAny_loadName_local I.ok.kind hkself hn hma ?_
  refine ks_wpAny_isType_cls (KX _ _ hC) rfl ⟨rfl, ?_⟩
  obtain ⟨t1, ho⟩ := exo_at I.hok hea
  obtain ⟨hp, gs, dr, tk, os⟩ := s
  refine ks_wpAny_call_super (KX _ _ hC) rfl ho rfl (fun c e => by cases e) (looks_mroIn KX T.mro) fun h' hso k => ?_
  have I1 : Inv X pins σ H ⟨h', gs, dr, tk, os⟩ := I.kept (t' := tk) k
  have hcl : clsIn X.K C = some { name := nm, bases := bs, mro := .ref C :: bm, ns := N, qualname := q, hasDict := true, slotNames := sn, subclasses := sub, abstract := ab, collection := col, hasDel := false } := by unfold clsIn; rw [hC] <;> rfl
  have hin := T.init
  unfold ks_superIn at hin
  rw [hcl] at hin
  have ne : a ≠ C := fun z => by
    have y := ho
    rw [z, KX _ _ hC] at y
    have y2 := congrArg Obj.data (Option.some.inj y)
    cases y2
  have hI : Looks (model X.prog X.w) h' (isInstance (.ref a) (.type "ValueError")) true := (InstAt.type (od := none) ⟨k _ _ ho, rfl, rfl, trivial⟩).andThen (looks_subIn I1.kIn T.ve)
  refine kxs_getMethod kxs_ValueError hso (looks_opaque I1.kIn T.tp) (l₀ := .ref C :: bm) (fun A Q E s k q => wpAny_bind ((looks_clsIn I1.kIn hcl) A _ E s k (wpAny_pure q))) rfl I1.kIn hin hI ne rfl ?_
  have hsz : h'.objs.size ≤ h'.objs.size := Nat.le_refl _
  have I2 : Inv X pins σ H ⟨h'.push (kxs_mw "ValueError.__init__" a), gs, dr, tk + 1, os⟩ := I1.kept (t' := tk + 1) fun b o e => Heap.get?_push_of_some _ e
  have hmw : (h'.push (kxs_mw "ValueError.__init__" a)).get? h'.objs.size = some (kxs_mw "ValueError.__init__" a) := Heap.get?_push_size _ rfl
  have I3 : Inv X (pins ++ pinsAt [h'.objs.size] (h'.push (kxs_mw "ValueError.__init__" a))) σ H ⟨h'.push (kxs_mw "ValueError.__init__" a), gs, dr, tk + 1, os⟩ := I2.pinned (fun b hb => by
    rw [List.mem_singleton.mp hb]
    exact I1.fpOk (Nat.le_refl _) (I1.hok.fresh (Nat.le_refl _))) fun b hb => by
    rw [List.mem_singleton.mp hb]
    exact ⟨_, hmw, fun v z => by cases z⟩
  have hmem := mem_pinsAt (fp := [h'.objs.size]) (List.mem_singleton.mpr rfl) hmw
  refine kxs_callWith (i := "ValueError.__init__") (x := a) (by rw [he]; show (false || (backTo p3 (starEach es X.env)).any (·.1)) = false; rw [hpl] <;> rfl) ?_
  have hargs := ha.run p3 _ _ σ H _ I3 h
  rw [he] at hargs ⊢
  refine Calls.evalArgs_plain (thn hargs fun us s1 hh => ?_)
  obtain ⟨vs2, H1, I4, r1, hz, hea1, q1⟩ := hh
  have hu1 := (I4.pin _ (List.mem_append_right _ (List.mem_append_right _ hmem))).1
  refine ⟨hu1, ?_⟩
  have I5 : Inv X pins σ H1 s1 := I4.unpinned
  obtain ⟨t2, ho2⟩ := exo_at I5.hok hea1
  have hus : us.length ≤ sizeLine := by
    rw [← Paired.length r1, sizeLine_eq]
    omega
  obtain ⟨hp1, g1, d1, tk1, os1⟩ := s1
  refine sup_bw (I5.kIn _ _ hC) ho2 hu1 hus fun h2 t3 kk hx => ?_
  have J := I5.write (t' := tk1) (x := a) (e := a) (o := exo a C none) (by rw [hea1]; exact True.intro) (.inl rfl) kk ⟨_, hx⟩ (exo_ok hx)
  have eu : upd H1 a (exo a C none) = H1 := by
    funext b
    by_cases hb : b = a
    · rw [hb, upd_same, hea1]
    · rw [upd_ne hb]
  rw [eu] at J
  exact wpAt_of_wpAny (hu.run pins _ σ H1 D J q1)
theorem one_look {x y : Str} {c d : Addr} : ([(x, c)] : List (Str × Addr)).lookup y = some d ↔ y = x ∧ d = c := by
  by_cases h : y = x
  · subst h
    simp [List.lookup, eq_comm]
  · have e : (y == x) = false := by simpa using h
    simp [List.lookup, e, h]
/-- the def whose body begins so -/
theorem fn_sup {CX : CXT} {P : Program} {w : World} {K : PySem.W.Frag} {mg : Str → Option Value} {base : Heap} {k : Nat} {f cc cda : Addr} {name qual : Str} {params : Arguments} {body : List Stmt} {scope : Scope} {dV kV doc pm ct oc : Value} {an od : Option Addr} {osl : Array (Option Value)} {N ps : List Str} {sp : Sp}
    (lk : K.lookup f = some ⟨oc, od, .func (fnX name qual params body scope [(Str.ofString "__class__", cc)] dV kV doc pm an (.ref cda) ct), osl⟩) (hcd : codeIn K (.ref cda) qual = true) (S : NdefX.NScope N ps [Str.ofString "__class__"] scope)
    (hcell : ∃ cl cld v csl, K.lookup cc = some ⟨cl, cld, .cell (some v), csl⟩)
    (len : ∀ vs H Q E, sp vs H Q E → vs.length = ps.length)
    (hbody : ∀ (A : Around) (outer : List Env) (s : Shared) (H : Hp) (vs : List V) (Q : VK) (E : XK), Room k (A.deeper (NdefX.envF ⟨name, qual, params, body, scope, [(Str.ofString "__class__", cc)], cda⟩ f s.heap.objs.size)) → sp vs H Q E →
      ∃ t, PSA (NdefX.ncx CX P w K mg base N ⟨name, qual, params, body, scope, [(Str.ofString "__class__", cc)], cda⟩ f A outer s H E) body body t ∧ t { nx := fun _ H' => Q .non H', rt := Q } (NdefX.startF N vs [none]) H) :
    FnOk P w K mg base CX (k + 1) f (fnX name qual params body scope [(Str.ofString "__class__", cc)] dV kV doc pm an (.ref cda) ct) ps sp := by
  refine ⟨len, fun A outer s H args us vs Q E hr e0 hb r hsp => ?_⟩
  have hl := len _ _ _ _ hsp
  have KX : K.In s.heap := e0.mod.kin.keeps fun b o e => (e0.bs b o e).1
  have lim : s.heap.NoLimit := e0.mod.nolimit.keeps fun b o e => (e0.bs b o e).1
  obtain ⟨cl, cld, v0, csl, lkl⟩ := hcell
  have hloc : ∀ y ∈ ps.zip us, scope.names.lookup y.1 = some .local := fun ⟨n, v⟩ hy => S.par n (List.of_mem_zip hy).1
  refine ks_codeAny_call_defAt (fd := fnX name qual params body scope [(Str.ofString "__class__", cc)] dV kV doc pm an (.ref cda) ct) hr.depth (KX _ _ lk) rfl lim (codeRec_of KX hcd) rfl hb S.nocell hloc (fun h₀ hns kp => ?_) S.co S.gen S.kind
  obtain ⟨t, ht, hq⟩ := hbody A outer s H vs Q E (hr.deeper _) hsp
  have C : NdefX.CellsAt [(Str.ofString "__class__", cc)] [Str.ofString "__class__"] [none] s.heap H := {
    len := rfl
    all := fun y c e => by
      rw [(one_look.mp e).2]
      exact ⟨(e0.bs _ _ (e0.mod.kin _ _ lkl)).2, _, _, KX _ _ lkl, rfl⟩
    inj := fun x y c e1 e2 => (one_look.mp e1).1.trans (one_look.mp e2).1.symm
    has := fun i y hy => by
      have hi : i < 1 := (List.getElem?_eq_some_iff.mp hy).1
      obtain rfl : i = 0 := by omega
      have hy2 : Str.ofString "__class__" = y := Option.some.inj hy
      subst hy2
      exact ⟨cc, one_look.mpr ⟨rfl, rfl⟩, fun v hv => by
        have := Option.some.inj hv
        cases this⟩ }
  have I : Inv (NdefX.ncx CX P w K mg base N ⟨name, qual, params, body, scope, [(Str.ofString "__class__", cc)], cda⟩ f A outer s H E) [] (NdefX.startF N vs [none]) H { s with heap := h₀, toks := s.toks + (ps.zip us).length } := NdefX.inv_startN S hr.hd e0 hl r C hns kp
  refine ks_wpAt_mono (ht [] _ (NdefX.startF N vs [none]) H _ I hq) (fun fl s' hs => ?_) fun e s' hs => hs
  have fin : ∀ {σ' : L2.St} {H' : Hp} {v : V} {u : Value}, Inv (NdefX.ncx CX P w K mg base N ⟨name, qual, params, body, scope, [(Str.ofString "__class__", cc)], cda⟩ f A outer s H E) [] σ' H' s' → L2.RelV v u → Q v H' → CE outer P w H s Q u s' :=
    fun {σ' H' v u} J rv q => ⟨v, H', J.os, J.bare, J.base, J.hok, rv, q⟩
  cases fl with
  | ret u =>
    obtain ⟨v, σ', H', J, rv, q⟩ := hs
    exact fin J rv q
  | next =>
    obtain ⟨σ', H', J, q⟩ := hs
    exact fin (v := V.non) (u := Value.none) J rfl q
  | brk =>
    obtain ⟨_, _, _, q⟩ := hs
    exact False.elim q
  | cont =>
    obtain ⟨_, _, _, q⟩ := hs
    exact False.elim q
end


/-! ### an own error class with an own __init__ that begins with super().__init__(..) -/
section
open PySem PySem.W PySem.Spec PyProof.Rows L2
structure XiC (K : PySem.W.Frag) (mg : Str → Option Value) (x : Str) (C : Addr) : Prop where
  g : mg x = some (.ref C)
  o : OexC K C
  s : PySem.W.subIn K (.ref C) (.ref C) = some true
  is : ExcC K C
theorem XiC.self {K : PySem.W.Frag} {mg : Str → Option Value} {x : Str} {C : Addr} (T : XiC K mg x C) : PySem.W.exmOne K (.ref C) (.ref C) = some true := PySem.W.exm_ref T.is.hs T.is.hd T.o.tyC T.s
theorem XiC.xf {K : PySem.W.Frag} {mg : Str → Option Value} {x : Str} {C : Addr} (T : XiC K mg x C) : XfC K C := ⟨T.is.hg, T.is.hk, T.is.hs, T.is.hd⟩
def oexB (K : PySem.W.Frag) (C : Addr) : Bool := match K.lookup C with
  | some ⟨.type "type", _, .cls cd, sl⟩ => (match cd.mro, sl.toList with
    | .ref C' :: bm, [_, _, _, _, some (.builtin n), _] => C' == C && n == "ValueError.__new__" && !cd.hasDel && cd.hasDict && PySem.HandSPX.refsVE bm
    | _, _ => false)
  | _ => false
theorem oexB_ok {K : PySem.W.Frag} {C : Addr} (q : oexB K C = true) : ∃ nm q N bs bm sn sub ab col dd k0 k1 k2 k3 k5, K.lookup C = some (excClassObj nm q C N bs bm true sn sub ab col dd k0 k1 k2 k3 k5 "ValueError.__new__") ∧ PySem.HandSPX.refsVE bm = true := by
  unfold oexB at q
  split at q
  · rename_i dd cd sl ho
    split at q
    · rename_i C' bm k0 k1 k2 k3 n k5 hm hs
      simp only [Bool.and_eq_true, beq_iff_eq, Bool.not_eq_true'] at q
      obtain ⟨⟨⟨⟨rfl, rfl⟩, hdel⟩, hdct⟩, ht⟩ := q
      obtain ⟨nm, bs, mro, ns, qn, hd, sn, sub, ab, col, del⟩ := cd
      dsimp only at hm hdel hdct
      subst hm hdel hdct
      have hsl : sl = #[k0, k1, k2, k3, some (.builtin "ValueError.__new__"), k5] := by
        obtain ⟨l⟩ := sl
        simp only at hs
        rw [hs]
      subst hsl
      exact ⟨nm, qn, ns, bs, bm, sn, sub, ab, col, dd, k0, k1, k2, k3, k5, ho, ht⟩
    · cases q
  · cases q
def supB (K : PySem.W.Frag) (prog : Program) (C cc cda : Addr) : Bool :=
  (match K.lookup cda with
  | some ⟨_, _, .fields vs, _⟩ => (match (vs[2]? : Option Value) with | some (.str file _) => prog.main.file == file | _ => false)
  | _ => false) && (match K.lookup cc with
  | some ⟨_, _, .cell (some (.ref C')), _⟩ => C' == C
  | _ => false) && !(prog.main.scope.names.lookup (Str.ofString "super")).isSome
theorem supB_ok {K : PySem.W.Frag} {prog : Program} {C cc cda : Addr} (h : supB K prog C cc cda = true) : (∃ ccl cdd vs ccs file tf, K.lookup cda = some ⟨ccl, cdd, .fields vs, ccs⟩ ∧ vs[2]? = some (.str file tf) ∧ (prog.main.file == file) = true) ∧
    (∃ cl cld csl, K.lookup cc = some ⟨cl, cld, .cell (some (.ref C)), csl⟩) ∧ (prog.main.scope.names.lookup (Str.ofString "super")).isSome = false := by
  unfold supB at h
  simp only [Bool.and_eq_true, Bool.not_eq_true'] at h
  obtain ⟨⟨h1, h2⟩, h3⟩ := h
  refine ⟨?_, ?_, h3⟩
  · split at h1
    · rename_i a b vs c ho
      split at h1
      · rename_i file tf hf
        exact ⟨_, _, _, _, _, _, ho, hf, h1⟩
      · cases h1
    · cases h1
  · split at h2
    · rename_i a b C' c ho
      rw [beq_iff_eq] at h2
      subst h2
      exact ⟨_, _, _, ho⟩
    · cases h2
/-- the def __init__ of such a class -/
structure FunX (K : PySem.W.Frag) (prog : Program) (qual : Str) (st : Stmt) (C f : Addr) (fd : FuncData) : Prop where
  ex : ∃ (oc : Value) (od : Option Addr) (kV doc pm : Value) (an : Option Addr) (cc cda : Addr) (ct : Value) (osl : Array (Option Value)),
    fd = PySem.W.fnX "__init__" qual (defArgs st) (defBody st) (defScope st) [(Str.ofString "__class__", cc)] .none kV doc pm an (.ref cda) ct ∧ K.lookup f = some ⟨oc, od, .func fd, osl⟩ ∧ PySem.W.codeIn K (.ref cda) qual = true ∧ SupK K prog C f cc cda
  iC : PySem.W.findIn K (.ref C) "__init__" = some (some (.ref f))
  tI : PySem.W.typeIn K (.ref f) = some (.type "function")
  top : (prog.main.scope.names.lookup (Str.ofString "super")).isSome = false
theorem funX_mk {K : PySem.W.Frag} {prog : Program} {qual : Str} {st : Stmt} {C f cc cda : Addr} {oc : Value} {od an : Option Addr} {osl : Array (Option Value)} {kV doc pm ct : Value} {ar : Arg}
    (l : K.lookup f = some ⟨oc, od, .func (PySem.W.fnX "__init__" qual (defArgs st) (defBody st) (defScope st) [(Str.ofString "__class__", cc)] .none kV doc pm an (.ref cda) ct), osl⟩)
    (c : PySem.W.codeIn K (.ref cda) qual = true) (i : PySem.W.findIn K (.ref C) "__init__" = some (some (.ref f))) (t : PySem.W.typeIn K (.ref f) = some (.type "function")) (b : supB K prog C cc cda = true)
    (hi : PySem.W.ks_superIn K C C "__init__" = some (some (.builtin "ValueError.__init__"))) (tp : PySem.W.nsIn K cStatics "thirdparty.any" = some none) (hm : PySem.W.mroIn K C (.ref C) = some true) (ve : PySem.W.subIn K (.ref C) (.type "ValueError") = some true)
    (h1 : ((defArgs st).posonlyargs ++ (defArgs st).args).head? = some ar) (h2 : ar.arg = Str.ofString "self") : FunX K prog qual st C f (PySem.W.fnX "__init__" qual (defArgs st) (defBody st) (defScope st) [(Str.ofString "__class__", cc)] .none kV doc pm an (.ref cda) ct) := by
  obtain ⟨b1, b2, b3⟩ := supB_ok b
  exact ⟨⟨oc, od, kV, doc, pm, an, cc, cda, ct, osl, rfl, l, c, ⟨⟨oc, od, _, osl, ar, l, h1, h2⟩, b1, b2, hi, tp, hm, ve⟩⟩, i, t, b3⟩
/-- what such an __init__ leaves: one field, its argument -/
def spExI (C : Addr) (f : Str) : Sp := fun vs H Q _ => ∃ (a : Addr) (n : Int), vs = [.ref a, .int n] ∧ H a = some (exo a C none) ∧ n.natAbs.log2 < 1920 ∧ ∀ H1, Evl.Ex H H1 → ∀ dx, H1 dx = none → dx ≠ a → Q .non (upd (upd H1 dx (exd dx [(f, .int n)])) a (exo a C (some dx)))
/-- isinstance(e, c), e held by the suite, with or without fields -/
theorem call_isEi {X : Cx} {a D : Addr} {oe : Obj} {d : Option Addr} {pn : List (Addr × Obj)} (C : ExcC X.K D) (hz : Zc (.ref D) d oe) (hf : ∃ vs, oe.data = .fields vs) :
    CallR (X.suite a ((a, oe) :: pn)) (.builtin "isinstance") (fun xs H Q => (∀ dd, d = some dd → ∃ fs, H dd = some (.xd fs)) ∧ rIsE X.K D a xs H Q) := by
  intro pins s σ H xs us Q I r h
  obtain ⟨hx, c, cv, b, rfl, hcv, e, q⟩ := h
  cases r with
  | cons rx rr =>
    cases rr with
    | cons rt rr =>
      cases rr
      cases rx
      have ec := hcv _ rt
      subst ec
      obtain ⟨hget, _⟩ := I.pin (a, oe) (List.mem_append.mpr (.inl List.mem_cons_self))
      obtain ⟨vs, hv⟩ := hf
      have J : ∃ od, PySem.W.InstAt s.heap a oe D od := by
        obtain ⟨oc, od, oda, osl⟩ := oe
        obtain ⟨h1, h2⟩ := hz
        dsimp only at h1 h2 hv
        subst h1 h2 hv
        cases od with
        | none => exact ⟨none, hget, rfl, rfl, trivial⟩
        | some dd =>
          obtain ⟨fs, ea⟩ := hx dd rfl
          have hx : ObjOk X.prog X.w H s.heap dd (.xd fs) := I.hok dd _ ea
          obtain ⟨mA, hns, hr⟩ := hx
          obtain ⟨od, ho, hl⟩ := lookIn_ns hns
          exact ⟨some od, hget, rfl, rfl, ho⟩
      obtain ⟨od, J⟩ := J
      have hcl : (PySem.W.clsIn X.K D).isSome = true := by
        obtain ⟨cd, hc, _⟩ := PySem.W.any_some C.hd
        rw [hc] <;> rfl
      exact PySem.W.kia_one (PySem.W.kitx_exc hcl C.hg C.hk C.hs C.ha C.hn C.ht C.hm) I.kIn J e (fun z => nomatch z) fun tk => ⟨.bl b, H, I.kept (t' := tk) fun _ _ z => z, rfl, q⟩
theorem ev_isEi {K : PySem.W.Frag} {D a : Addr} {σ : L2.St} {H : Hp} {te : TE} {d : Option Addr} {c : V} {cv : Value} {b : Bool} (h : Evl.Ev te σ H (.ref a)) (hx : ∀ dd, d = some dd → ∃ fs, H dd = some (.xd fs)) (hc : ∀ u, RelV c u → u = cv) (hk : PySem.W.kitOne K (.ref D) cv = some b) :
    Evl.Ev (tCB (fun xs H Q => (∀ dd, d = some dd → ∃ fs, H dd = some (.xd fs)) ∧ rIsE K D a xs H Q) (tCons te (tCons (tC c) tNil))) σ H (.bl b) := fun H1 e Q q =>
  h H1 e _ fun H2 e2 => ⟨fun dd z => by
    obtain ⟨fs, ea⟩ := hx dd z
    exact ⟨fs, (e.trans e2) _ _ ea⟩, c, cv, b, rfl, hc, hk, q H2 e2⟩
/-- e.f of the caught exception -/
theorem ev_xf {a C dd : Addr} {cls : Value} {d : Option Addr} {f : Str} {te : TE} {σ : L2.St} {H : Hp} {fs : List (Str × V)} {v : V} (h : Evl.Ev te σ H (.ref a)) (hc : cls = .ref C) (hd : d = some dd) (hx : H dd = some (.xd fs)) (hf : fs.lookup f = some v) : Evl.Ev (tXf a cls d C f te) σ H v := fun H1 e Q q =>
  h H1 e _ fun H2 e2 => ⟨rfl, hc, dd, fs, v, hd, (e.trans e2) _ _ hx, hf, q H2 e2⟩
end
section
open PySem PySem.W PySem.Spec PyProof.Rows L2
/-- C(e, ..), C's own __init__ keeping sp: what is made has no context yet -/
theorem pmkN_oex {X : Cx} {CX : CXT} {x : Str} {e : Expr} {es : List Expr} {ta : TA} {p pos : Pos} {C fI : Addr} {k : Nat} {fd : FuncData} {ps : List Str} {sp : Sp} (T : OexC X.K C) (iC : PySem.W.findIn X.K (.ref C) "__init__" = some (some (.ref fI))) (tI : PySem.W.typeIn X.K (.ref fI) = some (.type "function"))
    (F1 : FnOk X.prog X.w X.K X.mg X.base CX k fI fd ps sp) (hr : Room (k + 1) X.A) (hb : Binds X.K fd ps []) (hx : Passes CX X (fun _ _ _ => False)) (hg : Gl X x) (hm : X.mg x = some (.ref C)) (ha : PA X (e :: es) ta)
    (hdb : (x == ("__debug__" : Str)) = false := by decide) (he : starEach (e :: es) X.env = (false, eval e X.env) :: starEach es X.env := by rfl) (hpl : (backTo pos (starEach es X.env)).any (·.1) = false := by rfl) :
    L2N.PMk X (.Call (.Name x p) (e :: es) [] pos) (tMkO C sp [] ta) := by
  intro pins s σ H Q I h
  obtain ⟨nm, q, N, bs, bm, sn, sub, ab, col, dd, k0, k1, k2, k3, k5, hC, hbm⟩ := T.cls
  refine wpAny_Call_Name_kw (ld_glob I hg hm ?_ hdb)
  refine PySem.W.callWith_K (h₀ := X.base) I.ok.mod.kin T.kC (thn (ha.run pos pins s σ H _ I h) fun us s1 ⟨vs, H1, I1, r1, hz, q1⟩ => ⟨I1.kIn, ?_⟩) he hpl
  show wpAny _ _ (call (.ref C) us) _ _ _
  obtain ⟨hp, g, dr, tk, os⟩ := s1
  have hsz : hp.objs.size ≤ hp.objs.size + 1 := Nat.le_succ _
  have hn : H1 (hp.objs.size + 1) = none := I1.hok.fresh hsz
  have hq := q1 (hp.objs.size + 1) hn
  have kk : ∀ b o, hp.get? b = some o → ((hp.push (PySem.W.kdv_tup us)).push (PySem.HandSPX.excO C hp.objs.size)).get? b = some o := fun b o e => Heap.get?_push_of_some _ (Heap.get?_push_of_some _ e)
  have hget : ((hp.push (PySem.W.kdv_tup us)).push (PySem.HandSPX.excO C hp.objs.size)).get? (hp.objs.size + 1) = some (PySem.HandSPX.excO C hp.objs.size) := by heap_get
  have I2 : Inv X pins σ (upd H1 (hp.objs.size + 1) (exo (hp.objs.size + 1) C none)) ⟨(hp.push (PySem.W.kdv_tup us)).push (PySem.HandSPX.excO C hp.objs.size), g, dr, tk, os⟩ :=
    I1.laid (t' := tk) (a := hp.objs.size + 1) (o := exo (hp.objs.size + 1) C none) (h' := (hp.push (PySem.W.kdv_tup us)).push (PySem.HandSPX.excO C hp.objs.size)) kk hsz (exo_ok hget)
  have r2 : Vals (V.ref (hp.objs.size + 1) :: (vs ++ [])) (Value.ref (hp.objs.size + 1) :: (us ++ [])) := .cons rfl (r1.append .nil)
  have b2 := hb _ (Value.ref (hp.objs.size + 1) :: us) I2.kIn (by have e := r2.length; rw [F1.len _ _ _ _ hq] at e; exact e.symm)
  rw [List.append_nil] at b2 r2 hq
  rw [List.append_nil] at r2
  have hus : us.length ≤ sizeLine := by
    rw [← Paired.length r1, sizeLine_eq]
    omega
  refine wpAny_call (PySem.HandSPX.call_own F.excBase_ValueError (fun Y => PySem.HandSPX.refsVE_contains Y bm hbm) (I1.kIn _ _ hC) (PySem.W.looks_findIn I1.kIn iC) (fun self => PySem.W.bind_fn I1.kIn self tI) hus
    (codeAny_mono (F1.run _ X.stack _ _ ⟨Value.ref (hp.objs.size + 1) :: us, []⟩ (Value.ref (hp.objs.size + 1) :: us) _ _ (fun _ _ _ => False) (hr.make C us []) (I2.env0.make C us []) b2 r2 hq) fun r s' hq' => ?_))
  cases r with
  | error er => exact hx pins σ _ _ er s' I2 hq'
  | ok fl =>
    cases fl with
    | ret u =>
      obtain ⟨v, H2, os2, bare2, un2, hok2, rv, ev, d, fs, ea, ed, hd1, q2⟩ := hq'
      subst ev
      obtain ⟨h2, g2, d2, t2, os'⟩ := s'
      obtain ⟨t0, G, J, kG, ge, hoe, na⟩ := mk_end0 (d2 := d2) (t2 := t2) I1 hsz kk un2 hok2 os2 bare2 ea ed hd1
      refine ⟨rv, hp.objs.size + 1, _, _, ⟨G, g2, d2, t2, os'⟩, _, .ref C, some d, rfl, J, kG, ge, hoe, ⟨rfl, rfl, fun vs hv => ?_⟩, rfl, rfl, na, rfl, bare2, raises_own T.exC T.tyC, q2⟩
      cases hv
      rfl
    | next => exact False.elim hq'
    | brk => exact False.elim hq'
    | cont => exact False.elim hq'
/-- what a suite holds, for calls within it -/
theorem hotS {X : Cx} {a : Addr} {oe : Obj} {cls : Value} {d : Option Addr} {pn : List (Addr × Obj)} (hz : L2N.Zn cls d oe) (hf : ∃ vs, oe.data = .fields vs) : L2H.HotC (X.suite a ((a, oe) :: pn)) := by
  obtain ⟨vs, hv⟩ := hf
  exact ⟨(a, oe), ⟨rfl, vs, hv, hz.2.2 vs hv⟩, List.mem_cons_self⟩
theorem zc1 {cls : Value} {d : Option Addr} {C : Addr} {oe : Obj} (p : cls = .ref C) (h : L2N.Zn cls d oe) : Zc (.ref C) d oe := by
  subst p
  exact ⟨h.1, h.2.1⟩
theorem takes0N {X : Cx} : L2N.Takes X (fun _ _ _ _ => False) := fun _ _ x => by
  obtain ⟨_, _, _, _, _, _, _, _, _, _, _, _, _, _, _, _, z⟩ := x
  exact z.elim
theorem roomS {k : Nat} {A : Around} (r : Room k A) (h : Option Value) : L2H.RoomH k (A.mark h) := ⟨r.dp, r.un⟩
theorem pass0H {X : Cx} : ∀ σ : L2.St, PassesAt CX0 X σ E0 := fun _ _ _ _ _ _ _ h => h.elim
/-- a def that is called while an exception is handled -/
theorem okH {P : Program} {w : World} {K : PySem.W.Frag} {mg : Str → Option Value} {base : Heap} {x qual : Str} {st : Stmt} {f : Addr} {fd : FuncData} {N ps : List Str} {k : Nat} {sp : Sp} (F : Fun K x qual st f fd) (S : FnScope N ps (defScope st)) (len : ∀ vs H Q E, sp vs H Q E → vs.length = ps.length)
    (hb : ∀ (cdv : Value) (A : Around) (outer : List Env) (s : Shared) (H : Hp) (vs : List V) (Q : VK) (E : XK) (p : Addr × Obj), L2H.RoomH k (A.deeper (envOfC qual (defScope st) s.heap.objs.size f cdv)) → sp vs H Q E →
      ∃ t, PSs (L2H.cxH CX0 P w K mg base N qual (defScope st) f cdv A outer s H E p) (defBody st) t ∧ t { nx := fun _ H' => Q .non H', rt := Q } (start N vs) H) : L2H.FnH P w K mg base CX0 (k + 1) f fd ps sp := by
  obtain ⟨oc, od, kV, doc, pm, an, cdv, ct, osl, rfl, lk, hcd⟩ := F.ex
  exact L2H.fn_ofH lk hcd S len fun A outer s H vs Q E p hot hr h => hb cdv A outer s H vs Q E p hr h
end


/-! ### many own error classes -/
section
open PySem PySem.W PySem.Spec PyProof.Rows L2
def excCB (K : PySem.W.Frag) (D : Addr) : Bool :=
  decide (findIn K (.ref D) "__getattribute__" = some (some (.builtin "BaseException.__getattribute__"))) && decide (findIn K (.ref D) "__getattr__" = some none) && decide (subIn K (.ref D) (.type "BaseException") = some true) && hasDictIn K D &&
  decide (findIn K (.ref D) "__class__" = some (some (.builtin "object.__class__"))) && decide (specialIn K (.builtin "object.__class__") "__get__" = some (some (.builtin "getset_descriptor.__get__"))) && decide (takesIn K (.builtin "object.__class__") = some true) && decide (mroIn K D (.type "object") = some true)
theorem excCB_ok {K : PySem.W.Frag} {D : Addr} (h : excCB K D = true) : ExcC K D := by
  unfold excCB at h
  simp only [Bool.and_eq_true, decide_eq_true_eq] at h
  obtain ⟨⟨⟨⟨⟨⟨⟨h1, h2⟩, h3⟩, h4⟩, h5⟩, h6⟩, h7⟩, h8⟩ := h
  exact ⟨h1, h2, h3, h4, h5, h6, h7, h8⟩
def excB (K : PySem.W.Frag) (C : Addr) : Bool :=
  excIn K C [.type "ValueError", .type "Exception", .type "BaseException", .type "object"] "ValueError.__new__" && keepIn K (.ref C) && decide (subIn K (.ref C) (.type "BaseException") = some true) && decide (typeIn K (.ref C) = some (.type "type")) && decide (subIn K (.ref C) (.ref C) = some true) && excCB K C
theorem excB_ok {K : PySem.W.Frag} {mg : Str → Option Value} {x : Str} {C : Addr} (g : mg x = some (.ref C)) (h : excB K C = true) : XcC K mg x C := by
  unfold excB at h
  simp only [Bool.and_eq_true, decide_eq_true_eq] at h
  obtain ⟨⟨⟨⟨⟨h1, h2⟩, h3⟩, h4⟩, h5⟩, h6⟩ := h
  exact ⟨g, h1, h2, h3, h4, h5, excCB_ok h6⟩
/-- the classes by their numbers -/
structure ExcTab (K : PySem.W.Frag) (CV : Addr) (n : Nat) (cs : Nat → Addr) : Prop where
  is : ∀ i, i < n → ExcC K (cs i)
  ve : ∀ i, i < n → kitOne K (.ref (cs i)) (.type "ValueError") = some true
  ex : ∀ i, i < n → exmOne K (.ref (cs i)) (.ref CV) = some true
  kit : ∀ i j, i < n → j < n → kitOne K (.ref (cs i)) (.ref (cs j)) = some (decide (i = j))
def excTabB (K : PySem.W.Frag) (CV : Addr) (l : List Addr) : Bool :=
  l.all (fun C => excCB K C && decide (kitOne K (.ref C) (.type "ValueError") = some true) && decide (exmOne K (.ref C) (.ref CV) = some true)) &&
  (List.range l.length).all fun i => (List.range l.length).all fun j => decide (kitOne K (.ref (l.getD i 0)) (.ref (l.getD j 0)) = some (decide (i = j)))
theorem excTabB_ok {K : PySem.W.Frag} {CV : Addr} {l : List Addr} (h : excTabB K CV l = true) : ExcTab K CV l.length fun i => l.getD i 0 := by
  unfold excTabB at h
  simp only [Bool.and_eq_true, List.all_eq_true, decide_eq_true_eq] at h
  obtain ⟨h1, h2⟩ := h
  have m : ∀ i, i < l.length → l.getD i 0 ∈ l := fun i hi => by
    rw [List.getD_eq_getElem?_getD, List.getElem?_eq_getElem hi]
    exact List.getElem_mem hi
  exact ⟨fun i hi => excCB_ok (h1 _ (m i hi)).1.1, fun i hi => (h1 _ (m i hi)).1.2, fun i hi => (h1 _ (m i hi)).2, fun i j hi hj => h2 i (List.mem_range.mpr hi) j (List.mem_range.mpr hj)⟩
end

structure Txt (K : PySem.W.Frag) (mg : Str → Option Value) (P : Program) where
  C_MissingChunk : Addr
  e_MissingChunk : XiC K mg "MissingChunk" C_MissingChunk
  kv_MissingChunk : PySem.W.kitOne K (.ref C_MissingChunk) (.type "ValueError") = some true
  f_MissingChunk___init : Addr
  d_MissingChunk___init : FuncData
  F_MissingChunk___init : FunX K P "MissingChunk.__init__" s_MissingChunk___init C_MissingChunk f_MissingChunk___init d_MissingChunk___init
  b_MissingChunk___init : Binds K d_MissingChunk___init ["self", "address"] []
  na_MissingChunk_address : PySem.W.findIn K (.ref C_MissingChunk) "address" = some none
  C_SyntaxFault : Addr
  e_SyntaxFault : XiC K mg "SyntaxFault" C_SyntaxFault
  kv_SyntaxFault : PySem.W.kitOne K (.ref C_SyntaxFault) (.type "ValueError") = some true
  f_SyntaxFault___init : Addr
  d_SyntaxFault___init : FuncData
  F_SyntaxFault___init : FunX K P "SyntaxFault.__init__" s_SyntaxFault___init C_SyntaxFault f_SyntaxFault___init d_SyntaxFault___init
  b_SyntaxFault___init : Binds K d_SyntaxFault___init ["self", "column"] []
  na_SyntaxFault_column : PySem.W.findIn K (.ref C_SyntaxFault) "column" = some none
  C_InvalidText : Addr
  e_InvalidText : XcC K mg "InvalidText" C_InvalidText
  C_TornText : Addr
  e_TornText : XcC K mg "TornText" C_TornText
  C_InvalidForm : Addr
  e_InvalidForm : XcC K mg "InvalidForm" C_InvalidForm
  C_InvalidRow : Addr
  e_InvalidRow : XcC K mg "InvalidRow" C_InvalidRow
  C_DuplicateKey : Addr
  e_DuplicateKey : XcC K mg "DuplicateKey" C_DuplicateKey
  C_UnknownTable : Addr
  e_UnknownTable : XcC K mg "UnknownTable" C_UnknownTable
  C_DuplicateTable : Addr
  e_DuplicateTable : XcC K mg "DuplicateTable" C_DuplicateTable
  C_KeyChanged : Addr
  e_KeyChanged : XcC K mg "KeyChanged" C_KeyChanged
  C_PatchMismatch : Addr
  e_PatchMismatch : XcC K mg "PatchMismatch" C_PatchMismatch
  C_InvalidVersion : Addr
  e_InvalidVersion : XcC K mg "InvalidVersion" C_InvalidVersion
  C_UnknownVersion : Addr
  e_UnknownVersion : XcC K mg "UnknownVersion" C_UnknownVersion
  C_InvalidQuery : Addr
  e_InvalidQuery : XcC K mg "InvalidQuery" C_InvalidQuery
  C_InvalidName : Addr
  e_InvalidName : XcC K mg "InvalidName" C_InvalidName
  C_DuplicateName : Addr
  e_DuplicateName : XcC K mg "DuplicateName" C_DuplicateName
  C_UnknownName : Addr
  e_UnknownName : XcC K mg "UnknownName" C_UnknownName
  C_HeadBranch : Addr
  e_HeadBranch : XcC K mg "HeadBranch" C_HeadBranch
  C_NotClean : Addr
  e_NotClean : XcC K mg "NotClean" C_NotClean
  C_NothingToCommit : Addr
  e_NothingToCommit : XcC K mg "NothingToCommit" C_NothingToCommit
  C_Unsound : Addr
  e_Unsound : XcC K mg "Unsound" C_Unsound
  C_UnresolvedConflicts : Addr
  e_UnresolvedConflicts : XcC K mg "UnresolvedConflicts" C_UnresolvedConflicts
  C_NotMerging : Addr
  e_NotMerging : XcC K mg "NotMerging" C_NotMerging
  C_UnknownConflict : Addr
  e_UnknownConflict : XcC K mg "UnknownConflict" C_UnknownConflict
  C_NotPickable : Addr
  e_NotPickable : XcC K mg "NotPickable" C_NotPickable
  C_PickConflict : Addr
  e_PickConflict : XcC K mg "PickConflict" C_PickConflict
  C_MissingRow : Addr
  e_MissingRow : XcC K mg "MissingRow" C_MissingRow
  C_NoPath : Addr
  e_NoPath : XcC K mg "NoPath" C_NoPath
  C_NotBroken : Addr
  e_NotBroken : XcC K mg "NotBroken" C_NotBroken
  C_PowerLost : Addr
  e_PowerLost : XcC K mg "PowerLost" C_PowerLost
  C_VersionError : Addr
  g_VersionError : mg "VersionError" = some (.ref C_VersionError)
  tabs : excTabB K C_VersionError [C_InvalidText, C_TornText, C_InvalidForm, C_InvalidRow, C_DuplicateKey, C_MissingChunk, C_UnknownTable, C_DuplicateTable, C_KeyChanged, C_PatchMismatch, C_InvalidVersion, C_UnknownVersion, C_SyntaxFault, C_InvalidQuery, C_InvalidName, C_DuplicateName, C_UnknownName, C_HeadBranch, C_NotClean, C_NothingToCommit, C_Unsound, C_UnresolvedConflicts, C_NotMerging, C_UnknownConflict, C_NotPickable, C_PickConflict, C_MissingRow, C_NoPath, C_NotBroken, C_PowerLost] = true
  f_law_raise_first : Addr
  d_law_raise_first : FuncData
  F_law_raise_first : Fun K "_law_raise_first" "_law_raise_first" s_law_raise_first f_law_raise_first d_law_raise_first
  b_law_raise_first : Binds K d_law_raise_first ["which", "text", "number"] []
  g_law_raise_first : mg "_law_raise_first" = some (.ref f_law_raise_first)
  f_law_raise : Addr
  d_law_raise : FuncData
  F_law_raise : Fun K "_law_raise" "_law_raise" s_law_raise f_law_raise d_law_raise
  b_law_raise : Binds K d_law_raise ["which", "text", "number"] []
  g_law_raise : mg "_law_raise" = some (.ref f_law_raise)
  f_law_address : Addr
  d_law_address : FuncData
  F_law_address : Fun K "_law_address" "_law_address" s_law_address f_law_address d_law_address
  b_law_address : Binds K d_law_address ["number"] []
  g_law_address : mg "_law_address" = some (.ref f_law_address)
  f_law_cell : Addr
  d_law_cell : FuncData
  F_law_cell : Fun K "_law_cell" "_law_cell" s_law_cell f_law_cell d_law_cell
  b_law_cell : Binds K d_law_cell ["script", "k"] []
  g_law_cell : mg "_law_cell" = some (.ref f_law_cell)
  f_law_column : Addr
  d_law_column : FuncData
  F_law_column : Fun K "_law_column" "_law_column" s_law_column f_law_column d_law_column
  b_law_column : Binds K d_law_column ["number"] []
  g_law_column : mg "_law_column" = some (.ref f_law_column)
  f_law_is : Addr
  d_law_is : FuncData
  F_law_is : Fun K "_law_is" "_law_is" s_law_is f_law_is d_law_is
  b_law_is : Binds K d_law_is ["actual", "expected"] []
  g_law_is : mg "_law_is" = some (.ref f_law_is)
  f_law_numbers : Addr
  d_law_numbers : FuncData
  F_law_numbers : Fun K "_law_numbers" "_law_numbers" s_law_numbers f_law_numbers d_law_numbers
  b_law_numbers : Binds K d_law_numbers ["cell", "count"] []
  g_law_numbers : mg "_law_numbers" = some (.ref f_law_numbers)
  f_law_text : Addr
  d_law_text : FuncData
  F_law_text : Fun K "_law_text" "_law_text" s_law_text f_law_text d_law_text
  b_law_text : Binds K d_law_text ["a", "b"] []
  g_law_text : mg "_law_text" = some (.ref f_law_text)
  f_law_kinds : Addr
  d_law_kinds : FuncData
  F_law_kinds : Fun K "_law_kinds" "_law_kinds" s_law_kinds f_law_kinds d_law_kinds
  b_law_kinds : Binds K d_law_kinds ["which", "text", "number"] []
  g_law_kinds : mg "_law_kinds" = some (.ref f_law_kinds)
  f_law : Addr
  d_law : FuncData
  F_law : Fun K "law" "law" s_law f_law d_law
  b_law : Binds K d_law ["script"] []
  g_law : mg "law" = some (.ref f_law)
  m_ValueError : mg "ValueError" = none
  m_bool : mg "bool" = none
  m_int : mg "int" = none
  m_isinstance : mg "isinstance" = none
  m_len : mg "len" = none
  m_range : mg "range" = none
  m_super : mg "super" = none

section
variable {K : PySem.W.Frag} {mg : Str → Option Value} {P : Program}
def Txt.cs (T : Txt K mg P) (i : Nat) : Addr := [T.C_InvalidText, T.C_TornText, T.C_InvalidForm, T.C_InvalidRow, T.C_DuplicateKey, T.C_MissingChunk, T.C_UnknownTable, T.C_DuplicateTable, T.C_KeyChanged, T.C_PatchMismatch, T.C_InvalidVersion, T.C_UnknownVersion, T.C_SyntaxFault, T.C_InvalidQuery, T.C_InvalidName, T.C_DuplicateName, T.C_UnknownName, T.C_HeadBranch, T.C_NotClean, T.C_NothingToCommit, T.C_Unsound, T.C_UnresolvedConflicts, T.C_NotMerging, T.C_UnknownConflict, T.C_NotPickable, T.C_PickConflict, T.C_MissingRow, T.C_NoPath, T.C_NotBroken, T.C_PowerLost].getD i 0
theorem Txt.tab (T : Txt K mg P) : ExcTab K T.C_VersionError 30 T.cs := excTabB_ok T.tabs
end

/-! ### sizes of ints -/
/-- an int of at most some million bits -/
structure Wd (n : Int) : Prop where
  h : n.natAbs.log2 < 1100000
theorem log2_mono {a b : Nat} (h : a ≤ b) : a.log2 ≤ b.log2 := by
  by_cases ha : a = 0
  · subst ha
    exact Nat.le_trans (Nat.le_of_eq (by decide)) (Nat.zero_le _)
  · refine Nat.lt_succ_iff.mp ((Nat.log2_lt ha).mpr (Nat.lt_of_le_of_lt h Nat.lt_log2_self))
theorem Wd.le {n m : Int} (h : Wd n) (e : m.natAbs ≤ n.natAbs) : Wd m := ⟨Nat.lt_of_le_of_lt (log2_mono e) h.h⟩
theorem Wd.lt {n : Int} (h : n.natAbs < 2 ^ 9000) : Wd n := ⟨Nat.lt_trans (PySem.Flt.log2_lt_of (by decide) h) (by decide)⟩
theorem Wd.lit {n : Int} (h : n.natAbs < 2 ^ 256) : Wd n := ⟨Nat.lt_trans (PySem.Flt.log2_lt_of (by decide) h) (by decide)⟩
theorem Wd.bits {n : Int} (h : Builtin.Int.intBits n ≤ 1048576) : Wd n := by
  unfold Builtin.Int.intBits at h
  by_cases e : n = 0
  · subst e
    exact Wd.lit (by decide)
  · rw [if_neg (by simpa using e)] at h
    exact ⟨by omega⟩
theorem Wd.small {n : Int} (h1 : -(2 ^ 64) < n) (h2 : n < 2 ^ 64) : Wd n := Wd.lit (by
  have : n.natAbs < 2 ^ 64 := by omega
  exact Nat.lt_of_lt_of_le this (by decide))
theorem Wd.div {n b : Int} (h : Wd n) : Wd (n / b) := h.le (Int.natAbs_ediv_le_natAbs n b)
theorem Wd.mod {n b : Int} (hb : 0 < b) (h : Wd b) : Wd (n % b) := h.le (by
  have h1 := Int.emod_nonneg n (by omega : b ≠ 0)
  have h2 := Int.emod_lt_of_pos n hb
  omega)
theorem Wd.neg {n : Int} (h : Wd n) : Wd (-n) := h.le (by omega)
theorem bits_log (n : Int) : Builtin.Int.intBits n ≤ n.natAbs.log2 + 1 := by
  unfold Builtin.Int.intBits
  split <;> omega
theorem Wd.mul {i j : Int} (hi : Wd i) (hj : Wd j) : CMulX i j := by
  have a := bits_log i
  have b := bits_log j
  have c := hi.h
  have d := hj.h
  unfold CMulX
  omega
/-- what falls to a comparison of two ints -/
theorem dec_int {i j : Int} : decide (V.int i = V.int j) = decide (i = j) := by
  by_cases h : i = j
  · rw [decide_eq_true h, decide_eq_true (congrArg V.int h)]
  · rw [decide_eq_false h, decide_eq_false fun e => h (V.int.inj e)]
theorem dec_str {i j : Str} : decide (V.str i = V.str j) = decide (i = j) := by
  by_cases h : i = j
  · rw [decide_eq_true h, decide_eq_true (congrArg V.str h)]
  · rw [decide_eq_false h, decide_eq_false fun e => h (V.str.inj e)]
theorem dec_bl {i j : Bool} : decide (V.bl i = V.bl j) = decide (i = j) := by
  by_cases h : i = j
  · rw [decide_eq_true h, decide_eq_true (congrArg V.bl h)]
  · rw [decide_eq_false h, decide_eq_false fun e => h (V.bl.inj e)]
/-- len, tuple of a list or tuple -/
abbrev rLenQ (K : PySem.W.Frag) : List V → Hp → VK → Prop := fun xs H Q => ∃ p ys, xs = [V.ref p] ∧ (SqL K H p ys ∨ SqT K H p ys) ∧ Q (.int ys.length) H
abbrev rTupOf (K : PySem.W.Frag) : List V → Hp → VK → Prop := fun xs H Q => ∃ p ys, xs = [V.ref p] ∧ ((SqL K H p ys ∧ ∀ l, H l = none → Q (.ref l) (upd H l (.tup ys))) ∨ (SqT K H p ys ∧ Q (.ref p) H))
/-! ### more of what evaluates -/
section
variable {K : PySem.W.Frag} {σ : L2.St} {H : Hp} {ta tb te : TE}
theorem ev_eqI {i j : Int} (ha : Ev ta σ H (.int i)) (hb : Ev tb σ H (.int j)) : Ev (tOp rEq ta tb) σ H (.bl (decide (i = j))) := ev_is (ev_op ha hb (rv_eq rfl)) (congrArg V.bl dec_int)
theorem ev_neI {i j : Int} (ha : Ev ta σ H (.int i)) (hb : Ev tb σ H (.int j)) : Ev (tOp rNe ta tb) σ H (.bl (!decide (i = j))) := ev_is (ev_op ha hb (rv_ne rfl)) (congrArg (fun b => V.bl (!b)) dec_int)
theorem ev_eqS {i j : Str} (ha : Ev ta σ H (.str i)) (hb : Ev tb σ H (.str j)) : Ev (tOp rEq ta tb) σ H (.bl (decide (i = j))) := ev_is (ev_op ha hb (rv_eq rfl)) (congrArg V.bl dec_str)
theorem ev_neS {i j : Str} (ha : Ev ta σ H (.str i)) (hb : Ev tb σ H (.str j)) : Ev (tOp rNe ta tb) σ H (.bl (!decide (i = j))) := ev_is (ev_op ha hb (rv_ne rfl)) (congrArg (fun b => V.bl (!b)) dec_str)
theorem ev_eqB {i j : Bool} (ha : Ev ta σ H (.bl i)) (hb : Ev tb σ H (.bl j)) : Ev (tOp rEq ta tb) σ H (.bl (decide (i = j))) := ev_is (ev_op ha hb (rv_eq rfl)) (congrArg V.bl dec_bl)
theorem ev_neB {i j : Bool} (ha : Ev ta σ H (.bl i)) (hb : Ev tb σ H (.bl j)) : Ev (tOp rNe ta tb) σ H (.bl (!decide (i = j))) := ev_is (ev_op ha hb (rv_ne rfl)) (congrArg (fun b => V.bl (!b)) dec_bl)
theorem ev_bin {C : Int → Int → Prop} {g : Int → Int → V} {i j : Int} (ha : Ev ta σ H (.int i)) (hb : Ev tb σ H (.int j)) (hc : C i j) : Ev (tOp (rI C g) ta tb) σ H (g i j) := ev_op ha hb (rv_I hc)
theorem ev_bin0 {g : Int → Int → V} {i j : Int} (ha : Ev ta σ H (.int i)) (hb : Ev tb σ H (.int j)) : Ev (tOp (rI0 g) ta tb) σ H (g i j) := ev_op ha hb rv_I0
theorem ev_intI {i : Int} (h : Ev te σ H (.int i)) : Ev (tCB (fun xs H Q => (∃ i, xs = [V.int i] ∧ Q (.int i) H) ∨ ∃ k, xs = [V.bl k] ∧ Q (.int (if k = true then 1 else 0)) H) (tCons te tNil)) σ H (.int i) := fun H1 e Q q =>
  h H1 e _ fun H2 e2 => .inl ⟨i, rfl, q H2 e2⟩
theorem ev_lenS {z : Str} (h : Ev te σ H (.str z)) (hz : z.length ≤ 100000) : Ev (tCB (fun xs H Q => ∃ z, xs = [V.str z] ∧ z.length ≤ sizeLine ∧ Q (.int z.length) H) (tCons te tNil)) σ H (.int (z.length : Int)) := fun H1 e Q q =>
  h H1 e _ fun H2 e2 => ⟨z, rfl, sz_of hz, q H2 e2⟩
theorem ev_lenQ {p : Addr} {xs : List V} (ha : Ev ta σ H (.ref p)) (h : SqL K H p xs) : Ev (tCB (fun xs H Q => ∃ p ys, xs = [V.ref p] ∧ (SqL K H p ys ∨ SqT K H p ys) ∧ Q (.int ys.length) H) (tCons ta tNil)) σ H (.int (xs.length : Int)) := fun H1 e Q q =>
  ha H1 e _ fun H2 e2 => ⟨p, xs, rfl, Or.inl (ex_l (e.trans e2) h), q H2 e2⟩
theorem ev_lenT {p : Addr} {xs : List V} (ha : Ev ta σ H (.ref p)) (h : SqT K H p xs) : Ev (tCB (fun xs H Q => ∃ p ys, xs = [V.ref p] ∧ (SqL K H p ys ∨ SqT K H p ys) ∧ Q (.int ys.length) H) (tCons ta tNil)) σ H (.int (xs.length : Int)) := fun H1 e Q q =>
  ha H1 e _ fun H2 e2 => ⟨p, xs, rfl, Or.inr (ex_t (e.trans e2) h), q H2 e2⟩
theorem ev_ixL {p : Addr} {xs : List V} {i : Int} {v : V} (ha : Ev ta σ H (.ref p)) (hb : Ev tb σ H (.int i)) (h : SqL K H p xs) (hi : atI xs i = some v) : Ev (tOp (rIxL K) ta tb) σ H v := ev_op ha hb (rv_ixL h hi)
theorem ev_ixT {p : Addr} {xs : List V} {i : Int} {v : V} (ha : Ev ta σ H (.ref p)) (hb : Ev tb σ H (.int i)) (h : SqT K H p xs) (hi : atI xs i = some v) : Ev (tOp (rIxT K) ta tb) σ H v := ev_op ha hb (rv_ixT h hi)
/-- an item of a list that is written there -/
theorem ev_ixN {xs : List V} {i : Int} {v : V} (ha : EvL ta σ H xs) (hb : ∀ H1, Ex H H1 → Ev tb σ H1 (.int i)) (hi : atI xs i = some v) : Ev (tOp (rIxL K) ta tb) σ H v := ev_opL1 ha hb fun p H1 h1 _ => rv_ixL (sq_of h1) hi
theorem ev_ixS {z : Str} {i : Int} {c : Nat} (ha : Ev ta σ H (.str z)) (hb : Ev tb σ H (.int i)) (hz : z.length ≤ 100000) (hi : atI z.cps.toList i = some c) : Ev (tOp rIxS ta tb) σ H (.str ⟨#[c]⟩) := ev_op ha hb (rv_ixS hz hi)
theorem ev_addS {x y : Str} (ha : Ev ta σ H (.str x)) (hb : Ev tb σ H (.str y)) (hz : x.length + y.length ≤ 16777216) : Ev (tOp (fun x y H Q => ∃ i j, x = V.str i ∧ y = V.str j ∧ i.length + j.length ≤ sizeLine ∧ Q (.str (i ++ j)) H) ta tb) σ H (.str (x ++ y)) :=
  ev_op ha hb fun H1 _ Q q => ⟨x, y, rfl, rfl, by rw [sizeLine_eq]; exact hz, q H1 (Ex.refl H1)⟩
theorem ev_neg {i : Int} (h : Ev te σ H (.int i)) : Ev (tUn (rU fun i => .int (-i)) te) σ H (.int (-i)) := ev_un h ru_neg
theorem ev_isN {v : V} (h : Ev te σ H v) : Ev (tOp (fun x y H Q => y = .non ∧ Q (.bl (decide (x = .non))) H) te (tC .non)) σ H (.bl (decide (v = .non))) := fun H1 e Q q => h H1 e _ fun H2 e2 => ⟨rfl, q H2 e2⟩
end
section
variable {σ : L2.St} {H : Hp} {te : TE}
theorem ev_isNt (h : Ev te σ H .non) : Ev (tOp (fun x y H Q => y = .non ∧ Q (.bl (decide (x = .non))) H) te (tC .non)) σ H (.bl true) := ev_is (ev_isN h) (congrArg V.bl (decide_eq_true rfl))
theorem ev_isNf {v : V} (h : Ev te σ H v) (hv : v ≠ .non := by intro z; cases z) : Ev (tOp (fun x y H Q => y = .non ∧ Q (.bl (decide (x = .non))) H) te (tC .non)) σ H (.bl false) := ev_is (ev_isN h) (congrArg V.bl (decide_eq_false hv))
end
theorem at_nat {xs : List V} {j : Nat} {v : V} (h : xs[j]? = some v) : atI xs (j : Int) = some v := atI_nat h
theorem sizeOk {n : Nat} (h : n ≤ 16777216) : n ≤ sizeLine := by rw [sizeLine_eq]; exact h

/-! ### texts, joins, comprehensions -/
theorem str_ext {a b : Str} (h : a.cps.toList = b.cps.toList) : a = b := by
  obtain ⟨a⟩ := a
  obtain ⟨b⟩ := b
  exact congrArg Str.mk (Array.toList_inj.mp h)
/-- the join of one-sign texts -/
theorem join_signs (l : List Nat) : Txt.join (Str.ofString "") (l.map fun c => (⟨#[c]⟩ : Str)) = ⟨l.toArray⟩ := by
  rw [TL.join_eq]
  refine str_ext ?_
  have key : ∀ l : List Nat, TL.joinL [] (l.map fun c => [c]) = l := fun l => by
    induction l with
    | nil => rfl
    | cons a r ih =>
      cases r with
      | nil => rfl
      | cons b r =>
        show [a] ++ ([] ++ TL.joinL [] ((b :: r).map fun c => [c])) = a :: b :: r
        rw [ih] <;> rfl
  have h := TL.tl_join (Str.ofString "") (l.map fun c => (⟨#[c]⟩ : Str))
  have e1 : TL.tl (Str.ofString "") = [] := by decide +kernel
  rw [e1, List.map_map] at h
  exact h.trans (key l)
theorem sum_ones (l : List Nat) : ((l.map fun c => (⟨#[c]⟩ : Str)).map (·.length)).sum = l.length := by
  induction l with
  | nil => rfl
  | cons a r ih =>
    rw [List.map_cons, List.map_cons, List.sum_cons, ih, List.length_cons]
    show 1 + r.length = r.length + 1
    omega
/-- a join of a new list of texts -/
theorem ev_joinN {K : PySem.W.Frag} {σ : L2.St} {H : Hp} {to te : TE} {a : Str} {ys : List Str} (h0 : Ev to σ H (.str a)) (h : EvL te σ H (ys.map V.str)) (hz : (ys.map (·.length)).sum + ys.length * a.length ≤ 16777216) :
    Ev (tM1 (fun x xs H Q => ∃ a p, ∃ ys : List Str, x = .str a ∧ xs = [.ref p] ∧ (SqL K H p (ys.map V.str) ∨ SqT K H p (ys.map V.str)) ∧ (ys.map (·.length)).sum + ys.length * a.length ≤ 16777216 ∧ Q (.str (Txt.join a ys)) H) to te) σ H (.str (Txt.join a ys)) :=
  fun H1 e Q q => h0 H1 e _ fun H2 e2 => ⟨⟨a, rfl⟩, h H2 (e.trans e2) _ fun p H3 hp e3 hl => ⟨a, p, ys, rfl, rfl, .inl (sq_of hl), hz, q H3 (e2.trans e3)⟩⟩
theorem given_all {n : Nat} {v : Nat → V} {xs : List V} (hn : xs.length = n) (h : ∀ i, i < n → xs[i]? = some (v i)) : given n (fun _ => true) v = xs := by
  unfold given
  rw [List.filter_eq_self.mpr (fun _ _ => rfl)]
  refine List.ext_getElem? fun i => ?_
  rw [List.getElem?_map]
  by_cases hi : i < n
  · rw [List.getElem?_range hi, h i hi] <;> rfl
  · rw [List.getElem?_eq_none (by rw [List.length_range]; omega), List.getElem?_eq_none (by omega)] <;> rfl
/-- [f(x) for x in a new list of ints] -/
theorem el_mapN {K : PySem.W.Frag} {σ : L2.St} {H : Hp} {tl te : TE} {j : Nat} {vs : List Nat} {ns : List Int} {f : Int → V} (h : EvL tl σ H (ns.map V.int)) (hz : ns.length ≤ 40000) (hw : ∀ x, wipe ((wipe σ vs).set j (some x)) vs = wipe σ vs)
    (he : ∀ n ∈ ns, ∀ H1, Ex H H1 → Ev te ((wipe σ vs).set j (some (.int n))) H1 (f n)) : EvL (tLc (iList K tl) (gName j) tYes te vs) σ H (ns.map f) := by
  have g : given (ns.map V.int).length (fun _ => true) (fun i => f (ns.getD i 0)) = ns.map f := given_all (by rw [List.length_map, List.length_map]) fun i hi => by
    rw [List.length_map] at hi
    rw [List.getElem?_map, List.getElem?_eq_getElem hi, List.getD_eq_getElem?_getD, List.getElem?_eq_getElem hi] <;> rfl
  rw [← g]
  refine el_lcNL (fun _ => true) (fun i => f (ns.getD i 0)) h (by rw [List.length_map]; exact hz) hw (fun i x H1 e1 hx => ?_) (fun i x H1 e1 hx _ => ?_)
  · exact fun H2 e2 Q q => q H2 (Ex.refl H2)
  · rw [List.getElem?_map] at hx
    cases e : ns[i]? with
    | none =>
      rw [e] at hx
      cases hx
    | some n =>
      rw [e] at hx
      have ex : x = .int n := (Option.some.inj hx).symm
      rw [ex, List.getD_eq_getElem?_getD, e]
      exact he n (List.mem_of_getElem? e) H1 e1
theorem atI_of {xs : List V} {n : Int} {v : V} (h0 : 0 ≤ n) (h : xs[n.toNat]? = some v) : atI xs n = some v := by
  have e : n = ((n.toNat : Nat) : Int) := by omega
  rw [e]
  exact atI_nat (by simpa using h)
theorem at_cps {z : Str} {l : List Nat} (h : z.cps.toList = l) {n : Int} (h0 : 0 ≤ n) (h1 : n < l.length) : atI z.cps.toList n = some (l.getD n.toNat 0) := by
  rw [h]
  have e : n = ((n.toNat : Nat) : Int) := by omega
  have h3 : n.toNat < l.length := by omega
  have h4 : ixN l.length n = some n.toNat := by rw [e]; exact ixN_nat (by omega)
  unfold atI
  rw [h4]
  show l[n.toNat]? = some (l.getD n.toNat 0)
  rw [List.getElem?_eq_getElem h3, List.getD_eq_getElem?_getD, List.getElem?_eq_getElem h3]
  all_goals rfl

/-- the join of texts by their codes -/
theorem join_codes (l : List (List Nat)) : Txt.join (Str.ofString "") (l.map fun c => (⟨c.toArray⟩ : Str)) = ⟨l.flatten.toArray⟩ := by
  rw [TL.join_eq]
  refine str_ext ?_
  have key : ∀ l : List (List Nat), TL.joinL [] l = l.flatten := fun l => by
    induction l with
    | nil => rfl
    | cons a r ih =>
      cases r with
      | nil => simp [TL.joinL]
      | cons b r =>
        show a ++ ([] ++ TL.joinL [] (b :: r)) = (a :: b :: r).flatten
        rw [ih, List.nil_append]
        exact List.flatten_cons.symm
  have h := TL.tl_join (Str.ofString "") (l.map fun c => (⟨c.toArray⟩ : Str))
  have e1 : TL.tl (Str.ofString "") = [] := by decide +kernel
  have e2 : (l.map fun c => (⟨c.toArray⟩ : Str)).map TL.tl = l := by
    rw [List.map_map]
    exact List.map_id l
  rw [e1, e2] at h
  exact h.trans (key l)
theorem sum_codes (l : List (List Nat)) : ((l.map fun c => (⟨c.toArray⟩ : Str)).map (·.length)).sum = l.flatten.length := by
  induction l with
  | nil => rfl
  | cons a r ih =>
    rw [List.map_cons, List.map_cons, List.sum_cons, ih, List.flatten_cons, List.length_append] <;> rfl
/-- [f(x) for x in a tuple] -/
theorem el_mapT {K : PySem.W.Frag} {σ : L2.St} {H : Hp} {tl te : TE} {j : Nat} {vs : List Nat} {a : Addr} {xs ys : List V} (h : Ev tl σ H (.ref a)) (hx : SqT K H a xs) (hz : xs.length ≤ 40000) (hw : ∀ x, wipe ((wipe σ vs).set j (some x)) vs = wipe σ vs) (hl : ys.length = xs.length)
    (he : ∀ (i : Nat) (x y : V), xs[i]? = some x → ys[i]? = some y → ∀ H1, Ex H H1 → Ev te ((wipe σ vs).set j (some x)) H1 y) : EvL (tLc (iTup K tl) (gName j) tYes te vs) σ H ys := by
  intro H0 e Q q
  refine h H0 e _ fun H1 e1 => ⟨a, rfl, ⟨xs, ex_t (e.trans e1) hx⟩, fun Dl hD => ?_⟩
  refine lc_tup (xs := xs) (fun i H' => H1 Dl = none ∧ Ex H1 H' ∧ H' Dl = some (.lst (ys.take i))) ⟨hD, Ex.new hD, upd_same⟩ (fun i H' _ p => ex_t ((e.trans e1).trans p.2.1) hx) (fun i x H' hi p => ⟨hw x, ?_⟩) (fun H' p => ?_)
  · obtain ⟨p1, p2, p3⟩ := p
    have hi2 : i < ys.length := by
      have := (List.getElem?_eq_some_iff.mp hi).1
      omega
    have hy : ys[i]? = some ys[i] := List.getElem?_eq_getElem hi2
    show te ((wipe σ vs).set j (some x)) H' _
    refine he i x ys[i] hi hy H1 (e.trans e1) H' p2 _ fun H4 e4 => ⟨ys.take i, e4 Dl _ p3, sz_lt (by rw [List.length_take]; omega), p1, (p2.trans e4).mut p1, ?_⟩
    rw [upd_same, List.take_add_one, hy] <;> rfl
  · obtain ⟨p1, p2, p3⟩ := p
    rw [← hl, List.take_length] at p3
    exact q Dl H' (fresh_back e1 p1) (e1.trans p2) p3
/-- [f(x) for x in a list] -/
theorem el_mapL {K : PySem.W.Frag} {σ : L2.St} {H : Hp} {tl te : TE} {j : Nat} {vs : List Nat} {a : Addr} {xs ys : List V} (h : Ev tl σ H (.ref a)) (hx : SqL K H a xs) (hz : xs.length ≤ 40000) (hw : ∀ x, wipe ((wipe σ vs).set j (some x)) vs = wipe σ vs) (hl : ys.length = xs.length)
    (he : ∀ (i : Nat) (x y : V), xs[i]? = some x → ys[i]? = some y → ∀ H1, Ex H H1 → Ev te ((wipe σ vs).set j (some x)) H1 y) : EvL (tLc (iList K tl) (gName j) tYes te vs) σ H ys := by
  intro H0 e Q q
  refine h H0 e _ fun H1 e1 => ⟨a, rfl, ⟨xs, ex_l (e.trans e1) hx⟩, fun Dl hD => ?_⟩
  refine lc_list (xs := xs) (fun i H' => H1 Dl = none ∧ Ex H1 H' ∧ H' Dl = some (.lst (ys.take i))) ⟨hD, Ex.new hD, upd_same⟩ (fun i H' _ p => ex_l ((e.trans e1).trans p.2.1) hx) (fun i x H' hi p => ⟨hw x, ?_⟩) (fun H' p => ?_)
  · obtain ⟨p1, p2, p3⟩ := p
    have hi2 : i < ys.length := by
      have := (List.getElem?_eq_some_iff.mp hi).1
      omega
    have hy : ys[i]? = some ys[i] := List.getElem?_eq_getElem hi2
    show te ((wipe σ vs).set j (some x)) H' _
    refine he i x ys[i] hi hy H1 (e.trans e1) H' p2 _ fun H4 e4 => ⟨ys.take i, e4 Dl _ p3, sz_lt (by rw [List.length_take]; omega), p1, (p2.trans e4).mut p1, ?_⟩
    rw [upd_same, List.take_add_one, hy] <;> rfl
  · obtain ⟨p1, p2, p3⟩ := p
    rw [← hl, List.take_length] at p3
    exact q Dl H' (fresh_back e1 p1) (e1.trans p2) p3
/-- [f(k) for k in range(n)] -/
theorem el_mapR {σ : L2.St} {H : Hp} {ta : TA} {te : TE} {j : Nat} {vs : List Nat} {n : Nat} {ys : List V} (h : EvA ta σ H [.int (n : Int)]) (hz : n ≤ 40000) (hw : ∀ x, wipe ((wipe σ vs).set j (some x)) vs = wipe σ vs) (hl : ys.length = n)
    (he : ∀ (i : Nat) (y : V), i < n → ys[i]? = some y → ∀ H1, Ex H H1 → Ev te ((wipe σ vs).set j (some (.int (i : Int)))) H1 y) : EvL (tLc (iRng1 ta) (gName j) tYes te vs) σ H ys := by
  have g : given (n : Int).toNat (fun _ => true) (fun i => ys.getD i .non) = ys := given_all (by omega) fun i hi => by
    have hi2 : i < ys.length := by omega
    rw [List.getElem?_eq_getElem hi2, List.getD_eq_getElem?_getD, List.getElem?_eq_getElem hi2] <;> rfl
  rw [← g]
  refine el_lcR1 (fun _ => true) (fun i => ys.getD i .non) h (by omega) hw (fun i H1 e1 hi => ?_) (fun i H1 e1 hi _ => ?_)
  · exact fun H2 e2 Q q => q H2 (Ex.refl H2)
  · have hi2 : i < ys.length := by omega
    have hy : ys[i]? = some (ys.getD i .non) := by rw [List.getElem?_eq_getElem hi2, List.getD_eq_getElem?_getD, List.getElem?_eq_getElem hi2] <;> rfl
    exact he i _ (by omega) hy H1 e1
/-- for c in a text -/
theorem s_forS {σ : L2.St} {H : Hp} {te : TE} {tu : TS} {D : Ends} {j : Nat} {z : Str} (h : Ev te σ H (.str z)) (Pv : Nat → L2.St → Hp → Prop) (h0 : ∀ H1, Ex H H1 → Pv 0 σ H1)
    (hs : ∀ i c σ' H', z.cps.toList[i]? = some c → Pv i σ' H' → tu { D with nx := Pv (i + 1), ct := Pv (i + 1), bk := D.nx } (σ'.set j (some (.str ⟨#[c]⟩))) H') (hd : ∀ σ' H', Pv z.cps.toList.length σ' H' → D.nx σ' H') : tFor (iStr te) (gName j) tu D σ H := by
  refine h H (Ex.refl H) _ fun H1 e => ⟨z, rfl, fun i m σ' H' => m = z.cps.toList.length - i ∧ i ≤ z.cps.toList.length ∧ Pv i σ' H', ⟨_, rfl, Nat.zero_le _, h0 H1 e⟩, ?_⟩
  rintro i m σ' H' ⟨rfl, hi, p⟩
  by_cases hlt : i < z.cps.toList.length
  · refine .inr ⟨(by show i < z.cps.size; simpa using hlt), Pv (i + 1), fun σ2 H2 p2 => ⟨_, by omega, rfl, hlt, p2⟩, fun x H2 y => ?_⟩
    obtain ⟨rfl, c, hc, rfl⟩ := y
    exact hs i c σ' H2 (by simpa using hc) p
  · have ei : i = z.cps.toList.length := by omega
    subst ei
    exact .inl ⟨(by show z.cps.size ≤ z.cps.toList.length; simp), hd σ' H' p⟩
theorem q_forS {σ : L2.St} {H : Hp} {te : TE} {tu tz : TS} {D : Ends} {j : Nat} {z : Str} (h : Ev te σ H (.str z)) (Pv : Nat → L2.St → Hp → Prop) (h0 : ∀ H1, Ex H H1 → Pv 0 σ H1)
    (hs : ∀ i c σ' H', z.cps.toList[i]? = some c → Pv i σ' H' → tu { D with nx := Pv (i + 1), ct := Pv (i + 1), bk := tz D } (σ'.set j (some (.str ⟨#[c]⟩))) H') (hd : ∀ σ' H', Pv z.cps.toList.length σ' H' → tz D σ' H') : tSeq (tFor (iStr te) (gName j) tu) tz D σ H :=
  s_forS (D := { D with nx := tz D }) h Pv h0 hs hd
/-! ### isinstance against a built-in type; f-strings -/
theorem tyx_tup {K : PySem.W.Frag} {H : Hp} {a : Addr} {xs : List V} (h : SqT K H a xs) : TyX K H (.ref a) (.type "tuple") := by
  rcases h with (h | ⟨o, h⟩) | ⟨o, its, n, h, hc, _⟩
  · exact .base (.tup h)
  · exact .fTuple h
  · exact .kTuple h hc
theorem ev_isi {K : PySem.W.Frag} {σ : L2.St} {H : Hp} {te : TE} {x : V} {a b : String} {r : Bool} (h : Ev te σ H x) (ht : ∀ H1, Ex H H1 → TyX K H1 x (.type a)) (hk : kitB a b = some r) : Ev (tCB (rIsi K) (tCons te (tCons (tC (.ty b)) tNil))) σ H (.bl r) := fun H1 e Q q =>
  h H1 e _ fun H2 e2 => ⟨x, .ty b, .type a, .type b, r, rfl, .ty b, ht H2 (e.trans e2), kit_ty hk, q H2 e2⟩
/-- parts that evaluate to texts -/
inductive EvJ (σ : L2.St) (H : Hp) : List TE → List Str → Prop where
  | nil : EvJ σ H [] []
  | cons {t : TE} {ts : List TE} {y : Str} {ys : List Str} (h : Ev t σ H (.str y)) (r : EvJ σ H ts ys) : EvJ σ H (t :: ts) (y :: ys)
theorem evj_run {σ : L2.St} {H : Hp} {ts : List TE} {ys : List Str} (h : EvJ σ H ts ys) : ∀ (acc : Str) (H1 : Hp) (Q : Str → Hp → Prop), Ex H H1 → acc.length + (ys.map (·.length)).sum ≤ 16777216 → (∀ H2, Ex H1 H2 → Q (ys.foldl (· ++ ·) acc) H2) → tJs ts acc σ H1 Q := by
  induction h with
  | nil => exact fun acc H1 Q _ _ q => q H1 (Ex.refl H1)
  | @cons t ts y ys h r ih =>
    intro acc H1 Q e hz q
    rw [List.map_cons, List.sum_cons] at hz
    have el : (acc ++ y).length = acc.length + y.length := by
      show (acc.cps ++ y.cps).size = acc.cps.size + y.cps.size
      exact Array.size_append
    refine h H1 e _ fun H2 e2 => ⟨y, rfl, sizeOk (by rw [el]; omega), ih (acc ++ y) H2 Q (e.trans e2) (by rw [el]; omega) fun H3 e3 => q H3 (e2.trans e3)⟩
theorem ev_joined {σ : L2.St} {H : Hp} {ts : List TE} {ys : List Str} (h : EvJ σ H ts ys) (hz : (ys.map (·.length)).sum ≤ 16777216) : Ev (fun σ H Q => tJs ts Str.empty σ H fun out H1 => Q (.str out) H1) σ H (.str (ys.foldl (· ++ ·) Str.empty)) := fun H1 e Q q =>
  evj_run h Str.empty H1 _ e (by show 0 + _ ≤ _; omega) fun H2 e2 => q H2 e2
theorem ev_fmtS {σ : L2.St} {H : Hp} {te : TE} {y : Str} (h : Ev te σ H (.str y)) (hz : y.length ≤ 16777216) : Ev (tFmt te) σ H (.str y) := fun H1 e Q q => h H1 e _ fun H2 e2 => .inl ⟨y, rfl, sizeOk hz, q H2 e2⟩
theorem ev_fmtI {σ : L2.St} {H : Hp} {te : TE} {i : Int} (h : Ev te σ H (.int i)) (hz : i.natAbs.log2 < 1920) : Ev (tFmt te) σ H (.str (toString i)) := fun H1 e Q q => h H1 e _ fun H2 e2 => .inr ⟨i, rfl, hz, q H2 e2⟩
theorem ev_strI {σ : L2.St} {H : Hp} {te : TE} {i : Int} (h : Ev te σ H (.int i)) (hz : i.natAbs.log2 < 1920) : Ev (tCB (fun xs H Q => ∃ i : Int, xs = [V.int i] ∧ i.natAbs.log2 < 1920 ∧ Q (.str (toString i)) H) (tCons te tNil)) σ H (.str (toString i)) := fun H1 e Q q => h H1 e _ fun H2 e2 => ⟨i, rfl, hz, q H2 e2⟩
theorem ev_ordS {σ : L2.St} {H : Hp} {te : TE} {c : Nat} (h : Ev te σ H (.str ⟨#[c]⟩)) : Ev (tCB (fun xs H Q => ∃ x : Str, xs = [V.str x] ∧ x.length = 1 ∧ Q (.int (x.cps.getD 0 0 : Nat)) H) (tCons te tNil)) σ H (.int (c : Int)) := fun H1 e Q q => h H1 e _ fun H2 e2 => ⟨_, rfl, rfl, q H2 e2⟩
theorem ev_ends {σ : L2.St} {H : Hp} {to te : TE} {a b : Str} (h0 : Ev to σ H (.str a)) (h : Ev te σ H (.str b)) : Ev (tM1 (fun x xs H Q => ∃ a b, x = V.str a ∧ xs = [V.str b] ∧ Q (.bl (Txt.endswith a b)) H) to te) σ H (.bl (Txt.endswith a b)) := fun H1 e Q q =>
  h0 H1 e _ fun H2 e2 => ⟨⟨a, rfl⟩, h H2 (e.trans e2) _ fun H3 e3 => ⟨a, b, rfl, rfl, q H3 (e2.trans e3)⟩⟩
theorem ev_slS {σ : L2.St} {H : Hp} {te : TE} {tl th : TO} {z : Str} {lo hi : Option Int} (h : Ev te σ H (.str z)) (h1 : EvO tl σ H lo) (h2 : EvO th σ H hi) (hz : z.length ≤ 100000) : Ev (tSl rSlS te tl th) σ H (.str (cutS z lo hi)) := fun H1 e Q q =>
  h H1 e _ fun H2 e2 => h1 H2 (e.trans e2) _ fun H3 e3 => h2 H3 ((e.trans e2).trans e3) _ fun H4 e4 => ⟨z, rfl, sz_of hz, q H4 ((e2.trans e3).trans e4)⟩
/-- tuple(a new list) -/
theorem eu_ofN {K : PySem.W.Frag} {σ : L2.St} {H : Hp} {te : TE} {xs : List V} (h : EvL te σ H xs) : EvU (tCB (fun xs H Q => ∃ p ys, xs = [V.ref p] ∧ ((SqL K H p ys ∧ ∀ l, H l = none → Q (.ref l) (upd H l (.tup ys))) ∨ (SqT K H p ys ∧ Q (.ref p) H))) (tCons te tNil)) σ H xs := fun H1 e Q q =>
  h H1 e _ fun p H2 _ e2 hp => ⟨p, xs, rfl, .inl ⟨sq_of hp, fun l hl => q l _ (fresh_back e2 hl) (e2.trans (Ex.new hl)) upd_same⟩⟩
theorem eu_ofL {K : PySem.W.Frag} {σ : L2.St} {H : Hp} {te : TE} {p : Addr} {xs : List V} (h : Ev te σ H (.ref p)) (hx : SqL K H p xs) : EvU (tCB (fun xs H Q => ∃ p ys, xs = [V.ref p] ∧ ((SqL K H p ys ∧ ∀ l, H l = none → Q (.ref l) (upd H l (.tup ys))) ∨ (SqT K H p ys ∧ Q (.ref p) H))) (tCons te tNil)) σ H xs := fun H1 e Q q =>
  h H1 e _ fun H2 e2 => ⟨p, xs, rfl, .inl ⟨ex_l (e.trans e2) hx, fun l hl => q l _ (fresh_back e2 hl) (e2.trans (Ex.new hl)) upd_same⟩⟩
/-- a def that hands back a new tuple -/
def SpU (sp : Sp) (vs : List V) (H : Hp) (xs : List V) : Prop := ∀ H1, Ex H H1 → ∀ Q : VK, (∀ p H2, Ex H1 H2 → H2 p = some (.tup xs) → Q (.ref p) H2) → ∀ E : XK, sp vs H1 Q E
theorem q_callU {sp : Sp} {dvs vs xs : List V} {E : XK} {ta : TA} {σ : L2.St} {H : Hp} {tz : TS} {D : Ends} {i : Nat} (h : EvA ta σ H vs) (hs : SpU sp (vs ++ dvs) H xs) (k : ∀ p H1, Ex H H1 → H1 p = some (.tup xs) → tz D (σ.set i (some (.ref p))) H1) : tSeq (tAsg (tCall sp dvs E ta) (gName i)) tz D σ H :=
  h H (Ex.refl H) _ fun H2 e2 => hs H2 e2 _ (fun p H3 e3 hp => k p H3 (e2.trans e3) hp) E
theorem s_callU {sp : Sp} {dvs vs xs : List V} {E : XK} {ta : TA} {σ : L2.St} {H : Hp} {D : Ends} {i : Nat} (h : EvA ta σ H vs) (hs : SpU sp (vs ++ dvs) H xs) (k : ∀ p H1, Ex H H1 → H1 p = some (.tup xs) → D.nx (σ.set i (some (.ref p))) H1) : tAsg (tCall sp dvs E ta) (gName i) D σ H :=
  h H (Ex.refl H) _ fun H2 e2 => hs H2 e2 _ (fun p H3 e3 hp => k p H3 (e2.trans e3) hp) E
/-- a call whose one argument is a new tuple -/
theorem ev_callU {sp : Sp} {dvs xs : List V} {z : V} {E : XK} {te : TE} {σ : L2.St} {H : Hp} (h : EvU te σ H xs) (hs : ∀ p H1, H1 p = some (.tup xs) → Ex H H1 → SpV sp ([.ref p] ++ dvs) H1 z) : Ev (tCall sp dvs E (tCons te tNil)) σ H z := fun H1 e Q q =>
  h H1 e _ fun p H2 _ e2 hp => hs p H2 hp (e.trans e2) H2 (Ex.refl H2) Q (fun H3 e3 => q H3 (e2.trans e3)) E
/-- written tuples, one behind the other -/
def EvP (ta : TA) (σ : L2.St) (H : Hp) (xss : List (List V)) : Prop := ∀ H1, Ex H H1 → ∀ Q : List V → Hp → Prop, (∀ (ps : List Addr) H2, Ex H1 H2 → Paired (fun p xs => H2 p = some (.tup xs)) ps xss → Q (ps.map V.ref) H2) → ta σ H1 Q
theorem paired_mono {H H' : Hp} (e : Ex H H') : ∀ {ps : List Addr} {xss : List (List V)}, Paired (fun p xs => H p = some (.tup xs)) ps xss → Paired (fun p xs => H' p = some (.tup xs)) ps xss
  | _, _, .nil => .nil
  | _, _, .cons h r => .cons (e _ _ h) (paired_mono e r)
theorem ep_nil {σ : L2.St} {H : Hp} : EvP tNil σ H [] := fun H1 e Q q => q [] H1 (Ex.refl H1) .nil
theorem ep_cons {σ : L2.St} {H : Hp} {te : TE} {tr : TA} {xs : List V} {xss : List (List V)} (h : EvU te σ H xs) (r : EvP tr σ H xss) : EvP (tCons te tr) σ H (xs :: xss) := fun H1 e Q q =>
  h H1 e _ fun p H2 _ e2 hp => r H2 (e.trans e2) _ fun ps H3 e3 hr => q (p :: ps) H3 (e2.trans e3) (.cons (e3 p _ hp) hr)
theorem q_asgLP {ta : TA} {xss : List (List V)} {σ : L2.St} {H : Hp} {tz : TS} {D : Ends} {i : Nat} (h : EvP ta σ H xss) (hz : xss.length ≤ 100000) (k : ∀ p ps H1, Ex H H1 → H1 p = some (.lst (ps.map V.ref)) → Paired (fun p xs => H1 p = some (.tup xs)) ps xss → tz D (σ.set i (some (.ref p))) H1) :
    tSeq (tAsg (tLst ta) (gName i)) tz D σ H := h H (Ex.refl H) _ fun ps H1 e1 hps => by
  have el : ∀ {as : List Addr} {bs : List (List V)}, Paired (fun p xs => H1 p = some (.tup xs)) as bs → as.length = bs.length := fun h => by
    induction h with
    | nil => rfl
    | cons _ _ ih => exact congrArg (· + 1) ih
  exact ⟨sz_of (by rw [List.length_map, el hps]; exact hz), fun p hp => k p ps _ (e1.trans (Ex.new hp)) upd_same (paired_mono (Ex.new hp) hps)⟩
theorem paired_at {H : Hp} : ∀ {ps : List Addr} {xss : List (List V)}, Paired (fun p xs => H p = some (.tup xs)) ps xss → ∀ {i : Nat} {xs : List V}, xss[i]? = some xs → ∃ p, ps[i]? = some p ∧ H p = some (.tup xs)
  | _, _, .cons h _, 0, xs, e => by
    have e := Option.some.inj e
    subst e
    exact ⟨_, rfl, h⟩
  | _, _, .cons _ r, i + 1, xs, e => by
    obtain ⟨p, h1, h2⟩ := paired_at r (i := i) (by simpa using e)
    exact ⟨p, by simpa using h1, h2⟩
theorem paired_len {α β : Type} {R : α → β → Prop} : ∀ {as : List α} {bs : List β}, Paired R as bs → as.length = bs.length
  | _, _, .nil => rfl
  | _, _, .cons _ r => congrArg (· + 1) (paired_len r)
/-- a list that is tracked, and a new one behind it -/
theorem el_catV {K : PySem.W.Frag} {σ : L2.St} {H : Hp} {ta tb : TE} {p : Addr} {xs ys : List V} (ha : Ev ta σ H (.ref p)) (hp : H p = some (.lst xs)) (hb : EvL tb σ H ys) (hz : xs.length + ys.length ≤ 100000) : EvL (tOp rCat ta tb) σ H (xs ++ ys) := fun H1 e Q q =>
  ha H1 e _ fun H2 e2 => hb H2 (e.trans e2) _ fun r H3 hr e3 h3 => ⟨p, r, xs, ys, rfl, rfl, ((e.trans e2).trans e3) p _ hp, h3, sz_of hz, fun l hl => q l _ (fresh_back (e2.trans e3) hl) ((e2.trans e3).trans (Ex.new hl)) upd_same⟩
theorem codes_app {a b : Str} {x y : List Nat} (ha : a.cps.toList = x) (hb : b.cps.toList = y) : (a ++ b).cps.toList = x ++ y := by
  show (a.cps ++ b.cps).toList = x ++ y
  rw [Array.toList_append, ha, hb]
theorem str_len (z : Str) : z.length = z.cps.toList.length := by simp [Str.length]
theorem mk_of {z : Str} {l : List Nat} (h : z.cps.toList = l) : z = ⟨l.toArray⟩ := str_ext h
/-- long texts -/
theorem ev_lenB {σ : L2.St} {H : Hp} {te : TE} {z : Str} (h : Ev te σ H (.str z)) (hz : z.length ≤ 16777216) : Ev (tCB (fun xs H Q => ∃ z, xs = [V.str z] ∧ z.length ≤ sizeLine ∧ Q (.int z.length) H) (tCons te tNil)) σ H (.int (z.length : Int)) := fun H1 e Q q =>
  h H1 e _ fun H2 e2 => ⟨z, rfl, sizeOk hz, q H2 e2⟩
theorem ev_ixB {σ : L2.St} {H : Hp} {ta tb : TE} {z : Str} {i : Int} {c : Nat} (ha : Ev ta σ H (.str z)) (hb : Ev tb σ H (.int i)) (hz : z.length ≤ 16777216) (hi : atI z.cps.toList i = some c) : Ev (tOp rIxS ta tb) σ H (.str ⟨#[c]⟩) :=
  ev_op ha hb fun H1 _ _ q => ⟨z, i, c, rfl, rfl, sizeOk hz, hi, q H1 (Ex.refl H1)⟩
theorem ev_slB {σ : L2.St} {H : Hp} {te : TE} {tl th : TO} {z : Str} {lo hi : Option Int} (h : Ev te σ H (.str z)) (h1 : EvO tl σ H lo) (h2 : EvO th σ H hi) (hz : z.length ≤ 16777216) : Ev (tSl rSlS te tl th) σ H (.str (cutS z lo hi)) := fun H1 e Q q =>
  h H1 e _ fun H2 e2 => h1 H2 (e.trans e2) _ fun H3 e3 => h2 H3 ((e.trans e2).trans e3) _ fun H4 e4 => ⟨z, rfl, sizeOk hz, q H4 ((e2.trans e3).trans e4)⟩
theorem at_natS {l : List Nat} {j c : Nat} (h : l[j]? = some c) : atI l (j : Int) = some c := by
  have hj := (List.getElem?_eq_some_iff.mp h).1
  unfold atI
  rw [ixN_nat hj]
  exact h
theorem q_asgAug {σ : L2.St} {H : Hp} {te : TE} {tz : TS} {D : Ends} {i : Nat} {a b : Int} (hx : σ[i]? = some (some (.int a))) (h : Ev te σ H (.int b)) (k : ∀ H1, Ex H H1 → tz D (σ.set i (some (.int (a + b)))) H1) : tSeq (tAug i te (ipI fun i j => i + j)) tz D σ H := q_aug hx h k
theorem q_callV {sp : Sp} {dvs vs : List V} {E : XK} {ta : TA} {σ : L2.St} {H : Hp} {tz : TS} {D : Ends} {i : Nat} (h : EvA ta σ H vs) (k : ∀ H1, Ex H H1 → sp (vs ++ dvs) H1 (fun v H2 => tz D (σ.set i (some v)) H2) E) : tSeq (tAsg (tCall sp dvs E ta) (gName i)) tz D σ H := h H (Ex.refl H) _ fun H1 e1 => k H1 e1
/-! ### a small tactic: what an expression evaluates to -/
local macro_rules | `(tactic| walk_at "side") => `(tactic| first | assumption | decide | (show (0 : Int) < _; omega) | omega | (show CDivW _ _; exact ⟨by first | decide | omega, by decide⟩) | (show CPow _ _; exact ⟨by decide, by decide, by decide⟩) | (show CMulX _ _; (refine Wd.mul ?_ ?_ <;> walk_at "wd")))
local macro_rules | `(tactic| walk_at "wd") => `(tactic| first | assumption | exact Wd.lit (by decide) | exact Wd.small (by omega) (by omega) | (refine Wd.div ?_; walk_at "wd") | (refine Wd.mod ?_ ?_; (first | decide | omega); (walk_at "wd")) | (refine Wd.neg ?_; walk_at "wd"))
local macro_rules | `(tactic| walk_at "call") => `(tactic| fail "no call")
local macro_rules | `(tactic| walk_at "seq") => `(tactic| first | assumption | (refine ex_l ?_ ?_ <;> assumption) | exact sq_of (by assumption))
local macro_rules | `(tactic| walk_at "ev") => `(tactic| first
  | with_reducible exact ev_c
  | exact ev_var rfl
  | (refine ev_intI ?_; walk_at "ev")
  | (refine ev_bin0 ?_ ?_; (walk_at "ev"); (walk_at "ev"))
  | (refine ev_bin ?_ ?_ ?_; (walk_at "ev"); (walk_at "ev"); (walk_at "side"))
  | (refine ev_eqI ?_ ?_; (walk_at "ev"); (walk_at "ev"))
  | (refine ev_neI ?_ ?_; (walk_at "ev"); (walk_at "ev"))
  | (refine ev_eqS ?_ ?_; (walk_at "ev"); (walk_at "ev"))
  | (refine ev_neS ?_ ?_; (walk_at "ev"); (walk_at "ev"))
  | (refine ev_neg ?_; walk_at "ev")
  | walk_at "call")
local macro_rules | `(tactic| walk_at "et") => `(tactic| first
  | (refine et_test ?_; walk_at "ev")
  | (refine et_B ?_; walk_at "ev")
  | (refine et_not ?_; walk_at "et"))
local macro_rules | `(tactic| walk_at "ea") => `(tactic| first | exact ea_nil | (refine ea_cons ?_ ?_; (walk_at "ev"); (walk_at "ea")))


/-! ### a text times a number -/
theorem foldl_reps (a : Array Nat) : ∀ (m : Nat) (acc : Array Nat), ((List.replicate m a).foldl (· ++ ·) acc).toList = acc.toList ++ (List.replicate m a.toList).flatten
  | 0, acc => by simp
  | m + 1, acc => by
    rw [List.replicate_succ, List.replicate_succ, List.foldl_cons, foldl_reps a m (acc ++ a), Array.toList_append, List.flatten_cons, List.append_assoc]
def repC (z : Str) (n : Nat) : List Nat := (List.replicate n z.cps.toList).flatten
theorem op_repS {X : Cx} : OpR X (binaryOp .Mult) (fun x y H Q => ∃ (z : Str) (k : Int), x = V.str z ∧ y = V.int k ∧ 0 ≤ k ∧ z.length * k.toNat ≤ 16777216 ∧ k < 2 ^ 60 ∧ Q (.str ⟨(repC z k.toNat).toArray⟩) H) := by
  intro pins s σ H x y v u Q I rx ry h
  obtain ⟨z, k, rfl, rfl, h0, hz, hk, q⟩ := h
  obtain ⟨t, rfl⟩ := rx
  obtain ⟨t', rfl⟩ := ry
  have ez : z.length = z.cps.toList.length := by simp [Str.length]
  have hzi : (z.length : Int) * k ≤ 16777216 := by
    have e : ((z.length * k.toNat : Nat) : Int) = (z.length : Int) * k := by
      rw [Int.natCast_mul, Int.toNat_of_nonneg h0]
    omega
  refine PySem.P.mul_str ?_ (fun h1 _ z2 => ?_) (fun h1 _ => ?_) ?_
  · rw [decide_eq_false (by omega), decide_eq_false (by omega)] <;> rfl
  · have h3 : (z.length : Int) ≤ (2 ^ 63 - 1) / k := Int.le_ediv_of_mul_le (by omega) (by omega)
    omega
  · have : ¬ z.length * k.toNat > sizeLine := by
      rw [sizeLine_eq]
      omega
    unfold Builtin.Str.tooLong
    exact decide_eq_false this
  · have e1 : ∀ y : Str, y.cps.toList = repC z k.toNat → y = ⟨(repC z k.toNat).toArray⟩ := fun y hy => by
      obtain ⟨y⟩ := y
      exact congrArg Str.mk (Array.toList_inj.mp (hy.trans rfl))
    have er : (repC z k.toNat).length = k.toNat * z.length := by
      unfold repC
      rw [List.length_flatten, List.map_replicate, List.sum_replicate_nat, ez]
    split
    · have e2 : Str.empty = (⟨(repC z k.toNat).toArray⟩ : Str) := e1 _ (by
        have : k.toNat = 0 := by omega
        unfold repC
        rw [this] <;> rfl)
      refine ⟨by decide, ?_⟩
      rw [e2]
      exact ⟨.str ⟨(repC z k.toNat).toArray⟩, H, I.tok _, ⟨_, rfl⟩, q⟩
    · split
      · rename_i h1 h2
        have e2 : z = (⟨(repC z k.toNat).toArray⟩ : Str) := e1 _ (by
          unfold repC
          rw [Bool.or_eq_true, beq_iff_eq, beq_iff_eq] at h2
          rcases h2 with h2 | h2
          · rw [h2]
            show _ = (List.replicate 1 _).flatten
            simp
          · have : z.cps.toList = [] := List.length_eq_zero_iff.mp (by omega)
            rw [this]
            simp)
        show EP X pins σ Q _ _
        rw [← e2] at q
        exact ⟨.str z, H, I, ⟨t, rfl⟩, q⟩
      · have e2 : (⟨(List.replicate k.toNat z.cps).foldl (· ++ ·) #[]⟩ : Str) = ⟨(repC z k.toNat).toArray⟩ := e1 _ (by
          show ((List.replicate k.toNat z.cps).foldl (· ++ ·) #[]).toList = _
          rw [foldl_reps] <;> rfl)
        rw [e2]
        refine ⟨?_, ⟨.str ⟨(repC z k.toNat).toArray⟩, H, I.tok _, ⟨_, rfl⟩, q⟩⟩
        show (repC z k.toNat).toArray.size ≤ sizeLine
        rw [List.size_toArray, er, sizeLine_eq, Nat.mul_comm]
        exact hz
theorem ev_repS {σ : L2.St} {H : Hp} {ta tb : TE} {z : Str} {n : Nat} (ha : Ev ta σ H (.str z)) (hb : Ev tb σ H (.int (n : Int))) (hz : z.length * n ≤ 16777216) (hn : n ≤ 16777216) : Ev (tOp (fun x y H Q => ∃ (z : Str) (k : Int), x = V.str z ∧ y = V.int k ∧ 0 ≤ k ∧ z.length * k.toNat ≤ 16777216 ∧ k < 2 ^ 60 ∧ Q (.str ⟨(repC z k.toNat).toArray⟩) H) ta tb) σ H (.str ⟨(repC z n).toArray⟩) :=
  ev_op ha hb fun H1 _ Q q => ⟨z, n, rfl, rfl, by omega, hz, by omega, q H1 (Ex.refl H1)⟩


/-! ### items and their written form -/
inductive It where
  | non
  | int (i : Int)
  | str (z : Str)
  | tup (xs : List It)
def numC (i : Int) : List Nat := (toString i : Str).cps.toList
mutual
/-- the codes of the written item -/
def encC : It → List Nat
  | .non => [110]
  | .int i => 105 :: (numC i ++ [59])
  | .str z => 116 :: (numC (z.length : Int) ++ (58 :: z.cps.toList))
  | .tup xs => 40 :: (encL xs ++ [41])
def encL : List It → List Nat
  | [] => []
  | d :: ds => encC d ++ encL ds
end
theorem encL_flat : ∀ ds : List It, encL ds = (ds.map encC).flatten
  | [] => rfl
  | d :: ds => by
    show encC d ++ encL ds = _
    rw [encL_flat ds, List.map_cons, List.flatten_cons]
theorem encL_app : ∀ a b : List It, encL (a ++ b) = encL a ++ encL b
  | [], b => rfl
  | x :: a, b => by
    show encC x ++ encL (a ++ b) = encC x ++ encL a ++ encL b
    rw [encL_app a b, List.append_assoc]
theorem encC_pos (d : It) : 1 ≤ (encC d).length := by
  cases d with
  | non => exact Nat.le_refl 1
  | int i => show 1 ≤ (105 :: _).length; simp
  | str z => show 1 ≤ (116 :: _).length; simp
  | tup xs => show 1 ≤ (40 :: _).length; simp
theorem encL_mem : ∀ {ds : List It} {d : It}, d ∈ ds → (encC d).length ≤ (encL ds).length
  | d' :: ds, d, h => by
    show _ ≤ (encC d' ++ encL ds).length
    rw [List.length_append]
    rcases List.mem_cons.mp h with e | e
    · rw [e]; omega
    · have := encL_mem e; omega
mutual
/-- the value v of the heap is the item -/
inductive Dv (K : PySem.W.Frag) (H : Hp) : V → It → Prop
  | non : Dv K H .non .non
  | int (i : Int) : Dv K H (.int i) (.int i)
  | str (z : Str) : Dv K H (.str z) (.str z)
  | tup {a : Addr} {xs : List V} {ds : List It} (h : SqT K H a xs) (r : DvL K H xs ds) : Dv K H (.ref a) (.tup ds)
inductive DvL (K : PySem.W.Frag) (H : Hp) : List V → List It → Prop
  | nil : DvL K H [] []
  | cons {v : V} {vs : List V} {d : It} {ds : List It} (h : Dv K H v d) (r : DvL K H vs ds) : DvL K H (v :: vs) (d :: ds)
end
/-- all but lists stands as it stood -/
def ExN (H H' : Hp) : Prop := ∀ a o, H a = some o → (∀ xs, o ≠ .lst xs) → H' a = some o
theorem exN_t {K : PySem.W.Frag} {H H' : Hp} {a : Addr} {xs : List V} (e : ExN H H') (h : SqT K H a xs) : SqT K H' a xs := by
  rcases h with (h | ⟨o, h⟩) | h
  · exact .inl (.inl (e _ _ h fun _ z => nomatch z))
  · exact .inl (.inr ⟨o, e _ _ h fun _ z => nomatch z⟩)
  · exact .inr h
theorem Ex.n {H H' : Hp} (e : Ex H H') : ExN H H' := fun a o h _ => e a o h
theorem ExN.trans {H H1 H2 : Hp} (a : ExN H H1) (b : ExN H1 H2) : ExN H H2 := fun x o h n => b x o (a x o h n) n
theorem ExN.upd {H : Hp} {p : Addr} {xs : List V} {o : HO} (h : H p = some (.lst xs)) : ExN H (upd H p o) := fun a u e n => by
  rw [upd_ne (fun z => n xs (by rw [z, h] at e; exact (Option.some.inj e).symm))]
  exact e
mutual
theorem Dv.monoN {K : PySem.W.Frag} {H H' : Hp} (e : ExN H H') : ∀ {v : V} {d : It}, Dv K H v d → Dv K H' v d
  | _, _, .non => .non
  | _, _, .int i => .int i
  | _, _, .str z => .str z
  | _, _, .tup h r => .tup (exN_t e h) (DvL.monoN e r)
theorem DvL.monoN {K : PySem.W.Frag} {H H' : Hp} (e : ExN H H') : ∀ {vs : List V} {ds : List It}, DvL K H vs ds → DvL K H' vs ds
  | _, _, .nil => .nil
  | _, _, .cons h r => .cons (Dv.monoN e h) (DvL.monoN e r)
end
theorem Dv.mono {K : PySem.W.Frag} {H H' : Hp} (e : Ex H H') {v : V} {d : It} (h : Dv K H v d) : Dv K H' v d := h.monoN (Ex.n e)
theorem DvL.mono {K : PySem.W.Frag} {H H' : Hp} (e : Ex H H') {vs : List V} {ds : List It} (h : DvL K H vs ds) : DvL K H' vs ds := h.monoN (Ex.n e)
theorem DvL.app {K : PySem.W.Frag} {H : Hp} : ∀ {vs us : List V} {ds es : List It}, DvL K H vs ds → DvL K H us es → DvL K H (vs ++ us) (ds ++ es)
  | _, _, _, _, .nil, h => h
  | _, _, _, _, .cons a r, h => .cons a (r.app h)
theorem DvL.take {K : PySem.W.Frag} {H : Hp} : ∀ {vs : List V} {ds : List It} (n : Nat), DvL K H vs ds → DvL K H (vs.take n) (ds.take n)
  | _, _, 0, _ => .nil
  | _, _, _ + 1, .nil => .nil
  | _, _, n + 1, .cons a r => .cons a (r.take n)
theorem DvL.drop {K : PySem.W.Frag} {H : Hp} : ∀ {vs : List V} {ds : List It} (n : Nat), DvL K H vs ds → DvL K H (vs.drop n) (ds.drop n)
  | _, _, 0, h => h
  | _, _, _ + 1, .nil => .nil
  | _, _, n + 1, .cons _ r => r.drop n
theorem DvL.len {K : PySem.W.Frag} {H : Hp} : ∀ {vs : List V} {ds : List It}, DvL K H vs ds → vs.length = ds.length
  | _, _, .nil => rfl
  | _, _, .cons _ r => congrArg (· + 1) r.len
theorem DvL.at {K : PySem.W.Frag} {H : Hp} : ∀ {vs : List V} {ds : List It}, DvL K H vs ds → ∀ {i : Nat} {v : V} {d : It}, vs[i]? = some v → ds[i]? = some d → Dv K H v d
  | _, _, .cons h _, 0, v, d, e1, e2 => by
    have e1 := Option.some.inj e1
    have e2 := Option.some.inj e2
    subst e1 e2
    exact h
  | _, _, .cons _ r, i + 1, v, d, e1, e2 => r.at (i := i) (by simpa using e1) (by simpa using e2)
/-- depth, width and sizes -/
def It.fit : Nat → It → Prop
  | 0, x => match x with
    | .non => True
    | .int i => -(10 ^ 60) < i ∧ i < 10 ^ 60
    | .str z => z.length ≤ 999999
    | .tup _ => False
  | n + 1, x => match x with
    | .non => True
    | .int i => -(10 ^ 60) < i ∧ i < 10 ^ 60
    | .str z => z.length ≤ 999999
    | .tup xs => xs.length ≤ 1000 ∧ ∀ y ∈ xs, It.fit n y
theorem log60 {i : Int} (h : -(10 ^ 60) < i ∧ i < 10 ^ 60) : i.natAbs.log2 < 1920 := by
  have e60 : (10 : Int) ^ 60 = 1000000000000000000000000000000000000000000000000000000000000 := by decide
  rw [e60] at h
  exact Nat.lt_of_lt_of_le (PySem.Flt.log2_lt_of (k := 256) (by decide) (by omega)) (by decide)
theorem fit_int60 {n : Nat} {i : Int} (h : It.fit n (.int i)) : -(10 ^ 60) < i ∧ i < 10 ^ 60 := by cases n <;> exact h
theorem fit_int {n : Nat} {i : Int} (h : It.fit n (.int i)) : i.natAbs.log2 < 1920 := log60 (fit_int60 h)
theorem fit_str {n : Nat} {z : Str} (h : It.fit n (.str z)) : z.length ≤ 999999 := by cases n <;> exact h
theorem It.fit_mono : ∀ {n m : Nat} {d : It}, It.fit n d → n ≤ m → It.fit m d
  | n, m, .non, _, _ => by cases m <;> trivial
  | n, m, .int i, h, _ => by
    have := fit_int60 h
    cases m <;> exact this
  | n, m, .str z, h, _ => by
    have := fit_str h
    cases m <;> exact this
  | 0, m, .tup xs, h, _ => h.elim
  | n + 1, 0, .tup xs, h, e => by omega
  | n + 1, m + 1, .tup xs, h, e => ⟨h.1, fun y hy => It.fit_mono (h.2 y hy) (by omega)⟩
def spEnc (K : PySem.W.Frag) (n : Nat) : Sp := fun vs H Q _ => ∃ (v : V) (d : It), vs = [v] ∧ Dv K H v d ∧ d.fit n ∧ (encC d).length ≤ 16000000 ∧ ∀ H', Ex H H' → Q (.str ⟨(encC d).toArray⟩) H'
theorem cv_enc {K : PySem.W.Frag} {n : Nat} {v : V} {d : It} {H : Hp} (h : Dv K H v d) (hf : d.fit n) (hz : (encC d).length ≤ 16000000) : SpV (spEnc K n) [v] H (.str ⟨(encC d).toArray⟩) := fun H1 e Q q E => ⟨v, d, rfl, h.mono e, hf, hz, fun H2 e2 => q H2 e2⟩
/-- '(' + ''.join([f(part) for part in item]) + ')' -/
theorem ev_parts {K : PySem.W.Frag} {σ : L2.St} {H : Hp} {te tl : TE} {j : Nat} {vs : List Nat} {a : Addr} {xs : List V} {ds : List It} {n : Nat} (hl : Ev tl σ H (.ref a)) (h : SqT K H a xs) (r : DvL K H xs ds) (hf : It.fit (n + 1) (.tup ds)) (hz : (encC (.tup ds)).length ≤ 16000000)
    (hw : ∀ x, wipe ((wipe σ vs).set j (some x)) vs = wipe σ vs)
    (he : ∀ (x : V) (d : It) H1, Ex H H1 → Dv K H1 x d → d.fit n → (encC d).length ≤ 16000000 → Ev te ((wipe σ vs).set j (some x)) H1 (.str ⟨(encC d).toArray⟩)) :
    Ev (tOp (fun x y H Q => ∃ i j, x = V.str i ∧ y = V.str j ∧ i.length + j.length ≤ sizeLine ∧ Q (.str (i ++ j)) H) (tOp (fun x y H Q => ∃ i j, x = V.str i ∧ y = V.str j ∧ i.length + j.length ≤ sizeLine ∧ Q (.str (i ++ j)) H) (tC (.str (Str.ofString "(")))
      (tM1 (fun x xs H Q => ∃ a p, ∃ ys : List Str, x = .str a ∧ xs = [.ref p] ∧ (SqL K H p (ys.map V.str) ∨ SqT K H p (ys.map V.str)) ∧ (ys.map (·.length)).sum + ys.length * a.length ≤ 16777216 ∧ Q (.str (Txt.join a ys)) H) (tC (.str (Str.ofString ""))) (tLc (iTup K tl) (gName j) tYes te vs)))
      (tC (.str (Str.ofString ")")))) σ H (.str ⟨(encC (.tup ds)).toArray⟩) := by
  have ez : (encC (.tup ds)).length = (encL ds).length + 2 := by
    show (40 :: (encL ds ++ [41])).length = _
    rw [List.length_cons, List.length_append] <;> rfl
  have ef : (encL ds) = (ds.map encC).flatten := encL_flat ds
  have ej : Txt.join (Str.ofString "") ((ds.map encC).map fun c => (⟨c.toArray⟩ : Str)) = ⟨(encL ds).toArray⟩ := by rw [join_codes, ef]
  have e1 : (⟨(encC (.tup ds)).toArray⟩ : Str) = Str.ofString "(" ++ Txt.join (Str.ofString "") ((ds.map encC).map fun c => (⟨c.toArray⟩ : Str)) ++ Str.ofString ")" := by
    refine str_ext ?_
    rw [ej]
    have a1 : (Str.ofString "(").cps.toList = [40] := by decide +kernel
    have a2 : (Str.ofString ")").cps.toList = [41] := by decide +kernel
    rw [codes_app (codes_app a1 rfl) a2]
    show 40 :: (encL ds ++ [41]) = _
    simp
  rw [e1]
  have l1 : (Str.ofString "(").length = 1 := by decide +kernel
  have l2 : (Str.ofString ")").length = 1 := by decide +kernel
  have l3 : (Str.ofString "(" ++ Txt.join (Str.ofString "") ((ds.map encC).map fun c => (⟨c.toArray⟩ : Str))).length = 1 + (encL ds).length := by
    rw [ej, str_len, codes_app (x := [40]) (by decide +kernel) rfl, List.length_append]
    simp
  have l4 : (Txt.join (Str.ofString "") ((ds.map encC).map fun c => (⟨c.toArray⟩ : Str))).length = (encL ds).length := by
    rw [ej, str_len]
  refine ev_addS (ev_addS ev_c (ev_joinN (K := K) ev_c (el_mapT (K := K) hl h ?_ hw ?_ fun i x y hx hy H1 ex => ?_) ?_) ?_) ev_c ?_
  · have := hf.1
    rw [r.len]; omega
  · rw [List.length_map, List.length_map, List.length_map, r.len]
  · rw [List.getElem?_map, List.getElem?_map, List.getElem?_map] at hy
    cases e : ds[i]? with
    | none =>
      rw [e] at hy
      cases hy
    | some d =>
      rw [e] at hy
      have ey : y = .str ⟨(encC d).toArray⟩ := (Option.some.inj hy).symm
      have hm := List.mem_of_getElem? e
      rw [ey]
      have := encL_mem hm
      exact he x d H1 ex ((r.at hx e).mono ex) (hf.2 d hm) (by omega)
  · rw [sum_codes, ← ef]
    show _ + _ * 0 ≤ 16777216
    omega
  · rw [l1, l4]; omega
  · rw [l3, l2]; omega
/-- return f'i{item};' -/
theorem enc_int {n : Nat} {i : Int} {σ : L2.St} {H : Hp} {D : Ends} (hf : It.fit n (.int i)) (hz : (encC (.int i)).length ≤ 16000000) (q : ∀ H1, Ex H H1 → D.rt (.str ⟨(encC (.int i)).toArray⟩) H1) {te : TE} (he : Ev te σ H (.int i) := by exact ev_var rfl) :
    tRet (fun σ H Q => tJs [tC (.str (Str.ofString "i")), tFmt te, tC (.str (Str.ofString ";"))] Str.empty σ H fun out H1 => Q (.str out) H1) D σ H := by
  have a1 : (Str.ofString "i").cps.toList = [105] := by decide +kernel
  have a2 : (Str.ofString ";").cps.toList = [59] := by decide +kernel
  have a0 : (Str.empty).cps.toList = [] := by decide +kernel
  have ey : ([Str.ofString "i", (toString i : Str), Str.ofString ";"].foldl (· ++ ·) Str.empty : Str) = ⟨(encC (.int i)).toArray⟩ := mk_of (by
    show (((Str.empty ++ Str.ofString "i") ++ (toString i : Str)) ++ Str.ofString ";").cps.toList = _
    rw [codes_app (codes_app (codes_app a0 a1) rfl) a2]
    show _ = 105 :: (numC i ++ [59])
    simp [numC])
  refine s_ret (ev_is (ev_joined (.cons ev_c (.cons (ev_fmtI he (fit_int hf)) (.cons ev_c .nil))) ?_) (congrArg V.str ey)) q
  have e1 : (encC (.int i)).length = 2 + (numC i).length := by
    show (105 :: (numC i ++ [59])).length = _
    rw [List.length_cons, List.length_append, List.length_singleton]
    omega
  have e2 : ([Str.ofString "i", (toString i : Str), Str.ofString ";"].map (·.length)).sum = 1 + ((numC i).length + (1 + 0)) := by
    show (Str.ofString "i").length + ((toString i : Str).length + ((Str.ofString ";").length + 0)) = _
    rw [str_len, str_len, str_len, a1, a2] <;> rfl
  omega
/-- return f't{len(item)}:{item}' -/
theorem enc_str {n : Nat} {z : Str} {σ : L2.St} {H : Hp} {D : Ends} (hf : It.fit n (.str z)) (hz : (encC (.str z)).length ≤ 16000000) (q : ∀ H1, Ex H H1 → D.rt (.str ⟨(encC (.str z)).toArray⟩) H1) {te : TE} (he : Ev te σ H (.str z) := by exact ev_var rfl) :
    tRet (fun σ H Q => tJs [tC (.str (Str.ofString "t")), tFmt (tCB (fun xs H Q => ∃ z, xs = [V.str z] ∧ z.length ≤ sizeLine ∧ Q (.int z.length) H) (tCons te tNil)), tC (.str (Str.ofString ":")), tFmt te] Str.empty σ H fun out H1 => Q (.str out) H1) D σ H := by
  have a1 : (Str.ofString "t").cps.toList = [116] := by decide +kernel
  have a2 : (Str.ofString ":").cps.toList = [58] := by decide +kernel
  have a0 : (Str.empty).cps.toList = [] := by decide +kernel
  have hl := fit_str hf
  have hl2 : z.length ≤ sizeLine := sizeOk (by omega)
  have hs : ((z.length : Int)).natAbs.log2 < 1920 := Nat.lt_of_lt_of_le (PySem.Flt.log2_lt_of (k := 64) (by decide) (by omega)) (by decide)
  have ey : ([Str.ofString "t", (toString (z.length : Int) : Str), Str.ofString ":", z].foldl (· ++ ·) Str.empty : Str) = ⟨(encC (.str z)).toArray⟩ := mk_of (by
    show ((((Str.empty ++ Str.ofString "t") ++ (toString (z.length : Int) : Str)) ++ Str.ofString ":") ++ z).cps.toList = _
    rw [codes_app (codes_app (codes_app (codes_app a0 a1) rfl) a2) rfl]
    show _ = 116 :: (numC (z.length : Int) ++ (58 :: z.cps.toList))
    simp [numC])
  refine s_ret (ev_is (ev_joined (.cons ev_c (.cons (ev_fmtI (fun H1 e Q q => he H1 e _ fun H2 e2 => ⟨z, rfl, hl2, q H2 e2⟩) hs) (.cons ev_c (.cons (ev_fmtS he (by omega)) .nil)))) ?_) (congrArg V.str ey)) q
  have e1 : (encC (.str z)).length = 2 + (numC (z.length : Int)).length + z.cps.toList.length := by
    show (116 :: (numC (z.length : Int) ++ (58 :: z.cps.toList))).length = _
    rw [List.length_cons, List.length_append, List.length_cons]
    omega
  have e2 : ([Str.ofString "t", (toString (z.length : Int) : Str), Str.ofString ":", z].map (·.length)).sum = 1 + ((numC (z.length : Int)).length + (1 + (z.cps.toList.length + 0))) := by
    show (Str.ofString "t").length + ((toString (z.length : Int) : Str).length + ((Str.ofString ":").length + (z.length + 0))) = _
    rw [str_len, str_len (toString _ : Str), str_len (Str.ofString ":"), str_len z, a1, a2] <;> rfl
  omega

def rCatS' : R2 := fun x y H Q => ∃ i j, x = V.str i ∧ y = V.str j ∧ i.length + j.length ≤ sizeLine ∧ Q (.str (i ++ j)) H
/-- return 'i' + str(item) + ';' -/
theorem wr_int {n : Nat} {i : Int} {σ : L2.St} {H : Hp} {D : Ends} (hf : It.fit n (.int i)) (hz : (encC (.int i)).length ≤ 16000000) (q : ∀ H1, Ex H H1 → D.rt (.str ⟨(encC (.int i)).toArray⟩) H1) {te : TE} (he : Ev te σ H (.int i) := by exact ev_var rfl) :
    tRet (tOp rCatS' (tOp rCatS' (tC (.str (Str.ofString "i"))) (tCB (fun xs H Q => ∃ i : Int, xs = [V.int i] ∧ i.natAbs.log2 < 1920 ∧ Q (.str (toString i)) H) (tCons te tNil))) (tC (.str (Str.ofString ";")))) D σ H := by
  have a1 : (Str.ofString "i").cps.toList = [105] := by decide +kernel
  have a2 : (Str.ofString ";").cps.toList = [59] := by decide +kernel
  have ey : ((Str.ofString "i" ++ (toString i : Str)) ++ Str.ofString ";") = (⟨(encC (.int i)).toArray⟩ : Str) := mk_of (by
    rw [codes_app (codes_app a1 rfl) a2]
    show _ = 105 :: (numC i ++ [59])
    simp [numC])
  have e1 : (encC (.int i)).length = 2 + (numC i).length := by
    show (105 :: (numC i ++ [59])).length = _
    rw [List.length_cons, List.length_append, List.length_singleton]
    omega
  have e3 : (toString i : Str).length = (numC i).length := str_len _
  have e2 : (Str.ofString "i" ++ (toString i : Str)).length = 1 + (numC i).length := by
    rw [str_len, codes_app a1 rfl, List.length_append] <;> rfl
  have l1 : (Str.ofString "i").length = 1 := by decide +kernel
  have l2 : (Str.ofString ";").length = 1 := by decide +kernel
  refine s_ret (ev_is (ev_addS (ev_addS ev_c (ev_strI he (fit_int hf)) ?_) ev_c ?_) (congrArg V.str ey)) q
  · rw [l1, e3]; omega
  · rw [e2, l2]; omega
/-- return 't' + str(len(item)) + ':' + item -/
theorem wr_str {n : Nat} {z : Str} {σ : L2.St} {H : Hp} {D : Ends} (hf : It.fit n (.str z)) (hz : (encC (.str z)).length ≤ 16000000) (q : ∀ H1, Ex H H1 → D.rt (.str ⟨(encC (.str z)).toArray⟩) H1) {te : TE} (he : Ev te σ H (.str z) := by exact ev_var rfl) :
    tRet (tOp rCatS' (tOp rCatS' (tOp rCatS' (tC (.str (Str.ofString "t"))) (tCB (fun xs H Q => ∃ i : Int, xs = [V.int i] ∧ i.natAbs.log2 < 1920 ∧ Q (.str (toString i)) H) (tCons (tCB (fun xs H Q => ∃ z, xs = [V.str z] ∧ z.length ≤ sizeLine ∧ Q (.int z.length) H) (tCons te tNil)) tNil))) (tC (.str (Str.ofString ":")))) te) D σ H := by
  have a1 : (Str.ofString "t").cps.toList = [116] := by decide +kernel
  have a2 : (Str.ofString ":").cps.toList = [58] := by decide +kernel
  have hl := fit_str hf
  have hl2 : z.length ≤ sizeLine := sizeOk (by omega)
  have hs : ((z.length : Int)).natAbs.log2 < 1920 := Nat.lt_of_lt_of_le (PySem.Flt.log2_lt_of (k := 64) (by decide) (by omega)) (by decide)
  have ey : (((Str.ofString "t" ++ (toString (z.length : Int) : Str)) ++ Str.ofString ":") ++ z) = (⟨(encC (.str z)).toArray⟩ : Str) := mk_of (by
    rw [codes_app (codes_app (codes_app a1 rfl) a2) rfl]
    show _ = 116 :: (numC (z.length : Int) ++ (58 :: z.cps.toList))
    simp [numC])
  have e1 : (encC (.str z)).length = 2 + (numC (z.length : Int)).length + z.cps.toList.length := by
    show (116 :: (numC (z.length : Int) ++ (58 :: z.cps.toList))).length = _
    rw [List.length_cons, List.length_append, List.length_cons]
    omega
  have e3 : (toString (z.length : Int) : Str).length = (numC (z.length : Int)).length := str_len _
  have e2 : (Str.ofString "t" ++ (toString (z.length : Int) : Str)).length = 1 + (numC (z.length : Int)).length := by
    rw [str_len, codes_app a1 rfl, List.length_append] <;> rfl
  have e4 : ((Str.ofString "t" ++ (toString (z.length : Int) : Str)) ++ Str.ofString ":").length = 2 + (numC (z.length : Int)).length := by
    rw [str_len, codes_app (codes_app a1 rfl) a2, List.length_append, List.length_append]
    show 1 + _ + 1 = _
    unfold numC
    omega
  have l1 : (Str.ofString "t").length = 1 := by decide +kernel
  have l2 : (Str.ofString ":").length = 1 := by decide +kernel
  have l4 := str_len z
  refine s_ret (ev_is (ev_addS (ev_addS (ev_addS ev_c (ev_strI (fun H1 e Q q => he H1 e _ fun H2 e2 => ⟨z, rfl, hl2, q H2 e2⟩) hs) ?_) ev_c ?_) he ?_) (congrArg V.str ey)) q
  · rw [l1, e3]; omega
  · rw [e2, l2]; omega
  · rw [e4]; omega
/-! ### sizes -/
theorem numC_len {i : Int} (h : i.natAbs.log2 < 1920) : (numC i).length ≤ 1921 := by
  have e := int_text_length_le (k := 1920) (by decide) h
  have e2 : (numC i).length = (toString i : Str).length := (str_len _).symm
  rw [e2]
  show (Str.ofString (toString i)).length ≤ 1921
  rw [PySem.ofString_length]
  exact e
theorem enc_int_len {i : Int} (h : i.natAbs.log2 < 1920) : (encC (.int i)).length ≤ 1923 := by
  have := numC_len h
  show (105 :: (numC i ++ [59])).length ≤ _
  rw [List.length_cons, List.length_append, List.length_singleton]
  omega
theorem enc_str_len {z : Str} (h : z.length ≤ 1000000) : (encC (.str z)).length ≤ 1923 + z.length := by
  have hs : ((z.length : Int)).natAbs.log2 < 1920 := Nat.lt_of_lt_of_le (PySem.Flt.log2_lt_of (k := 64) (by decide) (by omega)) (by decide)
  have := numC_len hs
  have e := str_len z
  show (116 :: (numC (z.length : Int) ++ (58 :: z.cps.toList))).length ≤ _
  rw [List.length_cons, List.length_append, List.length_cons]
  omega
/-- a value of the document: None, an int below 10 ** 60, a text of some signs -/
def It.sc : It → Prop
  | .non => True
  | .int i => -(10 ^ 60) < i ∧ i < 10 ^ 60
  | .str z => z.length ≤ 200
  | .tup _ => False
def vz : It → V
  | .non => .non
  | .int i => .int i
  | .str z => .str z
  | .tup _ => .non
theorem It.sc_fit {d : It} (h : d.sc) (n : Nat) : d.fit n := by
  cases d with
  | non => cases n <;> trivial
  | int i => cases n <;> exact h
  | str z =>
    have h : z.length ≤ 200 := h
    cases n <;> (show z.length ≤ 999999; omega)
  | tup xs => exact h.elim
theorem It.sc_len {d : It} (h : d.sc) : (encC d).length ≤ 2200 := by
  cases d with
  | non => show 1 ≤ 2200; decide
  | int i => exact Nat.le_trans (enc_int_len (log60 h)) (by decide)
  | str z =>
    have h : z.length ≤ 200 := h
    have := enc_str_len (z := z) (by omega)
    omega
  | tup xs => exact h.elim
theorem Dv.sc {K : PySem.W.Frag} {H : Hp} {d : It} (h : d.sc) : Dv K H (vz d) d := by
  cases d with
  | non => exact .non
  | int i => exact .int i
  | str z => exact .str z
  | tup xs => exact h.elim
theorem DvL.sc {K : PySem.W.Frag} {H : Hp} : ∀ {ds : List It}, (∀ d ∈ ds, d.sc) → DvL K H (ds.map vz) ds
  | [], _ => .nil
  | d :: ds, h => .cons (.sc (h d (List.mem_cons_self ..))) (.sc fun x hx => h x (List.mem_cons_of_mem _ hx))
theorem encL_len : ∀ {ds : List It} {m : Nat}, (∀ d ∈ ds, (encC d).length ≤ m) → (encL ds).length ≤ ds.length * m
  | [], m, _ => Nat.zero_le _
  | d :: ds, m, h => by
    have h1 := h d (List.mem_cons_self ..)
    have h2 := encL_len (ds := ds) (m := m) fun x hx => h x (List.mem_cons_of_mem _ hx)
    show (encC d ++ encL ds).length ≤ (ds.length + 1) * m
    rw [List.length_append, Nat.add_mul]
    omega
theorem enc_tup_len (ds : List It) : (encC (.tup ds)).length = (encL ds).length + 2 := by
  show (40 :: (encL ds ++ [41])).length = _
  rw [List.length_cons, List.length_append] <;> rfl


/-- the digest -/
def digS (t : Int) (c : Nat) : Int := (31 * t + (c : Int)) % 1000003
def digZ (l : List Nat) : Int := l.foldl digS 7
theorem digZ_succ {l : List Nat} {i c : Nat} (h : l[i]? = some c) : digZ (l.take (i + 1)) = (31 * digZ (l.take i) + (c : Int)) % 1000003 := by
  unfold digZ
  rw [List.take_add_one, h]
  show ((l.take i) ++ [c]).foldl digS 7 = _
  rw [List.foldl_append] <;> rfl
theorem digZ_ge : ∀ (l : List Nat), 0 ≤ digZ l ∧ digZ l < 1000003 := by
  intro l
  unfold digZ
  have key : ∀ (l : List Nat) (t : Int), 0 ≤ t ∧ t < 1000003 → 0 ≤ l.foldl digS t ∧ l.foldl digS t < 1000003 := by
    intro l
    induction l with
    | nil => exact fun t h => h
    | cons a r ih => exact fun t _ => ih (digS t a) ⟨Int.emod_nonneg (31 * t + (a : Int)) (by decide : (1000003 : Int) ≠ 0), Int.emod_lt_of_pos (31 * t + (a : Int)) (by decide : (0 : Int) < 1000003)⟩
  exact key l 7 ⟨by decide, by decide⟩
def spDig : Sp := fun vs H Q _ => ∃ z : Str, vs = [.str z] ∧ ∀ H', Ex H H' → Q (.int (digZ z.cps.toList)) H'
theorem cv_dig {z : Str} {H : Hp} : SpV spDig [.str z] H (.int (digZ z.cps.toList)) := fun H1 e Q q E => ⟨z, rfl, fun H2 e2 => q H2 e2⟩


/-! ### what is read back -/
theorem numC_nat (n : Nat) : numC ((n : Nat) : Int) = TL.numL n := TL.tl_num n
theorem neg_text (n : Nat) : (toString (Int.negSucc n) : String) = "-" ++ toString ((n + 1 : Nat) : Int) := rfl
theorem ofString_app (a b : String) : Str.ofString (a ++ b) = Str.ofString a ++ Str.ofString b := by
  refine str_ext ?_
  rw [codes_app (signs_ofString a) (signs_ofString b), signs_ofString, String.toList_append, List.map_append]
theorem numC_neg (n : Nat) : numC (Int.negSucc n) = 45 :: TL.numL (n + 1) := by
  show (Str.ofString (toString (Int.negSucc n))).cps.toList = _
  rw [neg_text, ofString_app, codes_app (x := [45]) (by decide +kernel) rfl]
  exact congrArg (List.cons 45) (numC_nat (n + 1))
/-- digits without a leading zero -/
structure Digs (ds : List Nat) (most : Nat) : Prop where
  all : ∀ c ∈ ds, 48 ≤ c ∧ c ≤ 57
  ne : ds ≠ []
  len : ds.length ≤ most
  lead : ds.length = 1 ∨ ds.head? ≠ some 48
theorem numL_head : ∀ n : Nat, (TL.numL n).length = 1 ∨ (TL.numL n).head? ≠ some 48 := by
  intro n
  induction n using Nat.strongRecOn with
  | _ n ih =>
    by_cases h : n < 10
    · exact .inl (by rw [TL.numL_lt h] <;> rfl)
    · refine .inr ?_
      have h10 : 10 ≤ n := by omega
      rw [TL.numL_step h10]
      have hne := TL.numL_ne (n / 10)
      cases e : TL.numL (n / 10) with
      | nil => exact absurd e hne
      | cons c r =>
        show some c ≠ some 48
        rcases ih (n / 10) (by omega) with h1 | h1
        · rw [e] at h1
          have hr : r = [] := List.length_eq_zero_iff.mp (by simpa using h1)
          subst hr
          have hq : n / 10 < 10 := by
            by_cases hq : n / 10 < 10
            · exact hq
            · rw [TL.numL_step (by omega)] at e
              have := congrArg List.length e
              have h3 := List.length_pos_iff.mpr (TL.numL_ne (n / 10 / 10))
              rw [List.length_append, List.length_singleton, List.length_singleton] at this
              omega
          rw [TL.numL_lt hq] at e
          have e2 : 48 + n / 10 = c := by simpa using e
          intro z
          have := Option.some.inj z
          omega
        · rw [e] at h1
          exact h1
theorem digs_num {n most : Nat} (hm : 0 < most) (h : n < 10 ^ most) : Digs (TL.numL n) most := ⟨TL.numL_digits n, TL.numL_ne n, TL.numL_len hm h, numL_head n⟩
theorem slice_app {l a b c : List Nat} (h : l = a ++ (b ++ c)) : (l.drop a.length).take b.length = b := by
  rw [h, List.drop_left, List.take_left]
/-- text[i:j] of a text that is known there -/
theorem cutS_at {z : Str} {a b c : List Nat} (h : z.cps.toList = a ++ (b ++ c)) : cutS z (some (a.length : Int)) (some ((a.length + b.length : Nat) : Int)) = ⟨b.toArray⟩ := by
  have el : z.length = a.length + (b.length + c.length) := by rw [str_len, h, List.length_append, List.length_append]
  unfold cutS
  rw [HT.sIx_nat, HT.sIx_nat, Nat.min_eq_left (by omega), Nat.min_eq_left (by omega), Nat.add_sub_cancel_left, slice_app h]
theorem int_at {i : Int} (h : -(10 ^ 60) < i ∧ i < 10 ^ 60) : intText? (⟨(numC i).toArray⟩ : Str) = some i ∧ (⟨(numC i).toArray⟩ : Str).length ≤ 640 := by
  have e60 : (10 : Int) ^ 60 = 1000000000000000000000000000000000000000000000000000000000000 := by decide
  have n60 : (10 : Nat) ^ 60 = 1000000000000000000000000000000000000000000000000000000000000 := by decide
  rw [e60] at h
  cases i with
  | ofNat n =>
    have hn : n < 10 ^ 60 := by
      rw [n60]
      have := h.2
      simp at this
      omega
    have hl := TL.numL_len (by decide) hn
    have e : (⟨(numC (Int.ofNat n)).toArray⟩ : Str) = Str.ofString (toString ((n : Nat) : Int)) := str_ext rfl
    refine ⟨?_, ?_⟩
    · rw [e]
      exact TL.int_num (by omega)
    · rw [str_len]
      show (numC ((n : Nat) : Int)).length ≤ 640
      rw [numC_nat]
      omega
  | negSucc n =>
    have hn : n + 1 < 10 ^ 60 := by
      rw [n60]
      have := h.1
      omega
    have hl := TL.numL_len (by decide) hn
    have ec : (⟨(numC (Int.negSucc n)).toArray⟩ : Str).cps.toList = 45 :: TL.numL (n + 1) := numC_neg n
    have ln : (⟨(numC (Int.negSucc n)).toArray⟩ : Str).length = (TL.numL (n + 1)).length + 1 := by rw [str_len, ec] <;> rfl
    refine ⟨?_, by omega⟩
    have := PySem.intText_neg ec (TL.numL_digits _) (TL.numL_ne _) (by omega)
    rw [TL.numL_val] at this
    rw [this]
    exact congrArg some (by omega)
/-! ### a chain of two comparisons of texts -/
theorem le_str1 (a c : Nat) : (!decide ((⟨#[c]⟩ : Str).cps.toList < (⟨#[a]⟩ : Str).cps.toList)) = decide (a ≤ c) := by
  have e : ((⟨#[c]⟩ : Str).cps.toList < (⟨#[a]⟩ : Str).cps.toList) ↔ c < a := by
    show ([c] : List Nat) < [a] ↔ c < a
    constructor
    · intro h
      cases h with
      | rel h => exact h
      | cons h => cases h
    · intro h
      exact List.Lex.rel h
  by_cases h : c < a
  · rw [decide_eq_true (e.mpr h), decide_eq_false (by omega)] <;> rfl
  · rw [decide_eq_false (fun z => h (e.mp z)), decide_eq_true (by omega)] <;> rfl
abbrev rLeS : R2 := fun x y H Q => ∃ i j, x = .str i ∧ y = .str j ∧ Q (.bl (!decide (j.cps.toList < i.cps.toList))) H
theorem et_dig {σ : L2.St} {H : Hp} {tb : TE} {c : Nat} (hb : Ev tb σ H (.str ⟨#[c]⟩)) : EvT (tTest (tChain rLeS rLeS (tC (.str (Str.ofString "0"))) tb (tC (.str (Str.ofString "9"))))) σ H (decide (48 ≤ c ∧ c ≤ 57)) := fun H1 e Q q => by
  have e0 : (Str.ofString "0") = ⟨#[48]⟩ := by decide +kernel
  have e9 : (Str.ofString "9") = ⟨#[57]⟩ := by decide +kernel
  refine hb H1 e _ fun H2 e2 => ⟨_, _, rfl, rfl, decide (48 ≤ c), ?_, ?_⟩
  · rw [e0]
    exact congrArg V.bl (le_str1 48 c)
  · by_cases h : 48 ≤ c
    · rw [decide_eq_true h]
      refine iteT ⟨_, _, rfl, rfl, decide (c ≤ 57), ?_, ?_⟩
      · rw [e9]
        exact congrArg V.bl (le_str1 c 57)
      · have : decide (48 ≤ c ∧ c ≤ 57) = decide (c ≤ 57) := decide_eq_decide.mpr ⟨fun z => z.2, fun z => ⟨h, z⟩⟩
        rw [← this]
        exact q H2 e2
    · rw [decide_eq_false h]
      refine iteF ⟨false, rfl, ?_⟩
      have : decide (48 ≤ c ∧ c ≤ 57) = false := decide_eq_false fun z => h z.1
      rw [← this]
      exact q H2 e2
theorem str1_eq {a c : Nat} : decide ((⟨#[c]⟩ : Str) = ⟨#[a]⟩) = decide (c = a) := decide_eq_decide.mpr ⟨fun h => by
  have := congrArg (fun s : Str => s.cps.toList) h
  simpa using this, fun h => by rw [h]⟩
def spDec (K : PySem.W.Frag) : Sp := fun vs H Q _ => ∃ (z : Str) (d : It), vs = [.str z] ∧ z = ⟨(encC d).toArray⟩ ∧ d.fit 12 ∧ (encC d).length ≤ 16000000 ∧ ∀ v H', Ex H H' → Dv K H' v d → Q v H'


/-! ### kinds -/
def kIn (k : Str) (xs : List String) : Bool := inV (.str k) (xs.map fun x => V.str (Str.ofString x))
def baseT (k : Str) : Str := if kIn k ["int", "int?"] then Str.ofString "int" else Str.ofString "text"
theorem ev_kinU {K : PySem.W.Frag} {σ : L2.St} {H : Hp} {ta tb : TE} {k : Str} {xs : List String} (ha : Ev ta σ H (.str k)) (hb : EvU tb σ H (xs.map fun x => V.str (Str.ofString x))) (hf : (xs.map fun x => V.str (Str.ofString x)).all flatV = true := by rfl) : Ev (tOp (rIn K false) ta tb) σ H (.bl (kIn k xs)) := ev_inU ha hb rfl hf
theorem ev_kinL {K : PySem.W.Frag} {σ : L2.St} {H : Hp} {ta tb : TE} {k : Str} {xs : List String} (ha : Ev ta σ H (.str k)) (hb : EvL tb σ H (xs.map fun x => V.str (Str.ofString x))) (hf : (xs.map fun x => V.str (Str.ofString x)).all flatV = true := by rfl) : Ev (tOp (rIn K false) ta tb) σ H (.bl (kIn k xs)) := ev_opL ha hb fun _ _ h _ => rv_isL (sq_of h) rfl hf
/-- None, an integer or a text -/
inductive Sc : V → Prop
  | non : Sc .non
  | int (i : Int) : Sc (.int i)
  | str (z : Str) : Sc (.str z)
def accB (k : Str) : V → Bool
  | .non => kIn k ["int?", "text?"]
  | .int _ => decide (baseT k = Str.ofString "int")
  | _ => !decide (baseT k = Str.ofString "int")


/-! ### names: a comprehension over a text, all, chains -/
theorem el_lcS {σ : L2.St} {H : Hp} {te tl : TE} {z : Str} {j : Nat} {vs : List Nat} {ys : List V} (h : Ev te σ H (.str z)) (hz : z.cps.toList.length ≤ 40000) (hw : ∀ x, wipe ((wipe σ vs).set j (some x)) vs = wipe σ vs) (hl : ys.length = z.cps.toList.length)
    (he : ∀ (i c : Nat) (y : V), z.cps.toList[i]? = some c → ys[i]? = some y → ∀ H1, Ex H H1 → Ev tl ((wipe σ vs).set j (some (.str ⟨#[c]⟩))) H1 y) : EvL (tLc (iStr te) (gName j) tYes tl vs) σ H ys := fun H0 e Q q => h H0 e _ fun H1 e1 => ⟨z, rfl, fun D hD => by
  have g : given z.cps.toList.length (fun _ => true) (fun i => ys.getD i .non) = ys := given_all hl fun i hi => by
    have hi2 : i < ys.length := by omega
    rw [List.getElem?_eq_getElem hi2, List.getD_eq_getElem?_getD, List.getElem?_eq_getElem hi2] <;> rfl
  refine ⟨fun i m H' => m = z.cps.toList.length - i ∧ i ≤ z.cps.toList.length ∧ Cw H1 (fun _ => true) (fun i => ys.getD i .non) D i H', ⟨_, rfl, Nat.zero_le _, hD, Ex.new hD, upd_same⟩, ?_⟩
  rintro i m H' ⟨rfl, hi, p⟩
  by_cases hlt : i < z.cps.toList.length
  · refine .inr ⟨(by show i < z.cps.size; simpa using hlt), Cw H1 (fun _ => true) (fun i => ys.getD i .non) D (i + 1), fun H2 p2 => ⟨_, by omega, rfl, hlt, p2⟩, fun x H2 y => ?_⟩
    obtain ⟨rfl, c, hc, rfl⟩ := y
    have hc' : z.cps.toList[i]? = some c := by simpa using hc
    have hi2 : i < ys.length := by omega
    have hy : ys[i]? = some (ys.getD i .non) := by rw [List.getElem?_eq_getElem hi2, List.getD_eq_getElem?_getD, List.getElem?_eq_getElem hi2] <;> rfl
    exact ⟨hw _, cw_turn p (by omega) (fun H3 e3 Q q => q H3 (Ex.refl H3)) fun _ => (he i c _ hc' hy H1 (e.trans e1))⟩
  · have ei : i = z.cps.toList.length := by omega
    subst ei
    refine .inl ⟨(by show z.cps.size ≤ z.cps.toList.length; simp), ?_⟩
    have p2 := p.2.2
    rw [g] at p2
    exact q D H' (fresh_back e1 p.1) (e1.trans p.2.1) p2⟩
theorem ev_allN {K : PySem.W.Frag} {σ : L2.St} {H : Hp} {te : TE} {bs : List Bool} (h : EvL te σ H (bs.map V.bl)) : Ev (tCB (rAll K) (tCons te tNil)) σ H (.bl (bs.all id)) := fun H1 e Q q =>
  h H1 e _ fun p H2 _ e2 hp => ⟨p, bs, rfl, sq_of hp, q H2 e2⟩
theorem ev_chainI {f g : Int → Int → V} {σ : L2.St} {H : Hp} {tb : TE} {i j k : Int} {a b : Bool} (hb : Ev tb σ H (.int j)) (hf : f i j = .bl a) (hg : g j k = .bl b) : Ev (tChain (rI0 f) (rI0 g) (tC (.int i)) tb (tC (.int k))) σ H (.bl (a && b)) := fun H1 e Q q =>
  hb H1 e _ fun H2 e2 => ⟨i, j, rfl, rfl, a, hf, by
    cases a with
    | true => exact iteT ⟨j, k, rfl, rfl, by rw [hg]; exact q H2 e2⟩
    | false => exact iteF (q H2 e2)⟩
theorem ev_chainS {σ : L2.St} {H : Hp} {tb : TE} {x y c : Nat} {sx sy : Str} (hx : sx = ⟨#[x]⟩) (hy : sy = ⟨#[y]⟩) (hb : Ev tb σ H (.str ⟨#[c]⟩)) : Ev (tChain rLeS rLeS (tC (.str sx)) tb (tC (.str sy))) σ H (.bl (decide (x ≤ c ∧ c ≤ y))) := fun H1 e Q q => by
  subst hx hy
  refine hb H1 e _ fun H2 e2 => ⟨_, _, rfl, rfl, decide (x ≤ c), congrArg V.bl (le_str1 x c), ?_⟩
  by_cases h : x ≤ c
  · rw [decide_eq_true h]
    refine iteT ⟨_, _, rfl, rfl, ?_⟩
    rw [le_str1 c y]
    have : decide (x ≤ c ∧ c ≤ y) = decide (c ≤ y) := decide_eq_decide.mpr ⟨fun z => z.2, fun z => ⟨h, z⟩⟩
    rw [← this]
    exact q H2 e2
  · rw [decide_eq_false h]
    refine iteF ?_
    have : decide (x ≤ c ∧ c ≤ y) = false := decide_eq_false fun z => h z.1
    rw [← this]
    exact q H2 e2
def lowerC (c : Nat) : Bool := decide (97 ≤ c ∧ c ≤ 122)
def nameB (z : Str) : Bool := decide (1 ≤ z.length ∧ z.length ≤ 12) && z.cps.toList.all lowerC


/-! ### data of the heap -/
mutual
theorem dp_mono {K : PySem.W.Frag} {H H' : Hp} (e : Ex H H') : ∀ {v : V} {d : PyData}, Dp K H v d → Dp K H' v d
  | _, _, .non => .non
  | _, _, .bl b => .bl b
  | _, _, .int i => .int i
  | _, _, .str z => .str z
  | _, _, .lst h r => .lst (ex_l e h) (dpa_mono e r)
  | _, _, .tup h r => .tup (ex_t e h) (dpa_mono e r)
theorem dpa_mono {K : PySem.W.Frag} {H H' : Hp} (e : Ex H H') : ∀ {vs : List V} {ds : List PyData}, DpAll K H vs ds → DpAll K H' vs ds
  | _, _, .nil => .nil
  | _, _, .cons h r => .cons (dp_mono e h) (dpa_mono e r)
end
theorem dpa_len {K : PySem.W.Frag} {H : Hp} : ∀ {vs : List V} {ds : List PyData}, DpAll K H vs ds → vs.length = ds.length
  | _, _, .nil => rfl
  | _, _, .cons _ r => congrArg (· + 1) (dpa_len r)
theorem dpa_app {K : PySem.W.Frag} {H : Hp} : ∀ {vs us : List V} {ds es : List PyData}, DpAll K H vs ds → DpAll K H us es → DpAll K H (vs ++ us) (ds ++ es)
  | _, _, _, _, .nil, h => h
  | _, _, _, _, .cons a r, h => .cons a (dpa_app r h)
theorem dpa_at {K : PySem.W.Frag} {H : Hp} : ∀ {vs : List V} {ds : List PyData}, DpAll K H vs ds → ∀ {i : Nat} {v : V}, vs[i]? = some v → ∃ d, ds[i]? = some d ∧ Dp K H v d
  | _, _, .cons h _, 0, v, e => by
    cases Option.some.inj e
    exact ⟨_, rfl, h⟩
  | _, _, .cons _ r, i + 1, v, e => by
    obtain ⟨d, h1, h2⟩ := dpa_at r (i := i) (by simpa using e)
    exact ⟨d, by simpa using h1, h2⟩
theorem dpa_get {K : PySem.W.Frag} {H : Hp} : ∀ {vs : List V} {ds : List PyData}, DpAll K H vs ds → ∀ {i : Nat} {d : PyData}, ds[i]? = some d → ∃ v, vs[i]? = some v ∧ Dp K H v d
  | _, _, .cons h _, 0, d, e => by
    cases Option.some.inj e
    exact ⟨_, rfl, h⟩
  | _, _, .cons _ r, i + 1, d, e => by
    obtain ⟨v, h1, h2⟩ := dpa_get r (i := i) (by simpa using e)
    exact ⟨v, by simpa using h1, h2⟩
/-- data without lists, bools and dicts, of nesting at most n -/
inductive Fl : Nat → PyData → Prop
  | non (n : Nat) : Fl n .none
  | int (n : Nat) (i : Int) : Fl n (.int i)
  | str (n : Nat) {z : Str} (h : SeqAt.shaped (.str z) = true) : Fl n (.str z)
  | tup {n : Nat} {ds : List PyData} (h : ∀ d ∈ ds, Fl n d) (hl : ds.length ≤ 1000 := by first | decide | simp) : Fl (n + 1) (.tuple ds)
theorem Fl.mono : ∀ {n m : Nat} {d : PyData}, Fl n d → n ≤ m → Fl m d
  | _, _, _, .non _, _ => .non _
  | _, _, _, .int _ i, _ => .int _ i
  | _, _, _, .str _ h, _ => .str _ h
  | n + 1, m + 1, _, .tup h l, e => .tup (fun d hd => (h d hd).mono (by omega)) l
  | n + 1, 0, _, .tup h _, e => by omega
mutual
theorem dp_monoN {K : PySem.W.Frag} {H H' : Hp} (e : ExN H H') : ∀ {n : Nat} {v : V} {d : PyData}, Fl n d → Dp K H v d → Dp K H' v d
  | _, _, _, .non _, .non => .non
  | _, _, _, .int _ i, .int _ => .int i
  | _, _, _, .str _ _, .str z => .str z
  | _ + 1, _, _, .tup f _, .tup h r => .tup (exN_t e h) (dpa_monoN e f r)
theorem dpa_monoN {K : PySem.W.Frag} {H H' : Hp} (e : ExN H H') : ∀ {n : Nat} {vs : List V} {ds : List PyData}, (∀ d ∈ ds, Fl n d) → DpAll K H vs ds → DpAll K H' vs ds
  | _, _, _, _, .nil => .nil
  | _, _, _, f, .cons h r => .cons (dp_monoN e (f _ (List.mem_cons_self ..)) h) (dpa_monoN e (fun d hd => f d (List.mem_cons_of_mem _ hd)) r)
end
theorem q_asgK {te : TE} {σ : L2.St} {H : Hp} {tz : TS} {D : Ends} {i : Nat} (k : te σ H fun v H1 => tz D (σ.set i (some v)) H1) : tSeq (tAsg te (gName i)) tz D σ H := k
theorem q_asgG {te : TE} {g : TG} {σ : L2.St} {H : Hp} {tz : TS} {D : Ends} (k : te σ H fun v H1 => g v σ H1 (tz D)) : tSeq (tAsg te g) tz D σ H := k
/-! ### equality of data -/
/-- no bool, no dict -/
inductive Pl : PyData → Prop
  | non : Pl .none
  | int (i : Int) : Pl (.int i)
  | str (z : Str) : Pl (.str z)
  | lst {ds : List PyData} (h : ∀ d ∈ ds, Pl d) : Pl (.list ds)
  | tup {ds : List PyData} (h : ∀ d ∈ ds, Pl d) : Pl (.tuple ds)
theorem Fl.pl : ∀ {n : Nat} {d : PyData}, Fl n d → Pl d
  | _, _, .non _ => .non
  | _, _, .int _ i => .int i
  | _, _, .str _ _ => .str _
  | _ + 1, _, .tup h _ => .tup fun d hd => (h d hd).pl
mutual
theorem eqv_iff : ∀ (d e : PyData), Pl d → Pl e → (PyData.eqv d e = true ↔ d = e)
  | .none, e, _, he => by cases he <;> simp [PyData.eqv]
  | .int i, e, _, he => by cases he <;> simp [PyData.eqv]
  | .str z, e, _, he => by cases he <;> simp [PyData.eqv]
  | .list xs, e, hd, he => by
    cases hd with
    | lst hd =>
      cases he with
      | lst he =>
        rename_i ys
        rw [show PyData.eqv (.list xs) (.list ys) = PyData.eqvAll xs ys by simp [PyData.eqv], eqvAll_iff xs ys hd he]
        simp
      | _ => simp [PyData.eqv]
  | .tuple xs, e, hd, he => by
    cases hd with
    | tup hd =>
      cases he with
      | tup he =>
        rename_i ys
        rw [show PyData.eqv (.tuple xs) (.tuple ys) = PyData.eqvAll xs ys by simp [PyData.eqv], eqvAll_iff xs ys hd he]
        simp
      | _ => simp [PyData.eqv]
  | .bool _, _, hd, _ => by cases hd
  | .dict _, _, hd, _ => by cases hd
theorem eqvAll_iff : ∀ (xs ys : List PyData), (∀ d ∈ xs, Pl d) → (∀ d ∈ ys, Pl d) → (PyData.eqvAll xs ys = true ↔ xs = ys)
  | [], [], _, _ => by simp [PyData.eqvAll]
  | [], y :: ys, _, _ => by simp [PyData.eqvAll]
  | x :: xs, [], _, _ => by simp [PyData.eqvAll]
  | x :: xs, y :: ys, hx, hy => by
    rw [show PyData.eqvAll (x :: xs) (y :: ys) = (PyData.eqv x y && PyData.eqvAll xs ys) by simp [PyData.eqvAll], Bool.and_eq_true,
      eqv_iff x y (hx x (List.mem_cons_self ..)) (hy y (List.mem_cons_self ..)), eqvAll_iff xs ys (fun d hd => hx d (List.mem_cons_of_mem _ hd)) (fun d hd => hy d (List.mem_cons_of_mem _ hd))]
    simp
end
noncomputable def eqB (d e : PyData) : Bool := PyData.eqv d e
theorem eqv_dec {d e : PyData} (hd : Pl d) (he : Pl e) [Decidable (d = e)] : PyData.eqv d e = decide (d = e) := by
  by_cases h : d = e
  · rw [decide_eq_true h]
    exact (eqv_iff d e hd he).mpr h
  · rw [decide_eq_false h]
    cases x : PyData.eqv d e with
    | false => rfl
    | true => exact absurd ((eqv_iff d e hd he).mp x) h
mutual
theorem canLay_fl : ∀ {n : Nat} {d : PyData}, Fl n d → d.canLay0 = true
  | _, .none, _ => by simp [PyData.canLay0]
  | _, .int _, _ => by simp [PyData.canLay0]
  | _, .str z, h => by
    cases h with
    | str _ h => exact SeqAt.canLay_of_shaped h
  | _, .tuple xs, h => by
    cases h with
    | tup h _ =>
      rw [show (PyData.tuple xs).canLay0 = PyData.canLayAll0 xs by simp [PyData.canLay0]]
      exact canLayAll_fl h
  | _, .bool _, h => by cases h
  | _, .list _, h => by cases h
  | _, .dict _, h => by cases h
theorem canLayAll_fl : ∀ {n : Nat} {ds : List PyData}, (∀ d ∈ ds, Fl n d) → PyData.canLayAll0 ds = true
  | _, [], _ => by simp [PyData.canLayAll0]
  | _, d :: ds, h => by
    rw [show PyData.canLayAll0 (d :: ds) = (d.canLay0 && PyData.canLayAll0 ds) by simp [PyData.canLayAll0], canLay_fl (h d (List.mem_cons_self ..)), canLayAll_fl fun x hx => h x (List.mem_cons_of_mem _ hx)] <;> rfl
end
mutual
theorem depth_fl : ∀ {n : Nat} {d : PyData}, Fl n d → d.depth ≤ n + 1
  | _, .none, _ => by simp [PyData.depth]
  | _, .int _, _ => by simp [PyData.depth]
  | _, .str z, _ => by simp [PyData.depth]
  | _ + 1, .tuple xs, .tup h _ => by
    rw [show (PyData.tuple xs).depth = 1 + PyData.depthAll xs by simp [PyData.depth, Nat.add_comm]]
    have := depthAll_fl h
    omega
  | _, .bool _, h => by cases h
  | _, .list _, h => by cases h
  | _, .dict _, h => by cases h
theorem depthAll_fl : ∀ {n : Nat} {ds : List PyData}, (∀ d ∈ ds, Fl n d) → PyData.depthAll ds ≤ n + 1
  | _, [], _ => by simp [PyData.depthAll]
  | n, d :: ds, h => by
    have h1 := depth_fl (h d (List.mem_cons_self ..))
    have h2 := depthAll_fl fun x hx => h x (List.mem_cons_of_mem _ hx)
    rw [show PyData.depthAll (d :: ds) = max d.depth (PyData.depthAll ds) by simp [PyData.depthAll]]
    omega
end
theorem shaped_fl {n : Nat} {d : PyData} (h : Fl n d) (hn : n ≤ 60) : SeqAt.shaped d = true := by
  have := depth_fl h
  unfold SeqAt.shaped
  rw [canLay_fl h, decide_eq_true (by omega)] <;> rfl
theorem shaped_lst {n : Nat} {ds : List PyData} (h : ∀ d ∈ ds, Fl n d) (hn : n ≤ 60) : SeqAt.shaped (.list ds) = true := by
  have := depthAll_fl h
  unfold SeqAt.shaped
  rw [show (PyData.list ds).canLay0 = PyData.canLayAll0 ds by simp [PyData.canLay0], canLayAll_fl h, decide_eq_true (by
    rw [show (PyData.list ds).depth = 1 + PyData.depthAll ds by simp [PyData.depth, Nat.add_comm]]
    omega)] <;> rfl
/-! ### what evaluates to data -/
def EP (K : PySem.W.Frag) (te : TE) (σ : L2.St) (H : Hp) (R : PyData → Prop) : Prop := ∀ H1, Ex H H1 → ∀ Q : VK, (∀ v d H2, Ex H1 H2 → R d → Dp K H2 v d → Q v H2) → te σ H1 Q
def EPA (K : PySem.W.Frag) (ta : TA) (σ : L2.St) (H : Hp) (R : List PyData → Prop) : Prop := ∀ H1, Ex H H1 → ∀ Q : List V → Hp → Prop, (∀ vs ds H2, Ex H1 H2 → R ds → DpAll K H2 vs ds → Q vs H2) → ta σ H1 Q
/-- a new list -/
def EPL (K : PySem.W.Frag) (te : TE) (σ : L2.St) (H : Hp) (R : List PyData → Prop) : Prop := ∀ H1, Ex H H1 → ∀ Q : VK, (∀ p vs ds H2, H1 p = none → Ex H1 H2 → H2 p = some (.lst vs) → R ds → DpAll K H2 vs ds → Q (.ref p) H2) → te σ H1 Q
section
variable {K : PySem.W.Frag} {σ : L2.St} {H : Hp} {te ta tb : TE}
theorem ep_is {v : V} {d : PyData} {R : PyData → Prop} (h : Ev te σ H v) (hd : Dp K H v d) (hr : R d) : EP K te σ H R := fun H1 e Q q => h H1 e _ fun H2 e2 => q v d H2 e2 hr (dp_mono (e.trans e2) hd)
theorem ep_int {i : Int} (h : Ev te σ H (.int i)) : EP K te σ H (· = .int i) := ep_is h (.int i) rfl
theorem ep_str {z : Str} (h : Ev te σ H (.str z)) : EP K te σ H (· = .str z) := ep_is h (.str z) rfl
theorem ep_non (h : Ev te σ H .non) : EP K te σ H (· = .none) := ep_is h .non rfl
theorem EP.imp {R S : PyData → Prop} (h : EP K te σ H R) (i : ∀ d, R d → S d) : EP K te σ H S := fun H1 e Q q => h H1 e Q fun v d H2 e2 r D => q v d H2 e2 (i d r) D
theorem EP.mono {R : PyData → Prop} {H' : Hp} (e : Ex H H') (h : EP K te σ H R) : EP K te σ H' R := fun H1 e1 => h H1 (e.trans e1)
theorem epa_nil : EPA K tNil σ H (· = []) := fun H1 _ _ q => q [] [] H1 (Ex.refl H1) rfl .nil
theorem epa_cons {tr : TA} {R : PyData → Prop} {S : List PyData → Prop} (h : EP K te σ H R) (r : EPA K tr σ H S) : EPA K (tCons te tr) σ H (fun ds => ∃ d r, ds = d :: r ∧ R d ∧ S r) := fun H1 e Q q =>
  h H1 e _ fun v d H2 e2 hr hd => r H2 (e.trans e2) _ fun vs ds H3 e3 hs hds => q (v :: vs) (d :: ds) H3 (e2.trans e3) ⟨d, ds, rfl, hr, hs⟩ (.cons (dp_mono e3 hd) hds)
theorem epa_c {tr : TA} {d : PyData} {ds : List PyData} (h : EP K te σ H (· = d)) (r : EPA K tr σ H (· = ds)) : EPA K (tCons te tr) σ H (· = d :: ds) := fun H1 e Q q =>
  h H1 e _ fun v d' H2 e2 hr hd => r H2 (e.trans e2) _ fun vs ds' H3 e3 hs hds => q (v :: vs) (d' :: ds') H3 (e2.trans e3) (by rw [hr, hs]) (.cons (dp_mono e3 hd) hds)
theorem ep_tup {ta : TA} {R : PyData → Prop} {S : List PyData → Prop} (h : EPA K ta σ H S) (i : ∀ ds, S ds → ds.length ≤ 100000 ∧ R (.tuple ds)) : EP K (tTup ta) σ H R := fun H1 e Q q =>
  h H1 e _ fun vs ds H2 e2 hs hds => ⟨sz_of (by rw [dpa_len hds]; exact (i ds hs).1), fun p hp => q _ _ _ (e2.trans (Ex.new hp)) (i ds hs).2 (.tup (st_of upd_same) (dpa_mono (Ex.new hp) hds))⟩
theorem ep_t {ta : TA} {ds : List PyData} (h : EPA K ta σ H (· = ds)) (hl : ds.length ≤ 100000) : EP K (tTup ta) σ H (· = .tuple ds) := ep_tup h fun ds' e => by
  rw [e]
  exact ⟨hl, rfl⟩
theorem epl_lst {ta : TA} {S : List PyData → Prop} (h : EPA K ta σ H S) (i : ∀ ds, S ds → ds.length ≤ 100000) : EPL K (tLst ta) σ H S := fun H1 e Q q =>
  h H1 e _ fun vs ds H2 e2 hs hds => ⟨sz_of (by rw [dpa_len hds]; exact i ds hs), fun p hp => q p vs ds _ (fresh_back e2 hp) (e2.trans (Ex.new hp)) upd_same hs (dpa_mono (Ex.new hp) hds)⟩
theorem EPL.ep {R : PyData → Prop} {S : List PyData → Prop} (h : EPL K te σ H S) (i : ∀ ds, S ds → R (.list ds)) : EP K te σ H R := fun H1 e Q q =>
  h H1 e _ fun p vs ds H2 hp e2 h2 hs hds => q _ _ H2 e2 (i ds hs) (.lst (sq_of h2) hds)
theorem s_retP {D : Ends} {R : PyData → Prop} (h : EP K te σ H R) (k : ∀ v d H1, Ex H H1 → R d → Dp K H1 v d → D.rt v H1) : tRet te D σ H := h H (Ex.refl H) _ k
theorem s_retPL {D : Ends} {S : List PyData → Prop} (h : EPL K te σ H S) (k : ∀ p vs ds H1, H p = none → Ex H H1 → H1 p = some (.lst vs) → S ds → DpAll K H1 vs ds → D.rt (.ref p) H1) : tRet te D σ H := h H (Ex.refl H) _ k
theorem q_asgP {D : Ends} {tz : TS} {i : Nat} {R : PyData → Prop} (h : EP K te σ H R) (k : ∀ v d H1, Ex H H1 → R d → Dp K H1 v d → tz D (σ.set i (some v)) H1) : tSeq (tAsg te (gName i)) tz D σ H := h H (Ex.refl H) _ k
theorem q_asgPL {D : Ends} {tz : TS} {i : Nat} {S : List PyData → Prop} (h : EPL K te σ H S) (k : ∀ p vs ds H1, H p = none → Ex H H1 → H1 p = some (.lst vs) → S ds → DpAll K H1 vs ds → tz D (σ.set i (some (.ref p))) H1) : tSeq (tAsg te (gName i)) tz D σ H := h H (Ex.refl H) _ k
theorem s_retTup {ta : TA} {D : Ends} {S : List PyData → Prop} (h : EPA K ta σ H S) (l : ∀ ds, S ds → ds.length ≤ 100000) (k : ∀ p ds H1, H p = none → Ex H H1 → S ds → Dp K H1 (.ref p) (.tuple ds) → D.rt (.ref p) H1) : tRet (tTup ta) D σ H :=
  h H (Ex.refl H) _ fun vs ds H1 e1 hs hds => ⟨sz_of (by rw [dpa_len hds]; exact l ds hs), fun p hp => k p ds _ (fresh_back e1 hp) (e1.trans (Ex.new hp)) hs (.tup (st_of upd_same) (dpa_mono (Ex.new hp) hds))⟩
/-- == and != of data -/
theorem ev_eqP {x y : V} {d e : PyData} {b : Bool} (ha : Ev ta σ H x) (hb : Ev tb σ H y) (hd : Dp K H x d) (he : Dp K H y e) (sd : SeqAt.shaped d = true) (se : SeqAt.shaped e = true) (hv : PyData.eqv d e = b) : Ev (tOp (rEqD K) ta tb) σ H (.bl b) :=
  ev_op ha hb fun H1 e1 _ q => ⟨d, e, dp_mono e1 hd, dp_mono e1 he, sd, se, by rw [hv]; exact q H1 (Ex.refl H1)⟩
theorem ev_neP {x y : V} {d e : PyData} {b : Bool} (ha : Ev ta σ H x) (hb : Ev tb σ H y) (hd : Dp K H x d) (he : Dp K H y e) (sd : SeqAt.shaped d = true) (se : SeqAt.shaped e = true) (hv : (!PyData.eqv d e) = b) : Ev (tOp (rNeD K) ta tb) σ H (.bl b) :=
  ev_op ha hb fun H1 e1 _ q => ⟨d, e, dp_mono e1 hd, dp_mono e1 he, sd, se, by rw [hv]; exact q H1 (Ex.refl H1)⟩
/-- [f(k) for k in range(n)] -/
theorem epl_mapR {ta : TA} {j : Nat} {vs : List Nat} {n : Nat} {R : Nat → PyData → Prop} (h : EvA ta σ H [.int (n : Int)]) (hz : n ≤ 40000) (hw : ∀ x, wipe ((wipe σ vs).set j (some x)) vs = wipe σ vs) {m : Nat} (hf : ∀ i d, R i d → Fl m d)
    (he : ∀ (i : Nat) H1, i < n → Ex H H1 → EP K te ((wipe σ vs).set j (some (.int (i : Int)))) H1 (R i)) : EPL K (tLc (iRng1 ta) (gName j) tYes te vs) σ H (fun ds => ds.length = n ∧ ∀ i d, ds[i]? = some d → R i d) := by
  intro H0 e Q q
  refine h H0 e _ fun H1 e1 => ⟨(n : Int), rfl, by omega, by omega, fun Dl hD => ?_⟩
  rw [show ((n : Int)).toNat = n by omega]
  refine lc_range (n := n) (fun i H' => H1 Dl = none ∧ Ex H1 H' ∧ ∃ us ds, H' Dl = some (.lst us) ∧ DpAll K H' us ds ∧ ds.length = i ∧ ∀ i d, ds[i]? = some d → R i d) ⟨hD, Ex.new hD, [], [], upd_same, .nil, rfl, fun i d z => nomatch z⟩ (fun i H' hi p => ⟨hw _, ?_⟩) (fun H' p => ?_)
  · obtain ⟨p1, p2, us, ds, p3, p4, p5, p6⟩ := p
    show te ((wipe σ vs).set j (some (.int (0 + (i : Int))))) H' _
    rw [Int.zero_add]
    refine he i H1 hi (e.trans e1) H' p2 _ fun v d H4 e4 hr hd => ⟨us, e4 Dl _ p3, sz_lt (by rw [dpa_len p4, p5]; omega), p1, (p2.trans e4).mut p1, us ++ [v], ds ++ [d], upd_same, ?_, by rw [List.length_append, p5] <;> rfl, fun k x hk => ?_⟩
    · exact dpa_app (dpa_monoN (ExN.upd (e4 Dl _ p3)) (fun x hx => by
        obtain ⟨k, hk⟩ := List.getElem?_of_mem hx
        exact hf k x (p6 k x hk)) (dpa_mono e4 p4)) (.cons (dp_monoN (ExN.upd (e4 Dl _ p3)) (hf i d hr) hd) .nil)
    · by_cases hlt : k < ds.length
      · rw [List.getElem?_append_left hlt] at hk
        exact p6 k x hk
      · rw [List.getElem?_append_right (by omega)] at hk
        have hk0 : k - ds.length = 0 := by
          by_cases z : k - ds.length = 0
          · exact z
          · rw [List.getElem?_eq_none (by simp; omega)] at hk
            cases hk
        rw [hk0] at hk
        have ek : k = i := by omega
        rw [ek, ← Option.some.inj hk]
        exact hr
  · obtain ⟨p1, p2, us, ds, p3, p4, p5, p6⟩ := p
    exact q Dl us ds H' (fresh_back e1 p1) (e1.trans p2) p3 ⟨p5, p6⟩ p4
end
section
variable {K : PySem.W.Frag} {σ : L2.St} {H : Hp} {te tl : TE}
theorem acc_add {K : PySem.W.Frag} {H H4 : Hp} {Dl : Addr} {us : List V} {ds : List PyData} {v : V} {d : PyData} {m : Nat} {R : Nat → PyData → Prop} (hf : ∀ i d, R i d → Fl m d) (e4 : Ex H H4) (p3 : H Dl = some (.lst us)) (p4 : DpAll K H us ds) (p6 : ∀ i d, ds[i]? = some d → R i d) (hr : R ds.length d) (hd : Dp K H4 v d) :
    DpAll K (upd H4 Dl (.lst (us ++ [v]))) (us ++ [v]) (ds ++ [d]) ∧ (ds ++ [d]).length = ds.length + 1 ∧ ∀ i x, (ds ++ [d])[i]? = some x → R i x := by
  refine ⟨dpa_app (dpa_monoN (n := m) (ExN.upd (e4 Dl _ p3)) (fun x hx => ?_) (dpa_mono e4 p4)) (.cons (dp_monoN (ExN.upd (e4 Dl _ p3)) (hf _ d hr) hd) .nil), by simp, fun k x hk => ?_⟩
  · obtain ⟨k, hk⟩ := List.getElem?_of_mem hx
    exact hf k x (p6 k x hk)
  · by_cases hlt : k < ds.length
    · rw [List.getElem?_append_left hlt] at hk
      exact p6 k x hk
    · rw [List.getElem?_append_right (by omega)] at hk
      have hk0 : k - ds.length = 0 := by
        by_cases z : k - ds.length = 0
        · exact z
        · rw [List.getElem?_eq_none (by simp; omega)] at hk
          cases hk
      rw [hk0] at hk
      have ek : k = ds.length := by omega
      rw [ek, ← Option.some.inj hk]
      exact hr
/-- [f(x) for x in a tuple] -/
theorem epl_mapT {j : Nat} {vs : List Nat} {a : Addr} {xs : List V} {R : Nat → PyData → Prop} (h : Ev tl σ H (.ref a)) (hx : SqT K H a xs) (hz : xs.length ≤ 40000) (hw : ∀ x, wipe ((wipe σ vs).set j (some x)) vs = wipe σ vs) {m : Nat} (hf : ∀ i d, R i d → Fl m d)
    (he : ∀ (i : Nat) x H1, xs[i]? = some x → Ex H H1 → EP K te ((wipe σ vs).set j (some x)) H1 (R i)) : EPL K (tLc (iTup K tl) (gName j) tYes te vs) σ H (fun ds => ds.length = xs.length ∧ ∀ i d, ds[i]? = some d → R i d) := by
  intro H0 e Q q
  refine h H0 e _ fun H1 e1 => ⟨a, rfl, ⟨xs, ex_t (e.trans e1) hx⟩, fun Dl hD => ?_⟩
  refine lc_tup (xs := xs) (fun i H' => H1 Dl = none ∧ Ex H1 H' ∧ ∃ us ds, H' Dl = some (.lst us) ∧ DpAll K H' us ds ∧ ds.length = i ∧ ∀ i d, ds[i]? = some d → R i d) ⟨hD, Ex.new hD, [], [], upd_same, .nil, rfl, fun i d z => nomatch z⟩ (fun i H' _ p => ex_t ((e.trans e1).trans p.2.1) hx) (fun i x H' hi p => ⟨hw x, ?_⟩) (fun H' p => ?_)
  · obtain ⟨p1, p2, us, ds, p3, p4, p5, p6⟩ := p
    have hi2 := (List.getElem?_eq_some_iff.mp hi).1
    show te ((wipe σ vs).set j (some x)) H' _
    refine he i x H1 hi (e.trans e1) H' p2 _ fun v d H4 e4 hr hd => ⟨us, e4 Dl _ p3, sz_lt (by rw [dpa_len p4, p5]; omega), p1, (p2.trans e4).mut p1, us ++ [v], ds ++ [d], upd_same, ?_⟩
    rw [← p5] at hr ⊢
    exact acc_add hf e4 p3 p4 p6 hr hd
  · obtain ⟨p1, p2, us, ds, p3, p4, p5, p6⟩ := p
    exact q Dl us ds H' (fresh_back e1 p1) (e1.trans p2) p3 ⟨p5, p6⟩ p4
/-- [f(x) for x in a list] -/
theorem epl_mapL {j : Nat} {vs : List Nat} {a : Addr} {xs : List V} {R : Nat → PyData → Prop} (h : Ev tl σ H (.ref a)) (hx : SqL K H a xs) (hz : xs.length ≤ 40000) (hw : ∀ x, wipe ((wipe σ vs).set j (some x)) vs = wipe σ vs) {m : Nat} (hf : ∀ i d, R i d → Fl m d)
    (he : ∀ (i : Nat) x H1, xs[i]? = some x → Ex H H1 → EP K te ((wipe σ vs).set j (some x)) H1 (R i)) : EPL K (tLc (iList K tl) (gName j) tYes te vs) σ H (fun ds => ds.length = xs.length ∧ ∀ i d, ds[i]? = some d → R i d) := by
  intro H0 e Q q
  refine h H0 e _ fun H1 e1 => ⟨a, rfl, ⟨xs, ex_l (e.trans e1) hx⟩, fun Dl hD => ?_⟩
  refine lc_list (xs := xs) (fun i H' => H1 Dl = none ∧ Ex H1 H' ∧ ∃ us ds, H' Dl = some (.lst us) ∧ DpAll K H' us ds ∧ ds.length = i ∧ ∀ i d, ds[i]? = some d → R i d) ⟨hD, Ex.new hD, [], [], upd_same, .nil, rfl, fun i d z => nomatch z⟩ (fun i H' _ p => ex_l ((e.trans e1).trans p.2.1) hx) (fun i x H' hi p => ⟨hw x, ?_⟩) (fun H' p => ?_)
  · obtain ⟨p1, p2, us, ds, p3, p4, p5, p6⟩ := p
    have hi2 := (List.getElem?_eq_some_iff.mp hi).1
    show te ((wipe σ vs).set j (some x)) H' _
    refine he i x H1 hi (e.trans e1) H' p2 _ fun v d H4 e4 hr hd => ⟨us, e4 Dl _ p3, sz_lt (by rw [dpa_len p4, p5]; omega), p1, (p2.trans e4).mut p1, us ++ [v], ds ++ [d], upd_same, ?_⟩
    rw [← p5] at hr ⊢
    exact acc_add hf e4 p3 p4 p6 hr hd
  · obtain ⟨p1, p2, us, ds, p3, p4, p5, p6⟩ := p
    exact q Dl us ds H' (fresh_back e1 p1) (e1.trans p2) p3 ⟨p5, p6⟩ p4
end
/-- tuple(a new list of data) -/
theorem ep_tupOf {K : PySem.W.Frag} {σ : L2.St} {H : Hp} {te : TE} {R : PyData → Prop} {S : List PyData → Prop} (h : EPL K te σ H S) (i : ∀ ds, S ds → R (.tuple ds)) : EP K (tCB (rTupOf K) (tCons te tNil)) σ H R := fun H1 e Q q =>
  h H1 e _ fun p vs ds H2 _ e2 hp hs hds => ⟨p, vs, rfl, .inl ⟨sq_of hp, fun l hl => q _ _ _ (e2.trans (Ex.new hl)) (i ds hs) (.tup (st_of upd_same) (dpa_mono (Ex.new hl) hds))⟩⟩
theorem list_same {ds es : List PyData} (hl : ds.length = es.length) (h : ∀ (i : Nat) (d : PyData), ds[i]? = some d → es[i]? = some d) : ds = es := by
  refine List.ext_getElem? fun i => ?_
  by_cases hi : i < ds.length
  · rw [List.getElem?_eq_getElem hi]
    exact (h i _ (List.getElem?_eq_getElem hi)).symm
  · rw [List.getElem?_eq_none (by omega), List.getElem?_eq_none (by omega)]
/-- isinstance of data against tuple, list -/
def isTup : PyData → Bool
  | .tuple _ => true
  | _ => false
def isLst : PyData → Bool
  | .list _ => true
  | _ => false
def isStrD : PyData → Bool
  | .str _ => true
  | _ => false
def isIntD : PyData → Bool
  | .int _ => true
  | .bool _ => true
  | _ => false
def isBoolD : PyData → Bool
  | .bool _ => true
  | _ => false
theorem tyx_lst {K : PySem.W.Frag} {H : Hp} {a : Addr} {xs : List V} (h : SqL K H a xs) : TyX K H (.ref a) (.type "list") := by
  rcases h with (h | ⟨o, h⟩) | ⟨o, its, n, h, hc, _⟩
  · exact .base (.lst h)
  · exact .base (.frz h)
  · exact .kList h hc
theorem ev_isT {K : PySem.W.Frag} {σ : L2.St} {H : Hp} {te : TE} {x : V} {d : PyData} (h : Ev te σ H x) (hd : Dp K H x d) : Ev (tCB (rIsi K) (tCons te (tCons (tC (.ty "tuple")) tNil))) σ H (.bl (isTup d)) := by
  cases hd with
  | non => exact ev_isi (a := "NoneType") (r := false) h (fun _ _ => .base .non) (by decide +kernel)
  | bl b => exact ev_isi (a := "bool") (r := false) h (fun _ _ => .base (.bl b)) (by decide +kernel)
  | int i => exact ev_isi (a := "int") (r := false) h (fun _ _ => .base (.int i)) (by decide +kernel)
  | str z => exact ev_isi (a := "str") (r := false) h (fun _ _ => .base (.str z)) (by decide +kernel)
  | lst hs _ => exact ev_isi (a := "list") (r := false) h (fun H2 e2 => tyx_lst (ex_l e2 hs)) (by decide +kernel)
  | tup hs _ => exact ev_isi (a := "tuple") (r := true) h (fun H2 e2 => tyx_tup (ex_t e2 hs)) (by decide +kernel)
theorem ev_isL {K : PySem.W.Frag} {σ : L2.St} {H : Hp} {te : TE} {x : V} {d : PyData} (h : Ev te σ H x) (hd : Dp K H x d) : Ev (tCB (rIsi K) (tCons te (tCons (tC (.ty "list")) tNil))) σ H (.bl (isLst d)) := by
  cases hd with
  | non => exact ev_isi (a := "NoneType") (r := false) h (fun _ _ => .base .non) (by decide +kernel)
  | bl b => exact ev_isi (a := "bool") (r := false) h (fun _ _ => .base (.bl b)) (by decide +kernel)
  | int i => exact ev_isi (a := "int") (r := false) h (fun _ _ => .base (.int i)) (by decide +kernel)
  | str z => exact ev_isi (a := "str") (r := false) h (fun _ _ => .base (.str z)) (by decide +kernel)
  | lst hs _ => exact ev_isi (a := "list") (r := true) h (fun H2 e2 => tyx_lst (ex_l e2 hs)) (by decide +kernel)
  | tup hs _ => exact ev_isi (a := "tuple") (r := false) h (fun H2 e2 => tyx_tup (ex_t e2 hs)) (by decide +kernel)
theorem ev_isS {K : PySem.W.Frag} {σ : L2.St} {H : Hp} {te : TE} {x : V} {d : PyData} (h : Ev te σ H x) (hd : Dp K H x d) : Ev (tCB (rIsi K) (tCons te (tCons (tC (.ty "str")) tNil))) σ H (.bl (isStrD d)) := by
  cases hd with
  | non => exact ev_isi (a := "NoneType") (r := false) h (fun _ _ => .base .non) (by decide +kernel)
  | bl b => exact ev_isi (a := "bool") (r := false) h (fun _ _ => .base (.bl b)) (by decide +kernel)
  | int i => exact ev_isi (a := "int") (r := false) h (fun _ _ => .base (.int i)) (by decide +kernel)
  | str z => exact ev_isi (a := "str") (r := true) h (fun _ _ => .base (.str z)) (by decide +kernel)
  | lst hs _ => exact ev_isi (a := "list") (r := false) h (fun H2 e2 => tyx_lst (ex_l e2 hs)) (by decide +kernel)
  | tup hs _ => exact ev_isi (a := "tuple") (r := false) h (fun H2 e2 => tyx_tup (ex_t e2 hs)) (by decide +kernel)
theorem ev_isNum {K : PySem.W.Frag} {σ : L2.St} {H : Hp} {te : TE} {x : V} {d : PyData} (h : Ev te σ H x) (hd : Dp K H x d) : Ev (tCB (rIsi K) (tCons te (tCons (tC (.ty "int")) tNil))) σ H (.bl (isIntD d)) := by
  cases hd with
  | non => exact ev_isi (a := "NoneType") (r := false) h (fun _ _ => .base .non) (by decide +kernel)
  | bl b => exact ev_isi (a := "bool") (r := true) h (fun _ _ => .base (.bl b)) (by decide +kernel)
  | int i => exact ev_isi (a := "int") (r := true) h (fun _ _ => .base (.int i)) (by decide +kernel)
  | str z => exact ev_isi (a := "str") (r := false) h (fun _ _ => .base (.str z)) (by decide +kernel)
  | lst hs _ => exact ev_isi (a := "list") (r := false) h (fun H2 e2 => tyx_lst (ex_l e2 hs)) (by decide +kernel)
  | tup hs _ => exact ev_isi (a := "tuple") (r := false) h (fun H2 e2 => tyx_tup (ex_t e2 hs)) (by decide +kernel)
theorem ev_isBl {K : PySem.W.Frag} {σ : L2.St} {H : Hp} {te : TE} {x : V} {d : PyData} (h : Ev te σ H x) (hd : Dp K H x d) : Ev (tCB (rIsi K) (tCons te (tCons (tC (.ty "bool")) tNil))) σ H (.bl (isBoolD d)) := by
  cases hd with
  | non => exact ev_isi (a := "NoneType") (r := false) h (fun _ _ => .base .non) (by decide +kernel)
  | bl b => exact ev_isi (a := "bool") (r := true) h (fun _ _ => .base (.bl b)) (by decide +kernel)
  | int i => exact ev_isi (a := "int") (r := false) h (fun _ _ => .base (.int i)) (by decide +kernel)
  | str z => exact ev_isi (a := "str") (r := false) h (fun _ _ => .base (.str z)) (by decide +kernel)
  | lst hs _ => exact ev_isi (a := "list") (r := false) h (fun H2 e2 => tyx_lst (ex_l e2 hs)) (by decide +kernel)
  | tup hs _ => exact ev_isi (a := "tuple") (r := false) h (fun H2 e2 => tyx_tup (ex_t e2 hs)) (by decide +kernel)
/-- an item of a list or a tuple -/
def rIxD (K : PySem.W.Frag) : R2 := fun x y H Q => rIxL K x y H Q ∨ rIxT K x y H Q
theorem ix_any {X : Cx} {r1 r2 : R2} (h1 : IxR X r1) (h2 : IxR X r2) : IxR X (fun x y H Q => r1 x y H Q ∨ r2 x y H Q) := fun value slice pins s σ H x y v u Q I rx ry h hs => h.elim (fun h => h1 value slice pins s σ H x y v u Q I rx ry h hs) (fun h => h2 value slice pins s σ H x y v u Q I rx ry h hs)
theorem op_any {X : Cx} {f : Value → Value → Sem Value} {r1 r2 : R2} (h1 : OpR X f r1) (h2 : OpR X f r2) : OpR X f (fun x y H Q => r1 x y H Q ∨ r2 x y H Q) := fun pins s σ H x y v u Q I rx ry h => h.elim (fun h => h1 pins s σ H x y v u Q I rx ry h) (fun h => h2 pins s σ H x y v u Q I rx ry h)


/-! ### version texts -/
def mkS (l : List Nat) : Str := ⟨l.toArray⟩
theorem mkS_inj {a b : List Nat} (h : mkS a = mkS b) : a = b := by
  have := congrArg (fun z : Str => z.cps.toList) h
  simpa [mkS] using this
theorem mkS_codes (z : Str) : z = mkS z.cps.toList := mk_of rfl
theorem mkS_len (l : List Nat) : (mkS l).length = l.length := by rw [str_len] <;> rfl
def stC (c : Nat) : Bool := decide (c = 126 ∨ c = 94)
theorem tw_lt {p : Nat → Bool} : ∀ {l : List Nat} {i : Nat}, i < (l.takeWhile p).length → ∃ c, l[i]? = some c ∧ p c = true
  | [], i, h => by simp at h
  | a :: l, i, h => by
    by_cases ha : p a = true
    · rw [List.takeWhile_cons_of_pos ha] at h
      cases i with
      | zero => exact ⟨a, rfl, ha⟩
      | succ i =>
        obtain ⟨c, h1, h2⟩ := tw_lt (l := l) (i := i) (by simpa using h)
        exact ⟨c, by simpa using h1, h2⟩
    · rw [List.takeWhile_cons_of_neg ha] at h
      simp at h
theorem tw_eq {p : Nat → Bool} : ∀ {l : List Nat} {c : Nat}, l[(l.takeWhile p).length]? = some c → p c = false
  | [], c, h => by simp at h
  | a :: l, c, h => by
    by_cases ha : p a = true
    · rw [List.takeWhile_cons_of_pos ha] at h
      exact tw_eq (l := l) (by simpa using h)
    · rw [List.takeWhile_cons_of_neg ha] at h
      have e : a = c := by simpa using h
      rw [← e]
      simpa using ha
theorem tw_le (p : Nat → Bool) (l : List Nat) : (l.takeWhile p).length ≤ l.length := by
  induction l with
  | nil => simp
  | cons a l ih =>
    by_cases ha : p a = true
    · rw [List.takeWhile_cons_of_pos ha]; simp; exact ih
    · rw [List.takeWhile_cons_of_neg ha]; simp
/-- the length without the steps at the end -/
def rsz (l : List Nat) : Nat := l.length - (l.reverse.takeWhile stC).length
theorem rsz_le (l : List Nat) : rsz l ≤ l.length := Nat.sub_le _ _
theorem rev_at {l : List Nat} {i : Nat} (h : i < l.length) : l.reverse[i]? = l[l.length - 1 - i]? := by
  rw [List.getElem?_reverse h]
/-- what the law's own loop keeps -/
theorem rsz_step {l : List Nat} {k s : Nat} (hk : k < l.length) (hs : s = max (rsz l) (l.length - k)) : (0 < s → ∃ c, l[s - 1]? = some c ∧ (if stC c = true then s - 1 else s) = max (rsz l) (l.length - (k + 1))) ∧ (s = 0 → s = max (rsz l) (l.length - (k + 1))) := by
  have hw := tw_le stC l.reverse
  rw [List.length_reverse] at hw
  unfold rsz at *
  refine ⟨fun h0 => ?_, fun h0 => by omega⟩
  by_cases hkw : k < (l.reverse.takeWhile stC).length
  · obtain ⟨c, h1, h2⟩ := tw_lt hkw
    rw [rev_at hk] at h1
    have e : s - 1 = l.length - 1 - k := by omega
    refine ⟨c, by rw [e]; exact h1, ?_⟩
    rw [if_pos h2]
    omega
  · have hlt : l.length - (l.reverse.takeWhile stC).length - 1 < l.length := by omega
    have es : s = l.length - (l.reverse.takeWhile stC).length := by omega
    have hp : (l.reverse.takeWhile stC).length < l.length := by omega
    have e2 := rev_at hp
    obtain ⟨c, hc⟩ : ∃ c, l[s - 1]? = some c := ⟨_, List.getElem?_eq_getElem (by omega)⟩
    have e3 : l.reverse[(l.reverse.takeWhile stC).length]? = some c := by
      rw [e2, ← hc]
      congr 1
      omega
    have := tw_eq e3
    refine ⟨c, hc, ?_⟩
    rw [if_neg (by rw [this]; exact Bool.false_ne_true)]
    omega
def digC (c : Nat) : Bool := decide (48 ≤ c ∧ c ≤ 57)
def addrB (b : List Nat) : Bool := decide (1 ≤ b.length ∧ b.length ≤ 18) && (!decide (b.head? = some 48) && b.all digC)
def verD (b : List Nat) (s : Str) : Option PyData :=
  if b = [64] then some (.tuple [.str (Str.ofString "head"), .none, .str s])
  else if nameB (mkS b) = true then some (.tuple [.str (Str.ofString "name"), .str (mkS b), .str s])
  else if b.head? = some 47 ∧ nameB (mkS (b.drop 1)) = true then some (.tuple [.str (Str.ofString "far"), .str (mkS (b.drop 1)), .str s])
  else if b.head? = some 58 ∧ addrB (b.drop 1) = true then some (.tuple [.str (Str.ofString "address"), .int (PySem.NumText.digitsVal (b.drop 1) : Nat), .str s])
  else none
def verO (l : List Nat) : Option PyData := if 60 < l.length then none else verD (l.take (rsz l)) (mkS (l.drop (rsz l)))
theorem at_eq : Str.ofString "@" = mkS [64] := by decide +kernel
theorem rstrip_eq (z : Str) : Txt.rstripChars z (Str.ofString "~^") = mkS (z.cps.toList.take (rsz z.cps.toList)) := by
  have ec : (fun c => (Str.ofString "~^").cps.contains c) = stC := by
    funext c
    have e : (Str.ofString "~^").cps = #[126, 94] := by decide +kernel
    rw [e]
    show (#[126, 94] : Array Nat).contains c = decide (c = 126 ∨ c = 94)
    by_cases h : c = 126
    · subst h; simp
    · by_cases h2 : c = 94
      · subst h2; simp
      · rw [decide_eq_false (by omega)]
        simp [Array.contains, h, h2]
  have e0 : stripLo (fun c => (Str.ofString "~^").cps.contains c) false z = 0 := rfl
  have e1 : stripHi (fun c => (Str.ofString "~^").cps.contains c) true z 0 = rsz z.cps.toList := by
    show z.length - ((z.cps.toList.drop 0).reverse.takeWhile _).length = _
    rw [ec, List.drop_zero, str_len] <;> rfl
  show (if stripSame (fun c => (Str.ofString "~^").cps.contains c) false true z = true then z else stripped (fun c => (Str.ofString "~^").cps.contains c) false true z) = _
  unfold stripSame stripped
  rw [e0, e1]
  split
  · rename_i h
    have h2 : rsz z.cps.toList = z.length := by simpa using h
    rw [h2, str_len, List.take_length]
    exact mkS_codes z
  · refine str_ext ?_
    rw [PySem.StrLaws.strSub_toList, List.drop_zero, Nat.sub_zero] <;> rfl
theorem starts_one (b : List Nat) (c : Nat) : Txt.startswith (mkS b) (mkS [c]) = decide (b.head? = some c) := by
  unfold Txt.startswith
  rw [PySem.StrLaws.subAt_eq, mkS_len, mkS_len]
  show (decide (0 + 1 ≤ b.length) && ((b.drop 0).take 1 == [c])) = _
  cases b with
  | nil => rfl
  | cons a r =>
    show (decide (0 + 1 ≤ r.length + 1) && ([a] == [c])) = decide (some a = some c)
    rw [decide_eq_true (by omega), Bool.true_and]
    by_cases h : a = c
    · subst h; simp
    · simp [h]
theorem cutS_from (b : List Nat) (n : Nat) : cutS (mkS b) (some (n : Int)) none = mkS (b.drop n) := by
  refine str_ext ?_
  show (b.drop (HT.sIx (mkS b).length 0 (some (n : Int)))).take _ = b.drop n
  rw [HT.sIx_nat, mkS_len, HT.sIx_none]
  by_cases h : n ≤ b.length
  · rw [Nat.min_eq_left h, List.take_of_length_le (by rw [List.length_drop]; omega)]
  · rw [Nat.min_eq_right (by omega), List.drop_of_length_le (Nat.le_refl _), List.drop_of_length_le (by omega)] <;> simp
theorem cutS_to (b : List Nat) (n : Nat) : cutS (mkS b) none (some (n : Int)) = mkS (b.take n) := by
  refine str_ext ?_
  show (b.drop (HT.sIx (mkS b).length 0 none)).take (HT.sIx (mkS b).length (mkS b).length (some (n : Int)) - HT.sIx (mkS b).length 0 none) = b.take n
  rw [HT.sIx_nat, mkS_len, HT.sIx_none, List.drop_zero, Nat.sub_zero]
  by_cases h : n ≤ b.length
  · rw [Nat.min_eq_left h]
  · rw [Nat.min_eq_right (by omega), List.take_of_length_le (Nat.le_refl _), List.take_of_length_le (by omega)]
theorem take_len {l : List Nat} {n : Nat} (h : n ≤ l.length) : (l.take n).length = n := by rw [List.length_take]; omega
/-! ### comprehensions with a test over a text -/
theorem given_filter {l : List Nat} (p : Nat → Bool) (g : Nat → V) : given l.length (fun i => p (l.getD i 0)) (fun i => g (l.getD i 0)) = (l.filter p).map g := by
  have e : l = (List.range l.length).map fun i => l.getD i 0 := by
    refine List.ext_getElem? fun i => ?_
    rw [List.getElem?_map]
    by_cases hi : i < l.length
    · rw [List.getElem?_range hi, List.getElem?_eq_getElem hi, Option.map_some, List.getD_eq_getElem?_getD, List.getElem?_eq_getElem hi] <;> rfl
    · rw [List.getElem?_eq_none (by omega), List.getElem?_eq_none (by rw [List.length_range]; omega)] <;> rfl
  unfold given
  conv => rhs; rw [e, List.filter_map, List.map_map]
  rfl
theorem el_flS {σ : L2.St} {H : Hp} {te tl : TE} {tt : TT} {z : Str} {j : Nat} {vs : List Nat} {p : Nat → Bool} (h : Ev te σ H (.str z)) (hz : z.cps.toList.length ≤ 40000) (hw : ∀ x, wipe ((wipe σ vs).set j (some x)) vs = wipe σ vs)
    (ht : ∀ (c : Nat), c ∈ z.cps.toList → ∀ H1, Ex H H1 → EvT tt ((wipe σ vs).set j (some (.str ⟨#[c]⟩))) H1 (p c)) (he : ∀ (c : Nat) H1, Ex H H1 → Ev tl ((wipe σ vs).set j (some (.str ⟨#[c]⟩))) H1 (.str ⟨#[c]⟩)) : EvL (tLc (iStr te) (gName j) tt tl vs) σ H ((z.cps.toList.filter p).map fun c => .str ⟨#[c]⟩) := fun H0 e Q q => h H0 e _ fun H1 e1 => ⟨z, rfl, fun D hD => by
  rw [← given_filter (l := z.cps.toList) p fun c => .str ⟨#[c]⟩] at q
  refine ⟨fun i m H' => m = z.cps.toList.length - i ∧ i ≤ z.cps.toList.length ∧ Cw H1 (fun i => p (z.cps.toList.getD i 0)) (fun i => .str ⟨#[z.cps.toList.getD i 0]⟩) D i H', ⟨_, rfl, Nat.zero_le _, hD, Ex.new hD, upd_same⟩, ?_⟩
  rintro i m H' ⟨rfl, hi, pp⟩
  by_cases hlt : i < z.cps.toList.length
  · refine .inr ⟨(by show i < z.cps.size; simpa using hlt), Cw H1 (fun i => p (z.cps.toList.getD i 0)) (fun i => .str ⟨#[z.cps.toList.getD i 0]⟩) D (i + 1), fun H2 p2 => ⟨_, by omega, rfl, hlt, p2⟩, fun x H2 y => ?_⟩
    obtain ⟨rfl, c, hc, rfl⟩ := y
    have hc' : z.cps.toList[i]? = some c := by simpa using hc
    have ed : z.cps.toList.getD i 0 = c := by rw [List.getD_eq_getElem?_getD, hc'] <;> rfl
    have t1 := ht c (List.mem_of_getElem? hc') H1 (e.trans e1)
    have t2 := he c H1 (e.trans e1)
    refine ⟨hw _, cw_turn pp (by omega) (by rw [ed]; exact t1) fun _ => (by rw [ed]; exact t2)⟩
  · have ei : i = z.cps.toList.length := by omega
    subst ei
    exact .inl ⟨(by show z.cps.size ≤ z.cps.toList.length; simp), q D H' (fresh_back e1 pp.1) (e1.trans pp.2.1) pp.2.2⟩⟩
theorem dpa_strs {K : PySem.W.Frag} {H : Hp} : ∀ zs : List Str, DpAll K H (zs.map V.str) (zs.map PyData.str)
  | [] => .nil
  | z :: zs => .cons (.str z) (dpa_strs zs)
/-- a new list == [] -/
theorem ev_eqNil {K : PySem.W.Frag} {σ : L2.St} {H : Hp} {ta : TE} {zs : List Str} (h : EvL ta σ H (zs.map V.str)) (hz : ∀ z ∈ zs, SeqAt.shaped (.str z) = true) : Ev (tOp (rEqD K) ta (tLst tNil)) σ H (.bl zs.isEmpty) := by
  refine ev_opLL h (el_lst ea_nil (by decide)) fun p q H1 hp hq _ => rv_val fun H2 e2 Q k => ⟨_, _, .lst (sq_of (e2 _ _ hp)) (dpa_strs zs), .lst (sq_of (e2 _ _ hq)) .nil, shaped_lst (n := 0) (fun d hd => ?_) (by decide), by decide, ?_⟩
  · obtain ⟨z, hz', rfl⟩ := List.mem_map.mp hd
    exact .str 0 (hz z hz')
  · have e : PyData.eqv (.list (zs.map PyData.str)) (.list []) = zs.isEmpty := by
      cases zs <;> simp [PyData.eqv, PyData.eqvAll]
    rw [e]
    exact k
/-- [f(k) for k in range(n)], n any int -/
theorem el_mapRI {σ : L2.St} {H : Hp} {ta : TA} {te : TE} {j : Nat} {vs : List Nat} {n : Int} {ys : List V} (h : EvA ta σ H [.int n]) (hz : -100000 ≤ n ∧ n ≤ 40000) (hw : ∀ x, wipe ((wipe σ vs).set j (some x)) vs = wipe σ vs) (hl : ys.length = n.toNat)
    (he : ∀ (i : Nat) (y : V), (i : Int) < n → ys[i]? = some y → ∀ H1, Ex H H1 → Ev te ((wipe σ vs).set j (some (.int (i : Int)))) H1 y) : EvL (tLc (iRng1 ta) (gName j) tYes te vs) σ H ys := by
  intro H0 e Q q
  refine h H0 e _ fun H1 e1 => ⟨n, rfl, by omega, by omega, fun Dl hD => ?_⟩
  refine lc_range (n := n.toNat) (fun i H' => H1 Dl = none ∧ Ex H1 H' ∧ H' Dl = some (.lst (ys.take i))) ⟨hD, Ex.new hD, upd_same⟩ (fun i H' hi p => ⟨hw _, ?_⟩) (fun H' p => ?_)
  · obtain ⟨p1, p2, p3⟩ := p
    have hi2 : i < ys.length := by omega
    have hy : ys[i]? = some ys[i] := List.getElem?_eq_getElem hi2
    show te ((wipe σ vs).set j (some (.int (0 + (i : Int))))) H' _
    rw [Int.zero_add]
    refine he i ys[i] (by omega) hy H1 (e.trans e1) H' p2 _ fun H4 e4 => ⟨ys.take i, e4 Dl _ p3, sz_lt (by rw [List.length_take]; omega), p1, (p2.trans e4).mut p1, ?_⟩
    rw [upd_same, List.take_add_one, hy] <;> rfl
  · obtain ⟨p1, p2, p3⟩ := p
    rw [← hl, List.take_length] at p3
    exact q Dl H' (fresh_back e1 p1) (e1.trans p2) p3
/-- texts that the law makes -/
def TxOk (n : Nat) (z : Str) : Prop := z.length ≤ n ∧ ∀ c ∈ z.cps.toList, c ≤ 1000
theorem TxOk.sh {n : Nat} {z : Str} (h : TxOk n z) : SeqAt.shaped (.str z) = true := by
  unfold SeqAt.shaped
  have e : PyData.strOk z = true := by
    unfold PyData.strOk
    rw [Array.all_eq_true']
    intro c hc
    have := h.2 c (by simpa using hc)
    simp only [decide_eq_true_eq]
    omega
  rw [show (PyData.str z).canLay0 = PyData.strOk z by simp [PyData.canLay0], e] <;> rfl
theorem TxOk.app {n m : Nat} {a b : Str} (h : TxOk n a) (k : TxOk m b) : TxOk (n + m) (a ++ b) := by
  refine ⟨?_, fun c hc => ?_⟩
  · rw [str_len, codes_app rfl rfl, List.length_append, ← str_len, ← str_len]
    have := h.1
    have := k.1
    omega
  · rw [codes_app (x := a.cps.toList) (y := b.cps.toList) rfl rfl] at hc
    rcases List.mem_append.mp hc with z | z
    · exact h.2 c z
    · exact k.2 c z
theorem TxOk.cut {n : Nat} {z : Str} (h : TxOk n z) (lo hi : Option Int) : TxOk n (cutS z lo hi) := by
  refine ⟨Nat.le_trans (cutS_length z lo hi) h.1, fun c hc => h.2 c ?_⟩
  exact List.mem_of_mem_drop (List.mem_of_mem_take (by exact hc))
theorem TxOk.mono {n m : Nat} {z : Str} (h : TxOk n z) (e : n ≤ m) : TxOk m z := ⟨Nat.le_trans h.1 e, h.2⟩
theorem TxOk.one {c : Nat} (h : c ≤ 1000) : TxOk 1 ⟨#[c]⟩ := ⟨Nat.le_refl 1, fun d hd => by
  have : d = c := by simpa using hd
  omega⟩
/-- a join of signs -/
theorem ev_joinS {K : PySem.W.Frag} {σ : L2.St} {H : Hp} {te : TE} {l : List Nat} (h : EvL te σ H (l.map fun c => V.str ⟨#[c]⟩)) (hz : l.length ≤ 100000) :
    Ev (tM1 (fun x xs H Q => ∃ a p, ∃ ys : List Str, x = .str a ∧ xs = [.ref p] ∧ (SqL K H p (ys.map V.str) ∨ SqT K H p (ys.map V.str)) ∧ (ys.map (·.length)).sum + ys.length * a.length ≤ 16777216 ∧ Q (.str (Txt.join a ys)) H) (tC (.str (Str.ofString ""))) te) σ H (.str (mkS l)) := by
  have e : (l.map fun c => V.str ⟨#[c]⟩) = (l.map fun c => (⟨#[c]⟩ : Str)).map V.str := by rw [List.map_map] <;> rfl
  rw [e] at h
  refine ev_is (ev_joinN (K := K) ev_c h ?_) (congrArg V.str (join_signs l))
  rw [sum_ones, List.length_map]
  have : (Str.ofString "").length = 0 := by decide +kernel
  rw [this]
  omega
theorem ev_starts {σ : L2.St} {H : Hp} {to te : TE} {a b : Str} (h0 : Ev to σ H (.str a)) (h : Ev te σ H (.str b)) : Ev (tM1 (fun x xs H Q => ∃ a b, x = V.str a ∧ xs = [V.str b] ∧ Q (.bl (Txt.startswith a b)) H) to te) σ H (.bl (Txt.startswith a b)) := fun H1 e Q q =>
  h0 H1 e _ fun H2 e2 => ⟨⟨a, rfl⟩, h H2 (e.trans e2) _ fun H3 e3 => ⟨a, b, rfl, rfl, q H3 (e2.trans e3)⟩⟩
theorem ev_rstrip {σ : L2.St} {H : Hp} {to te : TE} {a b : Str} (h0 : Ev to σ H (.str a)) (h : Ev te σ H (.str b)) (hz : a.length ≤ 16777216) : Ev (tM1 (fun x xs H Q => ∃ a b, x = V.str a ∧ xs = [V.str b] ∧ a.length ≤ sizeLine ∧ Q (.str (Txt.rstripChars a b)) H) to te) σ H (.str (Txt.rstripChars a b)) := fun H1 e Q q =>
  h0 H1 e _ fun H2 e2 => ⟨⟨a, rfl⟩, h H2 (e.trans e2) _ fun H3 e3 => ⟨a, b, rfl, rfl, sizeOk hz, q H3 (e2.trans e3)⟩⟩
theorem ev_intS {σ : L2.St} {H : Hp} {te : TE} {a : Str} {n : Int} (h : Ev te σ H (.str a)) (hn : PySem.intText? a = some n) (hz : a.length ≤ 640) : Ev (tCB (fun xs H Q => ∃ a n, xs = [V.str a] ∧ PySem.intText? a = some n ∧ a.length ≤ 640 ∧ Q (.int n) H) (tCons te tNil)) σ H (.int n) := fun H1 e Q q =>
  h H1 e _ fun H2 e2 => ⟨a, n, rfl, hn, hz, q H2 e2⟩
theorem addr_int {b : List Nat} (h : addrB b = true) : PySem.intText? (mkS b) = some ((PySem.NumText.digitsVal b : Nat) : Int) ∧ (mkS b).length ≤ 640 := by
  unfold addrB at h
  simp only [Bool.and_eq_true, decide_eq_true_eq, List.all_eq_true] at h
  obtain ⟨h1, _, h2⟩ := h
  refine ⟨intText_digits (x := mkS b) (fun c hc => ?_) (fun z => ?_) (by rw [mkS_len]; omega), by rw [mkS_len]; omega⟩
  · have := h2 c hc
    unfold digC at this
    simpa using this
  · have : b = [] := z
    subst this
    simp at h1
theorem ev_intB {σ : L2.St} {H : Hp} {te : TE} {b : Bool} (h : Ev te σ H (.bl b)) : Ev (tCB (fun xs H Q => (∃ i, xs = [V.int i] ∧ Q (.int i) H) ∨ ∃ k, xs = [V.bl k] ∧ Q (.int (if k = true then 1 else 0)) H) (tCons te tNil)) σ H (.int (if b = true then 1 else 0)) := fun H1 e Q q =>
  h H1 e _ fun H2 e2 => .inr ⟨b, rfl, q H2 e2⟩


/-! ### what evaluates to some text -/
def ES (te : TE) (σ : L2.St) (H : Hp) (R : Str → Prop) : Prop := ∀ H1, Ex H H1 → ∀ Q : VK, (∀ z H2, Ex H1 H2 → R z → Q (.str z) H2) → te σ H1 Q
def ESA (ta : TA) (σ : L2.St) (H : Hp) (R : Str → Prop) (n : Nat) : Prop := ∀ H1, Ex H H1 → ∀ Q : List V → Hp → Prop, (∀ (zs : List Str) H2, Ex H1 H2 → zs.length = n → (∀ z ∈ zs, R z) → Q (zs.map V.str) H2) → ta σ H1 Q
section
variable {K : PySem.W.Frag} {σ : L2.St} {H : Hp} {te ta tb : TE} {R R1 R2 : Str → Prop}
theorem es_ev {z : Str} (h : Ev te σ H (.str z)) (r : R z) : ES te σ H R := fun H1 e Q q => h H1 e _ fun H2 e2 => q z H2 e2 r
theorem ES.imp (h : ES te σ H R1) (i : ∀ z, R1 z → R z) : ES te σ H R := fun H1 e Q q => h H1 e Q fun z H2 e2 r => q z H2 e2 (i z r)
theorem ES.mono {H' : Hp} (e : Ex H H') (h : ES te σ H R) : ES te σ H' R := fun H1 e1 => h H1 (e.trans e1)
theorem es_add (ha : ES ta σ H R1) (hb : ES tb σ H R2) (hR : ∀ a b, R1 a → R2 b → a.length + b.length ≤ 16777216 ∧ R (a ++ b)) : ES (tOp (fun x y H Q => ∃ i j, x = V.str i ∧ y = V.str j ∧ i.length + j.length ≤ sizeLine ∧ Q (.str (i ++ j)) H) ta tb) σ H R := fun H1 e Q q =>
  ha H1 e _ fun a H2 e2 ra => hb H2 (e.trans e2) _ fun b H3 e3 rb => ⟨a, b, rfl, rfl, sizeOk (hR a b ra rb).1, q _ H3 (e2.trans e3) (hR a b ra rb).2⟩
theorem esa_nil : ESA tNil σ H R 0 := fun H1 _ _ q => q [] H1 (Ex.refl H1) rfl fun _ z => nomatch z
theorem esa_cons {tr : TA} {n : Nat} (h : ES te σ H R) (r : ESA tr σ H R n) : ESA (tCons te tr) σ H R (n + 1) := fun H1 e Q q =>
  h H1 e _ fun z H2 e2 rz => r H2 (e.trans e2) _ fun zs H3 e3 hl hz => q (z :: zs) H3 (e2.trans e3) (by rw [List.length_cons, hl]) fun y hy => by
    rcases List.mem_cons.mp hy with h | h
    · rw [h]; exact rz
    · exact hz y h
theorem es_ixN {tr : TA} {n : Nat} {i : Int} (h : ESA tr σ H R n) (hi : ∀ H1, Ex H H1 → Ev tb σ H1 (.int i)) (h0 : 0 ≤ i) (h1 : i < n) (hn : n ≤ 100000) : ES (tOp (rIxL K) (tLst tr) tb) σ H R := fun H1 e Q q =>
  h H1 e _ fun zs H2 e2 hl hz => ⟨sz_of (by rw [List.length_map, hl]; exact hn), fun p hp => hi _ (e.trans (e2.trans (Ex.new hp))) _ (Ex.refl _) _ fun H3 e3 => by
    obtain ⟨z, hzz⟩ : ∃ z, zs[i.toNat]? = some z := ⟨_, List.getElem?_eq_getElem (by omega)⟩
    exact ⟨p, zs.map V.str, i, .str z, rfl, rfl, sq_of (e3 _ _ upd_same), atI_of h0 (by rw [List.getElem?_map, hzz] <;> rfl), q z H3 ((e2.trans (Ex.new hp)).trans e3) (hz z (List.mem_of_getElem? hzz))⟩⟩
theorem q_asgS {D : Ends} {tz : TS} {i : Nat} (h : ES te σ H R) (k : ∀ z H1, Ex H H1 → R z → tz D (σ.set i (some (.str z))) H1) : tSeq (tAsg te (gName i)) tz D σ H := h H (Ex.refl H) _ k
theorem s_asgS {D : Ends} {i : Nat} (h : ES te σ H R) (k : ∀ z H1, Ex H H1 → R z → D.nx (σ.set i (some (.str z))) H1) : tAsg te (gName i) D σ H := h H (Ex.refl H) _ k
theorem s_retS {D : Ends} (h : ES te σ H R) (k : ∀ z H1, Ex H H1 → R z → D.rt (.str z) H1) : tRet te D σ H := h H (Ex.refl H) _ k
end
/-- for x in [a, b, c], texts -/
theorem s_forTx {K : PySem.W.Frag} {σ : L2.St} {H : Hp} {ta : TA} {tu : TS} {D : Ends} {j n : Nat} {R : Str → Prop} (h : ESA ta σ H R n) (hn : n ≤ 100000) (Pv : Hp → L2.St → Hp → Prop) (h0 : ∀ H1, Ex H H1 → Pv H1 σ H1) (he : ∀ H1 σ' H', Pv H1 σ' H' → Ex H1 H')
    (hs : ∀ H1 z σ' H', Ex H H1 → R z → Pv H1 σ' H' → tu { D with nx := Pv H1, ct := Pv H1, bk := D.nx } (σ'.set j (some (.str z))) H') (hd : ∀ H1 σ' H', Ex H H1 → Pv H1 σ' H' → D.nx σ' H') : tFor (iList K (tLst ta)) (gName j) tu D σ H := by
  refine h H (Ex.refl H) _ fun zs H2 e2 hl hz => ⟨sz_of (by rw [List.length_map, hl]; exact hn), fun p hp => ⟨p, rfl, ⟨zs.map V.str, sq_of upd_same⟩, ?_⟩⟩
  have e3 := e2.trans (Ex.new (o := .lst (zs.map V.str)) hp)
  refine for_list (xs := zs.map V.str) (fun i σ' H' => Pv (upd H2 p (.lst (zs.map V.str))) σ' H') (h0 _ e3) (fun i σ' H' _ hP => sq_of (he _ _ _ hP p _ upd_same)) (fun i x σ' H' hi hP => ?_) (fun σ' H' hP => hd _ _ _ e3 hP)
  rw [List.getElem?_map] at hi
  cases e : zs[i]? with
  | none => rw [e] at hi; cases hi
  | some z =>
    rw [e] at hi
    have ex : x = .str z := (Option.some.inj hi).symm
    subst ex
    exact hs _ z σ' H' e3 (hz z (List.mem_of_getElem? e)) hP


/-- the law's signs -/
def signsZ : List Nat := [32, 33, 34, 35, 36] ++ (List.range 89).map (· + 38)
theorem signs_len : signsZ.length = 94 := by decide +kernel
theorem signs_ok : ∀ c ∈ signsZ, 32 ≤ c ∧ c ≤ 126 ∧ c ≠ 37 := by decide +kernel
theorem signs_eq : (Str.ofString " !\"#$&'()*+,-./0123456789:;<=>?@ABCDEFGHIJKLMNOPQRSTUVWXYZ[\\]^_`" ++ Str.ofString "abcdefghijklmnopqrstuvwxyz{|}~" : Str) = ⟨signsZ.toArray⟩ := by decide +kernel
theorem shaped_signs {z : Str} (h : ∀ c ∈ z.cps.toList, c ∈ signsZ) : SeqAt.shaped (.str z) = true := by
  unfold SeqAt.shaped
  have e : PyData.strOk z = true := by
    unfold PyData.strOk
    rw [Array.all_eq_true']
    intro c hc
    have := signs_ok c (h c (by simpa using hc))
    simp only [decide_eq_true_eq]
    omega
  rw [show (PyData.str z).canLay0 = PyData.strOk z by simp [PyData.canLay0], e] <;> rfl


/-! ### small rules -/
theorem t_joined {σ : L2.St} {H : Hp} {ts : List TE} {ys : List Str} {K : List V → Hp → Prop} (h : EvJ σ H ts ys) (hz : (ys.map (·.length)).sum ≤ 16777216) (k : ∀ H1, Ex H H1 → K [.str (ys.foldl (· ++ ·) Str.empty)] H1) :
    tCons (fun σ H Q => tJs ts Str.empty σ H fun out H1 => Q (.str out) H1) tNil σ H K := by
  show tJs ts Str.empty σ H (fun out H1 => K [V.str out] H1)
  exact ev_joined h hz H (Ex.refl H) (fun v H1 => K [v] H1) fun H1 e1 => k H1 e1
theorem ev_callH {sp : Sp} {E : L2.St → XK} {ta : TA} {σ : L2.St} {H : Hp} {vs : List V} {z : V} (h : EvA ta σ H vs) (c : SpV sp vs H z) : Ev (tCallS sp E ta) σ H z := fun H1 e Q q => h H1 e _ fun H2 e2 => c H2 (e.trans e2) Q (fun H3 e3 => q H3 (e2.trans e3)) (E σ)


/-! ### raising -/
theorem pmk_retN {X : Cx} {e : Expr} {te : TE} (hx : X.ex = []) (he : PE X e te) :
    L2N.PMk X e (fun σ H Q => te σ H fun x H1 => ∃ a cls, x = .ref a ∧ H1 a = some (ExO cls a) ∧ Fr0 X.H_0 a ∧ Raises X cls ∧ Q cls none (delH H1 a)) := fun pins s σ H Q I h =>
  wpAny_mono (L2.pmk_ret5 hx he pins s σ H Q I h) (fun _ _ z => z.1) fun _ _ x => x
theorem s_raiseV {X : Cx} {te : TE} {v : V} {σ : L2.St} {H H0 : Hp} {C : Addr} {E : XK} (h : Ev te σ H v) (hr : Raises X (.ref C)) (k : ∀ H1, Ex H H1 → Ex H0 H1 ∧ E (.ref C) none H1) :
    te σ H fun _ H1 => ∀ a, H1 a = none → ∃ a' cls, V.ref a = .ref a' ∧ upd H1 a (ExO (.ref C) a) a' = some (ExO cls a') ∧ Fr0 H0 a' ∧ Raises X cls ∧ E cls none (delH (upd H1 a (ExO (.ref C) a)) a') :=
  h H (Ex.refl H) _ fun H1 e1 a ha => ⟨a, _, rfl, upd_same, fr0_none (fresh_back (k H1 e1).1 ha), hr, by rw [delH_new ha]; exact (k H1 e1).2⟩


/-! ### thirty errors by their numbers -/
def fldW (w : Nat) : Str := if w = 5 then Str.ofString "address" else Str.ofString "column"
/-- what is raised: the class numbered w, with the number as its field where it has one -/
def RaOut (cs : Nat → Addr) (w : Nat) (n : Int) (H : Hp) (E : XK) : Prop :=
  (∀ H', Ex H H' → w ≠ 5 → w ≠ 12 → E (.ref (cs w)) none H') ∧ ∀ (dx : Addr) H', Ex H H' → H dx = none → (w = 5 ∨ w = 12) → H' dx = some (.xd [(fldW w, .int n)]) → E (.ref (cs w)) (some dx) H'
theorem RaOut.mono {cs : Nat → Addr} {w : Nat} {n : Int} {H H1 : Hp} {E : XK} (h : RaOut cs w n H E) (e : Ex H H1) : RaOut cs w n H1 E :=
  ⟨fun H' e' h1 h2 => h.1 H' (e.trans e') h1 h2, fun dx H' e' hx hw hf => h.2 dx H' (e.trans e') (fresh_back e hx) hw hf⟩
theorem RaOut.of {cs : Nat → Addr} {w : Nat} {n : Int} {H : Hp} {E : XK} (h : ∀ d H', Ex H H' → (∀ dd, d = some dd → H' dd = some (.xd [(fldW w, .int n)])) → (w = 5 ∨ w = 12 → d.isSome = true) → E (.ref (cs w)) d H') : RaOut cs w n H E :=
  ⟨fun H' e h1 h2 => h none H' e (fun dd z => by cases z) (fun z => by omega), fun dx H' e hx hw hf => h (some dx) H' e (fun dd z => by cases z; exact hf) fun _ => rfl⟩
theorem s_raiseI {C : Addr} {f : Str} {n : Int} {te : TE} {σ : L2.St} {H H0 : Hp} {Q : XK} (h : Ev te σ H (.int n)) (hb : n.natAbs.log2 < 1920) (hE : Ex H0 H) (q : ∀ dx H', Ex H0 H' → H0 dx = none → H' dx = some (.xd [(f, .int n)]) → Q (.ref C) (some dx) H') : tMkO C (spExI C f) [] (tCons te tNil) σ H Q :=
  h H (Ex.refl H) _ fun H1 e1 => ⟨by show 1 ≤ 1000; decide, fun a ha => ⟨a, n, rfl, upd_same, hb, fun H3 e3 d h1 h2 => by
    have z : H1 d = none := by
      have z := fresh_back e3 h1
      rw [upd_ne h2] at z
      exact z
    refine ⟨rfl, d, _, upd_same, by rw [upd_ne h2, upd_same], z, q d _ (fun c o e => ?_) (fresh_back (hE.trans e1) z) upd_same⟩
    have e' := (hE.trans e1) _ _ e
    have c1 : c ≠ d := ne_of_none e' z
    have c2 : c ≠ a := ne_of_none e' ha
    rw [upd_ne c1, del_ne c2, upd_ne c2, upd_ne c1]
    exact e3 _ _ (by rw [upd_ne c2]; exact e')⟩⟩
def spRa (cs : Nat → Addr) (m : Nat) : Sp := fun vs H _ E => ∃ (w : Nat) (z : Str) (n : Int), vs = [.int (w : Int), .str z, .int n] ∧ w < m ∧ n.natAbs.log2 < 1920 ∧ RaOut cs w n H E
theorem t_callR {sp : Sp} {dvs vs : List V} {E : XK} {ta : TA} {σ : L2.St} {H : Hp} {D : Ends} (h : EvA ta σ H vs) (k : ∀ H1 Q, Ex H H1 → sp (vs ++ dvs) H1 Q E) : tDrop (tCall sp dvs E ta) D σ H := h H (Ex.refl H) _ fun H1 e1 => k H1 _ e1
theorem dk {w k : Nat} : decide ((w : Int) = (k : Int)) = decide (w = k) := decide_eq_decide.mpr (by omega)
/-- what _law_kinds tells -/
def flW (w : Nat) : List V := V.bl true :: (List.range 30).map fun j => V.bl (decide (w = j))
def flD (w : Nat) : PyData := .list (PyData.bool true :: (List.range 30).map fun j => PyData.bool (decide (w = j)))
theorem flD_ok : ∀ w : Fin 30, SeqAt.shaped (flD w) = true ∧ PyData.eqv (flD w) (flD w) = true := by decide +kernel
theorem dpa_bls {K : PySem.W.Frag} {H : Hp} : ∀ bs : List Bool, DpAll K H (bs.map V.bl) (bs.map PyData.bool)
  | [] => .nil
  | b :: bs => .cons (.bl b) (dpa_bls bs)
theorem dpa_fl {K : PySem.W.Frag} {H : Hp} (w : Nat) : DpAll K H (flW w) (PyData.bool true :: (List.range 30).map fun j => PyData.bool (decide (w = j))) := by
  have := dpa_bls (K := K) (H := H) (true :: (List.range 30).map fun j => decide (w = j))
  rw [List.map_cons, List.map_cons, List.map_map, List.map_map] at this
  exact this
theorem ev_neFl {K : PySem.W.Frag} {σ : L2.St} {H : Hp} {ta tb : TE} {w : Nat} (hw : w < 30) (ha : EvL ta σ H (flW w)) (hb : EvL tb σ H (flW w)) : Ev (tOp (rNeD K) ta tb) σ H (.bl false) := by
  obtain ⟨h1, h2⟩ := flD_ok ⟨w, hw⟩
  refine ev_opLL ha hb fun p q H1 hp hq _ => rv_val fun H2 e2 Q k => ⟨_, _, .lst (sq_of (e2 _ _ hp)) (dpa_fl w), .lst (sq_of (e2 _ _ hq)) (dpa_fl w), h1, h1, ?_⟩
  have e : PyData.eqv (.list (PyData.bool true :: (List.range 30).map fun j => PyData.bool (decide (w = j)))) (.list (PyData.bool true :: (List.range 30).map fun j => PyData.bool (decide (w = j)))) = true := h2
  rw [e]
  exact k
theorem s_asgLS {te : TE} {σ : L2.St} {H : Hp} {D : Ends} {i : Nat} {xs : List V} (σ' : Addr → L2.St) (h : EvL te σ H xs) (hs : ∀ p, σ.set i (some (.ref p)) = σ' p) (k : ∀ p H1, H p = none → Ex H H1 → H1 p = some (.lst xs) → D.nx (σ' p) H1) : tAsg te (gName i) D σ H := s_asgL h fun p H1 a b c => by rw [hs]; exact k p H1 a b c
theorem q_asgLS {te : TE} {σ : L2.St} {H : Hp} {tz : TS} {D : Ends} {i : Nat} {xs : List V} (σ' : Addr → L2.St) (h : EvL te σ H xs) (hs : ∀ p, σ.set i (some (.ref p)) = σ' p) (k : ∀ p H1, H p = none → Ex H H1 → H1 p = some (.lst xs) → tz D (σ' p) H1) : tSeq (tAsg te (gName i)) tz D σ H := q_asgL h fun p H1 a b c => by rw [hs]; exact k p H1 a b c


section
variable {P : Program} {w : World} {K : PySem.W.Frag} {mg : Str → Option Value} {base : Heap}

theorem ok_MissingChunk___init (T : Txt K mg P) : FnOk P w K mg base CX0 1 T.f_MissingChunk___init T.d_MissingChunk___init ["self", "address"] (spExI T.C_MissingChunk "address") := by
  obtain ⟨oc, od, kV, doc, pm, an, cc, cda, ct, osl, e, lk, hcd, S⟩ := T.F_MissingChunk___init.ex
  rw [e] at lk ⊢
  refine fn_sup lk hcd sc_MissingChunk___init (by obtain ⟨x1, x2, x3, x4⟩ := S.cell; exact ⟨x1, x2, _, x3, x4⟩) (fun vs H Q E h => ?_) (fun A outer s H vs Q E hr h => ?_)
  · obtain ⟨a, n, rfl, _⟩ := h
    rfl
  · obtain ⟨a, n, rfl, ha, hb, q⟩ := h
    refine ⟨_, pssa_sup S T.e_MissingChunk.o rfl rfl (one_look.mpr ⟨rfl, rfl⟩) rfl rfl T.m_super rfl rfl T.F_MissingChunk___init.top (pa_cons (pe_joined (.cons (pe_str) (.cons (pe_fmt (pv 1)) (.cons (pe_str) (.nil))))) pa_nil) (pss_one (ps_ost (pv 0) (pv 1) rfl)), ?_⟩
    have hnl := int_text_length_le (k := 1920) (by decide) hb
    refine ⟨a, rfl, ha, ?_⟩
    refine t_joined (ys := [Str.ofString "the chunk ", Str.ofString (toString n), Str.ofString " is not held"]) (.cons ev_c (.cons (ev_fmtI (i := n) (ev_var rfl) hb) (.cons ev_c (.nil)))) (by simp only [List.map_cons, List.map_nil, List.sum_cons, List.sum_nil]; rw [PySem.ofString_length (toString n)]; rw [show (Str.ofString "the chunk ").length = 10 from by decide +kernel]; rw [show (Str.ofString " is not held").length = 12 from by decide +kernel]; omega) fun H1 e1 => ⟨by show 1 ≤ 1000; decide, e1 _ _ ha, ?_⟩
    exact ⟨_, rfl, _, rfl, a, T.C_MissingChunk, rfl, T.e_MissingChunk.o, T.na_MissingChunk_address, .inl ⟨e1 _ _ ha, fun dx h1 h2 => q H1 e1 dx h1 h2⟩⟩

theorem ok_SyntaxFault___init (T : Txt K mg P) : FnOk P w K mg base CX0 1 T.f_SyntaxFault___init T.d_SyntaxFault___init ["self", "column"] (spExI T.C_SyntaxFault "column") := by
  obtain ⟨oc, od, kV, doc, pm, an, cc, cda, ct, osl, e, lk, hcd, S⟩ := T.F_SyntaxFault___init.ex
  rw [e] at lk ⊢
  refine fn_sup lk hcd sc_SyntaxFault___init (by obtain ⟨x1, x2, x3, x4⟩ := S.cell; exact ⟨x1, x2, _, x3, x4⟩) (fun vs H Q E h => ?_) (fun A outer s H vs Q E hr h => ?_)
  · obtain ⟨a, n, rfl, _⟩ := h
    rfl
  · obtain ⟨a, n, rfl, ha, hb, q⟩ := h
    refine ⟨_, pssa_sup S T.e_SyntaxFault.o rfl rfl (one_look.mpr ⟨rfl, rfl⟩) rfl rfl T.m_super rfl rfl T.F_SyntaxFault___init.top (pa_cons (pe_joined (.cons (pe_str) (.cons (pe_fmt (pv 1)) (.nil)))) pa_nil) (pss_one (ps_ost (pv 0) (pv 1) rfl)), ?_⟩
    have hnl := int_text_length_le (k := 1920) (by decide) hb
    refine ⟨a, rfl, ha, ?_⟩
    refine t_joined (ys := [Str.ofString "there is a fault at column ", Str.ofString (toString n)]) (.cons ev_c (.cons (ev_fmtI (i := n) (ev_var rfl) hb) (.nil))) (by simp only [List.map_cons, List.map_nil, List.sum_cons, List.sum_nil]; rw [PySem.ofString_length (toString n)]; rw [show (Str.ofString "there is a fault at column ").length = 27 from by decide +kernel]; omega) fun H1 e1 => ⟨by show 1 ≤ 1000; decide, e1 _ _ ha, ?_⟩
    exact ⟨_, rfl, _, rfl, a, T.C_SyntaxFault, rfl, T.e_SyntaxFault.o, T.na_SyntaxFault_column, .inl ⟨e1 _ _ ha, fun dx h1 h2 => q H1 e1 dx h1 h2⟩⟩

/-! ### _law_raise_first -/
theorem ok_law_raise_first (T : Txt K mg P) : FnOk P w K mg base (L2N.CX P w) 3 T.f_law_raise_first T.d_law_raise_first ["which", "text", "number"] (spRa T.cs 15) := by
  refine okN T.F_law_raise_first sc_law_raise_first (fun vs H Q E h => ?_) (fun cdv A outer s H vs Q E hr h => ?_)
  · obtain ⟨w, z, n, rfl, _⟩ := h
    rfl
  · obtain ⟨w, z, n, rfl, hw, hlog, q⟩ := h
    refine ⟨_, pss_cons (ps_if (pt_cmpR op_eq (pv 0) (pe_int) (nomark _))
      (pss_one (L2N.ps_raise rfl (L2N.takes_of rfl rfl rfl rfl) (pmk_retN rfl (pe_exc1 PySem.F.excBase_ValueError T.e_InvalidText.x T.e_InvalidText.g T.e_InvalidText.kp (by rfl) (pv 1)))))
      (pss_nil))
      (pss_cons (ps_if (pt_cmpR op_eq (pv 0) (pe_int) (nomark _))
      (pss_one (L2N.ps_raise rfl (L2N.takes_of rfl rfl rfl rfl) (pmk_retN rfl (pe_exc1 PySem.F.excBase_ValueError T.e_TornText.x T.e_TornText.g T.e_TornText.kp (by rfl) (pv 1)))))
      (pss_nil))
      (pss_cons (ps_if (pt_cmpR op_eq (pv 0) (pe_int) (nomark _))
      (pss_one (L2N.ps_raise rfl (L2N.takes_of rfl rfl rfl rfl) (pmk_retN rfl (pe_exc1 PySem.F.excBase_ValueError T.e_InvalidForm.x T.e_InvalidForm.g T.e_InvalidForm.kp (by rfl) (pv 1)))))
      (pss_nil))
      (pss_cons (ps_if (pt_cmpR op_eq (pv 0) (pe_int) (nomark _))
      (pss_one (L2N.ps_raise rfl (L2N.takes_of rfl rfl rfl rfl) (pmk_retN rfl (pe_exc1 PySem.F.excBase_ValueError T.e_InvalidRow.x T.e_InvalidRow.g T.e_InvalidRow.kp (by rfl) (pv 1)))))
      (pss_nil))
      (pss_cons (ps_if (pt_cmpR op_eq (pv 0) (pe_int) (nomark _))
      (pss_one (L2N.ps_raise rfl (L2N.takes_of rfl rfl rfl rfl) (pmk_retN rfl (pe_exc1 PySem.F.excBase_ValueError T.e_DuplicateKey.x T.e_DuplicateKey.g T.e_DuplicateKey.kp (by rfl) (pv 1)))))
      (pss_nil))
      (pss_cons (ps_if (pt_cmpR op_eq (pv 0) (pe_int) (nomark _))
      (pss_one (L2N.ps_raise rfl (L2N.takes_of rfl rfl rfl rfl) (pmkN_oex T.e_MissingChunk.o T.F_MissingChunk___init.iC T.F_MissingChunk___init.tI (ok_MissingChunk___init T) (hr.mono (by first | decide | omega)) T.b_MissingChunk___init pass0 (by rfl) T.e_MissingChunk.g (pa_cons (pv 2) (pa_nil)))))
      (pss_nil))
      (pss_cons (ps_if (pt_cmpR op_eq (pv 0) (pe_int) (nomark _))
      (pss_one (L2N.ps_raise rfl (L2N.takes_of rfl rfl rfl rfl) (pmk_retN rfl (pe_exc1 PySem.F.excBase_ValueError T.e_UnknownTable.x T.e_UnknownTable.g T.e_UnknownTable.kp (by rfl) (pv 1)))))
      (pss_nil))
      (pss_cons (ps_if (pt_cmpR op_eq (pv 0) (pe_int) (nomark _))
      (pss_one (L2N.ps_raise rfl (L2N.takes_of rfl rfl rfl rfl) (pmk_retN rfl (pe_exc1 PySem.F.excBase_ValueError T.e_DuplicateTable.x T.e_DuplicateTable.g T.e_DuplicateTable.kp (by rfl) (pv 1)))))
      (pss_nil))
      (pss_cons (ps_if (pt_cmpR op_eq (pv 0) (pe_int) (nomark _))
      (pss_one (L2N.ps_raise rfl (L2N.takes_of rfl rfl rfl rfl) (pmk_retN rfl (pe_exc1 PySem.F.excBase_ValueError T.e_KeyChanged.x T.e_KeyChanged.g T.e_KeyChanged.kp (by rfl) (pv 1)))))
      (pss_nil))
      (pss_cons (ps_if (pt_cmpR op_eq (pv 0) (pe_int) (nomark _))
      (pss_one (L2N.ps_raise rfl (L2N.takes_of rfl rfl rfl rfl) (pmk_retN rfl (pe_exc1 PySem.F.excBase_ValueError T.e_PatchMismatch.x T.e_PatchMismatch.g T.e_PatchMismatch.kp (by rfl) (pv 1)))))
      (pss_nil))
      (pss_cons (ps_if (pt_cmpR op_eq (pv 0) (pe_int) (nomark _))
      (pss_one (L2N.ps_raise rfl (L2N.takes_of rfl rfl rfl rfl) (pmk_retN rfl (pe_exc1 PySem.F.excBase_ValueError T.e_InvalidVersion.x T.e_InvalidVersion.g T.e_InvalidVersion.kp (by rfl) (pv 1)))))
      (pss_nil))
      (pss_cons (ps_if (pt_cmpR op_eq (pv 0) (pe_int) (nomark _))
      (pss_one (L2N.ps_raise rfl (L2N.takes_of rfl rfl rfl rfl) (pmk_retN rfl (pe_exc1 PySem.F.excBase_ValueError T.e_UnknownVersion.x T.e_UnknownVersion.g T.e_UnknownVersion.kp (by rfl) (pv 1)))))
      (pss_nil))
      (pss_cons (ps_if (pt_cmpR op_eq (pv 0) (pe_int) (nomark _))
      (pss_one (L2N.ps_raise rfl (L2N.takes_of rfl rfl rfl rfl) (pmkN_oex T.e_SyntaxFault.o T.F_SyntaxFault___init.iC T.F_SyntaxFault___init.tI (ok_SyntaxFault___init T) (hr.mono (by first | decide | omega)) T.b_SyntaxFault___init pass0 (by rfl) T.e_SyntaxFault.g (pa_cons (pv 2) (pa_nil)))))
      (pss_nil))
      (pss_cons (ps_if (pt_cmpR op_eq (pv 0) (pe_int) (nomark _))
      (pss_one (L2N.ps_raise rfl (L2N.takes_of rfl rfl rfl rfl) (pmk_retN rfl (pe_exc1 PySem.F.excBase_ValueError T.e_InvalidQuery.x T.e_InvalidQuery.g T.e_InvalidQuery.kp (by rfl) (pv 1)))))
      (pss_nil))
      (pss_one (ps_if (pt_cmpR op_eq (pv 0) (pe_int) (nomark _))
      (pss_one (L2N.ps_raise rfl (L2N.takes_of rfl rfl rfl rfl) (pmk_retN rfl (pe_exc1 PySem.F.excBase_ValueError T.e_InvalidName.x T.e_InvalidName.g T.e_InvalidName.kp (by rfl) (pv 1)))))
      (pss_nil)))))))))))))))), ?_⟩
    refine q_when (b := decide (w = 0)) (et_is (et_test (ev_eqI (ev_var rfl) ev_c)) dk) (fun hb H1 e1 => ?_) (fun hb H1 e1 => ?_)
    · have hk := of_decide_eq_true hb
      subst hk
      exact s_raiseV (ev_var rfl) (L2.raises_own T.e_InvalidText.b T.e_InvalidText.t) fun Hz ez => ⟨((Ex.refl H).trans e1).trans ez, q.1 Hz (((Ex.refl H).trans e1).trans ez) (by decide) (by decide)⟩
    have n0 : ¬ w = 0 := of_decide_eq_false hb
    have E1 := (Ex.refl H).trans e1
    refine q_when (b := decide (w = 1)) (et_is (et_test (ev_eqI (ev_var rfl) ev_c)) dk) (fun hb H2 e2 => ?_) (fun hb H2 e2 => ?_)
    · have hk := of_decide_eq_true hb
      subst hk
      exact s_raiseV (ev_var rfl) (L2.raises_own T.e_TornText.b T.e_TornText.t) fun Hz ez => ⟨(E1.trans e2).trans ez, q.1 Hz ((E1.trans e2).trans ez) (by decide) (by decide)⟩
    have n1 : ¬ w = 1 := of_decide_eq_false hb
    have E2 := E1.trans e2
    refine q_when (b := decide (w = 2)) (et_is (et_test (ev_eqI (ev_var rfl) ev_c)) dk) (fun hb H3 e3 => ?_) (fun hb H3 e3 => ?_)
    · have hk := of_decide_eq_true hb
      subst hk
      exact s_raiseV (ev_var rfl) (L2.raises_own T.e_InvalidForm.b T.e_InvalidForm.t) fun Hz ez => ⟨(E2.trans e3).trans ez, q.1 Hz ((E2.trans e3).trans ez) (by decide) (by decide)⟩
    have n2 : ¬ w = 2 := of_decide_eq_false hb
    have E3 := E2.trans e3
    refine q_when (b := decide (w = 3)) (et_is (et_test (ev_eqI (ev_var rfl) ev_c)) dk) (fun hb H4 e4 => ?_) (fun hb H4 e4 => ?_)
    · have hk := of_decide_eq_true hb
      subst hk
      exact s_raiseV (ev_var rfl) (L2.raises_own T.e_InvalidRow.b T.e_InvalidRow.t) fun Hz ez => ⟨(E3.trans e4).trans ez, q.1 Hz ((E3.trans e4).trans ez) (by decide) (by decide)⟩
    have n3 : ¬ w = 3 := of_decide_eq_false hb
    have E4 := E3.trans e4
    refine q_when (b := decide (w = 4)) (et_is (et_test (ev_eqI (ev_var rfl) ev_c)) dk) (fun hb H5 e5 => ?_) (fun hb H5 e5 => ?_)
    · have hk := of_decide_eq_true hb
      subst hk
      exact s_raiseV (ev_var rfl) (L2.raises_own T.e_DuplicateKey.b T.e_DuplicateKey.t) fun Hz ez => ⟨(E4.trans e5).trans ez, q.1 Hz ((E4.trans e5).trans ez) (by decide) (by decide)⟩
    have n4 : ¬ w = 4 := of_decide_eq_false hb
    have E5 := E4.trans e5
    refine q_when (b := decide (w = 5)) (et_is (et_test (ev_eqI (ev_var rfl) ev_c)) dk) (fun hb H6 e6 => ?_) (fun hb H6 e6 => ?_)
    · have hk := of_decide_eq_true hb
      subst hk
      exact s_raiseI (C := T.C_MissingChunk) (f := Str.ofString "address") (n := n) (ev_var rfl) hlog (E5.trans e6) fun dx H2 e2 h1 h2 => q.2 dx H2 e2 h1 (by decide) h2
    have n5 : ¬ w = 5 := of_decide_eq_false hb
    have E6 := E5.trans e6
    refine q_when (b := decide (w = 6)) (et_is (et_test (ev_eqI (ev_var rfl) ev_c)) dk) (fun hb H7 e7 => ?_) (fun hb H7 e7 => ?_)
    · have hk := of_decide_eq_true hb
      subst hk
      exact s_raiseV (ev_var rfl) (L2.raises_own T.e_UnknownTable.b T.e_UnknownTable.t) fun Hz ez => ⟨(E6.trans e7).trans ez, q.1 Hz ((E6.trans e7).trans ez) (by decide) (by decide)⟩
    have n6 : ¬ w = 6 := of_decide_eq_false hb
    have E7 := E6.trans e7
    refine q_when (b := decide (w = 7)) (et_is (et_test (ev_eqI (ev_var rfl) ev_c)) dk) (fun hb H8 e8 => ?_) (fun hb H8 e8 => ?_)
    · have hk := of_decide_eq_true hb
      subst hk
      exact s_raiseV (ev_var rfl) (L2.raises_own T.e_DuplicateTable.b T.e_DuplicateTable.t) fun Hz ez => ⟨(E7.trans e8).trans ez, q.1 Hz ((E7.trans e8).trans ez) (by decide) (by decide)⟩
    have n7 : ¬ w = 7 := of_decide_eq_false hb
    have E8 := E7.trans e8
    refine q_when (b := decide (w = 8)) (et_is (et_test (ev_eqI (ev_var rfl) ev_c)) dk) (fun hb H9 e9 => ?_) (fun hb H9 e9 => ?_)
    · have hk := of_decide_eq_true hb
      subst hk
      exact s_raiseV (ev_var rfl) (L2.raises_own T.e_KeyChanged.b T.e_KeyChanged.t) fun Hz ez => ⟨(E8.trans e9).trans ez, q.1 Hz ((E8.trans e9).trans ez) (by decide) (by decide)⟩
    have n8 : ¬ w = 8 := of_decide_eq_false hb
    have E9 := E8.trans e9
    refine q_when (b := decide (w = 9)) (et_is (et_test (ev_eqI (ev_var rfl) ev_c)) dk) (fun hb H10 e10 => ?_) (fun hb H10 e10 => ?_)
    · have hk := of_decide_eq_true hb
      subst hk
      exact s_raiseV (ev_var rfl) (L2.raises_own T.e_PatchMismatch.b T.e_PatchMismatch.t) fun Hz ez => ⟨(E9.trans e10).trans ez, q.1 Hz ((E9.trans e10).trans ez) (by decide) (by decide)⟩
    have n9 : ¬ w = 9 := of_decide_eq_false hb
    have E10 := E9.trans e10
    refine q_when (b := decide (w = 10)) (et_is (et_test (ev_eqI (ev_var rfl) ev_c)) dk) (fun hb H11 e11 => ?_) (fun hb H11 e11 => ?_)
    · have hk := of_decide_eq_true hb
      subst hk
      exact s_raiseV (ev_var rfl) (L2.raises_own T.e_InvalidVersion.b T.e_InvalidVersion.t) fun Hz ez => ⟨(E10.trans e11).trans ez, q.1 Hz ((E10.trans e11).trans ez) (by decide) (by decide)⟩
    have n10 : ¬ w = 10 := of_decide_eq_false hb
    have E11 := E10.trans e11
    refine q_when (b := decide (w = 11)) (et_is (et_test (ev_eqI (ev_var rfl) ev_c)) dk) (fun hb H12 e12 => ?_) (fun hb H12 e12 => ?_)
    · have hk := of_decide_eq_true hb
      subst hk
      exact s_raiseV (ev_var rfl) (L2.raises_own T.e_UnknownVersion.b T.e_UnknownVersion.t) fun Hz ez => ⟨(E11.trans e12).trans ez, q.1 Hz ((E11.trans e12).trans ez) (by decide) (by decide)⟩
    have n11 : ¬ w = 11 := of_decide_eq_false hb
    have E12 := E11.trans e12
    refine q_when (b := decide (w = 12)) (et_is (et_test (ev_eqI (ev_var rfl) ev_c)) dk) (fun hb H13 e13 => ?_) (fun hb H13 e13 => ?_)
    · have hk := of_decide_eq_true hb
      subst hk
      exact s_raiseI (C := T.C_SyntaxFault) (f := Str.ofString "column") (n := n) (ev_var rfl) hlog (E12.trans e13) fun dx H2 e2 h1 h2 => q.2 dx H2 e2 h1 (by decide) h2
    have n12 : ¬ w = 12 := of_decide_eq_false hb
    have E13 := E12.trans e13
    refine q_when (b := decide (w = 13)) (et_is (et_test (ev_eqI (ev_var rfl) ev_c)) dk) (fun hb H14 e14 => ?_) (fun hb H14 e14 => ?_)
    · have hk := of_decide_eq_true hb
      subst hk
      exact s_raiseV (ev_var rfl) (L2.raises_own T.e_InvalidQuery.b T.e_InvalidQuery.t) fun Hz ez => ⟨(E13.trans e14).trans ez, q.1 Hz ((E13.trans e14).trans ez) (by decide) (by decide)⟩
    have n13 : ¬ w = 13 := of_decide_eq_false hb
    have E14 := E13.trans e14
    refine s_when (b := decide (w = 14)) (et_is (et_test (ev_eqI (ev_var rfl) ev_c)) dk) (fun hb H15 e15 => ?_) (fun hb H15 e15 => ?_)
    · have hk := of_decide_eq_true hb
      subst hk
      exact s_raiseV (ev_var rfl) (L2.raises_own T.e_InvalidName.b T.e_InvalidName.t) fun Hz ez => ⟨(E14.trans e15).trans ez, q.1 Hz ((E14.trans e15).trans ez) (by decide) (by decide)⟩
    have n14 : ¬ w = 14 := of_decide_eq_false hb
    have E15 := E14.trans e15
    exact absurd hw (by omega)


/-! ### _law_raise -/
theorem ok_law_raise (T : Txt K mg P) : FnOk P w K mg base (L2N.CX P w) 4 T.f_law_raise T.d_law_raise ["which", "text", "number"] (spRa T.cs 30) := by
  refine okN T.F_law_raise sc_law_raise (fun vs H Q E h => ?_) (fun cdv A outer s H vs Q E hr h => ?_)
  · obtain ⟨w, z, n, rfl, _⟩ := h
    rfl
  · obtain ⟨w, z, n, rfl, hw, hlog, q⟩ := h
    refine ⟨_, pss_cons (ps_if (pt_cmpR op_eq (pv 0) (pe_int) (nomark _))
      (pss_one (L2N.ps_raise rfl (L2N.takes_of rfl rfl rfl rfl) (pmk_retN rfl (pe_exc1 PySem.F.excBase_ValueError T.e_DuplicateName.x T.e_DuplicateName.g T.e_DuplicateName.kp (by rfl) (pv 1)))))
      (pss_nil))
      (pss_cons (ps_if (pt_cmpR op_eq (pv 0) (pe_int) (nomark _))
      (pss_one (L2N.ps_raise rfl (L2N.takes_of rfl rfl rfl rfl) (pmk_retN rfl (pe_exc1 PySem.F.excBase_ValueError T.e_UnknownName.x T.e_UnknownName.g T.e_UnknownName.kp (by rfl) (pv 1)))))
      (pss_nil))
      (pss_cons (ps_if (pt_cmpR op_eq (pv 0) (pe_int) (nomark _))
      (pss_one (L2N.ps_raise rfl (L2N.takes_of rfl rfl rfl rfl) (pmk_retN rfl (pe_exc1 PySem.F.excBase_ValueError T.e_HeadBranch.x T.e_HeadBranch.g T.e_HeadBranch.kp (by rfl) (pv 1)))))
      (pss_nil))
      (pss_cons (ps_if (pt_cmpR op_eq (pv 0) (pe_int) (nomark _))
      (pss_one (L2N.ps_raise rfl (L2N.takes_of rfl rfl rfl rfl) (pmk_retN rfl (pe_exc1 PySem.F.excBase_ValueError T.e_NotClean.x T.e_NotClean.g T.e_NotClean.kp (by rfl) (pv 1)))))
      (pss_nil))
      (pss_cons (ps_if (pt_cmpR op_eq (pv 0) (pe_int) (nomark _))
      (pss_one (L2N.ps_raise rfl (L2N.takes_of rfl rfl rfl rfl) (pmk_retN rfl (pe_exc1 PySem.F.excBase_ValueError T.e_NothingToCommit.x T.e_NothingToCommit.g T.e_NothingToCommit.kp (by rfl) (pv 1)))))
      (pss_nil))
      (pss_cons (ps_if (pt_cmpR op_eq (pv 0) (pe_int) (nomark _))
      (pss_one (L2N.ps_raise rfl (L2N.takes_of rfl rfl rfl rfl) (pmk_retN rfl (pe_exc1 PySem.F.excBase_ValueError T.e_Unsound.x T.e_Unsound.g T.e_Unsound.kp (by rfl) (pv 1)))))
      (pss_nil))
      (pss_cons (ps_if (pt_cmpR op_eq (pv 0) (pe_int) (nomark _))
      (pss_one (L2N.ps_raise rfl (L2N.takes_of rfl rfl rfl rfl) (pmk_retN rfl (pe_exc1 PySem.F.excBase_ValueError T.e_UnresolvedConflicts.x T.e_UnresolvedConflicts.g T.e_UnresolvedConflicts.kp (by rfl) (pv 1)))))
      (pss_nil))
      (pss_cons (ps_if (pt_cmpR op_eq (pv 0) (pe_int) (nomark _))
      (pss_one (L2N.ps_raise rfl (L2N.takes_of rfl rfl rfl rfl) (pmk_retN rfl (pe_exc1 PySem.F.excBase_ValueError T.e_NotMerging.x T.e_NotMerging.g T.e_NotMerging.kp (by rfl) (pv 1)))))
      (pss_nil))
      (pss_cons (ps_if (pt_cmpR op_eq (pv 0) (pe_int) (nomark _))
      (pss_one (L2N.ps_raise rfl (L2N.takes_of rfl rfl rfl rfl) (pmk_retN rfl (pe_exc1 PySem.F.excBase_ValueError T.e_UnknownConflict.x T.e_UnknownConflict.g T.e_UnknownConflict.kp (by rfl) (pv 1)))))
      (pss_nil))
      (pss_cons (ps_if (pt_cmpR op_eq (pv 0) (pe_int) (nomark _))
      (pss_one (L2N.ps_raise rfl (L2N.takes_of rfl rfl rfl rfl) (pmk_retN rfl (pe_exc1 PySem.F.excBase_ValueError T.e_NotPickable.x T.e_NotPickable.g T.e_NotPickable.kp (by rfl) (pv 1)))))
      (pss_nil))
      (pss_cons (ps_if (pt_cmpR op_eq (pv 0) (pe_int) (nomark _))
      (pss_one (L2N.ps_raise rfl (L2N.takes_of rfl rfl rfl rfl) (pmk_retN rfl (pe_exc1 PySem.F.excBase_ValueError T.e_PickConflict.x T.e_PickConflict.g T.e_PickConflict.kp (by rfl) (pv 1)))))
      (pss_nil))
      (pss_cons (ps_if (pt_cmpR op_eq (pv 0) (pe_int) (nomark _))
      (pss_one (L2N.ps_raise rfl (L2N.takes_of rfl rfl rfl rfl) (pmk_retN rfl (pe_exc1 PySem.F.excBase_ValueError T.e_MissingRow.x T.e_MissingRow.g T.e_MissingRow.kp (by rfl) (pv 1)))))
      (pss_nil))
      (pss_cons (ps_if (pt_cmpR op_eq (pv 0) (pe_int) (nomark _))
      (pss_one (L2N.ps_raise rfl (L2N.takes_of rfl rfl rfl rfl) (pmk_retN rfl (pe_exc1 PySem.F.excBase_ValueError T.e_NoPath.x T.e_NoPath.g T.e_NoPath.kp (by rfl) (pv 1)))))
      (pss_nil))
      (pss_cons (ps_if (pt_cmpR op_eq (pv 0) (pe_int) (nomark _))
      (pss_one (L2N.ps_raise rfl (L2N.takes_of rfl rfl rfl rfl) (pmk_retN rfl (pe_exc1 PySem.F.excBase_ValueError T.e_NotBroken.x T.e_NotBroken.g T.e_NotBroken.kp (by rfl) (pv 1)))))
      (pss_nil))
      (pss_cons (ps_if (pt_cmpR op_eq (pv 0) (pe_int) (nomark _))
      (pss_one (L2N.ps_raise rfl (L2N.takes_of rfl rfl rfl rfl) (pmk_retN rfl (pe_exc1 PySem.F.excBase_ValueError T.e_PowerLost.x T.e_PowerLost.g T.e_PowerLost.kp (by rfl) (pv 1)))))
      (pss_nil))
      (pss_one (ps_expr (pe_call (ok_law_raise_first T) (hr.mono (by first | decide | omega)) (by rfl) T.g_law_raise_first T.F_law_raise_first.kp T.b_law_raise_first .nil (L2N.passes_call (L2N.takes_of rfl rfl rfl rfl) fun _ _ _ _ h => h) (pa_cons (pv 0) (pa_cons (pv 1) (pa_cons (pv 2) (pa_nil))))))))))))))))))))), ?_⟩
    refine q_when (b := decide (w = 15)) (et_is (et_test (ev_eqI (ev_var rfl) ev_c)) dk) (fun hb H1 e1 => ?_) (fun hb H1 e1 => ?_)
    · have hk := of_decide_eq_true hb
      subst hk
      exact s_raiseV (ev_var rfl) (L2.raises_own T.e_DuplicateName.b T.e_DuplicateName.t) fun Hz ez => ⟨((Ex.refl H).trans e1).trans ez, q.1 Hz (((Ex.refl H).trans e1).trans ez) (by decide) (by decide)⟩
    have n15 : ¬ w = 15 := of_decide_eq_false hb
    have E1 := (Ex.refl H).trans e1
    refine q_when (b := decide (w = 16)) (et_is (et_test (ev_eqI (ev_var rfl) ev_c)) dk) (fun hb H2 e2 => ?_) (fun hb H2 e2 => ?_)
    · have hk := of_decide_eq_true hb
      subst hk
      exact s_raiseV (ev_var rfl) (L2.raises_own T.e_UnknownName.b T.e_UnknownName.t) fun Hz ez => ⟨(E1.trans e2).trans ez, q.1 Hz ((E1.trans e2).trans ez) (by decide) (by decide)⟩
    have n16 : ¬ w = 16 := of_decide_eq_false hb
    have E2 := E1.trans e2
    refine q_when (b := decide (w = 17)) (et_is (et_test (ev_eqI (ev_var rfl) ev_c)) dk) (fun hb H3 e3 => ?_) (fun hb H3 e3 => ?_)
    · have hk := of_decide_eq_true hb
      subst hk
      exact s_raiseV (ev_var rfl) (L2.raises_own T.e_HeadBranch.b T.e_HeadBranch.t) fun Hz ez => ⟨(E2.trans e3).trans ez, q.1 Hz ((E2.trans e3).trans ez) (by decide) (by decide)⟩
    have n17 : ¬ w = 17 := of_decide_eq_false hb
    have E3 := E2.trans e3
    refine q_when (b := decide (w = 18)) (et_is (et_test (ev_eqI (ev_var rfl) ev_c)) dk) (fun hb H4 e4 => ?_) (fun hb H4 e4 => ?_)
    · have hk := of_decide_eq_true hb
      subst hk
      exact s_raiseV (ev_var rfl) (L2.raises_own T.e_NotClean.b T.e_NotClean.t) fun Hz ez => ⟨(E3.trans e4).trans ez, q.1 Hz ((E3.trans e4).trans ez) (by decide) (by decide)⟩
    have n18 : ¬ w = 18 := of_decide_eq_false hb
    have E4 := E3.trans e4
    refine q_when (b := decide (w = 19)) (et_is (et_test (ev_eqI (ev_var rfl) ev_c)) dk) (fun hb H5 e5 => ?_) (fun hb H5 e5 => ?_)
    · have hk := of_decide_eq_true hb
      subst hk
      exact s_raiseV (ev_var rfl) (L2.raises_own T.e_NothingToCommit.b T.e_NothingToCommit.t) fun Hz ez => ⟨(E4.trans e5).trans ez, q.1 Hz ((E4.trans e5).trans ez) (by decide) (by decide)⟩
    have n19 : ¬ w = 19 := of_decide_eq_false hb
    have E5 := E4.trans e5
    refine q_when (b := decide (w = 20)) (et_is (et_test (ev_eqI (ev_var rfl) ev_c)) dk) (fun hb H6 e6 => ?_) (fun hb H6 e6 => ?_)
    · have hk := of_decide_eq_true hb
      subst hk
      exact s_raiseV (ev_var rfl) (L2.raises_own T.e_Unsound.b T.e_Unsound.t) fun Hz ez => ⟨(E5.trans e6).trans ez, q.1 Hz ((E5.trans e6).trans ez) (by decide) (by decide)⟩
    have n20 : ¬ w = 20 := of_decide_eq_false hb
    have E6 := E5.trans e6
    refine q_when (b := decide (w = 21)) (et_is (et_test (ev_eqI (ev_var rfl) ev_c)) dk) (fun hb H7 e7 => ?_) (fun hb H7 e7 => ?_)
    · have hk := of_decide_eq_true hb
      subst hk
      exact s_raiseV (ev_var rfl) (L2.raises_own T.e_UnresolvedConflicts.b T.e_UnresolvedConflicts.t) fun Hz ez => ⟨(E6.trans e7).trans ez, q.1 Hz ((E6.trans e7).trans ez) (by decide) (by decide)⟩
    have n21 : ¬ w = 21 := of_decide_eq_false hb
    have E7 := E6.trans e7
    refine q_when (b := decide (w = 22)) (et_is (et_test (ev_eqI (ev_var rfl) ev_c)) dk) (fun hb H8 e8 => ?_) (fun hb H8 e8 => ?_)
    · have hk := of_decide_eq_true hb
      subst hk
      exact s_raiseV (ev_var rfl) (L2.raises_own T.e_NotMerging.b T.e_NotMerging.t) fun Hz ez => ⟨(E7.trans e8).trans ez, q.1 Hz ((E7.trans e8).trans ez) (by decide) (by decide)⟩
    have n22 : ¬ w = 22 := of_decide_eq_false hb
    have E8 := E7.trans e8
    refine q_when (b := decide (w = 23)) (et_is (et_test (ev_eqI (ev_var rfl) ev_c)) dk) (fun hb H9 e9 => ?_) (fun hb H9 e9 => ?_)
    · have hk := of_decide_eq_true hb
      subst hk
      exact s_raiseV (ev_var rfl) (L2.raises_own T.e_UnknownConflict.b T.e_UnknownConflict.t) fun Hz ez => ⟨(E8.trans e9).trans ez, q.1 Hz ((E8.trans e9).trans ez) (by decide) (by decide)⟩
    have n23 : ¬ w = 23 := of_decide_eq_false hb
    have E9 := E8.trans e9
    refine q_when (b := decide (w = 24)) (et_is (et_test (ev_eqI (ev_var rfl) ev_c)) dk) (fun hb H10 e10 => ?_) (fun hb H10 e10 => ?_)
    · have hk := of_decide_eq_true hb
      subst hk
      exact s_raiseV (ev_var rfl) (L2.raises_own T.e_NotPickable.b T.e_NotPickable.t) fun Hz ez => ⟨(E9.trans e10).trans ez, q.1 Hz ((E9.trans e10).trans ez) (by decide) (by decide)⟩
    have n24 : ¬ w = 24 := of_decide_eq_false hb
    have E10 := E9.trans e10
    refine q_when (b := decide (w = 25)) (et_is (et_test (ev_eqI (ev_var rfl) ev_c)) dk) (fun hb H11 e11 => ?_) (fun hb H11 e11 => ?_)
    · have hk := of_decide_eq_true hb
      subst hk
      exact s_raiseV (ev_var rfl) (L2.raises_own T.e_PickConflict.b T.e_PickConflict.t) fun Hz ez => ⟨(E10.trans e11).trans ez, q.1 Hz ((E10.trans e11).trans ez) (by decide) (by decide)⟩
    have n25 : ¬ w = 25 := of_decide_eq_false hb
    have E11 := E10.trans e11
    refine q_when (b := decide (w = 26)) (et_is (et_test (ev_eqI (ev_var rfl) ev_c)) dk) (fun hb H12 e12 => ?_) (fun hb H12 e12 => ?_)
    · have hk := of_decide_eq_true hb
      subst hk
      exact s_raiseV (ev_var rfl) (L2.raises_own T.e_MissingRow.b T.e_MissingRow.t) fun Hz ez => ⟨(E11.trans e12).trans ez, q.1 Hz ((E11.trans e12).trans ez) (by decide) (by decide)⟩
    have n26 : ¬ w = 26 := of_decide_eq_false hb
    have E12 := E11.trans e12
    refine q_when (b := decide (w = 27)) (et_is (et_test (ev_eqI (ev_var rfl) ev_c)) dk) (fun hb H13 e13 => ?_) (fun hb H13 e13 => ?_)
    · have hk := of_decide_eq_true hb
      subst hk
      exact s_raiseV (ev_var rfl) (L2.raises_own T.e_NoPath.b T.e_NoPath.t) fun Hz ez => ⟨(E12.trans e13).trans ez, q.1 Hz ((E12.trans e13).trans ez) (by decide) (by decide)⟩
    have n27 : ¬ w = 27 := of_decide_eq_false hb
    have E13 := E12.trans e13
    refine q_when (b := decide (w = 28)) (et_is (et_test (ev_eqI (ev_var rfl) ev_c)) dk) (fun hb H14 e14 => ?_) (fun hb H14 e14 => ?_)
    · have hk := of_decide_eq_true hb
      subst hk
      exact s_raiseV (ev_var rfl) (L2.raises_own T.e_NotBroken.b T.e_NotBroken.t) fun Hz ez => ⟨(E13.trans e14).trans ez, q.1 Hz ((E13.trans e14).trans ez) (by decide) (by decide)⟩
    have n28 : ¬ w = 28 := of_decide_eq_false hb
    have E14 := E13.trans e14
    refine q_when (b := decide (w = 29)) (et_is (et_test (ev_eqI (ev_var rfl) ev_c)) dk) (fun hb H15 e15 => ?_) (fun hb H15 e15 => ?_)
    · have hk := of_decide_eq_true hb
      subst hk
      exact s_raiseV (ev_var rfl) (L2.raises_own T.e_PowerLost.b T.e_PowerLost.t) fun Hz ez => ⟨(E14.trans e15).trans ez, q.1 Hz ((E14.trans e15).trans ez) (by decide) (by decide)⟩
    have n29 : ¬ w = 29 := of_decide_eq_false hb
    have E15 := E14.trans e15
    exact t_callR (ea_cons (ev_var rfl) (ea_cons (ev_var rfl) (ea_cons (ev_var rfl) ea_nil))) fun H1 Q1 e1 => ⟨w, z, n, rfl, by omega, hlog, q.mono (E15.trans e1)⟩


/-! ### _law_address -/
def sp_law_address : Sp := fun vs H Q _ => ∃ n : Int, vs = [.int n] ∧ n.natAbs.log2 < 1920 ∧ ∀ H', Ex H H' → Q (.int n) H'
theorem ok_law_address (T : Txt K mg P) : FnOk P w K mg base CX0 5 T.f_law_address T.d_law_address ["number"] sp_law_address := by
  refine T.F_law_address.ok sc_law_address (fun vs H Q E h => ?_) (fun cdv A outer s H vs Q E hr h => ?_)
  · obtain ⟨n, rfl, _⟩ := h
    rfl
  · obtain ⟨n, rfl, hlog, q⟩ := h
    refine ⟨_, pss_cons (L2N.ps_try_as (i := 1) (c := .ref T.C_MissingChunk) (Wout := fun _ _ _ _ => False) rfl rfl sc_law_address.nd rfl rfl ⟨rfl, by decide, .inl T.e_MissingChunk.g⟩ takes0N
        (fun W pn xe tk _ => pss_one (ps_expr (pe_callS (ok_law_raise T) (hr.mono (by first | decide | omega)) (by rfl) T.g_law_raise T.F_law_raise.kp T.b_law_raise (fun σ => L2N.passAt tk σ) (pa_cons (pe_int) (pa_cons (pe_str) (pa_cons (pv 0) (pa_nil)))))))
        (fun a oe cls d pn hz0 hf => pss_given (P := cls = .ref T.C_MissingChunk) fun pc => have hz := zc1 pc hz0; pss_one (ps_ret (pe_xf T.e_MissingChunk.xf T.na_MissingChunk_address hz hf (pv 1))))) pss_never, ?_⟩
    refine s_dropT (ea_cons ev_c (ea_cons ev_c (ea_cons (ev_var rfl) ea_nil))) fun H1 Q1 e1 => ⟨5, _, n, rfl, by decide, hlog, RaOut.of fun d H2 e2 hx hs => ?_⟩
    refine ⟨true, T.e_MissingChunk.self, fun _ a ha => ⟨rfl, ?_⟩, fun z => nomatch z⟩
    obtain ⟨dd, rfl⟩ := Option.isSome_iff_exists.mp (hs (by decide))
    exact s_ret (ev_xf (f := Str.ofString "address") (v := .int n) (ev_var rfl) rfl rfl (hx dd rfl) (by simp [List.lookup, fldW])) fun H3 e3 => q H3 ((e1.trans e2).trans e3)


/-! ### _law_cell -/
def cellZ (ns : List Int) (k : Nat) : Int := ns.getD k 0
def sp_cell (K : PySem.W.Frag) : Sp := fun vs H Q _ => ∃ (a : Addr) (ns : List Int) (k : Nat), vs = [.ref a, .int (k : Int)] ∧ SqL K H a (ns.map V.int) ∧ ∀ H', Ex H H' → Q (.int (cellZ ns k)) H'
theorem ok_law_cell (T : Txt K mg P) : FnOk P w K mg base CX0 1 T.f_law_cell T.d_law_cell ["script", "k"] (sp_cell K) := by
  refine T.F_law_cell.ok sc_law_cell (fun vs H Q E h => ?_) (fun cdv A outer s H vs Q E hr h => ?_)
  · obtain ⟨a, ns, k, rfl, _⟩ := h
    rfl
  · obtain ⟨a, ns, k, rfl, hS, q⟩ := h
    refine ⟨_, pss_cons (ps_if (pt_cmpR op_lt (pv 1) (pe_callB (r := rLenQ K) call_len_seq (by rfl) T.m_len (by decide +kernel) (pa_cons (pv 0) (pa_nil))) (nomark _))
      (pss_one (ps_ret (pe_ix (r := rIxL K) ix_list (pv 0) (pv 1) (fun _ _ => rfl))))
      (pss_nil))
      (pss_one (ps_ret (pe_int))), ?_⟩
    refine q_when (b := decide ((k : Int) < ((ns.map V.int).length : Int))) (et_test (ev_bin0 (ev_var rfl) (ev_lenQ (K := K) (ev_var rfl) hS))) (fun hb H1 e1 => ?_) (fun hb H1 e1 => ?_)
    · have hk : k < ns.length := by
        have := of_decide_eq_true hb
        rw [List.length_map] at this
        omega
      refine s_ret (ev_ixL (K := K) (ev_var rfl) (ev_var rfl) (ex_l e1 hS) (at_nat (v := .int (cellZ ns k)) ?_)) fun H2 e2 => q H2 (e1.trans e2)
      rw [List.getElem?_map, List.getElem?_eq_getElem hk]
      unfold cellZ
      rw [List.getD_eq_getElem?_getD, List.getElem?_eq_getElem hk] <;> rfl
    · have hk : ¬ k < ns.length := by
        have := of_decide_eq_false hb
        rw [List.length_map] at this
        omega
      have e0 : cellZ ns k = 0 := by
        unfold cellZ
        rw [List.getD_eq_getElem?_getD, List.getElem?_eq_none (by omega)] <;> rfl
      refine s_ret ev_c fun H2 e2 => ?_
      rw [e0] at q
      exact q H2 (e1.trans e2)
theorem cv_cell {a : Addr} {ns : List Int} {k : Nat} {H : Hp} (h : SqL K H a (ns.map V.int)) : SpV (sp_cell K) [.ref a, .int (k : Int)] H (.int (cellZ ns k)) := fun H1 e Q q E => ⟨a, ns, k, rfl, ex_l e h, fun H2 e2 => q H2 e2⟩
theorem Wd.cell {ns : List Int} (h : ∀ n ∈ ns, Wd n) (k : Nat) : Wd (cellZ ns k) := by
  unfold cellZ
  rw [List.getD_eq_getElem?_getD]
  cases e : ns[k]? with
  | none => exact Wd.lit (by decide)
  | some x => exact h x (List.mem_of_getElem? e)


/-! ### sums of the script's ints and small ones -/
theorem nat_log {n m : Nat} (h : n < 2 ^ m) (hm : 0 < m) : n.log2 < m := by
  by_cases e : n = 0
  · subst e
    exact Nat.lt_of_le_of_lt (Nat.le_of_eq (by decide)) hm
  · exact (Nat.log2_lt e).mpr h
theorem bits_lt {n : Int} {b : Nat} (h : Builtin.Int.intBits n ≤ b) : n.natAbs < 2 ^ b := by
  unfold Builtin.Int.intBits at h
  by_cases e : n = 0
  · subst e
    exact Nat.pow_pos (by decide)
  · rw [if_neg (by simpa using e)] at h
    have e2 : n.natAbs ≠ 0 := by omega
    exact (Nat.log2_lt e2).mp (by omega)
theorem add_lt {n k : Int} {m : Nat} (hn : n.natAbs < 2 ^ m) (hk : k.natAbs < 2 ^ m) : (n + k).natAbs < 2 ^ (m + 1) := by
  rw [Nat.pow_succ]
  omega
theorem small_lt {k : Int} {m : Nat} (h : k.natAbs < 1000000) (hm : 20 ≤ m) : k.natAbs < 2 ^ m := Nat.lt_of_lt_of_le (Nat.lt_trans h (by decide : 1000000 < 2 ^ 20)) (Nat.pow_le_pow_right (by decide) hm)
theorem Wd.of_lt {n : Int} {m : Nat} (h : n.natAbs < 2 ^ m) (hm : 0 < m) (hl : m ≤ 1100000) : Wd n := ⟨Nat.lt_of_lt_of_le (nat_log h hm) hl⟩
theorem cell_lt {ns : List Int} {b : Nat} (h : ∀ z ∈ ns, Builtin.Int.intBits z ≤ b) (k : Nat) : (cellZ ns k).natAbs < 2 ^ b := by
  unfold cellZ
  rw [List.getD_eq_getElem?_getD]
  cases e : ns[k]? with
  | none => exact Nat.pow_pos (by decide)
  | some x => exact bits_lt (h x (List.mem_of_getElem? e))
theorem Wd.cellAdd {ns : List Int} {b : Nat} (h : ∀ z ∈ ns, Builtin.Int.intBits z ≤ b) (k : Nat) {i : Int} (hi : i.natAbs < 1000000) (hb : 20 ≤ b) (hb2 : b ≤ 1099999) : Wd (cellZ ns k + i) := Wd.of_lt (add_lt (cell_lt h k) (small_lt hi hb)) (by omega) (by omega)
theorem Wd.cellDivAdd {ns : List Int} {b : Nat} (h : ∀ z ∈ ns, Builtin.Int.intBits z ≤ b) (k : Nat) {i d : Int} (hi : i.natAbs < 1000000) (hb : 20 ≤ b) (hb2 : b ≤ 1099999) : Wd (cellZ ns k / d + i) := Wd.of_lt (add_lt (Nat.lt_of_le_of_lt (Int.natAbs_ediv_le_natAbs _ _) (cell_lt h k)) (small_lt hi hb)) (by omega) (by omega)
theorem cutV_map (ns : List Int) (lo hi : Option Int) : ∃ ms : List Int, cutV (ns.map V.int) lo hi = ms.map V.int ∧ ms.length ≤ ns.length ∧ ∀ m ∈ ms, m ∈ ns := by
  unfold cutV
  rw [← List.map_drop, ← List.map_take]
  refine ⟨_, rfl, ?_, fun m hm => List.mem_of_mem_drop (List.mem_of_mem_take hm)⟩
  rw [List.length_take, List.length_drop]
  omega


/-! ### _law_column -/
def sp_law_column : Sp := fun vs H Q _ => ∃ n : Int, vs = [.int n] ∧ n.natAbs.log2 < 1920 ∧ ∀ H', Ex H H' → Q (.int n) H'
theorem ok_law_column (T : Txt K mg P) : FnOk P w K mg base CX0 5 T.f_law_column T.d_law_column ["number"] sp_law_column := by
  refine T.F_law_column.ok sc_law_column (fun vs H Q E h => ?_) (fun cdv A outer s H vs Q E hr h => ?_)
  · obtain ⟨n, rfl, _⟩ := h
    rfl
  · obtain ⟨n, rfl, hlog, q⟩ := h
    refine ⟨_, pss_cons (L2N.ps_try_as (i := 1) (c := .ref T.C_SyntaxFault) (Wout := fun _ _ _ _ => False) rfl rfl sc_law_column.nd rfl rfl ⟨rfl, by decide, .inl T.e_SyntaxFault.g⟩ takes0N
        (fun W pn xe tk _ => pss_one (ps_expr (pe_callS (ok_law_raise T) (hr.mono (by first | decide | omega)) (by rfl) T.g_law_raise T.F_law_raise.kp T.b_law_raise (fun σ => L2N.passAt tk σ) (pa_cons (pe_int) (pa_cons (pe_str) (pa_cons (pv 0) (pa_nil)))))))
        (fun a oe cls d pn hz0 hf => pss_given (P := cls = .ref T.C_SyntaxFault) fun pc => have hz := zc1 pc hz0; pss_one (ps_ret (pe_xf T.e_SyntaxFault.xf T.na_SyntaxFault_column hz hf (pv 1))))) pss_never, ?_⟩
    refine s_dropT (ea_cons ev_c (ea_cons ev_c (ea_cons (ev_var rfl) ea_nil))) fun H1 Q1 e1 => ⟨12, _, n, rfl, by decide, hlog, RaOut.of fun d H2 e2 hx hs => ?_⟩
    refine ⟨true, T.e_SyntaxFault.self, fun _ a ha => ⟨rfl, ?_⟩, fun z => nomatch z⟩
    obtain ⟨dd, rfl⟩ := Option.isSome_iff_exists.mp (hs (by decide))
    exact s_ret (ev_xf (f := Str.ofString "column") (v := .int n) (ev_var rfl) rfl rfl (hx dd rfl) (by simp [List.lookup, fldW])) fun H3 e3 => q H3 ((e1.trans e2).trans e3)


/-! ### _law_is -/
def spIs : Sp := fun vs H Q _ => ∃ i j : Int, vs = [.int i, .int j] ∧ ∀ H', Ex H H' → Q (.bl (decide (i = j))) H'
theorem ok_law_is (T : Txt K mg P) : FnOk P w K mg base CX0 1 T.f_law_is T.d_law_is ["actual", "expected"] spIs := by
  refine T.F_law_is.ok sc_law_is (fun vs H Q E h => ?_) (fun cdv A outer s H vs Q E hr h => ?_)
  · obtain ⟨i, j, rfl, _⟩ := h
    rfl
  · obtain ⟨i, j, rfl, q⟩ := h
    refine ⟨_, pss_one (ps_ret (pe_and (pe_callB (r := rIsi K) call_isi (by rfl) T.m_isinstance (by decide +kernel) (pa_cons (pv 0) (pa_cons (pe_bltn (v := .ty "int") (by rfl) T.m_int (by decide +kernel) rfl) (pa_nil)))) (pe_and (pe_not (pe_callB (r := rIsi K) call_isi (by rfl) T.m_isinstance (by decide +kernel) (pa_cons (pv 0) (pa_cons (pe_bltn (v := .ty "bool") (by rfl) T.m_bool (by decide +kernel) rfl) (pa_nil))))) (pe_one (pe_cmpR op_eq (pv 0) (pv 1) (nomark _)))))), ?_⟩
    exact s_ret (ev_is (ev_andV (a := true) (ev_isi (K := K) (a := "int") (ev_var rfl) (fun _ _ => .base (.int i)) (by decide +kernel)) fun _ => ev_andV (a := true) (ev_is (ev_notV (ev_isi (K := K) (a := "int") (r := false) (ev_var rfl) (fun _ _ => .base (.int i)) (by decide +kernel))) rfl) fun _ => ev_eqI (ev_var rfl) (ev_var rfl)) (by simp)) q


/-! ### _law_numbers -/
/-- count ints from 0 to 999 -/
def spNumbers : Sp := fun vs H Q _ => ∃ (cell : Int) (count : Nat), vs = [.int cell, .int (count : Int)] ∧ Wd cell ∧ count ≤ 1000 ∧ ∀ p (ns : List Int) H', H p = none → Ex H H' → H' p = some (.lst (ns.map V.int)) → ns.length = count → (∀ n ∈ ns, 0 ≤ n ∧ n < 1000) → Q (.ref p) H'
theorem ok_law_numbers (T : Txt K mg P) : FnOk P w K mg base CX0 1 T.f_law_numbers T.d_law_numbers ["cell", "count"] spNumbers := by
  refine T.F_law_numbers.ok sc_law_numbers (fun vs H Q E h => ?_) (fun cdv A outer s H vs Q E hr h => ?_)
  · obtain ⟨c, n, rfl, _⟩ := h
    rfl
  · obtain ⟨c, n, rfl, hW, hn, q⟩ := h
    refine ⟨_, pss_cons (ps_set (i := 2) sc_law_numbers.nd rfl (by first | exact Or.inl rfl | exact Or.inr rfl) (pe_lst (pa_nil)))
      (pss_cons (ps_if (pt_cmpR op_ge (pv 0) (pe_op op_pow (pe_int) (pe_int)) (nomark _))
      (pss_cons (ps_for PassesOwn.never rfl (pi_range1 (by rfl) T.m_range (pa_cons (pv 1) (pa_nil))) (pg_name (i := 3) sc_law_numbers.nd rfl (by first | exact Or.inl rfl | exact Or.inr rfl))
      (pss_cons (ps_expr (pe_bm PySem.F.plainAttrs_list PySem.F.slot_list_append PySem.F.type_list_append mt_append (pv 2) (pa_cons (pe_op op_mod (pe_callTy call_int1 (by rfl) T.m_int (by decide +kernel) (pa_cons (pv 0) (pa_nil))) (pe_int)) (pa_nil))))
      (pss_one (ps_set (i := 0) sc_law_numbers.nd rfl (by first | exact Or.inl rfl | exact Or.inr rfl) (pe_op op_fdivW (pv 0) (pe_int))))))
      (pss_one (ps_ret (pv 2))))
      (pss_nil))
      (pss_cons (ps_set (i := 4) sc_law_numbers.nd rfl (by first | exact Or.inl rfl | exact Or.inr rfl) (pe_op op_mod (pe_callTy call_int1 (by rfl) T.m_int (by decide +kernel) (pa_cons (pv 0) (pa_nil))) (pe_int)))
      (pss_cons (ps_for PassesOwn.never rfl (pi_range1 (by rfl) T.m_range (pa_cons (pv 1) (pa_nil))) (pg_name (i := 3) sc_law_numbers.nd rfl (by first | exact Or.inl rfl | exact Or.inr rfl))
      (pss_cons (ps_set (i := 4) sc_law_numbers.nd rfl (by first | exact Or.inl rfl | exact Or.inr rfl) (pe_op op_mod (pe_callTy call_int1 (by rfl) T.m_int (by decide +kernel) (pa_cons (pe_op op_add (pe_op op_mulX (pv 4) (pe_int)) (pe_op op_mulX (pe_int) (pe_op op_add (pv 3) (pe_int)))) (pa_nil))) (pe_int)))
      (pss_one (ps_expr (pe_bm PySem.F.plainAttrs_list PySem.F.slot_list_append PySem.F.type_list_append mt_append (pv 2) (pa_cons (pe_op op_mod (pe_op op_fdivW (pv 4) (pe_int)) (pe_int)) (pa_nil)))))))
      (pss_one (ps_ret (pv 2)))))), ?_⟩
    refine q_asgL (el_lst ea_nil (by decide)) fun p H1 hp e1 h1 => ?_
    have fin : ∀ {ns : List Int} {H' : Hp}, Ex H H' → H' p = some (.lst (ns.map V.int)) → ns.length = n → (∀ n ∈ ns, 0 ≤ n ∧ n < 1000) → Q (.ref p) H' := fun e h1 h2 h3 => q p _ _ hp e h1 h2 h3
    have add : ∀ {ns : List Int} {x : Int}, (∀ n ∈ ns, 0 ≤ n ∧ n < 1000) → (0 ≤ x ∧ x < 1000) → ∀ n ∈ ns ++ [x], 0 ≤ n ∧ n < 1000 := fun h hx y hy => by
      rcases List.mem_append.mp hy with z | z
      · exact h y z
      · rw [List.mem_singleton.mp z]
        exact hx
    refine q_when (b := decide (10 ^ 18 ≤ c)) (et_test (ev_bin0 (j := 10 ^ 18) (ev_var rfl) (ev_is (ev_bin ev_c ev_c ⟨by decide, by decide, by decide⟩) (by decide)))) (fun hb H2 e2 => ?_) (fun hb H2 e2 => ?_)
    · refine q_forR1 (n := (n : Int)) (ea_cons (ev_var rfl) ea_nil) (by omega) (fun i σ' H' => ∃ (c' : Int) (ns : List Int) (x3 x4 : Option V), σ' = [some (.int c'), some (.int (n : Int)), some (.ref p), x3, x4] ∧ Wd c' ∧ Ex H H' ∧ H' p = some (.lst (ns.map V.int)) ∧ ns.length = i ∧ ∀ n ∈ ns, 0 ≤ n ∧ n < 1000)
        (fun H3 e3 => ⟨c, [], none, none, rfl, hW, (e1.trans e2).trans e3, (e2.trans e3) p _ h1, rfl, fun n hn => nomatch hn⟩) (fun i σ' H' hi hP => ?_) (fun σ' H' hP => ?_)
      · obtain ⟨c', ns, x3, x4, rfl, hW', eH, hl, hlen, hr⟩ := hP
        refine q_app (K := K) hl (ev_var rfl) (ev_bin (ev_intI (ev_var rfl)) ev_c (by decide)) (by rw [List.length_map]; omega) fun H3 e3 => ?_
        refine s_asg (ev_bin (ev_var rfl) ev_c ⟨by decide, by decide⟩) fun H4 e4 => ⟨c' / 1000, ns ++ [c' % 1000], _, _, rfl, Wd.div hW', ((eH.trans e3).mut hp).trans e4, ?_, by rw [List.length_append, hlen] <;> rfl, add hr ⟨by omega, by omega⟩⟩
        rw [e4 p _ upd_same, List.map_append] <;> rfl
      · obtain ⟨c', ns, x3, x4, rfl, hW', eH, hl, hlen, hr⟩ := hP
        exact s_ret (ev_var rfl) fun H3 e3 => fin (eH.trans e3) (e3 p _ hl) (by omega) hr
    · refine q_asg (ev_bin (ev_intI (ev_var rfl)) ev_c (by decide)) fun H3 e3 => ?_
      refine q_forR1 (n := (n : Int)) (ea_cons (ev_var rfl) ea_nil) (by omega) (fun i σ' H' => ∃ (m : Int) (ns : List Int) (x3 : Option V), σ' = [some (.int c), some (.int (n : Int)), some (.ref p), x3, some (.int m)] ∧ (0 ≤ m ∧ m < 2147483647) ∧ Ex H H' ∧ H' p = some (.lst (ns.map V.int)) ∧ ns.length = i ∧ ∀ n ∈ ns, 0 ≤ n ∧ n < 1000)
        (fun H4 e4 => ⟨c % 2147483647, [], none, rfl, by omega, ((e1.trans e2).trans e3).trans e4, ((e2.trans e3).trans e4) p _ h1, rfl, fun n hn => nomatch hn⟩) (fun i σ' H' hi hP => ?_) (fun σ' H' hP => ?_)
      · obtain ⟨m, ns, x3, rfl, hm, eH, hl, hlen, hr⟩ := hP
        have hi2 : i < 1000 := by omega
        refine q_asg (ev_bin (ev_intI (ev_bin0 (ev_bin (ev_var rfl) ev_c (Wd.mul (Wd.small (by omega) (by omega)) (Wd.lit (by decide)))) (ev_bin ev_c (ev_bin0 (ev_var rfl) ev_c) (Wd.mul (Wd.lit (by decide)) (Wd.small (by omega) (by omega)))))) ev_c (by decide)) fun H4 e4 => ?_
        generalize hm2 : (m * 48271 + 69621 * ((i : Int) + 1)) % 2147483647 = m2
        refine s_app (K := K) (e4 p _ hl) (ev_var rfl) (ev_bin (ev_bin (ev_var rfl) ev_c ⟨by decide, by decide⟩) ev_c (by decide)) (by rw [List.length_map]; omega) fun H5 e5 => ⟨m2, ns ++ [m2 / 7 % 1000], _, rfl, by omega, ((eH.trans e4).trans e5).mut hp, ?_, by rw [List.length_append, hlen] <;> rfl, add hr ⟨by omega, by omega⟩⟩
        rw [upd_same, List.map_append] <;> rfl
      · obtain ⟨m, ns, x3, rfl, hm, eH, hl, hlen, hr⟩ := hP
        exact s_ret (ev_var rfl) fun H4 e4 => fin (eH.trans e4) (e4 p _ hl) (by omega) hr


/-! ### _law_text -/
def sp_text2 : Sp := fun vs H Q _ => ∃ a b : Int, vs = [.int a, .int b] ∧ (0 ≤ a ∧ a < 2000) ∧ (0 ≤ b ∧ b < 2000) ∧ ∀ (z : Str) H', Ex H H' → z.length ≤ 60 → (∀ c ∈ z.cps.toList, c ∈ signsZ) → Q (.str z) H'
theorem ok_law_text (T : Txt K mg P) : FnOk P w K mg base CX0 1 T.f_law_text T.d_law_text ["a", "b"] sp_text2 := by
  refine T.F_law_text.ok sc_law_text (fun vs H Q E h => ?_) (fun cdv A outer s H vs Q E hr h => ?_)
  · obtain ⟨a, b, rfl, _⟩ := h
    rfl
  · obtain ⟨a, b, rfl, ha, hb, q⟩ := h
    refine ⟨_, pss_cons (ps_set (i := 2) sc_law_text.nd rfl (by first | exact Or.inl rfl | exact Or.inr rfl) (pe_str))
      (pss_cons (ps_set (i := 2) sc_law_text.nd rfl (by first | exact Or.inl rfl | exact Or.inr rfl) (pe_op op_add_str (pv 2) (pe_str)))
      (pss_cons (ps_set (i := 3) sc_law_text.nd rfl (by first | exact Or.inl rfl | exact Or.inr rfl) (pe_op op_mod (pv 1) (pe_int)))
      (pss_cut (ps_if (pt_cmpR op_eq (pe_op op_mod (pv 1) (pe_int)) (pe_int) (nomark _))
      (pss_one (ps_set (i := 3) sc_law_text.nd rfl (by first | exact Or.inl rfl | exact Or.inr rfl) (pe_int)))
      (pss_nil))
      (pss_one (ps_ret (pe_join (pe_str) (pe_lc (own := [("k", 4)]) (g := gName 4) (tt := tYes) rfl sc_law_text.nd (pi_range1 (by rfl) T.m_range (pa_cons (pv 3) (pa_nil))) (blkOk_by (N := ["a", "b", "chars", "size", "k"]) (sc := defScope s_law_text) (by decide +kernel)) (fun _ _ _ _ _ => pg_name (i := 4) sc_law_text.nd rfl (Or.inl rfl)) (fun _ _ _ _ _ => pts_nil) (fun _ _ _ _ _ => pe_ix ix_str (pv 2) (pe_op op_mod (pe_op op_add (pv 0) (pe_op op_mulX (pv 4) (pe_op op_add (pe_int) (pe_op op_fdivW (pv 1) (pe_int))))) (pe_int)) (fun _ _ => rfl))))))))), ?_⟩
    refine q_asg ev_c fun H1 e1 => ?_
    refine q_asg (ev_addS (ev_var rfl) ev_c (by decide +kernel)) fun H2 e2 => ?_
    refine q_asg (ev_bin (ev_var rfl) ev_c (by decide)) fun H3 e3 => ?_
    refine q_cut (M := fun σ' H' => ∃ (n : Nat), σ' = [some (.int a), some (.int b), some (.str ⟨signsZ.toArray⟩), some (.int (n : Int)), none] ∧ n ≤ 60 ∧ Ex H H') ?_ fun σ' H' hM => ?_
    · have E3 := (e1.trans e2).trans e3
      refine s_when (b := decide (b % 40 = 39)) (et_test (ev_eqI (ev_bin (ev_var rfl) ev_c (by decide)) ev_c)) (fun hb H4 e4 => ?_) (fun hb H4 e4 => ⟨(b % 5).toNat, by rw [Int.toNat_of_nonneg (by omega), ← signs_eq] <;> rfl, by omega, E3.trans e4⟩)
      exact s_asg ev_c fun H5 e5 => ⟨60, by rw [← signs_eq] <;> rfl, by omega, (E3.trans e4).trans e5⟩
    · obtain ⟨n, rfl, hn, eM⟩ := hM
      refine s_ret (v := .str ⟨((List.range n).map fun (k : Nat) => signsZ.getD ((a + (k : Int) * (1 + b / 5)) % 94).toNat 0).toArray⟩) (ev_is (ev_joinN (K := K) (ys := ((List.range n).map fun (k : Nat) => signsZ.getD ((a + (k : Int) * (1 + b / 5)) % 94).toNat 0).map fun c => (⟨#[c]⟩ : Str)) ev_c ?_ ?_) (congrArg V.str (join_signs _))) fun H4 e4 => q _ _ (eM.trans e4) ?_ ?_
      · refine el_mapR (n := n) (ea_cons (ev_var rfl) ea_nil) (by omega) (fun x => rfl) (by rw [List.length_map, List.length_map, List.length_map, List.length_range]) fun k y hk hy H10 e10 => ?_
        rw [List.getElem?_map, List.getElem?_map, List.getElem?_map, List.getElem?_range hk] at hy
        rw [← Option.some.inj hy]
        have h1 := Int.emod_nonneg (a + (k : Int) * (1 + b / 5)) (by decide : (94 : Int) ≠ 0)
        have h2 := Int.emod_lt_of_pos (a + (k : Int) * (1 + b / 5)) (by decide : (0 : Int) < 94)
        exact ev_ixS (ev_var rfl) (ev_bin (ev_bin0 (ev_var rfl) (ev_bin (ev_var rfl) (ev_bin0 ev_c (ev_bin (ev_var rfl) ev_c ⟨by decide, by decide⟩)) (Wd.mul (Wd.small (by omega) (by omega)) (Wd.small (by omega) (by omega))))) ev_c (by decide)) (by decide +kernel) (at_cps (l := signsZ) rfl h1 (by rw [signs_len]; exact h2))
      · rw [sum_ones, List.length_map, List.length_map, List.length_range]
        show n + n * 0 ≤ 16777216
        omega
      · show ((List.range n).map _).length ≤ 60
        rw [List.length_map, List.length_range]
        exact hn
      · intro c hc
        obtain ⟨k, _, rfl⟩ := List.mem_map.mp hc
        have h1 := Int.emod_nonneg (a + (k : Int) * (1 + b / 5)) (by decide : (94 : Int) ≠ 0)
        have h2 := Int.emod_lt_of_pos (a + (k : Int) * (1 + b / 5)) (by decide : (0 : Int) < 94)
        have h3 : ((a + (k : Int) * (1 + b / 5)) % 94).toNat < signsZ.length := by rw [signs_len]; omega
        rw [List.getD_eq_getElem?_getD, List.getElem?_eq_getElem h3]
        exact List.getElem_mem h3


/-! ### _law_kinds -/
def spKd (cs : Nat → Addr) : Sp := fun vs H Q _ => ∃ (w : Nat) (z : Str) (n : Int), vs = [.int (w : Int), .str z, .int n] ∧ w < 30 ∧ n.natAbs.log2 < 1920 ∧ ∀ p H', H p = none → Ex H H' → H' p = some (.lst (flW w)) → Q (.ref p) H'
set_option maxHeartbeats 4000000 in
theorem ok_law_kinds (T : Txt K mg P) : FnOk P w K mg base CX0 5 T.f_law_kinds T.d_law_kinds ["which", "text", "number"] (spKd T.cs) := by
  refine T.F_law_kinds.ok sc_law_kinds (fun vs H Q E h => ?_) (fun cdv A outer s H vs Q E hr h => ?_)
  · obtain ⟨w, z, n, rfl, _⟩ := h
    rfl
  · obtain ⟨w0, z, n, rfl, hw0, hlog, q⟩ := h
    refine ⟨_, pss_cons (ps_set (i := 3) sc_law_kinds.nd rfl (by first | exact Or.inl rfl | exact Or.inr rfl) (pe_lst (pa_nil)))
      (pss_cons (L2N.ps_try_as (i := 4) (c := .ref T.C_VersionError) (Wout := fun _ _ _ _ => False) rfl rfl sc_law_kinds.nd rfl rfl ⟨rfl, by decide, .inl T.g_VersionError⟩ takes0N
        (fun W pn xe tk _ => pss_one (ps_expr (pe_callS (ok_law_raise T) (hr.mono (by first | decide | omega)) (by rfl) T.g_law_raise T.F_law_raise.kp T.b_law_raise (fun σ => L2N.passAt tk σ) (pa_cons (pv 0) (pa_cons (pv 1) (pa_cons (pv 2) (pa_nil)))))))
        (fun a oe cls d pn hz0 hf => pss_given (P := cls = .ref (T.cs w0)) fun pc => have hz := zc1 pc hz0; pss_cons (ps_set (i := 3) sc_law_kinds.nd rfl (by first | exact Or.inl rfl | exact Or.inr rfl) (pe_op op_cat (pv 3) (pe_lst (pa_cons (pe_callB (call_isEi (T.tab.is w0 hw0) hz hf) (by rfl) T.m_isinstance (by decide +kernel) (pa_cons (pv 4) (pa_cons (pe_bltn (v := .ty "ValueError") (by rfl) T.m_ValueError (by decide +kernel) rfl) (pa_nil)))) (pa_nil)))))
      (pss_cons (ps_set (i := 3) sc_law_kinds.nd rfl (by first | exact Or.inl rfl | exact Or.inr rfl) (pe_op op_cat (pv 3) (pe_lst (pa_cons (pe_callB (call_isEi (T.tab.is w0 hw0) hz hf) (by rfl) T.m_isinstance (by decide +kernel) (pa_cons (pv 4) (pa_cons (pe_glob (v := .ref T.C_InvalidText) rfl T.e_InvalidText.g rfl) (pa_nil)))) (pa_cons (pe_callB (call_isEi (T.tab.is w0 hw0) hz hf) (by rfl) T.m_isinstance (by decide +kernel) (pa_cons (pv 4) (pa_cons (pe_glob (v := .ref T.C_TornText) rfl T.e_TornText.g rfl) (pa_nil)))) (pa_cons (pe_callB (call_isEi (T.tab.is w0 hw0) hz hf) (by rfl) T.m_isinstance (by decide +kernel) (pa_cons (pv 4) (pa_cons (pe_glob (v := .ref T.C_InvalidForm) rfl T.e_InvalidForm.g rfl) (pa_nil)))) (pa_nil)))))))
      (pss_cons (ps_set (i := 3) sc_law_kinds.nd rfl (by first | exact Or.inl rfl | exact Or.inr rfl) (pe_op op_cat (pv 3) (pe_lst (pa_cons (pe_callB (call_isEi (T.tab.is w0 hw0) hz hf) (by rfl) T.m_isinstance (by decide +kernel) (pa_cons (pv 4) (pa_cons (pe_glob (v := .ref T.C_InvalidRow) rfl T.e_InvalidRow.g rfl) (pa_nil)))) (pa_cons (pe_callB (call_isEi (T.tab.is w0 hw0) hz hf) (by rfl) T.m_isinstance (by decide +kernel) (pa_cons (pv 4) (pa_cons (pe_glob (v := .ref T.C_DuplicateKey) rfl T.e_DuplicateKey.g rfl) (pa_nil)))) (pa_nil))))))
      (pss_cons (ps_set (i := 3) sc_law_kinds.nd rfl (by first | exact Or.inl rfl | exact Or.inr rfl) (pe_op op_cat (pv 3) (pe_lst (pa_cons (pe_callB (call_isEi (T.tab.is w0 hw0) hz hf) (by rfl) T.m_isinstance (by decide +kernel) (pa_cons (pv 4) (pa_cons (pe_glob (v := .ref T.C_MissingChunk) rfl T.e_MissingChunk.g rfl) (pa_nil)))) (pa_cons (pe_callB (call_isEi (T.tab.is w0 hw0) hz hf) (by rfl) T.m_isinstance (by decide +kernel) (pa_cons (pv 4) (pa_cons (pe_glob (v := .ref T.C_UnknownTable) rfl T.e_UnknownTable.g rfl) (pa_nil)))) (pa_cons (pe_callB (call_isEi (T.tab.is w0 hw0) hz hf) (by rfl) T.m_isinstance (by decide +kernel) (pa_cons (pv 4) (pa_cons (pe_glob (v := .ref T.C_DuplicateTable) rfl T.e_DuplicateTable.g rfl) (pa_nil)))) (pa_nil)))))))
      (pss_cons (ps_set (i := 3) sc_law_kinds.nd rfl (by first | exact Or.inl rfl | exact Or.inr rfl) (pe_op op_cat (pv 3) (pe_lst (pa_cons (pe_callB (call_isEi (T.tab.is w0 hw0) hz hf) (by rfl) T.m_isinstance (by decide +kernel) (pa_cons (pv 4) (pa_cons (pe_glob (v := .ref T.C_KeyChanged) rfl T.e_KeyChanged.g rfl) (pa_nil)))) (pa_cons (pe_callB (call_isEi (T.tab.is w0 hw0) hz hf) (by rfl) T.m_isinstance (by decide +kernel) (pa_cons (pv 4) (pa_cons (pe_glob (v := .ref T.C_PatchMismatch) rfl T.e_PatchMismatch.g rfl) (pa_nil)))) (pa_nil))))))
      (pss_cons (ps_set (i := 3) sc_law_kinds.nd rfl (by first | exact Or.inl rfl | exact Or.inr rfl) (pe_op op_cat (pv 3) (pe_lst (pa_cons (pe_callB (call_isEi (T.tab.is w0 hw0) hz hf) (by rfl) T.m_isinstance (by decide +kernel) (pa_cons (pv 4) (pa_cons (pe_glob (v := .ref T.C_InvalidVersion) rfl T.e_InvalidVersion.g rfl) (pa_nil)))) (pa_cons (pe_callB (call_isEi (T.tab.is w0 hw0) hz hf) (by rfl) T.m_isinstance (by decide +kernel) (pa_cons (pv 4) (pa_cons (pe_glob (v := .ref T.C_UnknownVersion) rfl T.e_UnknownVersion.g rfl) (pa_nil)))) (pa_cons (pe_callB (call_isEi (T.tab.is w0 hw0) hz hf) (by rfl) T.m_isinstance (by decide +kernel) (pa_cons (pv 4) (pa_cons (pe_glob (v := .ref T.C_SyntaxFault) rfl T.e_SyntaxFault.g rfl) (pa_nil)))) (pa_nil)))))))
      (pss_cons (ps_set (i := 3) sc_law_kinds.nd rfl (by first | exact Or.inl rfl | exact Or.inr rfl) (pe_op op_cat (pv 3) (pe_lst (pa_cons (pe_callB (call_isEi (T.tab.is w0 hw0) hz hf) (by rfl) T.m_isinstance (by decide +kernel) (pa_cons (pv 4) (pa_cons (pe_glob (v := .ref T.C_InvalidQuery) rfl T.e_InvalidQuery.g rfl) (pa_nil)))) (pa_cons (pe_callB (call_isEi (T.tab.is w0 hw0) hz hf) (by rfl) T.m_isinstance (by decide +kernel) (pa_cons (pv 4) (pa_cons (pe_glob (v := .ref T.C_InvalidName) rfl T.e_InvalidName.g rfl) (pa_nil)))) (pa_nil))))))
      (pss_cons (ps_set (i := 3) sc_law_kinds.nd rfl (by first | exact Or.inl rfl | exact Or.inr rfl) (pe_op op_cat (pv 3) (pe_lst (pa_cons (pe_callB (call_isEi (T.tab.is w0 hw0) hz hf) (by rfl) T.m_isinstance (by decide +kernel) (pa_cons (pv 4) (pa_cons (pe_glob (v := .ref T.C_DuplicateName) rfl T.e_DuplicateName.g rfl) (pa_nil)))) (pa_cons (pe_callB (call_isEi (T.tab.is w0 hw0) hz hf) (by rfl) T.m_isinstance (by decide +kernel) (pa_cons (pv 4) (pa_cons (pe_glob (v := .ref T.C_UnknownName) rfl T.e_UnknownName.g rfl) (pa_nil)))) (pa_cons (pe_callB (call_isEi (T.tab.is w0 hw0) hz hf) (by rfl) T.m_isinstance (by decide +kernel) (pa_cons (pv 4) (pa_cons (pe_glob (v := .ref T.C_HeadBranch) rfl T.e_HeadBranch.g rfl) (pa_nil)))) (pa_nil)))))))
      (pss_cons (ps_set (i := 3) sc_law_kinds.nd rfl (by first | exact Or.inl rfl | exact Or.inr rfl) (pe_op op_cat (pv 3) (pe_lst (pa_cons (pe_callB (call_isEi (T.tab.is w0 hw0) hz hf) (by rfl) T.m_isinstance (by decide +kernel) (pa_cons (pv 4) (pa_cons (pe_glob (v := .ref T.C_NotClean) rfl T.e_NotClean.g rfl) (pa_nil)))) (pa_cons (pe_callB (call_isEi (T.tab.is w0 hw0) hz hf) (by rfl) T.m_isinstance (by decide +kernel) (pa_cons (pv 4) (pa_cons (pe_glob (v := .ref T.C_NothingToCommit) rfl T.e_NothingToCommit.g rfl) (pa_nil)))) (pa_nil))))))
      (pss_cons (ps_set (i := 3) sc_law_kinds.nd rfl (by first | exact Or.inl rfl | exact Or.inr rfl) (pe_op op_cat (pv 3) (pe_lst (pa_cons (pe_callB (call_isEi (T.tab.is w0 hw0) hz hf) (by rfl) T.m_isinstance (by decide +kernel) (pa_cons (pv 4) (pa_cons (pe_glob (v := .ref T.C_Unsound) rfl T.e_Unsound.g rfl) (pa_nil)))) (pa_cons (pe_callB (call_isEi (T.tab.is w0 hw0) hz hf) (by rfl) T.m_isinstance (by decide +kernel) (pa_cons (pv 4) (pa_cons (pe_glob (v := .ref T.C_UnresolvedConflicts) rfl T.e_UnresolvedConflicts.g rfl) (pa_nil)))) (pa_cons (pe_callB (call_isEi (T.tab.is w0 hw0) hz hf) (by rfl) T.m_isinstance (by decide +kernel) (pa_cons (pv 4) (pa_cons (pe_glob (v := .ref T.C_NotMerging) rfl T.e_NotMerging.g rfl) (pa_nil)))) (pa_nil)))))))
      (pss_cons (ps_set (i := 3) sc_law_kinds.nd rfl (by first | exact Or.inl rfl | exact Or.inr rfl) (pe_op op_cat (pv 3) (pe_lst (pa_cons (pe_callB (call_isEi (T.tab.is w0 hw0) hz hf) (by rfl) T.m_isinstance (by decide +kernel) (pa_cons (pv 4) (pa_cons (pe_glob (v := .ref T.C_UnknownConflict) rfl T.e_UnknownConflict.g rfl) (pa_nil)))) (pa_cons (pe_callB (call_isEi (T.tab.is w0 hw0) hz hf) (by rfl) T.m_isinstance (by decide +kernel) (pa_cons (pv 4) (pa_cons (pe_glob (v := .ref T.C_NotPickable) rfl T.e_NotPickable.g rfl) (pa_nil)))) (pa_nil))))))
      (pss_cons (ps_set (i := 3) sc_law_kinds.nd rfl (by first | exact Or.inl rfl | exact Or.inr rfl) (pe_op op_cat (pv 3) (pe_lst (pa_cons (pe_callB (call_isEi (T.tab.is w0 hw0) hz hf) (by rfl) T.m_isinstance (by decide +kernel) (pa_cons (pv 4) (pa_cons (pe_glob (v := .ref T.C_PickConflict) rfl T.e_PickConflict.g rfl) (pa_nil)))) (pa_cons (pe_callB (call_isEi (T.tab.is w0 hw0) hz hf) (by rfl) T.m_isinstance (by decide +kernel) (pa_cons (pv 4) (pa_cons (pe_glob (v := .ref T.C_MissingRow) rfl T.e_MissingRow.g rfl) (pa_nil)))) (pa_cons (pe_callB (call_isEi (T.tab.is w0 hw0) hz hf) (by rfl) T.m_isinstance (by decide +kernel) (pa_cons (pv 4) (pa_cons (pe_glob (v := .ref T.C_NoPath) rfl T.e_NoPath.g rfl) (pa_nil)))) (pa_nil)))))))
      (pss_one (ps_set (i := 3) sc_law_kinds.nd rfl (by first | exact Or.inl rfl | exact Or.inr rfl) (pe_op op_cat (pv 3) (pe_lst (pa_cons (pe_callB (call_isEi (T.tab.is w0 hw0) hz hf) (by rfl) T.m_isinstance (by decide +kernel) (pa_cons (pv 4) (pa_cons (pe_glob (v := .ref T.C_NotBroken) rfl T.e_NotBroken.g rfl) (pa_nil)))) (pa_cons (pe_callB (call_isEi (T.tab.is w0 hw0) hz hf) (by rfl) T.m_isinstance (by decide +kernel) (pa_cons (pv 4) (pa_cons (pe_glob (v := .ref T.C_PowerLost) rfl T.e_PowerLost.g rfl) (pa_nil)))) (pa_nil))))))))))))))))))))
      (pss_one (ps_ret (pv 3)))), ?_⟩
    refine q_asgL (xs := []) (el_lst ea_nil (by decide)) fun p0 H1 np0 e1 hp0 => ?_
    refine s_dropT (ea_cons (ev_var rfl) (ea_cons (ev_var rfl) (ea_cons (ev_var rfl) ea_nil))) fun H1' Q1 e1' => ⟨w0, z, n, rfl, hw0, hlog, RaOut.of fun d H2 e2 hx _ => ?_⟩
    refine ⟨true, T.tab.ex w0 hw0, fun _ a ha => ⟨rfl, ?_⟩, fun z => nomatch z⟩
    have hp2 := e2 _ _ (e1' _ _ hp0)
    have e_0 := Ex.refl H2
    have xd : ∀ {H' : Hp}, Ex H2 H' → ∀ dd, d = some dd → ∃ fs, H' dd = some (.xd fs) := fun e dd z => ⟨_, e _ _ (hx dd z)⟩
    have isC : ∀ {j : Nat} {C : Addr} {H' : Hp} {σ : L2.St}, Ex H2 H' → σ[4]? = some (some (V.ref a)) → j < 30 → T.cs j = C → Ev (tCB (fun xs H Q => (∀ dd, d = some dd → ∃ fs, H dd = some (.xd fs)) ∧ rIsE K (T.cs w0) a xs H Q) (tCons (tVar 4) (tCons (tC (.ref C)) tNil))) σ H' (.bl (decide (w0 = j))) := fun {j C H' σ} e hσ hj hC => by
      subst hC
      exact ev_isEi (ev_var hσ) (xd e) (fun u h => h) (T.tab.kit w0 j hw0 hj)
    have isV : ∀ {H' : Hp} {σ : L2.St}, Ex H2 H' → σ[4]? = some (some (V.ref a)) → Ev (tCB (fun xs H Q => (∀ dd, d = some dd → ∃ fs, H dd = some (.xd fs)) ∧ rIsE K (T.cs w0) a xs H Q) (tCons (tVar 4) (tCons (tC (.ty "ValueError")) tNil))) σ H' (.bl true) := fun {H' σ} e hσ =>
      ev_isEi (ev_var hσ) (xd e) (fun u h => h) (T.tab.ve w0 hw0)
    obtain ⟨L0, hL0⟩ : ∃ L : List V, L = [] := ⟨_, rfl⟩
    have l0 : L0.length = 0 := by rw [hL0] <;> rfl
    rw [← hL0] at hp2
    refine q_asgLS (fun p => [some (.int (w0 : Int)), some (.str z), some (.int n), some (.ref p), some (.ref a)]) (xs := L0 ++ [V.bl true]) (el_catV (K := K) (ev_var rfl) hp2 (el_lst (ea_cons (isV e_0 rfl) (ea_nil)) (show 1 ≤ 100000 by decide)) (by rw [l0]; show 0 + 1 ≤ 100000; decide)) (fun _ => rfl) fun p1 G1 np1 g1 hp1_ => ?_
    obtain ⟨L1, hL1⟩ : ∃ L : List V, L = L0 ++ [V.bl true] := ⟨_, rfl⟩
    have l1 : L1.length = 1 := by rw [hL1, List.length_append, l0] <;> rfl
    rw [← hL1] at hp1_
    have e_1 := e_0.trans g1
    refine q_asgLS (fun p => [some (.int (w0 : Int)), some (.str z), some (.int n), some (.ref p), some (.ref a)]) (xs := L1 ++ [V.bl (decide (w0 = 0)), V.bl (decide (w0 = 1)), V.bl (decide (w0 = 2))]) (el_catV (K := K) (ev_var rfl) hp1_ (el_lst (ea_cons (isC (j := 0) e_1 rfl (by decide) rfl) (ea_cons (isC (j := 1) e_1 rfl (by decide) rfl) (ea_cons (isC (j := 2) e_1 rfl (by decide) rfl) (ea_nil)))) (show 3 ≤ 100000 by decide)) (by rw [l1]; show 1 + 3 ≤ 100000; decide)) (fun _ => rfl) fun p2 G2 np2 g2 hp2_ => ?_
    obtain ⟨L2, hL2⟩ : ∃ L : List V, L = L1 ++ [V.bl (decide (w0 = 0)), V.bl (decide (w0 = 1)), V.bl (decide (w0 = 2))] := ⟨_, rfl⟩
    have l2 : L2.length = 4 := by rw [hL2, List.length_append, l1] <;> rfl
    rw [← hL2] at hp2_
    have e_2 := e_1.trans g2
    refine q_asgLS (fun p => [some (.int (w0 : Int)), some (.str z), some (.int n), some (.ref p), some (.ref a)]) (xs := L2 ++ [V.bl (decide (w0 = 3)), V.bl (decide (w0 = 4))]) (el_catV (K := K) (ev_var rfl) hp2_ (el_lst (ea_cons (isC (j := 3) e_2 rfl (by decide) rfl) (ea_cons (isC (j := 4) e_2 rfl (by decide) rfl) (ea_nil))) (show 2 ≤ 100000 by decide)) (by rw [l2]; show 4 + 2 ≤ 100000; decide)) (fun _ => rfl) fun p3 G3 np3 g3 hp3_ => ?_
    obtain ⟨L3, hL3⟩ : ∃ L : List V, L = L2 ++ [V.bl (decide (w0 = 3)), V.bl (decide (w0 = 4))] := ⟨_, rfl⟩
    have l3 : L3.length = 6 := by rw [hL3, List.length_append, l2] <;> rfl
    rw [← hL3] at hp3_
    have e_3 := e_2.trans g3
    refine q_asgLS (fun p => [some (.int (w0 : Int)), some (.str z), some (.int n), some (.ref p), some (.ref a)]) (xs := L3 ++ [V.bl (decide (w0 = 5)), V.bl (decide (w0 = 6)), V.bl (decide (w0 = 7))]) (el_catV (K := K) (ev_var rfl) hp3_ (el_lst (ea_cons (isC (j := 5) e_3 rfl (by decide) rfl) (ea_cons (isC (j := 6) e_3 rfl (by decide) rfl) (ea_cons (isC (j := 7) e_3 rfl (by decide) rfl) (ea_nil)))) (show 3 ≤ 100000 by decide)) (by rw [l3]; show 6 + 3 ≤ 100000; decide)) (fun _ => rfl) fun p4 G4 np4 g4 hp4_ => ?_
    obtain ⟨L4, hL4⟩ : ∃ L : List V, L = L3 ++ [V.bl (decide (w0 = 5)), V.bl (decide (w0 = 6)), V.bl (decide (w0 = 7))] := ⟨_, rfl⟩
    have l4 : L4.length = 9 := by rw [hL4, List.length_append, l3] <;> rfl
    rw [← hL4] at hp4_
    have e_4 := e_3.trans g4
    refine q_asgLS (fun p => [some (.int (w0 : Int)), some (.str z), some (.int n), some (.ref p), some (.ref a)]) (xs := L4 ++ [V.bl (decide (w0 = 8)), V.bl (decide (w0 = 9))]) (el_catV (K := K) (ev_var rfl) hp4_ (el_lst (ea_cons (isC (j := 8) e_4 rfl (by decide) rfl) (ea_cons (isC (j := 9) e_4 rfl (by decide) rfl) (ea_nil))) (show 2 ≤ 100000 by decide)) (by rw [l4]; show 9 + 2 ≤ 100000; decide)) (fun _ => rfl) fun p5 G5 np5 g5 hp5_ => ?_
    obtain ⟨L5, hL5⟩ : ∃ L : List V, L = L4 ++ [V.bl (decide (w0 = 8)), V.bl (decide (w0 = 9))] := ⟨_, rfl⟩
    have l5 : L5.length = 11 := by rw [hL5, List.length_append, l4] <;> rfl
    rw [← hL5] at hp5_
    have e_5 := e_4.trans g5
    refine q_asgLS (fun p => [some (.int (w0 : Int)), some (.str z), some (.int n), some (.ref p), some (.ref a)]) (xs := L5 ++ [V.bl (decide (w0 = 10)), V.bl (decide (w0 = 11)), V.bl (decide (w0 = 12))]) (el_catV (K := K) (ev_var rfl) hp5_ (el_lst (ea_cons (isC (j := 10) e_5 rfl (by decide) rfl) (ea_cons (isC (j := 11) e_5 rfl (by decide) rfl) (ea_cons (isC (j := 12) e_5 rfl (by decide) rfl) (ea_nil)))) (show 3 ≤ 100000 by decide)) (by rw [l5]; show 11 + 3 ≤ 100000; decide)) (fun _ => rfl) fun p6 G6 np6 g6 hp6_ => ?_
    obtain ⟨L6, hL6⟩ : ∃ L : List V, L = L5 ++ [V.bl (decide (w0 = 10)), V.bl (decide (w0 = 11)), V.bl (decide (w0 = 12))] := ⟨_, rfl⟩
    have l6 : L6.length = 14 := by rw [hL6, List.length_append, l5] <;> rfl
    rw [← hL6] at hp6_
    have e_6 := e_5.trans g6
    refine q_asgLS (fun p => [some (.int (w0 : Int)), some (.str z), some (.int n), some (.ref p), some (.ref a)]) (xs := L6 ++ [V.bl (decide (w0 = 13)), V.bl (decide (w0 = 14))]) (el_catV (K := K) (ev_var rfl) hp6_ (el_lst (ea_cons (isC (j := 13) e_6 rfl (by decide) rfl) (ea_cons (isC (j := 14) e_6 rfl (by decide) rfl) (ea_nil))) (show 2 ≤ 100000 by decide)) (by rw [l6]; show 14 + 2 ≤ 100000; decide)) (fun _ => rfl) fun p7 G7 np7 g7 hp7_ => ?_
    obtain ⟨L7, hL7⟩ : ∃ L : List V, L = L6 ++ [V.bl (decide (w0 = 13)), V.bl (decide (w0 = 14))] := ⟨_, rfl⟩
    have l7 : L7.length = 16 := by rw [hL7, List.length_append, l6] <;> rfl
    rw [← hL7] at hp7_
    have e_7 := e_6.trans g7
    refine q_asgLS (fun p => [some (.int (w0 : Int)), some (.str z), some (.int n), some (.ref p), some (.ref a)]) (xs := L7 ++ [V.bl (decide (w0 = 15)), V.bl (decide (w0 = 16)), V.bl (decide (w0 = 17))]) (el_catV (K := K) (ev_var rfl) hp7_ (el_lst (ea_cons (isC (j := 15) e_7 rfl (by decide) rfl) (ea_cons (isC (j := 16) e_7 rfl (by decide) rfl) (ea_cons (isC (j := 17) e_7 rfl (by decide) rfl) (ea_nil)))) (show 3 ≤ 100000 by decide)) (by rw [l7]; show 16 + 3 ≤ 100000; decide)) (fun _ => rfl) fun p8 G8 np8 g8 hp8_ => ?_
    obtain ⟨L8, hL8⟩ : ∃ L : List V, L = L7 ++ [V.bl (decide (w0 = 15)), V.bl (decide (w0 = 16)), V.bl (decide (w0 = 17))] := ⟨_, rfl⟩
    have l8 : L8.length = 19 := by rw [hL8, List.length_append, l7] <;> rfl
    rw [← hL8] at hp8_
    have e_8 := e_7.trans g8
    refine q_asgLS (fun p => [some (.int (w0 : Int)), some (.str z), some (.int n), some (.ref p), some (.ref a)]) (xs := L8 ++ [V.bl (decide (w0 = 18)), V.bl (decide (w0 = 19))]) (el_catV (K := K) (ev_var rfl) hp8_ (el_lst (ea_cons (isC (j := 18) e_8 rfl (by decide) rfl) (ea_cons (isC (j := 19) e_8 rfl (by decide) rfl) (ea_nil))) (show 2 ≤ 100000 by decide)) (by rw [l8]; show 19 + 2 ≤ 100000; decide)) (fun _ => rfl) fun p9 G9 np9 g9 hp9_ => ?_
    obtain ⟨L9, hL9⟩ : ∃ L : List V, L = L8 ++ [V.bl (decide (w0 = 18)), V.bl (decide (w0 = 19))] := ⟨_, rfl⟩
    have l9 : L9.length = 21 := by rw [hL9, List.length_append, l8] <;> rfl
    rw [← hL9] at hp9_
    have e_9 := e_8.trans g9
    refine q_asgLS (fun p => [some (.int (w0 : Int)), some (.str z), some (.int n), some (.ref p), some (.ref a)]) (xs := L9 ++ [V.bl (decide (w0 = 20)), V.bl (decide (w0 = 21)), V.bl (decide (w0 = 22))]) (el_catV (K := K) (ev_var rfl) hp9_ (el_lst (ea_cons (isC (j := 20) e_9 rfl (by decide) rfl) (ea_cons (isC (j := 21) e_9 rfl (by decide) rfl) (ea_cons (isC (j := 22) e_9 rfl (by decide) rfl) (ea_nil)))) (show 3 ≤ 100000 by decide)) (by rw [l9]; show 21 + 3 ≤ 100000; decide)) (fun _ => rfl) fun p10 G10 np10 g10 hp10_ => ?_
    obtain ⟨L10, hL10⟩ : ∃ L : List V, L = L9 ++ [V.bl (decide (w0 = 20)), V.bl (decide (w0 = 21)), V.bl (decide (w0 = 22))] := ⟨_, rfl⟩
    have l10 : L10.length = 24 := by rw [hL10, List.length_append, l9] <;> rfl
    rw [← hL10] at hp10_
    have e_10 := e_9.trans g10
    refine q_asgLS (fun p => [some (.int (w0 : Int)), some (.str z), some (.int n), some (.ref p), some (.ref a)]) (xs := L10 ++ [V.bl (decide (w0 = 23)), V.bl (decide (w0 = 24))]) (el_catV (K := K) (ev_var rfl) hp10_ (el_lst (ea_cons (isC (j := 23) e_10 rfl (by decide) rfl) (ea_cons (isC (j := 24) e_10 rfl (by decide) rfl) (ea_nil))) (show 2 ≤ 100000 by decide)) (by rw [l10]; show 24 + 2 ≤ 100000; decide)) (fun _ => rfl) fun p11 G11 np11 g11 hp11_ => ?_
    obtain ⟨L11, hL11⟩ : ∃ L : List V, L = L10 ++ [V.bl (decide (w0 = 23)), V.bl (decide (w0 = 24))] := ⟨_, rfl⟩
    have l11 : L11.length = 26 := by rw [hL11, List.length_append, l10] <;> rfl
    rw [← hL11] at hp11_
    have e_11 := e_10.trans g11
    refine q_asgLS (fun p => [some (.int (w0 : Int)), some (.str z), some (.int n), some (.ref p), some (.ref a)]) (xs := L11 ++ [V.bl (decide (w0 = 25)), V.bl (decide (w0 = 26)), V.bl (decide (w0 = 27))]) (el_catV (K := K) (ev_var rfl) hp11_ (el_lst (ea_cons (isC (j := 25) e_11 rfl (by decide) rfl) (ea_cons (isC (j := 26) e_11 rfl (by decide) rfl) (ea_cons (isC (j := 27) e_11 rfl (by decide) rfl) (ea_nil)))) (show 3 ≤ 100000 by decide)) (by rw [l11]; show 26 + 3 ≤ 100000; decide)) (fun _ => rfl) fun p12 G12 np12 g12 hp12_ => ?_
    obtain ⟨L12, hL12⟩ : ∃ L : List V, L = L11 ++ [V.bl (decide (w0 = 25)), V.bl (decide (w0 = 26)), V.bl (decide (w0 = 27))] := ⟨_, rfl⟩
    have l12 : L12.length = 29 := by rw [hL12, List.length_append, l11] <;> rfl
    rw [← hL12] at hp12_
    have e_12 := e_11.trans g12
    refine s_asgLS (fun p => [some (.int (w0 : Int)), some (.str z), some (.int n), some (.ref p), some (.ref a)]) (xs := L12 ++ [V.bl (decide (w0 = 28)), V.bl (decide (w0 = 29))]) (el_catV (K := K) (ev_var rfl) hp12_ (el_lst (ea_cons (isC (j := 28) e_12 rfl (by decide) rfl) (ea_cons (isC (j := 29) e_12 rfl (by decide) rfl) (ea_nil))) (show 2 ≤ 100000 by decide)) (by rw [l12]; show 29 + 2 ≤ 100000; decide)) (fun _ => rfl) fun p13 G13 np13 g13 hp13_ => ?_
    obtain ⟨L13, hL13⟩ : ∃ L : List V, L = L12 ++ [V.bl (decide (w0 = 28)), V.bl (decide (w0 = 29))] := ⟨_, rfl⟩
    have l13 : L13.length = 31 := by rw [hL13, List.length_append, l12] <;> rfl
    rw [← hL13] at hp13_
    have e_13 := e_12.trans g13
    have E := (e1.trans e1').trans (e2.trans e_13)
    refine s_ret (v := .ref p13) (ev_var rfl) fun G14 g14 => ?_
    refine q p13 G14 (fresh_back ((e1.trans e1').trans (e2.trans e_12)) np13) (E.trans g14) (g14 _ _ ?_)
    have hfl : L13 = flW w0 := by
      rw [hL13, hL12, hL11, hL10, hL9, hL8, hL7, hL6, hL5, hL4, hL3, hL2, hL1, hL0]
      rfl
    rw [← hfl]
    exact hp13_


/-! ### law -/
theorem t_callE {sp : Sp} {dvs vs : List V} {E : XK} {ta : TA} {σ : L2.St} {H : Hp} {Q : VK} (h : EvA ta σ H vs) (k : ∀ H1, Ex H H1 → sp (vs ++ dvs) H1 Q E) : tCall sp dvs E ta σ H Q := h H (Ex.refl H) _ fun H1 e1 => k H1 e1
theorem el_catN {σ : L2.St} {H : Hp} {ta tb : TE} {xs ys : List V} (ha : EvL ta σ H xs) (hb : EvL tb σ H ys) (hz : xs.length + ys.length ≤ 100000) : EvL (tOp rCat ta tb) σ H (xs ++ ys) := fun H1 e Q q =>
  ha H1 e _ fun p H2 np e2 hp => hb H2 (e.trans e2) _ fun q' H3 nq e3 hq => ⟨p, q', xs, ys, rfl, rfl, e3 _ _ hp, hq, by rw [sizeLine_eq]; omega, fun r hr => q r _ (fresh_back (e2.trans e3) hr) ((e2.trans e3).trans (Ex.new hr)) upd_same⟩
def spLaw (K : PySem.W.Frag) : Sp := fun vs H Q _ => ∃ (a : Addr) (ns : List Int), vs = [.ref a] ∧ SqL K H a (ns.map V.int) ∧ ns.length ≤ 63 ∧ (∀ z ∈ ns, Builtin.Int.intBits z ≤ 1048576) ∧ ∀ H', Q (.bl true) H'
theorem ok_law (T : Txt K mg P) : FnOk P w K mg base CX0 6 T.f_law T.d_law ["script"] (spLaw K) := by
  refine T.F_law.ok sc_law (fun vs H Q E h => ?_) (fun cdv A outer s H vs Q E hr h => ?_)
  · obtain ⟨a, ns, rfl, _⟩ := h
    rfl
  · obtain ⟨a, ns, rfl, hS, hlen, hbits, q⟩ := h
    have hw : ∀ n ∈ ns, Wd n := fun n hn => Wd.bits (hbits n hn)
    refine ⟨_, pss_cons (ps_set (i := 1) sc_law.nd rfl (by first | exact Or.inl rfl | exact Or.inr rfl) (pe_call (ok_law_numbers T) (hr.mono (by first | decide | omega)) (by rfl) T.g_law_numbers T.F_law_numbers.kp T.b_law_numbers .nil pass0 (pa_cons (pe_call (ok_law_cell T) (hr.mono (by first | decide | omega)) (by rfl) T.g_law_cell T.F_law_cell.kp T.b_law_cell .nil pass0 (pa_cons (pv 0) (pa_cons (pe_int) (pa_nil)))) (pa_cons (pe_int) (pa_nil)))))
      (pss_cons (ps_set (i := 2) sc_law.nd rfl (by first | exact Or.inl rfl | exact Or.inr rfl) (pe_call (ok_law_text T) (hr.mono (by first | decide | omega)) (by rfl) T.g_law_text T.F_law_text.kp T.b_law_text .nil pass0 (pa_cons (pe_ix (r := rIxL K) ix_list (pv 1) (pe_int) (fun _ _ => rfl)) (pa_cons (pe_ix (r := rIxL K) ix_list (pv 1) (pe_int) (fun _ _ => rfl)) (pa_nil)))))
      (pss_cons (ps_set (i := 3) sc_law.nd rfl (by first | exact Or.inl rfl | exact Or.inr rfl) (pe_op op_add (pe_int) (pe_op op_mod (pe_callTy call_int1 (by rfl) T.m_int (by decide +kernel) (pa_cons (pe_call (ok_law_cell T) (hr.mono (by first | decide | omega)) (by rfl) T.g_law_cell T.F_law_cell.kp T.b_law_cell .nil pass0 (pa_cons (pv 0) (pa_cons (pe_int) (pa_nil)))) (pa_nil))) (pe_op op_pow (pe_int) (pe_int)))))
      (pss_cons (ps_for PassesOwn.never rfl (pi_range1 (by rfl) T.m_range (pa_cons (pe_int) (pa_nil))) (pg_name (i := 4) sc_law.nd rfl (by first | exact Or.inl rfl | exact Or.inr rfl))
      (pss_one (ps_if (pt_cmpR (r := rNeD K) (op_neD hr.units) (pe_call (ok_law_kinds T) (hr.mono (by first | decide | omega)) (by rfl) T.g_law_kinds T.F_law_kinds.kp T.b_law_kinds .nil pass0 (pa_cons (pv 4) (pa_cons (pv 2) (pa_cons (pv 3) (pa_nil))))) (pe_op op_cat (pe_lst (pa_cons (pe_bl) (pa_nil))) (pe_lc (own := [("k", 5)]) (g := gName 5) (tt := tYes) rfl sc_law.nd (pi_range1 (by rfl) T.m_range (pa_cons (pe_int) (pa_nil))) (blkOk_by (N := ["script", "numbers", "text", "number", "which", "k"]) (sc := defScope s_law) (by decide +kernel)) (fun _ _ _ _ _ => pg_name (i := 5) sc_law.nd rfl (Or.inl rfl)) (fun _ _ _ _ _ => pts_nil) (fun _ _ _ _ _ => pe_cmpR op_eq (pv 5) (pv 4) (nomark _)))) (nomark _))
      (pss_one (ps_ret (pe_bl)))
      (pss_nil))))
      (pss_one (ps_ret (pe_and (pe_call (ok_law_is T) (hr.mono (by first | decide | omega)) (by rfl) T.g_law_is T.F_law_is.kp T.b_law_is .nil pass0 (pa_cons (pe_call (ok_law_address T) (hr.mono (by first | decide | omega)) (by rfl) T.g_law_address T.F_law_address.kp T.b_law_address .nil pass0 (pa_cons (pv 3) (pa_nil))) (pa_cons (pv 3) (pa_nil)))) (pe_one (pe_call (ok_law_is T) (hr.mono (by first | decide | omega)) (by rfl) T.g_law_is T.F_law_is.kp T.b_law_is .nil pass0 (pa_cons (pe_call (ok_law_column T) (hr.mono (by first | decide | omega)) (by rfl) T.g_law_column T.F_law_column.kp T.b_law_column .nil pass0 (pa_cons (pv 3) (pa_nil))) (pa_cons (pv 3) (pa_nil))))))))))), ?_⟩
    have cl : ∀ {H' : Hp} {σ : L2.St} {E : XK} {k : Nat}, Ex H H' → σ[0]? = some (some (V.ref a)) → Ev (tCall (sp_cell K) [] E (tCons (tVar 0) (tCons (tC (.int (k : Int))) tNil))) σ H' (.int (cellZ ns k)) := fun e hσ => ev_call (ea_cons (ev_var hσ) (ea_cons ev_c ea_nil)) (cv_cell (ex_l e hS))
    refine q_asgK ?_
    refine t_callE (ea_cons (cl (k := 0) (Ex.refl H) rfl) (ea_cons ev_c ea_nil)) fun H1 e1 => ⟨_, 4, rfl, Wd.cell hw 0, by decide, fun p ms H2 _ e2 hms hl4 hr4 => ?_⟩
    obtain ⟨m0, m1, m2, m3, rfl⟩ : ∃ m0 m1 m2 m3, ms = [m0, m1, m2, m3] := by
      match ms, hl4 with
      | [x0, x1, x2, x3], _ => exact ⟨x0, x1, x2, x3, rfl⟩
    have r0 := hr4 m0 (by simp)
    have r1 := hr4 m1 (by simp)
    refine q_asgK ?_
    refine t_callE (ea_cons (ev_ixL (K := K) (i := 0) (v := .int m0) (ev_var rfl) ev_c (sq_of hms) rfl) (ea_cons (ev_ixL (K := K) (i := 1) (v := .int m1) (ev_var rfl) ev_c (sq_of hms) rfl) ea_nil)) fun H3 e3 => ⟨m0, m1, rfl, ⟨by omega, by omega⟩, ⟨by omega, by omega⟩, fun z H4 e4 hz _ => ?_⟩
    have E4 := (((e1.trans e2).trans e3).trans e4)
    have m18 := Int.emod_nonneg (cellZ ns 1) (by decide : (10 ^ 18 : Int) ≠ 0)
    have m18' := Int.emod_lt_of_pos (cellZ ns 1) (by decide : (0 : Int) < 10 ^ 18)
    refine q_asg (v := .int (1 + cellZ ns 1 % 10 ^ 18)) (ev_bin0 ev_c (ev_bin (j := 10 ^ 18) (ev_intI (cl (k := 1) E4 rfl)) (ev_is (ev_bin ev_c ev_c ⟨by decide, by decide, by decide⟩) (by decide)) (by decide))) fun H5 e5 => ?_
    have hlog : (1 + cellZ ns 1 % 10 ^ 18).natAbs.log2 < 1920 := Nat.lt_trans (PySem.Flt.log2_lt_of (k := 64) (by decide) (by omega)) (by decide)
    generalize 1 + cellZ ns 1 % 10 ^ 18 = n at hlog
    refine q_forR1 (n := 30) (ea_cons ev_c ea_nil) (by decide) (fun i σ' H' => ∃ x4 x5 : Option V, σ' = [some (.ref a), some (.ref p), some (.str z), some (.int n), x4, x5]) (fun H6 e6 => ⟨_, _, rfl⟩) (fun i σ' H' hi h => ?_) (fun σ' H' h => ?_)
    · obtain ⟨x4, x5, rfl⟩ := h
      have hi30 : i < 30 := by omega
      refine s_when (b := false) (et_test (ev_neFl (w := i) hi30 (el_call (ea_cons (ev_var rfl) (ea_cons (ev_var rfl) (ea_cons (ev_var rfl) ea_nil))) fun H6 e6 Q6 q6 E6 => ⟨i, z, n, rfl, hi30, hlog, fun p' H7 np e7 hp => q6 p' H7 np e7 hp⟩)
        (el_catN (ys := (List.range 30).map fun j => V.bl (decide (i = j))) (el_lst (ea_cons ev_c ea_nil) (by decide)) (el_mapR (n := 30) (ea_cons ev_c ea_nil) (by decide) (fun _ => rfl) (by simp) fun j y hj hy H6 e6 => ?hFl) (by simp)))) (fun z => nomatch z) fun _ H6 e6 => ⟨_, _, rfl⟩
      have hy2 : y = .bl (decide ((j : Int) = (i : Int))) := by
        rw [List.getElem?_map, List.getElem?_range hj] at hy
        rw [← Option.some.inj hy, dk]
        exact congrArg V.bl (decide_eq_decide.mpr ⟨fun h => h.symm, fun h => h.symm⟩)
      rw [hy2]
      exact ev_eqI (ev_var rfl) (ev_var rfl)
    · obtain ⟨x4, x5, rfl⟩ := h
      have isT : ∀ {i : Int} {H : Hp}, SpV spIs [.int i, .int i] H (.bl true) := fun {i H} H1 e Q q E => ⟨i, i, rfl, fun H2 e2 => by rw [decide_eq_true rfl]; exact q H2 e2⟩
      exact s_ret (v := .bl true) (ev_andV (a := true) (ev_call (z := .bl true) (ea_cons (ev_call (z := .int n) (ea_cons (ev_var rfl) ea_nil) fun H6 e6 Q6 q6 E6 => ⟨n, rfl, hlog, fun H7 e7 => q6 H7 e7⟩) (ea_cons (ev_var rfl) ea_nil)) isT) fun _ =>
        ev_call (z := .bl true) (ea_cons (ev_call (z := .int n) (ea_cons (ev_var rfl) ea_nil) fun H6 e6 Q6 q6 E6 => ⟨n, rfl, hlog, fun H7 e7 => q6 H7 e7⟩) (ea_cons (ev_var rfl) ea_nil)) isT) fun H9 e9 => q H9


end

theorem all_mk {l : PySem.W.OpenLaw} {w : World} {K : PySem.W.Frag} {h : Heap} {mg : Str → Option Value} {fa C_InvalidText C_TornText C_InvalidForm C_InvalidRow C_DuplicateKey C_UnknownTable C_DuplicateTable C_KeyChanged C_PatchMismatch C_InvalidVersion C_UnknownVersion C_InvalidQuery C_InvalidName C_DuplicateName C_UnknownName C_HeadBranch C_NotClean C_NothingToCommit C_Unsound C_UnresolvedConflicts C_NotMerging C_UnknownConflict C_NotPickable C_PickConflict C_MissingRow C_NoPath C_NotBroken C_PowerLost C_MissingChunk C_SyntaxFault C_VersionError f_law_raise_first f_law_raise f_law_address f_law_cell f_law_column f_law_is f_law_numbers f_law_text f_law_kinds f_law : Addr} (X : K.In h) (G : h.Ns mainGlobals mg) (hfa : mg "law" = some (.ref fa))
    {f_MissingChunk___init cc_MissingChunk___init ca_MissingChunk___init : Addr} {od_MissingChunk___init an_MissingChunk___init : Option Addr} {sl_MissingChunk___init : Array (Option Value)} {oc_MissingChunk___init kV_MissingChunk___init dc_MissingChunk___init pm_MissingChunk___init ct_MissingChunk___init : Value}
    {f_SyntaxFault___init cc_SyntaxFault___init ca_SyntaxFault___init : Addr} {od_SyntaxFault___init an_SyntaxFault___init : Option Addr} {sl_SyntaxFault___init : Array (Option Value)} {oc_SyntaxFault___init kV_SyntaxFault___init dc_SyntaxFault___init pm_SyntaxFault___init ct_SyntaxFault___init : Value}
    {od_law_raise_first an_law_raise_first : Option Addr} {sl_law_raise_first : Array (Option Value)} {oc_law_raise_first kV_law_raise_first dc_law_raise_first pm_law_raise_first cd_law_raise_first ct_law_raise_first : Value}
    {od_law_raise an_law_raise : Option Addr} {sl_law_raise : Array (Option Value)} {oc_law_raise kV_law_raise dc_law_raise pm_law_raise cd_law_raise ct_law_raise : Value}
    {od_law_address an_law_address : Option Addr} {sl_law_address : Array (Option Value)} {oc_law_address kV_law_address dc_law_address pm_law_address cd_law_address ct_law_address : Value}
    {od_law_cell an_law_cell : Option Addr} {sl_law_cell : Array (Option Value)} {oc_law_cell kV_law_cell dc_law_cell pm_law_cell cd_law_cell ct_law_cell : Value}
    {od_law_column an_law_column : Option Addr} {sl_law_column : Array (Option Value)} {oc_law_column kV_law_column dc_law_column pm_law_column cd_law_column ct_law_column : Value}
    {od_law_is an_law_is : Option Addr} {sl_law_is : Array (Option Value)} {oc_law_is kV_law_is dc_law_is pm_law_is cd_law_is ct_law_is : Value}
    {od_law_numbers an_law_numbers : Option Addr} {sl_law_numbers : Array (Option Value)} {oc_law_numbers kV_law_numbers dc_law_numbers pm_law_numbers cd_law_numbers ct_law_numbers : Value}
    {od_law_text an_law_text : Option Addr} {sl_law_text : Array (Option Value)} {oc_law_text kV_law_text dc_law_text pm_law_text cd_law_text ct_law_text : Value}
    {od_law_kinds an_law_kinds : Option Addr} {sl_law_kinds : Array (Option Value)} {oc_law_kinds kV_law_kinds dc_law_kinds pm_law_kinds cd_law_kinds ct_law_kinds : Value}
    {od_law an_law : Option Addr} {sl_law : Array (Option Value)} {oc_law kV_law dc_law pm_law cd_law ct_law : Value}
    (ax_InvalidText : PySem.W.nsIn K mainGlobals "InvalidText" = some (some (.ref C_InvalidText))) (xB_InvalidText : excB K C_InvalidText = true)
    (ax_TornText : PySem.W.nsIn K mainGlobals "TornText" = some (some (.ref C_TornText))) (xB_TornText : excB K C_TornText = true)
    (ax_InvalidForm : PySem.W.nsIn K mainGlobals "InvalidForm" = some (some (.ref C_InvalidForm))) (xB_InvalidForm : excB K C_InvalidForm = true)
    (ax_InvalidRow : PySem.W.nsIn K mainGlobals "InvalidRow" = some (some (.ref C_InvalidRow))) (xB_InvalidRow : excB K C_InvalidRow = true)
    (ax_DuplicateKey : PySem.W.nsIn K mainGlobals "DuplicateKey" = some (some (.ref C_DuplicateKey))) (xB_DuplicateKey : excB K C_DuplicateKey = true)
    (ax_UnknownTable : PySem.W.nsIn K mainGlobals "UnknownTable" = some (some (.ref C_UnknownTable))) (xB_UnknownTable : excB K C_UnknownTable = true)
    (ax_DuplicateTable : PySem.W.nsIn K mainGlobals "DuplicateTable" = some (some (.ref C_DuplicateTable))) (xB_DuplicateTable : excB K C_DuplicateTable = true)
    (ax_KeyChanged : PySem.W.nsIn K mainGlobals "KeyChanged" = some (some (.ref C_KeyChanged))) (xB_KeyChanged : excB K C_KeyChanged = true)
    (ax_PatchMismatch : PySem.W.nsIn K mainGlobals "PatchMismatch" = some (some (.ref C_PatchMismatch))) (xB_PatchMismatch : excB K C_PatchMismatch = true)
    (ax_InvalidVersion : PySem.W.nsIn K mainGlobals "InvalidVersion" = some (some (.ref C_InvalidVersion))) (xB_InvalidVersion : excB K C_InvalidVersion = true)
    (ax_UnknownVersion : PySem.W.nsIn K mainGlobals "UnknownVersion" = some (some (.ref C_UnknownVersion))) (xB_UnknownVersion : excB K C_UnknownVersion = true)
    (ax_InvalidQuery : PySem.W.nsIn K mainGlobals "InvalidQuery" = some (some (.ref C_InvalidQuery))) (xB_InvalidQuery : excB K C_InvalidQuery = true)
    (ax_InvalidName : PySem.W.nsIn K mainGlobals "InvalidName" = some (some (.ref C_InvalidName))) (xB_InvalidName : excB K C_InvalidName = true)
    (ax_DuplicateName : PySem.W.nsIn K mainGlobals "DuplicateName" = some (some (.ref C_DuplicateName))) (xB_DuplicateName : excB K C_DuplicateName = true)
    (ax_UnknownName : PySem.W.nsIn K mainGlobals "UnknownName" = some (some (.ref C_UnknownName))) (xB_UnknownName : excB K C_UnknownName = true)
    (ax_HeadBranch : PySem.W.nsIn K mainGlobals "HeadBranch" = some (some (.ref C_HeadBranch))) (xB_HeadBranch : excB K C_HeadBranch = true)
    (ax_NotClean : PySem.W.nsIn K mainGlobals "NotClean" = some (some (.ref C_NotClean))) (xB_NotClean : excB K C_NotClean = true)
    (ax_NothingToCommit : PySem.W.nsIn K mainGlobals "NothingToCommit" = some (some (.ref C_NothingToCommit))) (xB_NothingToCommit : excB K C_NothingToCommit = true)
    (ax_Unsound : PySem.W.nsIn K mainGlobals "Unsound" = some (some (.ref C_Unsound))) (xB_Unsound : excB K C_Unsound = true)
    (ax_UnresolvedConflicts : PySem.W.nsIn K mainGlobals "UnresolvedConflicts" = some (some (.ref C_UnresolvedConflicts))) (xB_UnresolvedConflicts : excB K C_UnresolvedConflicts = true)
    (ax_NotMerging : PySem.W.nsIn K mainGlobals "NotMerging" = some (some (.ref C_NotMerging))) (xB_NotMerging : excB K C_NotMerging = true)
    (ax_UnknownConflict : PySem.W.nsIn K mainGlobals "UnknownConflict" = some (some (.ref C_UnknownConflict))) (xB_UnknownConflict : excB K C_UnknownConflict = true)
    (ax_NotPickable : PySem.W.nsIn K mainGlobals "NotPickable" = some (some (.ref C_NotPickable))) (xB_NotPickable : excB K C_NotPickable = true)
    (ax_PickConflict : PySem.W.nsIn K mainGlobals "PickConflict" = some (some (.ref C_PickConflict))) (xB_PickConflict : excB K C_PickConflict = true)
    (ax_MissingRow : PySem.W.nsIn K mainGlobals "MissingRow" = some (some (.ref C_MissingRow))) (xB_MissingRow : excB K C_MissingRow = true)
    (ax_NoPath : PySem.W.nsIn K mainGlobals "NoPath" = some (some (.ref C_NoPath))) (xB_NoPath : excB K C_NoPath = true)
    (ax_NotBroken : PySem.W.nsIn K mainGlobals "NotBroken" = some (some (.ref C_NotBroken))) (xB_NotBroken : excB K C_NotBroken = true)
    (ax_PowerLost : PySem.W.nsIn K mainGlobals "PowerLost" = some (some (.ref C_PowerLost))) (xB_PowerLost : excB K C_PowerLost = true)
    (ay_VersionError : PySem.W.nsIn K mainGlobals "VersionError" = some (some (.ref C_VersionError)))
    (ax_MissingChunk : PySem.W.nsIn K mainGlobals "MissingChunk" = some (some (.ref C_MissingChunk)))
    (xo_MissingChunk : oexB K C_MissingChunk = true)
    (xz_MissingChunk : PySem.W.findIn K (.ref C_MissingChunk) "__setattr__" = some (some (.builtin "object.__setattr__")))
    (xk_MissingChunk : PySem.W.keepIn K (.ref C_MissingChunk) = true)
    (xb_MissingChunk : PySem.W.subIn K (.ref C_MissingChunk) (.type "BaseException") = some true)
    (xt_MissingChunk : PySem.W.typeIn K (.ref C_MissingChunk) = some (.type "type"))
    (xs_MissingChunk : PySem.W.subIn K (.ref C_MissingChunk) (.ref C_MissingChunk) = some true)
    (xg_MissingChunk : PySem.W.findIn K (.ref C_MissingChunk) "__getattribute__" = some (some (.builtin "BaseException.__getattribute__")))
    (xq_MissingChunk : PySem.W.findIn K (.ref C_MissingChunk) "__getattr__" = some none)
    (xd_MissingChunk : PySem.W.hasDictIn K C_MissingChunk = true)
    (xa_MissingChunk : PySem.W.findIn K (.ref C_MissingChunk) "__class__" = some (some (.builtin "object.__class__")))
    (xn_MissingChunk : PySem.W.specialIn K (.builtin "object.__class__") "__get__" = some (some (.builtin "getset_descriptor.__get__")))
    (xi_MissingChunk : PySem.W.takesIn K (.builtin "object.__class__") = some true)
    (xm_MissingChunk : PySem.W.mroIn K C_MissingChunk (.type "object") = some true)
    (xv_MissingChunk : PySem.W.kitOne K (.ref C_MissingChunk) (.type "ValueError") = some true)
    (ni_MissingChunk : PySem.W.findIn K (.ref C_MissingChunk) "__init__" = some (some (.ref f_MissingChunk___init)))
    (na_MissingChunk : PySem.W.findIn K (.ref C_MissingChunk) "address" = some none)
    (nl_MissingChunk : K.lookup f_MissingChunk___init = some ⟨oc_MissingChunk___init, od_MissingChunk___init, .func (PySem.W.fnX "__init__" "MissingChunk.__init__" (defArgs s_MissingChunk___init) (defBody s_MissingChunk___init) (defScope s_MissingChunk___init) [(Str.ofString "__class__", cc_MissingChunk___init)] .none kV_MissingChunk___init dc_MissingChunk___init pm_MissingChunk___init an_MissingChunk___init (.ref ca_MissingChunk___init) ct_MissingChunk___init), sl_MissingChunk___init⟩)
    (nc_MissingChunk : PySem.W.codeIn K (.ref ca_MissingChunk___init) "MissingChunk.__init__" = true)
    (nt_MissingChunk : PySem.W.typeIn K (.ref f_MissingChunk___init) = some (.type "function"))
    (nb_MissingChunk : supB K l.prog C_MissingChunk cc_MissingChunk___init ca_MissingChunk___init = true)
    (ns_MissingChunk : PySem.W.ks_superIn K C_MissingChunk C_MissingChunk "__init__" = some (some (.builtin "ValueError.__init__")))
    (np_MissingChunk : PySem.W.nsIn K cStatics "thirdparty.any" = some none)
    (nm_MissingChunk : PySem.W.mroIn K C_MissingChunk (.ref C_MissingChunk) = some true)
    (nv_MissingChunk : PySem.W.subIn K (.ref C_MissingChunk) (.type "ValueError") = some true)
    (ax_SyntaxFault : PySem.W.nsIn K mainGlobals "SyntaxFault" = some (some (.ref C_SyntaxFault)))
    (xo_SyntaxFault : oexB K C_SyntaxFault = true)
    (xz_SyntaxFault : PySem.W.findIn K (.ref C_SyntaxFault) "__setattr__" = some (some (.builtin "object.__setattr__")))
    (xk_SyntaxFault : PySem.W.keepIn K (.ref C_SyntaxFault) = true)
    (xb_SyntaxFault : PySem.W.subIn K (.ref C_SyntaxFault) (.type "BaseException") = some true)
    (xt_SyntaxFault : PySem.W.typeIn K (.ref C_SyntaxFault) = some (.type "type"))
    (xs_SyntaxFault : PySem.W.subIn K (.ref C_SyntaxFault) (.ref C_SyntaxFault) = some true)
    (xg_SyntaxFault : PySem.W.findIn K (.ref C_SyntaxFault) "__getattribute__" = some (some (.builtin "BaseException.__getattribute__")))
    (xq_SyntaxFault : PySem.W.findIn K (.ref C_SyntaxFault) "__getattr__" = some none)
    (xd_SyntaxFault : PySem.W.hasDictIn K C_SyntaxFault = true)
    (xa_SyntaxFault : PySem.W.findIn K (.ref C_SyntaxFault) "__class__" = some (some (.builtin "object.__class__")))
    (xn_SyntaxFault : PySem.W.specialIn K (.builtin "object.__class__") "__get__" = some (some (.builtin "getset_descriptor.__get__")))
    (xi_SyntaxFault : PySem.W.takesIn K (.builtin "object.__class__") = some true)
    (xm_SyntaxFault : PySem.W.mroIn K C_SyntaxFault (.type "object") = some true)
    (xv_SyntaxFault : PySem.W.kitOne K (.ref C_SyntaxFault) (.type "ValueError") = some true)
    (ni_SyntaxFault : PySem.W.findIn K (.ref C_SyntaxFault) "__init__" = some (some (.ref f_SyntaxFault___init)))
    (na_SyntaxFault : PySem.W.findIn K (.ref C_SyntaxFault) "column" = some none)
    (nl_SyntaxFault : K.lookup f_SyntaxFault___init = some ⟨oc_SyntaxFault___init, od_SyntaxFault___init, .func (PySem.W.fnX "__init__" "SyntaxFault.__init__" (defArgs s_SyntaxFault___init) (defBody s_SyntaxFault___init) (defScope s_SyntaxFault___init) [(Str.ofString "__class__", cc_SyntaxFault___init)] .none kV_SyntaxFault___init dc_SyntaxFault___init pm_SyntaxFault___init an_SyntaxFault___init (.ref ca_SyntaxFault___init) ct_SyntaxFault___init), sl_SyntaxFault___init⟩)
    (nc_SyntaxFault : PySem.W.codeIn K (.ref ca_SyntaxFault___init) "SyntaxFault.__init__" = true)
    (nt_SyntaxFault : PySem.W.typeIn K (.ref f_SyntaxFault___init) = some (.type "function"))
    (nb_SyntaxFault : supB K l.prog C_SyntaxFault cc_SyntaxFault___init ca_SyntaxFault___init = true)
    (ns_SyntaxFault : PySem.W.ks_superIn K C_SyntaxFault C_SyntaxFault "__init__" = some (some (.builtin "ValueError.__init__")))
    (np_SyntaxFault : PySem.W.nsIn K cStatics "thirdparty.any" = some none)
    (nm_SyntaxFault : PySem.W.mroIn K C_SyntaxFault (.ref C_SyntaxFault) = some true)
    (nv_SyntaxFault : PySem.W.subIn K (.ref C_SyntaxFault) (.type "ValueError") = some true)
    (tB_ : excTabB K C_VersionError [C_InvalidText, C_TornText, C_InvalidForm, C_InvalidRow, C_DuplicateKey, C_MissingChunk, C_UnknownTable, C_DuplicateTable, C_KeyChanged, C_PatchMismatch, C_InvalidVersion, C_UnknownVersion, C_SyntaxFault, C_InvalidQuery, C_InvalidName, C_DuplicateName, C_UnknownName, C_HeadBranch, C_NotClean, C_NothingToCommit, C_Unsound, C_UnresolvedConflicts, C_NotMerging, C_UnknownConflict, C_NotPickable, C_PickConflict, C_MissingRow, C_NoPath, C_NotBroken, C_PowerLost] = true)
    (a_law_raise_first : PySem.W.nsIn K mainGlobals "_law_raise_first" = some (some (.ref f_law_raise_first))) (l_law_raise_first : K.lookup f_law_raise_first = some ⟨oc_law_raise_first, od_law_raise_first, .func (PySem.W.fnOf "_law_raise_first" "_law_raise_first" (defArgs s_law_raise_first) (defBody s_law_raise_first) (defScope s_law_raise_first) .none kV_law_raise_first dc_law_raise_first pm_law_raise_first an_law_raise_first cd_law_raise_first ct_law_raise_first), sl_law_raise_first⟩) (c_law_raise_first : PySem.W.codeIn K cd_law_raise_first "_law_raise_first" = true) (k_law_raise_first : PySem.W.keepIn K (.ref f_law_raise_first) = true)
    (a_law_raise : PySem.W.nsIn K mainGlobals "_law_raise" = some (some (.ref f_law_raise))) (l_law_raise : K.lookup f_law_raise = some ⟨oc_law_raise, od_law_raise, .func (PySem.W.fnOf "_law_raise" "_law_raise" (defArgs s_law_raise) (defBody s_law_raise) (defScope s_law_raise) .none kV_law_raise dc_law_raise pm_law_raise an_law_raise cd_law_raise ct_law_raise), sl_law_raise⟩) (c_law_raise : PySem.W.codeIn K cd_law_raise "_law_raise" = true) (k_law_raise : PySem.W.keepIn K (.ref f_law_raise) = true)
    (a_law_address : PySem.W.nsIn K mainGlobals "_law_address" = some (some (.ref f_law_address))) (l_law_address : K.lookup f_law_address = some ⟨oc_law_address, od_law_address, .func (PySem.W.fnOf "_law_address" "_law_address" (defArgs s_law_address) (defBody s_law_address) (defScope s_law_address) .none kV_law_address dc_law_address pm_law_address an_law_address cd_law_address ct_law_address), sl_law_address⟩) (c_law_address : PySem.W.codeIn K cd_law_address "_law_address" = true) (k_law_address : PySem.W.keepIn K (.ref f_law_address) = true)
    (a_law_cell : PySem.W.nsIn K mainGlobals "_law_cell" = some (some (.ref f_law_cell))) (l_law_cell : K.lookup f_law_cell = some ⟨oc_law_cell, od_law_cell, .func (PySem.W.fnOf "_law_cell" "_law_cell" (defArgs s_law_cell) (defBody s_law_cell) (defScope s_law_cell) .none kV_law_cell dc_law_cell pm_law_cell an_law_cell cd_law_cell ct_law_cell), sl_law_cell⟩) (c_law_cell : PySem.W.codeIn K cd_law_cell "_law_cell" = true) (k_law_cell : PySem.W.keepIn K (.ref f_law_cell) = true)
    (a_law_column : PySem.W.nsIn K mainGlobals "_law_column" = some (some (.ref f_law_column))) (l_law_column : K.lookup f_law_column = some ⟨oc_law_column, od_law_column, .func (PySem.W.fnOf "_law_column" "_law_column" (defArgs s_law_column) (defBody s_law_column) (defScope s_law_column) .none kV_law_column dc_law_column pm_law_column an_law_column cd_law_column ct_law_column), sl_law_column⟩) (c_law_column : PySem.W.codeIn K cd_law_column "_law_column" = true) (k_law_column : PySem.W.keepIn K (.ref f_law_column) = true)
    (a_law_is : PySem.W.nsIn K mainGlobals "_law_is" = some (some (.ref f_law_is))) (l_law_is : K.lookup f_law_is = some ⟨oc_law_is, od_law_is, .func (PySem.W.fnOf "_law_is" "_law_is" (defArgs s_law_is) (defBody s_law_is) (defScope s_law_is) .none kV_law_is dc_law_is pm_law_is an_law_is cd_law_is ct_law_is), sl_law_is⟩) (c_law_is : PySem.W.codeIn K cd_law_is "_law_is" = true) (k_law_is : PySem.W.keepIn K (.ref f_law_is) = true)
    (a_law_numbers : PySem.W.nsIn K mainGlobals "_law_numbers" = some (some (.ref f_law_numbers))) (l_law_numbers : K.lookup f_law_numbers = some ⟨oc_law_numbers, od_law_numbers, .func (PySem.W.fnOf "_law_numbers" "_law_numbers" (defArgs s_law_numbers) (defBody s_law_numbers) (defScope s_law_numbers) .none kV_law_numbers dc_law_numbers pm_law_numbers an_law_numbers cd_law_numbers ct_law_numbers), sl_law_numbers⟩) (c_law_numbers : PySem.W.codeIn K cd_law_numbers "_law_numbers" = true) (k_law_numbers : PySem.W.keepIn K (.ref f_law_numbers) = true)
    (a_law_text : PySem.W.nsIn K mainGlobals "_law_text" = some (some (.ref f_law_text))) (l_law_text : K.lookup f_law_text = some ⟨oc_law_text, od_law_text, .func (PySem.W.fnOf "_law_text" "_law_text" (defArgs s_law_text) (defBody s_law_text) (defScope s_law_text) .none kV_law_text dc_law_text pm_law_text an_law_text cd_law_text ct_law_text), sl_law_text⟩) (c_law_text : PySem.W.codeIn K cd_law_text "_law_text" = true) (k_law_text : PySem.W.keepIn K (.ref f_law_text) = true)
    (a_law_kinds : PySem.W.nsIn K mainGlobals "_law_kinds" = some (some (.ref f_law_kinds))) (l_law_kinds : K.lookup f_law_kinds = some ⟨oc_law_kinds, od_law_kinds, .func (PySem.W.fnOf "_law_kinds" "_law_kinds" (defArgs s_law_kinds) (defBody s_law_kinds) (defScope s_law_kinds) .none kV_law_kinds dc_law_kinds pm_law_kinds an_law_kinds cd_law_kinds ct_law_kinds), sl_law_kinds⟩) (c_law_kinds : PySem.W.codeIn K cd_law_kinds "_law_kinds" = true) (k_law_kinds : PySem.W.keepIn K (.ref f_law_kinds) = true)
    (a_law : PySem.W.nsIn K mainGlobals "law" = some (some (.ref f_law))) (l_law : K.lookup f_law = some ⟨oc_law, od_law, .func (PySem.W.fnOf "law" "law" (defArgs s_law) (defBody s_law) (defScope s_law) .none kV_law dc_law pm_law an_law cd_law ct_law), sl_law⟩) (c_law : PySem.W.codeIn K cd_law "law" = true) (k_law : PySem.W.keepIn K (.ref f_law) = true)
    (z_ValueError : PySem.W.nsIn K mainGlobals "ValueError" = some none)
    (z_bool : PySem.W.nsIn K mainGlobals "bool" = some none)
    (z_int : PySem.W.nsIn K mainGlobals "int" = some none)
    (z_isinstance : PySem.W.nsIn K mainGlobals "isinstance" = some none)
    (z_len : PySem.W.nsIn K mainGlobals "len" = some none)
    (z_range : PySem.W.nsIn K mainGlobals "range" = some none)
    (z_super : PySem.W.nsIn K mainGlobals "super" = some none) :
    ∃ fd : FuncData, (∀ (s : Shared) (v : Value), BindsTo s fd ⟨[v], []⟩ [("script", v)]) ∧ ∀ base : Heap, K.In base → base.Ns mainGlobals mg → FnOk l.prog w K mg base CX0 6 fa fd ["script"] (spLaw K) := by
  have e := hfa.symm.trans (PySem.W.mg_of X G a_law)
  cases e
  have F_law_raise_first := fun_mk (st := s_law_raise_first) l_law_raise_first c_law_raise_first k_law_raise_first
  have F_law_raise := fun_mk (st := s_law_raise) l_law_raise c_law_raise k_law_raise
  have F_law_address := fun_mk (st := s_law_address) l_law_address c_law_address k_law_address
  have F_law_cell := fun_mk (st := s_law_cell) l_law_cell c_law_cell k_law_cell
  have F_law_column := fun_mk (st := s_law_column) l_law_column c_law_column k_law_column
  have F_law_is := fun_mk (st := s_law_is) l_law_is c_law_is k_law_is
  have F_law_numbers := fun_mk (st := s_law_numbers) l_law_numbers c_law_numbers k_law_numbers
  have F_law_text := fun_mk (st := s_law_text) l_law_text c_law_text k_law_text
  have F_law_kinds := fun_mk (st := s_law_kinds) l_law_kinds c_law_kinds k_law_kinds
  have F_law := fun_mk (st := s_law) l_law c_law k_law
  let T : Txt K mg l.prog := {
    C_InvalidText := C_InvalidText, e_InvalidText := excB_ok (PySem.W.mg_of X G ax_InvalidText) xB_InvalidText,
    C_TornText := C_TornText, e_TornText := excB_ok (PySem.W.mg_of X G ax_TornText) xB_TornText,
    C_InvalidForm := C_InvalidForm, e_InvalidForm := excB_ok (PySem.W.mg_of X G ax_InvalidForm) xB_InvalidForm,
    C_InvalidRow := C_InvalidRow, e_InvalidRow := excB_ok (PySem.W.mg_of X G ax_InvalidRow) xB_InvalidRow,
    C_DuplicateKey := C_DuplicateKey, e_DuplicateKey := excB_ok (PySem.W.mg_of X G ax_DuplicateKey) xB_DuplicateKey,
    C_UnknownTable := C_UnknownTable, e_UnknownTable := excB_ok (PySem.W.mg_of X G ax_UnknownTable) xB_UnknownTable,
    C_DuplicateTable := C_DuplicateTable, e_DuplicateTable := excB_ok (PySem.W.mg_of X G ax_DuplicateTable) xB_DuplicateTable,
    C_KeyChanged := C_KeyChanged, e_KeyChanged := excB_ok (PySem.W.mg_of X G ax_KeyChanged) xB_KeyChanged,
    C_PatchMismatch := C_PatchMismatch, e_PatchMismatch := excB_ok (PySem.W.mg_of X G ax_PatchMismatch) xB_PatchMismatch,
    C_InvalidVersion := C_InvalidVersion, e_InvalidVersion := excB_ok (PySem.W.mg_of X G ax_InvalidVersion) xB_InvalidVersion,
    C_UnknownVersion := C_UnknownVersion, e_UnknownVersion := excB_ok (PySem.W.mg_of X G ax_UnknownVersion) xB_UnknownVersion,
    C_InvalidQuery := C_InvalidQuery, e_InvalidQuery := excB_ok (PySem.W.mg_of X G ax_InvalidQuery) xB_InvalidQuery,
    C_InvalidName := C_InvalidName, e_InvalidName := excB_ok (PySem.W.mg_of X G ax_InvalidName) xB_InvalidName,
    C_DuplicateName := C_DuplicateName, e_DuplicateName := excB_ok (PySem.W.mg_of X G ax_DuplicateName) xB_DuplicateName,
    C_UnknownName := C_UnknownName, e_UnknownName := excB_ok (PySem.W.mg_of X G ax_UnknownName) xB_UnknownName,
    C_HeadBranch := C_HeadBranch, e_HeadBranch := excB_ok (PySem.W.mg_of X G ax_HeadBranch) xB_HeadBranch,
    C_NotClean := C_NotClean, e_NotClean := excB_ok (PySem.W.mg_of X G ax_NotClean) xB_NotClean,
    C_NothingToCommit := C_NothingToCommit, e_NothingToCommit := excB_ok (PySem.W.mg_of X G ax_NothingToCommit) xB_NothingToCommit,
    C_Unsound := C_Unsound, e_Unsound := excB_ok (PySem.W.mg_of X G ax_Unsound) xB_Unsound,
    C_UnresolvedConflicts := C_UnresolvedConflicts, e_UnresolvedConflicts := excB_ok (PySem.W.mg_of X G ax_UnresolvedConflicts) xB_UnresolvedConflicts,
    C_NotMerging := C_NotMerging, e_NotMerging := excB_ok (PySem.W.mg_of X G ax_NotMerging) xB_NotMerging,
    C_UnknownConflict := C_UnknownConflict, e_UnknownConflict := excB_ok (PySem.W.mg_of X G ax_UnknownConflict) xB_UnknownConflict,
    C_NotPickable := C_NotPickable, e_NotPickable := excB_ok (PySem.W.mg_of X G ax_NotPickable) xB_NotPickable,
    C_PickConflict := C_PickConflict, e_PickConflict := excB_ok (PySem.W.mg_of X G ax_PickConflict) xB_PickConflict,
    C_MissingRow := C_MissingRow, e_MissingRow := excB_ok (PySem.W.mg_of X G ax_MissingRow) xB_MissingRow,
    C_NoPath := C_NoPath, e_NoPath := excB_ok (PySem.W.mg_of X G ax_NoPath) xB_NoPath,
    C_NotBroken := C_NotBroken, e_NotBroken := excB_ok (PySem.W.mg_of X G ax_NotBroken) xB_NotBroken,
    C_PowerLost := C_PowerLost, e_PowerLost := excB_ok (PySem.W.mg_of X G ax_PowerLost) xB_PowerLost,
    C_VersionError := C_VersionError, g_VersionError := PySem.W.mg_of X G ay_VersionError,
    C_MissingChunk := C_MissingChunk, e_MissingChunk := ⟨PySem.W.mg_of X G ax_MissingChunk, ⟨oexB_ok xo_MissingChunk, xz_MissingChunk, xb_MissingChunk, xt_MissingChunk, xk_MissingChunk⟩, xs_MissingChunk, ⟨xg_MissingChunk, xq_MissingChunk, xb_MissingChunk, xd_MissingChunk, xa_MissingChunk, xn_MissingChunk, xi_MissingChunk, xm_MissingChunk⟩⟩, kv_MissingChunk := xv_MissingChunk, f_MissingChunk___init := f_MissingChunk___init, d_MissingChunk___init := _, F_MissingChunk___init := funX_mk nl_MissingChunk nc_MissingChunk ni_MissingChunk nt_MissingChunk nb_MissingChunk ns_MissingChunk np_MissingChunk nm_MissingChunk nv_MissingChunk rfl rfl, b_MissingChunk___init := Binds.all (ps := ["self", "address"]) (fun us hl => match us, hl with | [_, _], _ => rfl), na_MissingChunk_address := na_MissingChunk,
    C_SyntaxFault := C_SyntaxFault, e_SyntaxFault := ⟨PySem.W.mg_of X G ax_SyntaxFault, ⟨oexB_ok xo_SyntaxFault, xz_SyntaxFault, xb_SyntaxFault, xt_SyntaxFault, xk_SyntaxFault⟩, xs_SyntaxFault, ⟨xg_SyntaxFault, xq_SyntaxFault, xb_SyntaxFault, xd_SyntaxFault, xa_SyntaxFault, xn_SyntaxFault, xi_SyntaxFault, xm_SyntaxFault⟩⟩, kv_SyntaxFault := xv_SyntaxFault, f_SyntaxFault___init := f_SyntaxFault___init, d_SyntaxFault___init := _, F_SyntaxFault___init := funX_mk nl_SyntaxFault nc_SyntaxFault ni_SyntaxFault nt_SyntaxFault nb_SyntaxFault ns_SyntaxFault np_SyntaxFault nm_SyntaxFault nv_SyntaxFault rfl rfl, b_SyntaxFault___init := Binds.all (ps := ["self", "column"]) (fun us hl => match us, hl with | [_, _], _ => rfl), na_SyntaxFault_column := na_SyntaxFault,
    tabs := tB_,
    f_law_raise_first := f_law_raise_first, d_law_raise_first := _, F_law_raise_first := F_law_raise_first, b_law_raise_first := (F_law_raise_first.binds (ps := ["which", "text", "number"]) fun _ _ _ _ _ _ us hl => match us, hl with | [_, _, _], _ => rfl),
    g_law_raise_first := PySem.W.mg_of X G a_law_raise_first,
    f_law_raise := f_law_raise, d_law_raise := _, F_law_raise := F_law_raise, b_law_raise := (F_law_raise.binds (ps := ["which", "text", "number"]) fun _ _ _ _ _ _ us hl => match us, hl with | [_, _, _], _ => rfl),
    g_law_raise := PySem.W.mg_of X G a_law_raise,
    f_law_address := f_law_address, d_law_address := _, F_law_address := F_law_address, b_law_address := (F_law_address.binds (ps := ["number"]) fun _ _ _ _ _ _ us hl => match us, hl with | [_], _ => rfl),
    g_law_address := PySem.W.mg_of X G a_law_address,
    f_law_cell := f_law_cell, d_law_cell := _, F_law_cell := F_law_cell, b_law_cell := (F_law_cell.binds (ps := ["script", "k"]) fun _ _ _ _ _ _ us hl => match us, hl with | [_, _], _ => rfl),
    g_law_cell := PySem.W.mg_of X G a_law_cell,
    f_law_column := f_law_column, d_law_column := _, F_law_column := F_law_column, b_law_column := (F_law_column.binds (ps := ["number"]) fun _ _ _ _ _ _ us hl => match us, hl with | [_], _ => rfl),
    g_law_column := PySem.W.mg_of X G a_law_column,
    f_law_is := f_law_is, d_law_is := _, F_law_is := F_law_is, b_law_is := (F_law_is.binds (ps := ["actual", "expected"]) fun _ _ _ _ _ _ us hl => match us, hl with | [_, _], _ => rfl),
    g_law_is := PySem.W.mg_of X G a_law_is,
    f_law_numbers := f_law_numbers, d_law_numbers := _, F_law_numbers := F_law_numbers, b_law_numbers := (F_law_numbers.binds (ps := ["cell", "count"]) fun _ _ _ _ _ _ us hl => match us, hl with | [_, _], _ => rfl),
    g_law_numbers := PySem.W.mg_of X G a_law_numbers,
    f_law_text := f_law_text, d_law_text := _, F_law_text := F_law_text, b_law_text := (F_law_text.binds (ps := ["a", "b"]) fun _ _ _ _ _ _ us hl => match us, hl with | [_, _], _ => rfl),
    g_law_text := PySem.W.mg_of X G a_law_text,
    f_law_kinds := f_law_kinds, d_law_kinds := _, F_law_kinds := F_law_kinds, b_law_kinds := (F_law_kinds.binds (ps := ["which", "text", "number"]) fun _ _ _ _ _ _ us hl => match us, hl with | [_, _, _], _ => rfl),
    g_law_kinds := PySem.W.mg_of X G a_law_kinds,
    f_law := fa, d_law := _, F_law := F_law, b_law := (F_law.binds (ps := ["script"]) fun _ _ _ _ _ _ us hl => match us, hl with | [_], _ => rfl),
    g_law := PySem.W.mg_of X G a_law,
    m_ValueError := PySem.W.mg_none_of X G z_ValueError,
    m_bool := PySem.W.mg_none_of X G z_bool,
    m_int := PySem.W.mg_none_of X G z_int,
    m_isinstance := PySem.W.mg_none_of X G z_isinstance,
    m_len := PySem.W.mg_none_of X G z_len,
    m_range := PySem.W.mg_none_of X G z_range,
    m_super := PySem.W.mg_none_of X G z_super }
  exact ⟨PySem.W.fnOf "law" "law" (defArgs s_law) (defBody s_law) (defScope s_law) .none kV_law dc_law pm_law an_law cd_law ct_law, fun s v => .of_eq rfl, fun base _ _ => ok_law T⟩

end Vt

open PySem PySem.W PyProof.Rows
set_option maxHeartbeats 0 in
theorem PySem.Challenge.cw_versiontables_k94_errors_apart_holds : PySem.Challenge.rw_versiontables_k94_errors_apart.Holds := by
  w_on; o_law; k_head; (case hw => w_witness2)
  k_fill
  refine L2.walk_ofB (l := PySem.Challenge.rw_versiontables_k94_errors_apart) (n := 63) (k := 6) (x := "script") (CX := fun _ => L2.CX0) (sp := fun w => Vt.spLaw _) rfl (by decide) rfl ⟨rfl, by decide, by decide⟩ (fun w h Y => PySem.W.kIn_of Y) ?F (fun _ _ a ns hl hb _ hS => ⟨a, ns, rfl, hS, hl, hb, fun _ => rfl⟩) (fun _ _ _ _ _ h => h)
  case F =>
    intro w mg fa h KX G hmg
    refine' Vt.all_mk KX G hmg ?ax_InvalidText ?xB_InvalidText ?ax_TornText ?xB_TornText ?ax_InvalidForm ?xB_InvalidForm ?ax_InvalidRow ?xB_InvalidRow ?ax_DuplicateKey ?xB_DuplicateKey ?ax_UnknownTable ?xB_UnknownTable ?ax_DuplicateTable ?xB_DuplicateTable ?ax_KeyChanged ?xB_KeyChanged ?ax_PatchMismatch ?xB_PatchMismatch ?ax_InvalidVersion ?xB_InvalidVersion ?ax_UnknownVersion ?xB_UnknownVersion ?ax_InvalidQuery ?xB_InvalidQuery ?ax_InvalidName ?xB_InvalidName ?ax_DuplicateName ?xB_DuplicateName ?ax_UnknownName ?xB_UnknownName ?ax_HeadBranch ?xB_HeadBranch ?ax_NotClean ?xB_NotClean ?ax_NothingToCommit ?xB_NothingToCommit ?ax_Unsound ?xB_Unsound ?ax_UnresolvedConflicts ?xB_UnresolvedConflicts ?ax_NotMerging ?xB_NotMerging ?ax_UnknownConflict ?xB_UnknownConflict ?ax_NotPickable ?xB_NotPickable ?ax_PickConflict ?xB_PickConflict ?ax_MissingRow ?xB_MissingRow ?ax_NoPath ?xB_NoPath ?ax_NotBroken ?xB_NotBroken ?ax_PowerLost ?xB_PowerLost ?ay_VersionError ?ax_MissingChunk ?xo_MissingChunk ?xz_MissingChunk ?xk_MissingChunk ?xb_MissingChunk ?xt_MissingChunk ?xs_MissingChunk ?xg_MissingChunk ?xq_MissingChunk ?xd_MissingChunk ?xa_MissingChunk ?xn_MissingChunk ?xi_MissingChunk ?xm_MissingChunk ?xv_MissingChunk ?ni_MissingChunk ?na_MissingChunk ?nl_MissingChunk ?nc_MissingChunk ?nt_MissingChunk ?nb_MissingChunk ?ns_MissingChunk ?np_MissingChunk ?nm_MissingChunk ?nv_MissingChunk ?ax_SyntaxFault ?xo_SyntaxFault ?xz_SyntaxFault ?xk_SyntaxFault ?xb_SyntaxFault ?xt_SyntaxFault ?xs_SyntaxFault ?xg_SyntaxFault ?xq_SyntaxFault ?xd_SyntaxFault ?xa_SyntaxFault ?xn_SyntaxFault ?xi_SyntaxFault ?xm_SyntaxFault ?xv_SyntaxFault ?ni_SyntaxFault ?na_SyntaxFault ?nl_SyntaxFault ?nc_SyntaxFault ?nt_SyntaxFault ?nb_SyntaxFault ?ns_SyntaxFault ?np_SyntaxFault ?nm_SyntaxFault ?nv_SyntaxFault ?tB_ ?a_law_raise_first ?l_law_raise_first ?c_law_raise_first ?k_law_raise_first ?a_law_raise ?l_law_raise ?c_law_raise ?k_law_raise ?a_law_address ?l_law_address ?c_law_address ?k_law_address ?a_law_cell ?l_law_cell ?c_law_cell ?k_law_cell ?a_law_column ?l_law_column ?c_law_column ?k_law_column ?a_law_is ?l_law_is ?c_law_is ?k_law_is ?a_law_numbers ?l_law_numbers ?c_law_numbers ?k_law_numbers ?a_law_text ?l_law_text ?c_law_text ?k_law_text ?a_law_kinds ?l_law_kinds ?c_law_kinds ?k_law_kinds ?a_law ?l_law ?c_law ?k_law ?z_ValueError ?z_bool ?z_int ?z_isinstance ?z_len ?z_range ?z_super
    (case ax_InvalidText => k_is)
    (case xB_InvalidText => kernel_rfl)
    (case ax_TornText => k_is)
    (case xB_TornText => kernel_rfl)
    (case ax_InvalidForm => k_is)
    (case xB_InvalidForm => kernel_rfl)
    (case ax_InvalidRow => k_is)
    (case xB_InvalidRow => kernel_rfl)
    (case ax_DuplicateKey => k_is)
    (case xB_DuplicateKey => kernel_rfl)
    (case ax_UnknownTable => k_is)
    (case xB_UnknownTable => kernel_rfl)
    (case ax_DuplicateTable => k_is)
    (case xB_DuplicateTable => kernel_rfl)
    (case ax_KeyChanged => k_is)
    (case xB_KeyChanged => kernel_rfl)
    (case ax_PatchMismatch => k_is)
    (case xB_PatchMismatch => kernel_rfl)
    (case ax_InvalidVersion => k_is)
    (case xB_InvalidVersion => kernel_rfl)
    (case ax_UnknownVersion => k_is)
    (case xB_UnknownVersion => kernel_rfl)
    (case ax_InvalidQuery => k_is)
    (case xB_InvalidQuery => kernel_rfl)
    (case ax_InvalidName => k_is)
    (case xB_InvalidName => kernel_rfl)
    (case ax_DuplicateName => k_is)
    (case xB_DuplicateName => kernel_rfl)
    (case ax_UnknownName => k_is)
    (case xB_UnknownName => kernel_rfl)
    (case ax_HeadBranch => k_is)
    (case xB_HeadBranch => kernel_rfl)
    (case ax_NotClean => k_is)
    (case xB_NotClean => kernel_rfl)
    (case ax_NothingToCommit => k_is)
    (case xB_NothingToCommit => kernel_rfl)
    (case ax_Unsound => k_is)
    (case xB_Unsound => kernel_rfl)
    (case ax_UnresolvedConflicts => k_is)
    (case xB_UnresolvedConflicts => kernel_rfl)
    (case ax_NotMerging => k_is)
    (case xB_NotMerging => kernel_rfl)
    (case ax_UnknownConflict => k_is)
    (case xB_UnknownConflict => kernel_rfl)
    (case ax_NotPickable => k_is)
    (case xB_NotPickable => kernel_rfl)
    (case ax_PickConflict => k_is)
    (case xB_PickConflict => kernel_rfl)
    (case ax_MissingRow => k_is)
    (case xB_MissingRow => kernel_rfl)
    (case ax_NoPath => k_is)
    (case xB_NoPath => kernel_rfl)
    (case ax_NotBroken => k_is)
    (case xB_NotBroken => kernel_rfl)
    (case ax_PowerLost => k_is)
    (case xB_PowerLost => kernel_rfl)
    (case ay_VersionError => k_is)
    (case ax_MissingChunk => k_is)
    (case xo_MissingChunk => kernel_rfl)
    (case xz_MissingChunk => k_is)
    (case xk_MissingChunk => k_is)
    (case xb_MissingChunk => k_is)
    (case xt_MissingChunk => k_is)
    (case xs_MissingChunk => first | rfl | k_is)
    (case xg_MissingChunk => k_is)
    (case xq_MissingChunk => k_is)
    (case xd_MissingChunk => k_is)
    (case xa_MissingChunk => k_is)
    (case xn_MissingChunk => first | rfl | k_is)
    (case xi_MissingChunk => first | rfl | k_is)
    (case xm_MissingChunk => k_is)
    (case xv_MissingChunk => first | rfl | k_is)
    (case ni_MissingChunk => k_is)
    (case na_MissingChunk => k_is)
    (case nl_MissingChunk => k_is)
    (case nc_MissingChunk => k_is)
    (case nt_MissingChunk => k_is)
    (case nb_MissingChunk => kernel_rfl)
    (case ns_MissingChunk => kernel_rfl)
    (case np_MissingChunk => k_is)
    (case nm_MissingChunk => first | rfl | k_is)
    (case nv_MissingChunk => first | rfl | k_is)
    (case ax_SyntaxFault => k_is)
    (case xo_SyntaxFault => kernel_rfl)
    (case xz_SyntaxFault => k_is)
    (case xk_SyntaxFault => k_is)
    (case xb_SyntaxFault => k_is)
    (case xt_SyntaxFault => k_is)
    (case xs_SyntaxFault => first | rfl | k_is)
    (case xg_SyntaxFault => k_is)
    (case xq_SyntaxFault => k_is)
    (case xd_SyntaxFault => k_is)
    (case xa_SyntaxFault => k_is)
    (case xn_SyntaxFault => first | rfl | k_is)
    (case xi_SyntaxFault => first | rfl | k_is)
    (case xm_SyntaxFault => k_is)
    (case xv_SyntaxFault => first | rfl | k_is)
    (case ni_SyntaxFault => k_is)
    (case na_SyntaxFault => k_is)
    (case nl_SyntaxFault => k_is)
    (case nc_SyntaxFault => k_is)
    (case nt_SyntaxFault => k_is)
    (case nb_SyntaxFault => kernel_rfl)
    (case ns_SyntaxFault => kernel_rfl)
    (case np_SyntaxFault => k_is)
    (case nm_SyntaxFault => first | rfl | k_is)
    (case nv_SyntaxFault => first | rfl | k_is)
    (case tB_ => kernel_rfl)
    (case a_law_raise_first => k_is)
    (case l_law_raise_first => k_is)
    (case c_law_raise_first => k_is)
    (case k_law_raise_first => k_is)
    (case a_law_raise => k_is)
    (case l_law_raise => k_is)
    (case c_law_raise => k_is)
    (case k_law_raise => k_is)
    (case a_law_address => k_is)
    (case l_law_address => k_is)
    (case c_law_address => k_is)
    (case k_law_address => k_is)
    (case a_law_cell => k_is)
    (case l_law_cell => k_is)
    (case c_law_cell => k_is)
    (case k_law_cell => k_is)
    (case a_law_column => k_is)
    (case l_law_column => k_is)
    (case c_law_column => k_is)
    (case k_law_column => k_is)
    (case a_law_is => k_is)
    (case l_law_is => k_is)
    (case c_law_is => k_is)
    (case k_law_is => k_is)
    (case a_law_numbers => k_is)
    (case l_law_numbers => k_is)
    (case c_law_numbers => k_is)
    (case k_law_numbers => k_is)
    (case a_law_text => k_is)
    (case l_law_text => k_is)
    (case c_law_text => k_is)
    (case k_law_text => k_is)
    (case a_law_kinds => k_is)
    (case l_law_kinds => k_is)
    (case c_law_kinds => k_is)
    (case k_law_kinds => k_is)
    (case a_law => k_is)
    (case l_law => k_is)
    (case c_law => k_is)
    (case k_law => k_is)
    (case z_ValueError => k_is)
    (case z_bool => k_is)
    (case z_int => k_is)
    (case z_isinstance => k_is)
    (case z_len => k_is)
    (case z_range => k_is)
    (case z_super => k_is)
