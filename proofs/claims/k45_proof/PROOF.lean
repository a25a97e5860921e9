import PyProof.Rows.All
import Wide.All
import OpenK.AllK
import Wide.FinOn
import HandS.ForMost
import HandS.Evl
import HandS.IsInst
import HandS.FStr
import HandS.WideBits
import HandS.Wide
import HandS.EndBits
import HandS.Exc
import HandS.TupAny
import PyProof.StrOps2
import HandS.ExcOwn
import HandS.ExcIs
import HandS.ExcCtx
import HandS.SuiteRaise
import HandS.RaiseFrom
import HandS.ExcValue
import HandS.ExcValueFrom
import HandS.WordsExc
import HandS.Replace
import HandS.ReplaceLit
import HandS.NoneIn
import HandS.StrMore
import HandS.TupLe
import HandS.Sort
import HandS.SortKw
import HandS.Lambda
import HandS.EndTab
import KE.KNestM
import KE.SortKeyHeap
import KE.SortData
import HandS.Iter
import KE.GoesMore
import KE.GoesEnum
import HandS.SetTxt0
import HandS.Set
import HandS.Strs
import HandS.Star
import HandS.Zip
import KE.KDictZip
import PySem.Challenge.RW_versiontables_k45_parse_version


set_option Elab.async false
set_option linter.all false
set_option maxRecDepth 100000
set_option maxHeartbeats 400000

namespace Vt
open PySem PySem.Spec PyProof.Rows L2 Evl

def topS (i : Nat) : Stmt := PySem.Challenge.pw_versiontables_k45_parse_version.main.body.getD i (.Pass ⟨0, 0, 0, 0⟩)

abbrev s_law_cell : Stmt := topS 13

theorem sc_law_cell : FnScope ["script", "k"] ["script", "k"] (defScope s_law_cell) := ⟨rfl, rfl, rfl, by decide +kernel, rfl, by decide +kernel, by decide +kernel⟩

abbrev s_law_numbers : Stmt := topS 14

theorem sc_law_numbers : FnScope ["cell", "count", "numbers", "k", "mixed"] ["cell", "count"] (defScope s_law_numbers) := ⟨rfl, rfl, rfl, by decide +kernel, rfl, by decide +kernel, by decide +kernel⟩

abbrev s_law_only : Stmt := topS 16

theorem sc_law_only : FnScope ["text", "chars", "char"] ["text", "chars"] (defScope s_law_only) := ⟨rfl, rfl, rfl, by decide +kernel, rfl, by decide +kernel, by decide +kernel⟩

abbrev s_law_read : Stmt := topS 17

theorem sc_law_read : FnScope ["text", "size", "k", "start", "steps", "letters", "digits", "name"] ["text"] (defScope s_law_read) := ⟨rfl, rfl, rfl, by decide +kernel, rfl, by decide +kernel, by decide +kernel⟩

abbrev s_law_same : Stmt := topS 15

theorem sc_law_same : FnScope ["actual", "due", "k"] ["actual", "due"] (defScope s_law_same) := ⟨rfl, rfl, rfl, by decide +kernel, rfl, by decide +kernel, by decide +kernel⟩

abbrev s_is_address : Stmt := topS 11

theorem sc_is_address : FnScope ["text", "sign"] ["text"] (defScope s_is_address) := ⟨rfl, rfl, rfl, by decide +kernel, rfl, by decide +kernel, by decide +kernel⟩

abbrev s_is_name : Stmt := topS 5

theorem sc_is_name : FnScope ["text", "letter"] ["text"] (defScope s_is_name) := ⟨rfl, rfl, rfl, by decide +kernel, rfl, by decide +kernel, by decide +kernel⟩

abbrev s_parse_version : Stmt := topS 10

theorem sc_parse_version : FnScope ["text", "base", "steps"] ["text"] (defScope s_parse_version) := ⟨rfl, rfl, rfl, by decide +kernel, rfl, by decide +kernel, by decide +kernel⟩

abbrev s_law_parses : Stmt := topS 21

theorem sc_law_parses : FnScope ["text", "due", "told", "e"] ["text"] (defScope s_law_parses) := ⟨rfl, rfl, rfl, by decide +kernel, rfl, by decide +kernel, by decide +kernel⟩

abbrev s_law_spoilt : Stmt := topS 20

theorem sc_law_spoilt : FnScope ["text", "a", "b", "c", "at", "char"] ["text", "a", "b", "c"] (defScope s_law_spoilt) := ⟨rfl, rfl, rfl, by decide +kernel, rfl, by decide +kernel, by decide +kernel⟩

abbrev s_law_name : Stmt := topS 18

theorem sc_law_name : FnScope ["numbers", "letters", "k"] ["numbers"] (defScope s_law_name) := ⟨rfl, rfl, rfl, by decide +kernel, rfl, by decide +kernel, by decide +kernel⟩

abbrev s_law_text_of : Stmt := topS 19

theorem sc_law_text_of : FnScope ["cell", "numbers", "text", "count", "k"] ["cell"] (defScope s_law_text_of) := ⟨rfl, rfl, rfl, by decide +kernel, rfl, by decide +kernel, by decide +kernel⟩

abbrev s_law : Stmt := topS 22

theorem sc_law : FnScope ["script", "k", "cell", "text", "numbers", "odd", "number", "told"] ["script"] (defScope s_law) := ⟨rfl, rfl, rfl, by decide +kernel, rfl, by decide +kernel, by decide +kernel⟩

/-! ### what is raised -/
theorem okN {P : Program} {w : World} {K : PySem.W.Frag} {mg : Str → Option Value} {base : Heap} {x qual : Str} {st : Stmt} {f : Addr} {fd : FuncData} {N ps : List Str} {k : Nat} {sp : Sp} (F : Fun K x qual st f fd) (S : FnScope N ps (defScope st)) (len : ∀ vs H Q E, sp vs H Q E → vs.length = ps.length)
    (hb : ∀ (cdv : Value) (A : Around) (outer : List Env) (s : Shared) (H : Hp) (vs : List V) (Q : VK) (E : XK), Room k (A.deeper (envOfC qual (defScope st) s.heap.objs.size f cdv)) → sp vs H Q E →
      ∃ t, PSs (cxOf (L2N.CX P w) P w K mg base N qual (defScope st) f cdv A outer s H E) (defBody st) t ∧ t { nx := fun _ H' => Q .non H', rt := Q } (start N vs) H) : FnOk P w K mg base (L2N.CX P w) (k + 1) f fd ps sp := by
  obtain ⟨oc, od, kV, doc, pm, an, cdv, ct, osl, rfl, lk, hcd⟩ := F.ex
  exact fn_of lk hcd S len fun A outer s H vs Q E hr h => hb cdv A outer s H vs Q E hr h
/-- a reading that holds where P does -/
theorem pss_given {X : Cx} {sts : List Stmt} {t : TS} {P : Prop} (h : P → PSs X sts t) : PSs X sts (fun D σ H => P ∧ t D σ H) := ⟨fun pins s σ H D I z => (h z.1).run pins s σ H D I z.2⟩
theorem zc_of {cls : Value} {d : Option Addr} {C : Addr} {oe : Obj} (p : cls = .ref C ∧ d = none) (h : Zc cls d oe) : Zc (.ref C) none oe := by
  obtain ⟨rfl, rfl⟩ := p
  exact h
theorem ev_isE {K : PySem.W.Frag} {D a : Addr} {σ : L2.St} {H : Hp} {te : TE} {c : V} {cv : Value} {b : Bool} (h : Ev te σ H (.ref a)) (hc : ∀ u, RelV c u → u = cv) (hk : PySem.W.kitOne K (.ref D) cv = some b) : Ev (tCB (rIsE K D a) (tCons te (tCons (tC c) tNil))) σ H (.bl b) := fun H1 e Q q =>
  h H1 e _ fun H2 e2 => ⟨c, cv, b, rfl, hc, hk, q H2 e2⟩
theorem s_callE {sp : Sp} {dvs vs : List V} {E : XK} {ta : TA} {σ : L2.St} {H : Hp} {D : Ends} (h : EvA ta σ H vs) (k : ∀ H1 Q, Ex H H1 → sp (vs ++ dvs) H1 Q E) : tRet (tCall sp dvs E ta) D σ H := h H (Ex.refl H) _ fun H1 e1 => k H1 _ e1
theorem q_callE {sp : Sp} {dvs vs : List V} {E : XK} {ta : TA} {σ : L2.St} {H : Hp} {tz : TS} {D : Ends} {i : Nat} (h : EvA ta σ H vs) (k : ∀ H1 Q, Ex H H1 → sp (vs ++ dvs) H1 Q E) : tSeq (tAsg (tCall sp dvs E ta) (gName i)) tz D σ H := h H (Ex.refl H) _ fun H1 e1 => k H1 _ e1
/-- in a try's body -/
theorem s_callT {sp : Sp} {vs : List V} {E : L2.St → XK} {ta : TA} {g : TG} {σ : L2.St} {H : Hp} {D : Ends} (h : EvA ta σ H vs) (k : ∀ H1 Q, Ex H H1 → sp vs H1 Q (E σ)) : tAsg (tCallS sp E ta) g D σ H := h H (Ex.refl H) _ fun H1 e1 => k H1 _ e1
theorem s_dropT {sp : Sp} {vs : List V} {E : L2.St → XK} {ta : TA} {σ : L2.St} {H : Hp} {D : Ends} (h : EvA ta σ H vs) (k : ∀ H1 Q, Ex H H1 → sp vs H1 Q (E σ)) : tDrop (tCallS sp E ta) D σ H := h H (Ex.refl H) _ fun H1 e1 => k H1 _ e1
/-- an own error class, as the text has it -/
structure XcC (K : PySem.W.Frag) (mg : Str → Option Value) (x : Str) (C : Addr) : Prop where
  g : mg x = some (.ref C)
  x : PySem.W.excIn K C [.type "ValueError", .type "Exception", .type "BaseException", .type "object"] "ValueError.__new__" = true
  kp : PySem.W.keepIn K (.ref C) = true
  b : PySem.W.subIn K (.ref C) (.type "BaseException") = some true
  t : PySem.W.typeIn K (.ref C) = some (.type "type")
  s : PySem.W.subIn K (.ref C) (.ref C) = some true
  is : ExcC K C
theorem XcC.self {K : PySem.W.Frag} {mg : Str → Option Value} {x : Str} {C : Addr} (T : XcC K mg x C) : PySem.W.exmOne K (.ref C) (.ref C) = some true := PySem.W.exm_ref T.b T.is.hd T.t T.s
/-! try .. except X as n: .. and further clauses; what is raised is X's -/
def wAs1 (K : PySem.W.Frag) (c : Value) (i : Nat) (ts : Addr → Value → Option Addr → TS) (D : Ends) : WX := fun cls d σ H =>
  PySem.W.exmOne K cls c = some true ∧ ∀ a, H a = none → ts a cls d { nx := fun _ _ => False, rt := D.rt, bk := fun _ _ => False, ct := fun _ _ => False } (σ.set i (some (.ref a))) H
theorem ps_try_as1 {X : Cx} {x n : Str} {c : Value} {i : Nat} {body suite : List Stmt} {b₀ : Stmt} {np pos pos' : Pos} {more : List ExceptHandler} {tb : WX → TS} {ts : Addr → Value → Option Addr → TS}
    (hs : X.stack = X.env :: X.outer) (hf : X.env.frame = some X.env.locals) (hN : X.N.Nodup) (hi : X.N[i]? = some n) (hln : X.env.kindOf n = some .local) (hc : Names X x c)
    (hb : ∀ (W : WX) (pn : List (Addr × Obj)) (xe : Value → Shared → Prop), L2N.Takes (X.tr pn xe) W → PSs (X.tr pn xe) body (tb W))
    (hsu : ∀ (a : Addr) (oe : Obj) (cls : Value) (d : Option Addr) (pn : List (Addr × Obj)), Zc cls d oe → (∃ vs, oe.data = .fields vs) → PSs (X.suite a ((a, oe) :: pn)) (b₀ :: suite) (ts a cls d)) :
    PS X (.Try body (.ExceptHandler (some (.Name x np)) (some n) (b₀ :: suite) pos' :: more) [] [] pos) (fun D σ H => tb (wAs1 X.K c i ts D) D σ H) := by
  refine ⟨fun pins s σ H D I h => ?_⟩
  have ok := I.ok
  have frames : X.A.frames = some (X.env :: X.outer) := by rw [ok.frames, hs]
  refine wpAny_Try_except (wpAny_mono ((hb (wAs1 X.K c i ts D) (X.pn ++ pins) _ fun u s' z => ?_).run [] s σ H D (I.toTry _) h) (fun f s1 q => ?_) fun e s1 z => z)
  · obtain ⟨a, B, sI, pins', σ', H', cls, d, rfl, J', nb, up, sky, na, os, ag, hx, hy⟩ := z
    have J : Inv X pins σ' H' sI := J'.ofTry ok
    have sky' : L2.Sky B (X.env :: X.outer) a (L2N.Zn cls d) X.env.locals s'.heap := by rw [← hs]; exact sky
    show wpAny (model X.prog X.w) X.A (noteFrame (.ref a) X.env) _ _ _
    refine L2N.Sky.land L2N.Zn.steady frames hf sky' fun h3 fl up3 => ?_
    have J3 : Inv X pins σ' H' { s' with heap := h3 } := J.landed nb fl.1 (up.trans up3) os ag
    obtain ⟨o3, v3, g3, z3, d3⟩ := fl.there
    have nfr : a ∉ frs (X.env :: X.outer) := fun hm => by
      obtain ⟨_, o', e', no⟩ := fl.2.2.1.mem hm
      rw [g3] at e'
      cases e'
      exact no _ d3
    have nL : a ≠ X.env.locals := fun y => nfr (List.mem_filterMap.mpr ⟨X.env, List.mem_cons_self, by rw [hf, y]⟩)
    have nF : a ∉ X.fs := fun hm => by
      obtain ⟨e, he, q⟩ := List.mem_filterMap.mp hm
      exact nfr (List.mem_filterMap.mpr ⟨e, List.mem_cons_of_mem _ he, q⟩)
    have S3 := J3.suite g3 d3 na nL nF
    have LT : PySem.W.Looks (model X.prog X.w) h3 (typeOf (.ref a)) cls := fun A Q E s k q => wpAny_typeOf_ref (k _ _ g3) (by rw [z3.1]; exact q)
    have LM := PySem.W.exm_one (M := model X.prog X.w) J3.kIn LT hx
    refine wpAny_handleBy_cons (codeAny_handlers_test ?_) (by intro q; cases q)
    have test : ∀ {Q : Value → Shared → Prop} {E : Value → Shared → Prop}, Q c { s' with heap := h3 } → wpAny (model X.prog X.w) (X.A.mark (some (.ref a))) (eval (.Name x np) X.env) Q E { s' with heap := h3 } := fun q => by
      obtain ⟨hg, hd, hm | ⟨hm, hv, hn⟩⟩ := hc
      · exact ld_glob (X := X.suite a ((a, o3) :: (X.pn ++ pins))) S3 hg hm q hd
      · exact ld_blt (X := X.suite a ((a, o3) :: (X.pn ++ pins))) S3 hg hm hv q hn hd
    refine test (LM.here (codeAny_handlers_suite_as (HandSPX.lands_againZ fl fun h4 fl4 up4 => ?_)))
    have J4 : Inv X pins σ' H' { s' with heap := h4 } := J.landed nb fl4.1 ((up.trans up3).trans up4) os ag
    obtain ⟨o4, v4, g4, z4, d4⟩ := fl4.there
    refine store_ok (X := X.suite a ((a, o4) :: (X.pn ++ pins))) (v := .ref a) (J4.suite g4 d4 na nL nF) hN hi (.inl hln) rfl (fun s5 S5 => ?_) (.inr hln)
    refine wpAny_mono ((hsu a o4 cls d (X.pn ++ pins) ⟨z4.1, z4.2.1⟩ ⟨_, d4⟩).run [] s5 _ H' _ S5 (hy a na)) (fun f s6 q => ?_) (fun _ _ z => z.elim)
    cases f with
    | next =>
      obtain ⟨_, _, _, z⟩ := q
      exact z.elim
    | brk =>
      obtain ⟨_, _, _, z⟩ := q
      exact z.elim
    | cont =>
      obtain ⟨_, _, _, z⟩ := q
      exact z.elim
    | ret u =>
      obtain ⟨v6, σ6, H6, S6, r6, q6⟩ := q
      exact gone_ok (S6.unsuite ok) hN hi hln fun s7 J7 => ⟨_, _, _, J7, r6, q6⟩
  · cases f with
    | next =>
      obtain ⟨σ', H', J', z⟩ := q
      exact wpAny_execs_nil ⟨σ', H', J'.ofTry ok, z⟩
    | brk =>
      obtain ⟨σ', H', J', z⟩ := q
      exact ⟨σ', H', J'.ofTry ok, z⟩
    | cont =>
      obtain ⟨σ', H', J', z⟩ := q
      exact ⟨σ', H', J'.ofTry ok, z⟩
    | ret u =>
      obtain ⟨v, σ', H', J', r, z⟩ := q
      exact ⟨v, σ', H', J'.ofTry ok, r, z⟩
/-- as ps_try_as1, for what was raised while another error was handled -/
theorem ps_try_as2 {X : Cx} {x n : Str} {c : Value} {i : Nat} {body suite : List Stmt} {b₀ : Stmt} {np pos pos' : Pos} {more : List ExceptHandler} {tb : WX → TS} {ts : Addr → Value → Option Addr → TS}
    (hs : X.stack = X.env :: X.outer) (hf : X.env.frame = some X.env.locals) (hN : X.N.Nodup) (hi : X.N[i]? = some n) (hln : X.env.kindOf n = some .local) (hc : Names X x c)
    (hb : ∀ (W : WX) (pn : List (Addr × Obj)) (xe : Value → Shared → Prop), L2.Takes (X.tr pn xe) W → PSs (X.tr pn xe) body (tb W))
    (hsu : ∀ (a : Addr) (oe : Obj) (cls : Value) (d : Option Addr) (pn : List (Addr × Obj)), Zc cls d oe → (∃ vs, oe.data = .fields vs) → PSs (X.suite a ((a, oe) :: pn)) (b₀ :: suite) (ts a cls d)) :
    PS X (.Try body (.ExceptHandler (some (.Name x np)) (some n) (b₀ :: suite) pos' :: more) [] [] pos) (fun D σ H => tb (wAs1 X.K c i ts D) D σ H) := by
  refine ⟨fun pins s σ H D I h => ?_⟩
  have ok := I.ok
  have frames : X.A.frames = some (X.env :: X.outer) := by rw [ok.frames, hs]
  refine wpAny_Try_except (wpAny_mono ((hb (wAs1 X.K c i ts D) (X.pn ++ pins) _ fun u s' z => ?_).run [] s σ H D (I.toTry _) h) (fun f s1 q => ?_) fun e s1 z => z)
  · obtain ⟨a, B, sI, pins', σ', H', cls, d, rfl, J', nb, up, sky, na, os, ag, hx, hy⟩ := z
    have J : Inv X pins σ' H' sI := J'.ofTry ok
    have sky' : L2.Sky B (X.env :: X.outer) a (Zc cls d) X.env.locals s'.heap := by rw [← hs]; exact sky
    show wpAny (model X.prog X.w) X.A (noteFrame (.ref a) X.env) _ _ _
    refine L2.Sky.land Zc.steady frames hf sky' fun h3 fl up3 => ?_
    have J3 : Inv X pins σ' H' { s' with heap := h3 } := J.landed nb fl.1 (up.trans up3) os ag
    obtain ⟨o3, v3, g3, z3, d3⟩ := fl.there
    have nfr : a ∉ frs (X.env :: X.outer) := fun hm => by
      obtain ⟨_, o', e', no⟩ := fl.2.2.1.mem hm
      rw [g3] at e'
      cases e'
      exact no _ d3
    have nL : a ≠ X.env.locals := fun y => nfr (List.mem_filterMap.mpr ⟨X.env, List.mem_cons_self, by rw [hf, y]⟩)
    have nF : a ∉ X.fs := fun hm => by
      obtain ⟨e, he, q⟩ := List.mem_filterMap.mp hm
      exact nfr (List.mem_filterMap.mpr ⟨e, List.mem_cons_of_mem _ he, q⟩)
    have S3 := J3.suite g3 d3 na nL nF
    have LT : PySem.W.Looks (model X.prog X.w) h3 (typeOf (.ref a)) cls := fun A Q E s k q => wpAny_typeOf_ref (k _ _ g3) (by rw [z3.1]; exact q)
    have LM := PySem.W.exm_one (M := model X.prog X.w) J3.kIn LT hx
    refine wpAny_handleBy_cons (codeAny_handlers_test ?_) (by intro q; cases q)
    have test : ∀ {Q : Value → Shared → Prop} {E : Value → Shared → Prop}, Q c { s' with heap := h3 } → wpAny (model X.prog X.w) (X.A.mark (some (.ref a))) (eval (.Name x np) X.env) Q E { s' with heap := h3 } := fun q => by
      obtain ⟨hg, hd, hm | ⟨hm, hv, hn⟩⟩ := hc
      · exact ld_glob (X := X.suite a ((a, o3) :: (X.pn ++ pins))) S3 hg hm q hd
      · exact ld_blt (X := X.suite a ((a, o3) :: (X.pn ++ pins))) S3 hg hm hv q hn hd
    refine test (LM.here (codeAny_handlers_suite_as (HandSPX.lands_againZ fl fun h4 fl4 up4 => ?_)))
    have J4 : Inv X pins σ' H' { s' with heap := h4 } := J.landed nb fl4.1 ((up.trans up3).trans up4) os ag
    obtain ⟨o4, v4, g4, z4, d4⟩ := fl4.there
    refine store_ok (X := X.suite a ((a, o4) :: (X.pn ++ pins))) (v := .ref a) (J4.suite g4 d4 na nL nF) hN hi (.inl hln) rfl (fun s5 S5 => ?_) (.inr hln)
    refine wpAny_mono ((hsu a o4 cls d (X.pn ++ pins) z4 ⟨_, d4⟩).run [] s5 _ H' _ S5 (hy a na)) (fun f s6 q => ?_) (fun _ _ z => z.elim)
    cases f with
    | next =>
      obtain ⟨_, _, _, z⟩ := q
      exact z.elim
    | brk =>
      obtain ⟨_, _, _, z⟩ := q
      exact z.elim
    | cont =>
      obtain ⟨_, _, _, z⟩ := q
      exact z.elim
    | ret u =>
      obtain ⟨v6, σ6, H6, S6, r6, q6⟩ := q
      exact gone_ok (S6.unsuite ok) hN hi hln fun s7 J7 => ⟨_, _, _, J7, r6, q6⟩
  · cases f with
    | next =>
      obtain ⟨σ', H', J', z⟩ := q
      exact wpAny_execs_nil ⟨σ', H', J'.ofTry ok, z⟩
    | brk =>
      obtain ⟨σ', H', J', z⟩ := q
      exact ⟨σ', H', J'.ofTry ok, z⟩
    | cont =>
      obtain ⟨σ', H', J', z⟩ := q
      exact ⟨σ', H', J'.ofTry ok, z⟩
    | ret u =>
      obtain ⟨v, σ', H', J', r, z⟩ := q
      exact ⟨v, σ', H', J'.ofTry ok, r, z⟩
/-- raise X('..') from None in an except suite -/
theorem ps_raiseFN {X : Cx} {W : WX} {x m : Str} {C : Addr} {j j2 : Nat} {p p2 pos cpos pos2 : Pos} (hot : L2H.HotC X) (tk : L2.Takes X W) (T : XcC X.K X.mg x C) (hx : X.ex = []) (hg : Gl X x) (hdb : (x == ("__debug__" : Str)) = false) :
    PS X (.Raise (some (.Call (.Name x p) [.Constant (.str m) j p2] [] pos)) (some (.Constant .none j2 cpos)) pos2) (fun _ σ H => Ex X.H_0 H ∧ W (.ref C) none σ H) := by
  refine ⟨fun pins s σ H D I h => (L2H.ps_raiseHN hot tk (pmk_ret5 hx (pe_exc1 PySem.F.excBase_ValueError T.x T.g T.kp hg pe_str (by rfl) hdb))).run pins s σ H D I ?_⟩
  exact fun a ha => ⟨a, _, rfl, upd_same, fr0_none (fresh_back h.1 ha), L2.raises_own T.b T.t, by rw [delH_new ha]; exact h.2⟩
theorem _root_.L2.FnOk.both {P : Program} {w : World} {K : PySem.W.Frag} {mg : Str → Option Value} {base : Heap} {CX : CXT} {k : Nat} {f : Addr} {fd : FuncData} {ps : List Str} {sp0 sp1 : Sp} (F0 : FnOk P w K mg base CX0 k f fd ps sp0) (F1 : FnOk P w K mg base CX k f fd ps sp1) : FnOk P w K mg base CX k f fd ps (fun vs H Q E => sp0 vs H Q E ∨ sp1 vs H Q E) :=
  ⟨fun vs H Q E h => h.elim (F0.len vs H Q E) (F1.len vs H Q E), fun A outer s H args us vs Q E hr e0 hb r h => h.elim (fun h => codeAny_mono (F0.run A outer s H args us vs Q E hr e0 hb r h) fun res s' z => by
    cases res with
    | error e => exact False.elim z
    | ok f => cases f <;> exact z) (fun h => F1.run A outer s H args us vs Q E hr e0 hb r h)⟩
theorem s_callEA {sp : Sp} {dvs vs : List V} {E : XK} {ta : TA} {g : TG} {σ : L2.St} {H : Hp} {D : Ends} (h : EvA ta σ H vs) (k : ∀ H1 Q, Ex H H1 → sp (vs ++ dvs) H1 Q E) : tAsg (tCall sp dvs E ta) g D σ H := h H (Ex.refl H) _ fun H1 e1 => k H1 _ e1
theorem s_ifX {sp : Sp} {dvs vs : List V} {E : XK} {ta : TA} {tb : TE} {r : R2} {tu tw : TS} {σ : L2.St} {H : Hp} {D : Ends} (h : EvA ta σ H vs) (k : ∀ H1 Q, Ex H H1 → sp (vs ++ dvs) H1 Q E) : tIfS (tTest (tOp r (tCall sp dvs E ta) tb)) tu tw D σ H := h H (Ex.refl H) _ fun H1 e1 => k H1 _ e1
theorem t_testX {sp : Sp} {dvs vs : List V} {E : XK} {ta : TA} {tb : TE} {r : R2} {σ : L2.St} {H : Hp} {Q : Bool → Hp → Prop} (h : EvA ta σ H vs) (k : ∀ H1 Q, Ex H H1 → sp (vs ++ dvs) H1 Q E) : tTest (tOp r (tCall sp dvs E ta) tb) σ H Q := h H (Ex.refl H) _ fun H1 e1 => k H1 _ e1
theorem q_whileX {t : TT} {tu tz : TS} {σ : L2.St} {H : Hp} {D : Ends} (W : Nat → L2.St → Hp → Prop) (m0 : Nat) (h0 : W m0 σ H)
    (hs : ∀ m σ' H', W m σ' H' → t σ' H' fun b H1 => if b = true then ∃ N : L2.St → Hp → Prop, (∀ σ2 H2, N σ2 H2 → ∃ m', m' < m ∧ W m' σ2 H2) ∧ tu { D with nx := N, ct := N, bk := tz D } σ' H1 else tz D σ' H1) : tSeq (tWhile t tu) tz D σ H := ⟨W, ⟨m0, h0⟩, hs⟩
theorem pre_le {xs ys t u : List Nat} (h : xs ++ ys = t ++ u) (hl : t.length ≤ xs.length) : ∃ rest, xs = t ++ rest := by
  have e := congrArg (List.take t.length) h
  rw [List.take_append_of_le_length hl, List.take_left] at e
  have z := (List.take_append_drop t.length xs).symm
  rw [e] at z
  exact ⟨_, z⟩
theorem pre_one {xs t r : List Nat} {y c : Nat} (h : xs ++ [y] = t ++ (c :: r)) : ∃ rest, xs = t ++ rest := by
  refine pre_le h ?_
  have := congrArg List.length h
  simp only [List.length_append, List.length_cons, List.length_nil] at this
  omega


structure Txt (K : PySem.W.Frag) (mg : Str → Option Value) where
  C_InvalidVersion : Addr
  e_InvalidVersion : XcC K mg "InvalidVersion" C_InvalidVersion
  kv_InvalidVersion : PySem.W.kitOne K (.ref C_InvalidVersion) (.type "ValueError") = some true
  C_UnknownVersion : Addr
  e_UnknownVersion : XcC K mg "UnknownVersion" C_UnknownVersion
  kv_UnknownVersion : PySem.W.kitOne K (.ref C_UnknownVersion) (.type "ValueError") = some true
  C_VersionError : Addr
  g_VersionError : mg "VersionError" = some (.ref C_VersionError)
  ku_InvalidVersion_VersionError : PySem.W.kitOne K (.ref C_InvalidVersion) (.ref C_VersionError) = some true
  ku_UnknownVersion_VersionError : PySem.W.kitOne K (.ref C_UnknownVersion) (.ref C_VersionError) = some true
  kt_InvalidVersion_UnknownVersion : PySem.W.kitOne K (.ref C_InvalidVersion) (.ref C_UnknownVersion) = some false
  kt_UnknownVersion_InvalidVersion : PySem.W.kitOne K (.ref C_UnknownVersion) (.ref C_InvalidVersion) = some false
  f_law_cell : Addr
  d_law_cell : FuncData
  F_law_cell : Fun K "_law_cell" "_law_cell" s_law_cell f_law_cell d_law_cell
  b_law_cell : Binds K d_law_cell ["script", "k"] []
  g_law_cell : mg "_law_cell" = some (.ref f_law_cell)
  f_law_numbers : Addr
  d_law_numbers : FuncData
  F_law_numbers : Fun K "_law_numbers" "_law_numbers" s_law_numbers f_law_numbers d_law_numbers
  b_law_numbers : Binds K d_law_numbers ["cell", "count"] []
  g_law_numbers : mg "_law_numbers" = some (.ref f_law_numbers)
  f_law_only : Addr
  d_law_only : FuncData
  F_law_only : Fun K "_law_only" "_law_only" s_law_only f_law_only d_law_only
  b_law_only : Binds K d_law_only ["text", "chars"] []
  g_law_only : mg "_law_only" = some (.ref f_law_only)
  f_law_read : Addr
  d_law_read : FuncData
  F_law_read : Fun K "_law_read" "_law_read" s_law_read f_law_read d_law_read
  b_law_read : Binds K d_law_read ["text"] []
  g_law_read : mg "_law_read" = some (.ref f_law_read)
  f_law_same : Addr
  d_law_same : FuncData
  F_law_same : Fun K "_law_same" "_law_same" s_law_same f_law_same d_law_same
  b_law_same : Binds K d_law_same ["actual", "due"] []
  g_law_same : mg "_law_same" = some (.ref f_law_same)
  f_is_address : Addr
  d_is_address : FuncData
  F_is_address : Fun K "_is_address" "_is_address" s_is_address f_is_address d_is_address
  b_is_address : Binds K d_is_address ["text"] []
  g_is_address : mg "_is_address" = some (.ref f_is_address)
  f_is_name : Addr
  d_is_name : FuncData
  F_is_name : Fun K "is_name" "is_name" s_is_name f_is_name d_is_name
  b_is_name : Binds K d_is_name ["text"] []
  g_is_name : mg "is_name" = some (.ref f_is_name)
  f_parse_version : Addr
  d_parse_version : FuncData
  F_parse_version : Fun K "parse_version" "parse_version" s_parse_version f_parse_version d_parse_version
  b_parse_version : Binds K d_parse_version ["text"] []
  g_parse_version : mg "parse_version" = some (.ref f_parse_version)
  f_law_parses : Addr
  d_law_parses : FuncData
  F_law_parses : Fun K "_law_parses" "_law_parses" s_law_parses f_law_parses d_law_parses
  b_law_parses : Binds K d_law_parses ["text"] []
  g_law_parses : mg "_law_parses" = some (.ref f_law_parses)
  f_law_spoilt : Addr
  d_law_spoilt : FuncData
  F_law_spoilt : Fun K "_law_spoilt" "_law_spoilt" s_law_spoilt f_law_spoilt d_law_spoilt
  b_law_spoilt : Binds K d_law_spoilt ["text", "a", "b", "c"] []
  g_law_spoilt : mg "_law_spoilt" = some (.ref f_law_spoilt)
  f_law_name : Addr
  d_law_name : FuncData
  F_law_name : Fun K "_law_name" "_law_name" s_law_name f_law_name d_law_name
  b_law_name : Binds K d_law_name ["numbers"] []
  g_law_name : mg "_law_name" = some (.ref f_law_name)
  f_law_text_of : Addr
  d_law_text_of : FuncData
  F_law_text_of : Fun K "_law_text_of" "_law_text_of" s_law_text_of f_law_text_of d_law_text_of
  b_law_text_of : Binds K d_law_text_of ["cell"] []
  g_law_text_of : mg "_law_text_of" = some (.ref f_law_text_of)
  f_law : Addr
  d_law : FuncData
  F_law : Fun K "law" "law" s_law f_law d_law
  b_law : Binds K d_law ["script"] []
  g_law : mg "law" = some (.ref f_law)
  m_ValueError : mg "ValueError" = none
  m_all : mg "all" = none
  m_bool : mg "bool" = none
  m_int : mg "int" = none
  m_isinstance : mg "isinstance" = none
  m_len : mg "len" = none
  m_list : mg "list" = none
  m_range : mg "range" = none
  m_str : mg "str" = none
  m_tuple : mg "tuple" = none
  t_MOST_CHARACTERS : Tok
  k_MOST_CHARACTERS : mg "MOST_CHARACTERS" = some (.int 60 t_MOST_CHARACTERS)
  t_MOST_DIGITS : Tok
  k_MOST_DIGITS : mg "MOST_DIGITS" = some (.int 18 t_MOST_DIGITS)
  t_STEPS : Tok
  k_STEPS : mg "STEPS" = some (.str (Str.ofString "~^") t_STEPS)

/-! ### sizes of ints -/
/-- an int of at most some million bits -/
structure Wd (n : Int) : Prop where
  h : n.natAbs.log2 < 1100000
theorem log2_mono {a b : Nat} (h : a ≤ b) : a.log2 ≤ b.log2 := by
  by_cases ha : a = 0
  · subst ha
    exact Nat.le_trans (Nat.le_of_eq (by decide)) (Nat.zero_le _)
  · refine Nat.lt_succ_iff.mp ((Nat.log2_lt ha).mpr (Nat.lt_of_le_of_lt h Nat.lt_log2_self))
theorem Wd.le {n m : Int} (h : Wd n) (e : m.natAbs ≤ n.natAbs) : Wd m := ⟨Nat.lt_of_le_of_lt (log2_mono e) h.h⟩
theorem Wd.lt {n : Int} (h : n.natAbs < 2 ^ 9000) : Wd n := ⟨Nat.lt_trans (PySem.Flt.log2_lt_of (by decide) h) (by decide)⟩
theorem Wd.lit {n : Int} (h : n.natAbs < 2 ^ 256) : Wd n := ⟨Nat.lt_trans (PySem.Flt.log2_lt_of (by decide) h) (by decide)⟩
theorem Wd.bits {n : Int} (h : Builtin.Int.intBits n ≤ 1048576) : Wd n := by
  unfold Builtin.Int.intBits at h
  by_cases e : n = 0
  · subst e
    exact Wd.lit (by decide)
  · rw [if_neg (by simpa using e)] at h
    exact ⟨by omega⟩
theorem Wd.small {n : Int} (h1 : -(2 ^ 64) < n) (h2 : n < 2 ^ 64) : Wd n := Wd.lit (by
  have : n.natAbs < 2 ^ 64 := by omega
  exact Nat.lt_of_lt_of_le this (by decide))
theorem Wd.div {n b : Int} (h : Wd n) : Wd (n / b) := h.le (Int.natAbs_ediv_le_natAbs n b)
theorem Wd.mod {n b : Int} (hb : 0 < b) (h : Wd b) : Wd (n % b) := h.le (by
  have h1 := Int.emod_nonneg n (by omega : b ≠ 0)
  have h2 := Int.emod_lt_of_pos n hb
  omega)
theorem Wd.neg {n : Int} (h : Wd n) : Wd (-n) := h.le (by omega)
theorem bits_log (n : Int) : Builtin.Int.intBits n ≤ n.natAbs.log2 + 1 := by
  unfold Builtin.Int.intBits
  split <;> omega
theorem Wd.mul {i j : Int} (hi : Wd i) (hj : Wd j) : CMulX i j := by
  have a := bits_log i
  have b := bits_log j
  have c := hi.h
  have d := hj.h
  unfold CMulX
  omega
/-- what falls to a comparison of two ints -/
theorem dec_int {i j : Int} : decide (V.int i = V.int j) = decide (i = j) := by
  by_cases h : i = j
  · rw [decide_eq_true h, decide_eq_true (congrArg V.int h)]
  · rw [decide_eq_false h, decide_eq_false fun e => h (V.int.inj e)]
theorem dec_str {i j : Str} : decide (V.str i = V.str j) = decide (i = j) := by
  by_cases h : i = j
  · rw [decide_eq_true h, decide_eq_true (congrArg V.str h)]
  · rw [decide_eq_false h, decide_eq_false fun e => h (V.str.inj e)]
theorem dec_bl {i j : Bool} : decide (V.bl i = V.bl j) = decide (i = j) := by
  by_cases h : i = j
  · rw [decide_eq_true h, decide_eq_true (congrArg V.bl h)]
  · rw [decide_eq_false h, decide_eq_false fun e => h (V.bl.inj e)]
/-- len, tuple of a list or tuple -/
abbrev rLenQ (K : PySem.W.Frag) : List V → Hp → VK → Prop := fun xs H Q => ∃ p ys, xs = [V.ref p] ∧ (SqL K H p ys ∨ SqT K H p ys) ∧ Q (.int ys.length) H
abbrev rTupOf (K : PySem.W.Frag) : List V → Hp → VK → Prop := fun xs H Q => ∃ p ys, xs = [V.ref p] ∧ ((SqL K H p ys ∧ ∀ l, H l = none → Q (.ref l) (upd H l (.tup ys))) ∨ (SqT K H p ys ∧ Q (.ref p) H))
/-! ### more of what evaluates -/
section
variable {K : PySem.W.Frag} {σ : L2.St} {H : Hp} {ta tb te : TE}
theorem ev_eqI {i j : Int} (ha : Ev ta σ H (.int i)) (hb : Ev tb σ H (.int j)) : Ev (tOp rEq ta tb) σ H (.bl (decide (i = j))) := ev_is (ev_op ha hb (rv_eq rfl)) (congrArg V.bl dec_int)
theorem ev_neI {i j : Int} (ha : Ev ta σ H (.int i)) (hb : Ev tb σ H (.int j)) : Ev (tOp rNe ta tb) σ H (.bl (!decide (i = j))) := ev_is (ev_op ha hb (rv_ne rfl)) (congrArg (fun b => V.bl (!b)) dec_int)
theorem ev_eqS {i j : Str} (ha : Ev ta σ H (.str i)) (hb : Ev tb σ H (.str j)) : Ev (tOp rEq ta tb) σ H (.bl (decide (i = j))) := ev_is (ev_op ha hb (rv_eq rfl)) (congrArg V.bl dec_str)
theorem ev_neS {i j : Str} (ha : Ev ta σ H (.str i)) (hb : Ev tb σ H (.str j)) : Ev (tOp rNe ta tb) σ H (.bl (!decide (i = j))) := ev_is (ev_op ha hb (rv_ne rfl)) (congrArg (fun b => V.bl (!b)) dec_str)
theorem ev_eqB {i j : Bool} (ha : Ev ta σ H (.bl i)) (hb : Ev tb σ H (.bl j)) : Ev (tOp rEq ta tb) σ H (.bl (decide (i = j))) := ev_is (ev_op ha hb (rv_eq rfl)) (congrArg V.bl dec_bl)
theorem ev_neB {i j : Bool} (ha : Ev ta σ H (.bl i)) (hb : Ev tb σ H (.bl j)) : Ev (tOp rNe ta tb) σ H (.bl (!decide (i = j))) := ev_is (ev_op ha hb (rv_ne rfl)) (congrArg (fun b => V.bl (!b)) dec_bl)
theorem ev_bin {C : Int → Int → Prop} {g : Int → Int → V} {i j : Int} (ha : Ev ta σ H (.int i)) (hb : Ev tb σ H (.int j)) (hc : C i j) : Ev (tOp (rI C g) ta tb) σ H (g i j) := ev_op ha hb (rv_I hc)
theorem ev_bin0 {g : Int → Int → V} {i j : Int} (ha : Ev ta σ H (.int i)) (hb : Ev tb σ H (.int j)) : Ev (tOp (rI0 g) ta tb) σ H (g i j) := ev_op ha hb rv_I0
theorem ev_intI {i : Int} (h : Ev te σ H (.int i)) : Ev (tCB (fun xs H Q => (∃ i, xs = [V.int i] ∧ Q (.int i) H) ∨ ∃ k, xs = [V.bl k] ∧ Q (.int (if k = true then 1 else 0)) H) (tCons te tNil)) σ H (.int i) := fun H1 e Q q =>
  h H1 e _ fun H2 e2 => .inl ⟨i, rfl, q H2 e2⟩
theorem ev_lenS {z : Str} (h : Ev te σ H (.str z)) (hz : z.length ≤ 100000) : Ev (tCB (fun xs H Q => ∃ z, xs = [V.str z] ∧ z.length ≤ sizeLine ∧ Q (.int z.length) H) (tCons te tNil)) σ H (.int (z.length : Int)) := fun H1 e Q q =>
  h H1 e _ fun H2 e2 => ⟨z, rfl, sz_of hz, q H2 e2⟩
theorem ev_lenQ {p : Addr} {xs : List V} (ha : Ev ta σ H (.ref p)) (h : SqL K H p xs) : Ev (tCB (fun xs H Q => ∃ p ys, xs = [V.ref p] ∧ (SqL K H p ys ∨ SqT K H p ys) ∧ Q (.int ys.length) H) (tCons ta tNil)) σ H (.int (xs.length : Int)) := fun H1 e Q q =>
  ha H1 e _ fun H2 e2 => ⟨p, xs, rfl, Or.inl (ex_l (e.trans e2) h), q H2 e2⟩
theorem ev_lenT {p : Addr} {xs : List V} (ha : Ev ta σ H (.ref p)) (h : SqT K H p xs) : Ev (tCB (fun xs H Q => ∃ p ys, xs = [V.ref p] ∧ (SqL K H p ys ∨ SqT K H p ys) ∧ Q (.int ys.length) H) (tCons ta tNil)) σ H (.int (xs.length : Int)) := fun H1 e Q q =>
  ha H1 e _ fun H2 e2 => ⟨p, xs, rfl, Or.inr (ex_t (e.trans e2) h), q H2 e2⟩
theorem ev_ixL {p : Addr} {xs : List V} {i : Int} {v : V} (ha : Ev ta σ H (.ref p)) (hb : Ev tb σ H (.int i)) (h : SqL K H p xs) (hi : atI xs i = some v) : Ev (tOp (rIxL K) ta tb) σ H v := ev_op ha hb (rv_ixL h hi)
theorem ev_ixT {p : Addr} {xs : List V} {i : Int} {v : V} (ha : Ev ta σ H (.ref p)) (hb : Ev tb σ H (.int i)) (h : SqT K H p xs) (hi : atI xs i = some v) : Ev (tOp (rIxT K) ta tb) σ H v := ev_op ha hb (rv_ixT h hi)
/-- an item of a list that is written there -/
theorem ev_ixN {xs : List V} {i : Int} {v : V} (ha : EvL ta σ H xs) (hb : ∀ H1, Ex H H1 → Ev tb σ H1 (.int i)) (hi : atI xs i = some v) : Ev (tOp (rIxL K) ta tb) σ H v := ev_opL1 ha hb fun p H1 h1 _ => rv_ixL (sq_of h1) hi
theorem ev_ixS {z : Str} {i : Int} {c : Nat} (ha : Ev ta σ H (.str z)) (hb : Ev tb σ H (.int i)) (hz : z.length ≤ 100000) (hi : atI z.cps.toList i = some c) : Ev (tOp rIxS ta tb) σ H (.str ⟨#[c]⟩) := ev_op ha hb (rv_ixS hz hi)
theorem ev_addS {x y : Str} (ha : Ev ta σ H (.str x)) (hb : Ev tb σ H (.str y)) (hz : x.length + y.length ≤ 16777216) : Ev (tOp (fun x y H Q => ∃ i j, x = V.str i ∧ y = V.str j ∧ i.length + j.length ≤ sizeLine ∧ Q (.str (i ++ j)) H) ta tb) σ H (.str (x ++ y)) :=
  ev_op ha hb fun H1 _ Q q => ⟨x, y, rfl, rfl, by rw [sizeLine_eq]; exact hz, q H1 (Ex.refl H1)⟩
theorem ev_neg {i : Int} (h : Ev te σ H (.int i)) : Ev (tUn (rU fun i => .int (-i)) te) σ H (.int (-i)) := ev_un h ru_neg
theorem ev_isN {v : V} (h : Ev te σ H v) : Ev (tOp (fun x y H Q => y = .non ∧ Q (.bl (decide (x = .non))) H) te (tC .non)) σ H (.bl (decide (v = .non))) := fun H1 e Q q => h H1 e _ fun H2 e2 => ⟨rfl, q H2 e2⟩
end
section
variable {σ : L2.St} {H : Hp} {te : TE}
theorem ev_isNt (h : Ev te σ H .non) : Ev (tOp (fun x y H Q => y = .non ∧ Q (.bl (decide (x = .non))) H) te (tC .non)) σ H (.bl true) := ev_is (ev_isN h) (congrArg V.bl (decide_eq_true rfl))
theorem ev_isNf {v : V} (h : Ev te σ H v) (hv : v ≠ .non := by intro z; cases z) : Ev (tOp (fun x y H Q => y = .non ∧ Q (.bl (decide (x = .non))) H) te (tC .non)) σ H (.bl false) := ev_is (ev_isN h) (congrArg V.bl (decide_eq_false hv))
end
theorem at_nat {xs : List V} {j : Nat} {v : V} (h : xs[j]? = some v) : atI xs (j : Int) = some v := atI_nat h
theorem sizeOk {n : Nat} (h : n ≤ 16777216) : n ≤ sizeLine := by rw [sizeLine_eq]; exact h

/-! ### texts, joins, comprehensions -/
theorem str_ext {a b : Str} (h : a.cps.toList = b.cps.toList) : a = b := by
  obtain ⟨a⟩ := a
  obtain ⟨b⟩ := b
  exact congrArg Str.mk (Array.toList_inj.mp h)
/-- the join of one-sign texts -/
theorem join_signs (l : List Nat) : Txt.join (Str.ofString "") (l.map fun c => (⟨#[c]⟩ : Str)) = ⟨l.toArray⟩ := by
  rw [TL.join_eq]
  refine str_ext ?_
  have key : ∀ l : List Nat, TL.joinL [] (l.map fun c => [c]) = l := fun l => by
    induction l with
    | nil => rfl
    | cons a r ih =>
      cases r with
      | nil => rfl
      | cons b r =>
        show [a] ++ ([] ++ TL.joinL [] ((b :: r).map fun c => [c])) = a :: b :: r
        rw [ih] <;> rfl
  have h := TL.tl_join (Str.ofString "") (l.map fun c => (⟨#[c]⟩ : Str))
  have e1 : TL.tl (Str.ofString "") = [] := by decide +kernel
  rw [e1, List.map_map] at h
  exact h.trans (key l)
theorem sum_ones (l : List Nat) : ((l.map fun c => (⟨#[c]⟩ : Str)).map (·.length)).sum = l.length := by
  induction l with
  | nil => rfl
  | cons a r ih =>
    rw [List.map_cons, List.map_cons, List.sum_cons, ih, List.length_cons]
    show 1 + r.length = r.length + 1
    omega
/-- a join of a new list of texts -/
theorem ev_joinN {K : PySem.W.Frag} {σ : L2.St} {H : Hp} {to te : TE} {a : Str} {ys : List Str} (h0 : Ev to σ H (.str a)) (h : EvL te σ H (ys.map V.str)) (hz : (ys.map (·.length)).sum + ys.length * a.length ≤ 16777216) :
    Ev (tM1 (fun x xs H Q => ∃ a p, ∃ ys : List Str, x = .str a ∧ xs = [.ref p] ∧ (SqL K H p (ys.map V.str) ∨ SqT K H p (ys.map V.str)) ∧ (ys.map (·.length)).sum + ys.length * a.length ≤ 16777216 ∧ Q (.str (Txt.join a ys)) H) to te) σ H (.str (Txt.join a ys)) :=
  fun H1 e Q q => h0 H1 e _ fun H2 e2 => ⟨⟨a, rfl⟩, h H2 (e.trans e2) _ fun p H3 hp e3 hl => ⟨a, p, ys, rfl, rfl, .inl (sq_of hl), hz, q H3 (e2.trans e3)⟩⟩
theorem given_all {n : Nat} {v : Nat → V} {xs : List V} (hn : xs.length = n) (h : ∀ i, i < n → xs[i]? = some (v i)) : given n (fun _ => true) v = xs := by
  unfold given
  rw [List.filter_eq_self.mpr (fun _ _ => rfl)]
  refine List.ext_getElem? fun i => ?_
  rw [List.getElem?_map]
  by_cases hi : i < n
  · rw [List.getElem?_range hi, h i hi] <;> rfl
  · rw [List.getElem?_eq_none (by rw [List.length_range]; omega), List.getElem?_eq_none (by omega)] <;> rfl
/-- [f(x) for x in a new list of ints] -/
theorem el_mapN {K : PySem.W.Frag} {σ : L2.St} {H : Hp} {tl te : TE} {j : Nat} {vs : List Nat} {ns : List Int} {f : Int → V} (h : EvL tl σ H (ns.map V.int)) (hz : ns.length ≤ 40000) (hw : ∀ x, wipe ((wipe σ vs).set j (some x)) vs = wipe σ vs)
    (he : ∀ n ∈ ns, ∀ H1, Ex H H1 → Ev te ((wipe σ vs).set j (some (.int n))) H1 (f n)) : EvL (tLc (iList K tl) (gName j) tYes te vs) σ H (ns.map f) := by
  have g : given (ns.map V.int).length (fun _ => true) (fun i => f (ns.getD i 0)) = ns.map f := given_all (by rw [List.length_map, List.length_map]) fun i hi => by
    rw [List.length_map] at hi
    rw [List.getElem?_map, List.getElem?_eq_getElem hi, List.getD_eq_getElem?_getD, List.getElem?_eq_getElem hi] <;> rfl
  rw [← g]
  refine el_lcNL (fun _ => true) (fun i => f (ns.getD i 0)) h (by rw [List.length_map]; exact hz) hw (fun i x H1 e1 hx => ?_) (fun i x H1 e1 hx _ => ?_)
  · exact fun H2 e2 Q q => q H2 (Ex.refl H2)
  · rw [List.getElem?_map] at hx
    cases e : ns[i]? with
    | none =>
      rw [e] at hx
      cases hx
    | some n =>
      rw [e] at hx
      have ex : x = .int n := (Option.some.inj hx).symm
      rw [ex, List.getD_eq_getElem?_getD, e]
      exact he n (List.mem_of_getElem? e) H1 e1
theorem atI_of {xs : List V} {n : Int} {v : V} (h0 : 0 ≤ n) (h : xs[n.toNat]? = some v) : atI xs n = some v := by
  have e : n = ((n.toNat : Nat) : Int) := by omega
  rw [e]
  exact atI_nat (by simpa using h)
theorem at_cps {z : Str} {l : List Nat} (h : z.cps.toList = l) {n : Int} (h0 : 0 ≤ n) (h1 : n < l.length) : atI z.cps.toList n = some (l.getD n.toNat 0) := by
  rw [h]
  have e : n = ((n.toNat : Nat) : Int) := by omega
  have h3 : n.toNat < l.length := by omega
  have h4 : ixN l.length n = some n.toNat := by rw [e]; exact ixN_nat (by omega)
  unfold atI
  rw [h4]
  show l[n.toNat]? = some (l.getD n.toNat 0)
  rw [List.getElem?_eq_getElem h3, List.getD_eq_getElem?_getD, List.getElem?_eq_getElem h3]
  all_goals rfl

/-- the join of texts by their codes -/
theorem join_codes (l : List (List Nat)) : Txt.join (Str.ofString "") (l.map fun c => (⟨c.toArray⟩ : Str)) = ⟨l.flatten.toArray⟩ := by
  rw [TL.join_eq]
  refine str_ext ?_
  have key : ∀ l : List (List Nat), TL.joinL [] l = l.flatten := fun l => by
    induction l with
    | nil => rfl
    | cons a r ih =>
      cases r with
      | nil => simp [TL.joinL]
      | cons b r =>
        show a ++ ([] ++ TL.joinL [] (b :: r)) = (a :: b :: r).flatten
        rw [ih, List.nil_append]
        exact List.flatten_cons.symm
  have h := TL.tl_join (Str.ofString "") (l.map fun c => (⟨c.toArray⟩ : Str))
  have e1 : TL.tl (Str.ofString "") = [] := by decide +kernel
  have e2 : (l.map fun c => (⟨c.toArray⟩ : Str)).map TL.tl = l := by
    rw [List.map_map]
    exact List.map_id l
  rw [e1, e2] at h
  exact h.trans (key l)
theorem sum_codes (l : List (List Nat)) : ((l.map fun c => (⟨c.toArray⟩ : Str)).map (·.length)).sum = l.flatten.length := by
  induction l with
  | nil => rfl
  | cons a r ih =>
    rw [List.map_cons, List.map_cons, List.sum_cons, ih, List.flatten_cons, List.length_append] <;> rfl
/-- [f(x) for x in a tuple] -/
theorem el_mapT {K : PySem.W.Frag} {σ : L2.St} {H : Hp} {tl te : TE} {j : Nat} {vs : List Nat} {a : Addr} {xs ys : List V} (h : Ev tl σ H (.ref a)) (hx : SqT K H a xs) (hz : xs.length ≤ 40000) (hw : ∀ x, wipe ((wipe σ vs).set j (some x)) vs = wipe σ vs) (hl : ys.length = xs.length)
    (he : ∀ (i : Nat) (x y : V), xs[i]? = some x → ys[i]? = some y → ∀ H1, Ex H H1 → Ev te ((wipe σ vs).set j (some x)) H1 y) : EvL (tLc (iTup K tl) (gName j) tYes te vs) σ H ys := by
  intro H0 e Q q
  refine h H0 e _ fun H1 e1 => ⟨a, rfl, ⟨xs, ex_t (e.trans e1) hx⟩, fun Dl hD => ?_⟩
  refine lc_tup (xs := xs) (fun i H' => H1 Dl = none ∧ Ex H1 H' ∧ H' Dl = some (.lst (ys.take i))) ⟨hD, Ex.new hD, upd_same⟩ (fun i H' _ p => ex_t ((e.trans e1).trans p.2.1) hx) (fun i x H' hi p => ⟨hw x, ?_⟩) (fun H' p => ?_)
  · obtain ⟨p1, p2, p3⟩ := p
    have hi2 : i < ys.length := by
      have := (List.getElem?_eq_some_iff.mp hi).1
      omega
    have hy : ys[i]? = some ys[i] := List.getElem?_eq_getElem hi2
    show te ((wipe σ vs).set j (some x)) H' _
    refine he i x ys[i] hi hy H1 (e.trans e1) H' p2 _ fun H4 e4 => ⟨ys.take i, e4 Dl _ p3, sz_lt (by rw [List.length_take]; omega), p1, (p2.trans e4).mut p1, ?_⟩
    rw [upd_same, List.take_add_one, hy] <;> rfl
  · obtain ⟨p1, p2, p3⟩ := p
    rw [← hl, List.take_length] at p3
    exact q Dl H' (fresh_back e1 p1) (e1.trans p2) p3
/-- [f(x) for x in a list] -/
theorem el_mapL {K : PySem.W.Frag} {σ : L2.St} {H : Hp} {tl te : TE} {j : Nat} {vs : List Nat} {a : Addr} {xs ys : List V} (h : Ev tl σ H (.ref a)) (hx : SqL K H a xs) (hz : xs.length ≤ 40000) (hw : ∀ x, wipe ((wipe σ vs).set j (some x)) vs = wipe σ vs) (hl : ys.length = xs.length)
    (he : ∀ (i : Nat) (x y : V), xs[i]? = some x → ys[i]? = some y → ∀ H1, Ex H H1 → Ev te ((wipe σ vs).set j (some x)) H1 y) : EvL (tLc (iList K tl) (gName j) tYes te vs) σ H ys := by
  intro H0 e Q q
  refine h H0 e _ fun H1 e1 => ⟨a, rfl, ⟨xs, ex_l (e.trans e1) hx⟩, fun Dl hD => ?_⟩
  refine lc_list (xs := xs) (fun i H' => H1 Dl = none ∧ Ex H1 H' ∧ H' Dl = some (.lst (ys.take i))) ⟨hD, Ex.new hD, upd_same⟩ (fun i H' _ p => ex_l ((e.trans e1).trans p.2.1) hx) (fun i x H' hi p => ⟨hw x, ?_⟩) (fun H' p => ?_)
  · obtain ⟨p1, p2, p3⟩ := p
    have hi2 : i < ys.length := by
      have := (List.getElem?_eq_some_iff.mp hi).1
      omega
    have hy : ys[i]? = some ys[i] := List.getElem?_eq_getElem hi2
    show te ((wipe σ vs).set j (some x)) H' _
    refine he i x ys[i] hi hy H1 (e.trans e1) H' p2 _ fun H4 e4 => ⟨ys.take i, e4 Dl _ p3, sz_lt (by rw [List.length_take]; omega), p1, (p2.trans e4).mut p1, ?_⟩
    rw [upd_same, List.take_add_one, hy] <;> rfl
  · obtain ⟨p1, p2, p3⟩ := p
    rw [← hl, List.take_length] at p3
    exact q Dl H' (fresh_back e1 p1) (e1.trans p2) p3
/-- [f(k) for k in range(n)] -/
theorem el_mapR {σ : L2.St} {H : Hp} {ta : TA} {te : TE} {j : Nat} {vs : List Nat} {n : Nat} {ys : List V} (h : EvA ta σ H [.int (n : Int)]) (hz : n ≤ 40000) (hw : ∀ x, wipe ((wipe σ vs).set j (some x)) vs = wipe σ vs) (hl : ys.length = n)
    (he : ∀ (i : Nat) (y : V), i < n → ys[i]? = some y → ∀ H1, Ex H H1 → Ev te ((wipe σ vs).set j (some (.int (i : Int)))) H1 y) : EvL (tLc (iRng1 ta) (gName j) tYes te vs) σ H ys := by
  have g : given (n : Int).toNat (fun _ => true) (fun i => ys.getD i .non) = ys := given_all (by omega) fun i hi => by
    have hi2 : i < ys.length := by omega
    rw [List.getElem?_eq_getElem hi2, List.getD_eq_getElem?_getD, List.getElem?_eq_getElem hi2] <;> rfl
  rw [← g]
  refine el_lcR1 (fun _ => true) (fun i => ys.getD i .non) h (by omega) hw (fun i H1 e1 hi => ?_) (fun i H1 e1 hi _ => ?_)
  · exact fun H2 e2 Q q => q H2 (Ex.refl H2)
  · have hi2 : i < ys.length := by omega
    have hy : ys[i]? = some (ys.getD i .non) := by rw [List.getElem?_eq_getElem hi2, List.getD_eq_getElem?_getD, List.getElem?_eq_getElem hi2] <;> rfl
    exact he i _ (by omega) hy H1 e1
/-- for c in a text -/
theorem s_forS {σ : L2.St} {H : Hp} {te : TE} {tu : TS} {D : Ends} {j : Nat} {z : Str} (h : Ev te σ H (.str z)) (Pv : Nat → L2.St → Hp → Prop) (h0 : ∀ H1, Ex H H1 → Pv 0 σ H1)
    (hs : ∀ i c σ' H', z.cps.toList[i]? = some c → Pv i σ' H' → tu { D with nx := Pv (i + 1), ct := Pv (i + 1), bk := D.nx } (σ'.set j (some (.str ⟨#[c]⟩))) H') (hd : ∀ σ' H', Pv z.cps.toList.length σ' H' → D.nx σ' H') : tFor (iStr te) (gName j) tu D σ H := by
  refine h H (Ex.refl H) _ fun H1 e => ⟨z, rfl, fun i m σ' H' => m = z.cps.toList.length - i ∧ i ≤ z.cps.toList.length ∧ Pv i σ' H', ⟨_, rfl, Nat.zero_le _, h0 H1 e⟩, ?_⟩
  rintro i m σ' H' ⟨rfl, hi, p⟩
  by_cases hlt : i < z.cps.toList.length
  · refine .inr ⟨(by show i < z.cps.size; simpa using hlt), Pv (i + 1), fun σ2 H2 p2 => ⟨_, by omega, rfl, hlt, p2⟩, fun x H2 y => ?_⟩
    obtain ⟨rfl, c, hc, rfl⟩ := y
    exact hs i c σ' H2 (by simpa using hc) p
  · have ei : i = z.cps.toList.length := by omega
    subst ei
    exact .inl ⟨(by show z.cps.size ≤ z.cps.toList.length; simp), hd σ' H' p⟩
theorem q_forS {σ : L2.St} {H : Hp} {te : TE} {tu tz : TS} {D : Ends} {j : Nat} {z : Str} (h : Ev te σ H (.str z)) (Pv : Nat → L2.St → Hp → Prop) (h0 : ∀ H1, Ex H H1 → Pv 0 σ H1)
    (hs : ∀ i c σ' H', z.cps.toList[i]? = some c → Pv i σ' H' → tu { D with nx := Pv (i + 1), ct := Pv (i + 1), bk := tz D } (σ'.set j (some (.str ⟨#[c]⟩))) H') (hd : ∀ σ' H', Pv z.cps.toList.length σ' H' → tz D σ' H') : tSeq (tFor (iStr te) (gName j) tu) tz D σ H :=
  s_forS (D := { D with nx := tz D }) h Pv h0 hs hd
/-! ### isinstance against a built-in type; f-strings -/
theorem tyx_tup {K : PySem.W.Frag} {H : Hp} {a : Addr} {xs : List V} (h : SqT K H a xs) : TyX K H (.ref a) (.type "tuple") := by
  rcases h with (h | ⟨o, h⟩) | ⟨o, its, n, h, hc, _⟩
  · exact .base (.tup h)
  · exact .fTuple h
  · exact .kTuple h hc
theorem ev_isi {K : PySem.W.Frag} {σ : L2.St} {H : Hp} {te : TE} {x : V} {a b : String} {r : Bool} (h : Ev te σ H x) (ht : ∀ H1, Ex H H1 → TyX K H1 x (.type a)) (hk : kitB a b = some r) : Ev (tCB (rIsi K) (tCons te (tCons (tC (.ty b)) tNil))) σ H (.bl r) := fun H1 e Q q =>
  h H1 e _ fun H2 e2 => ⟨x, .ty b, .type a, .type b, r, rfl, .ty b, ht H2 (e.trans e2), kit_ty hk, q H2 e2⟩
/-- parts that evaluate to texts -/
inductive EvJ (σ : L2.St) (H : Hp) : List TE → List Str → Prop where
  | nil : EvJ σ H [] []
  | cons {t : TE} {ts : List TE} {y : Str} {ys : List Str} (h : Ev t σ H (.str y)) (r : EvJ σ H ts ys) : EvJ σ H (t :: ts) (y :: ys)
theorem evj_run {σ : L2.St} {H : Hp} {ts : List TE} {ys : List Str} (h : EvJ σ H ts ys) : ∀ (acc : Str) (H1 : Hp) (Q : Str → Hp → Prop), Ex H H1 → acc.length + (ys.map (·.length)).sum ≤ 16777216 → (∀ H2, Ex H1 H2 → Q (ys.foldl (· ++ ·) acc) H2) → tJs ts acc σ H1 Q := by
  induction h with
  | nil => exact fun acc H1 Q _ _ q => q H1 (Ex.refl H1)
  | @cons t ts y ys h r ih =>
    intro acc H1 Q e hz q
    rw [List.map_cons, List.sum_cons] at hz
    have el : (acc ++ y).length = acc.length + y.length := by
      show (acc.cps ++ y.cps).size = acc.cps.size + y.cps.size
      exact Array.size_append
    refine h H1 e _ fun H2 e2 => ⟨y, rfl, sizeOk (by rw [el]; omega), ih (acc ++ y) H2 Q (e.trans e2) (by rw [el]; omega) fun H3 e3 => q H3 (e2.trans e3)⟩
theorem ev_joined {σ : L2.St} {H : Hp} {ts : List TE} {ys : List Str} (h : EvJ σ H ts ys) (hz : (ys.map (·.length)).sum ≤ 16777216) : Ev (fun σ H Q => tJs ts Str.empty σ H fun out H1 => Q (.str out) H1) σ H (.str (ys.foldl (· ++ ·) Str.empty)) := fun H1 e Q q =>
  evj_run h Str.empty H1 _ e (by show 0 + _ ≤ _; omega) fun H2 e2 => q H2 e2
theorem ev_fmtS {σ : L2.St} {H : Hp} {te : TE} {y : Str} (h : Ev te σ H (.str y)) (hz : y.length ≤ 16777216) : Ev (tFmt te) σ H (.str y) := fun H1 e Q q => h H1 e _ fun H2 e2 => .inl ⟨y, rfl, sizeOk hz, q H2 e2⟩
theorem ev_fmtI {σ : L2.St} {H : Hp} {te : TE} {i : Int} (h : Ev te σ H (.int i)) (hz : i.natAbs.log2 < 1920) : Ev (tFmt te) σ H (.str (toString i)) := fun H1 e Q q => h H1 e _ fun H2 e2 => .inr ⟨i, rfl, hz, q H2 e2⟩
theorem ev_strI {σ : L2.St} {H : Hp} {te : TE} {i : Int} (h : Ev te σ H (.int i)) (hz : i.natAbs.log2 < 1920) : Ev (tCB (fun xs H Q => ∃ i : Int, xs = [V.int i] ∧ i.natAbs.log2 < 1920 ∧ Q (.str (toString i)) H) (tCons te tNil)) σ H (.str (toString i)) := fun H1 e Q q => h H1 e _ fun H2 e2 => ⟨i, rfl, hz, q H2 e2⟩
theorem ev_ordS {σ : L2.St} {H : Hp} {te : TE} {c : Nat} (h : Ev te σ H (.str ⟨#[c]⟩)) : Ev (tCB (fun xs H Q => ∃ x : Str, xs = [V.str x] ∧ x.length = 1 ∧ Q (.int (x.cps.getD 0 0 : Nat)) H) (tCons te tNil)) σ H (.int (c : Int)) := fun H1 e Q q => h H1 e _ fun H2 e2 => ⟨_, rfl, rfl, q H2 e2⟩
theorem ev_ends {σ : L2.St} {H : Hp} {to te : TE} {a b : Str} (h0 : Ev to σ H (.str a)) (h : Ev te σ H (.str b)) : Ev (tM1 (fun x xs H Q => ∃ a b, x = V.str a ∧ xs = [V.str b] ∧ Q (.bl (Txt.endswith a b)) H) to te) σ H (.bl (Txt.endswith a b)) := fun H1 e Q q =>
  h0 H1 e _ fun H2 e2 => ⟨⟨a, rfl⟩, h H2 (e.trans e2) _ fun H3 e3 => ⟨a, b, rfl, rfl, q H3 (e2.trans e3)⟩⟩
theorem ev_slS {σ : L2.St} {H : Hp} {te : TE} {tl th : TO} {z : Str} {lo hi : Option Int} (h : Ev te σ H (.str z)) (h1 : EvO tl σ H lo) (h2 : EvO th σ H hi) (hz : z.length ≤ 100000) : Ev (tSl rSlS te tl th) σ H (.str (cutS z lo hi)) := fun H1 e Q q =>
  h H1 e _ fun H2 e2 => h1 H2 (e.trans e2) _ fun H3 e3 => h2 H3 ((e.trans e2).trans e3) _ fun H4 e4 => ⟨z, rfl, sz_of hz, q H4 ((e2.trans e3).trans e4)⟩
/-- tuple(a new list) -/
theorem eu_ofN {K : PySem.W.Frag} {σ : L2.St} {H : Hp} {te : TE} {xs : List V} (h : EvL te σ H xs) : EvU (tCB (fun xs H Q => ∃ p ys, xs = [V.ref p] ∧ ((SqL K H p ys ∧ ∀ l, H l = none → Q (.ref l) (upd H l (.tup ys))) ∨ (SqT K H p ys ∧ Q (.ref p) H))) (tCons te tNil)) σ H xs := fun H1 e Q q =>
  h H1 e _ fun p H2 _ e2 hp => ⟨p, xs, rfl, .inl ⟨sq_of hp, fun l hl => q l _ (fresh_back e2 hl) (e2.trans (Ex.new hl)) upd_same⟩⟩
theorem eu_ofL {K : PySem.W.Frag} {σ : L2.St} {H : Hp} {te : TE} {p : Addr} {xs : List V} (h : Ev te σ H (.ref p)) (hx : SqL K H p xs) : EvU (tCB (fun xs H Q => ∃ p ys, xs = [V.ref p] ∧ ((SqL K H p ys ∧ ∀ l, H l = none → Q (.ref l) (upd H l (.tup ys))) ∨ (SqT K H p ys ∧ Q (.ref p) H))) (tCons te tNil)) σ H xs := fun H1 e Q q =>
  h H1 e _ fun H2 e2 => ⟨p, xs, rfl, .inl ⟨ex_l (e.trans e2) hx, fun l hl => q l _ (fresh_back e2 hl) (e2.trans (Ex.new hl)) upd_same⟩⟩
/-- a def that hands back a new tuple -/
def SpU (sp : Sp) (vs : List V) (H : Hp) (xs : List V) : Prop := ∀ H1, Ex H H1 → ∀ Q : VK, (∀ p H2, Ex H1 H2 → H2 p = some (.tup xs) → Q (.ref p) H2) → ∀ E : XK, sp vs H1 Q E
theorem q_callU {sp : Sp} {dvs vs xs : List V} {E : XK} {ta : TA} {σ : L2.St} {H : Hp} {tz : TS} {D : Ends} {i : Nat} (h : EvA ta σ H vs) (hs : SpU sp (vs ++ dvs) H xs) (k : ∀ p H1, Ex H H1 → H1 p = some (.tup xs) → tz D (σ.set i (some (.ref p))) H1) : tSeq (tAsg (tCall sp dvs E ta) (gName i)) tz D σ H :=
  h H (Ex.refl H) _ fun H2 e2 => hs H2 e2 _ (fun p H3 e3 hp => k p H3 (e2.trans e3) hp) E
theorem s_callU {sp : Sp} {dvs vs xs : List V} {E : XK} {ta : TA} {σ : L2.St} {H : Hp} {D : Ends} {i : Nat} (h : EvA ta σ H vs) (hs : SpU sp (vs ++ dvs) H xs) (k : ∀ p H1, Ex H H1 → H1 p = some (.tup xs) → D.nx (σ.set i (some (.ref p))) H1) : tAsg (tCall sp dvs E ta) (gName i) D σ H :=
  h H (Ex.refl H) _ fun H2 e2 => hs H2 e2 _ (fun p H3 e3 hp => k p H3 (e2.trans e3) hp) E
/-- a call whose one argument is a new tuple -/
theorem ev_callU {sp : Sp} {dvs xs : List V} {z : V} {E : XK} {te : TE} {σ : L2.St} {H : Hp} (h : EvU te σ H xs) (hs : ∀ p H1, H1 p = some (.tup xs) → Ex H H1 → SpV sp ([.ref p] ++ dvs) H1 z) : Ev (tCall sp dvs E (tCons te tNil)) σ H z := fun H1 e Q q =>
  h H1 e _ fun p H2 _ e2 hp => hs p H2 hp (e.trans e2) H2 (Ex.refl H2) Q (fun H3 e3 => q H3 (e2.trans e3)) E
/-- written tuples, one behind the other -/
def EvP (ta : TA) (σ : L2.St) (H : Hp) (xss : List (List V)) : Prop := ∀ H1, Ex H H1 → ∀ Q : List V → Hp → Prop, (∀ (ps : List Addr) H2, Ex H1 H2 → Paired (fun p xs => H2 p = some (.tup xs)) ps xss → Q (ps.map V.ref) H2) → ta σ H1 Q
theorem paired_mono {H H' : Hp} (e : Ex H H') : ∀ {ps : List Addr} {xss : List (List V)}, Paired (fun p xs => H p = some (.tup xs)) ps xss → Paired (fun p xs => H' p = some (.tup xs)) ps xss
  | _, _, .nil => .nil
  | _, _, .cons h r => .cons (e _ _ h) (paired_mono e r)
theorem ep_nil {σ : L2.St} {H : Hp} : EvP tNil σ H [] := fun H1 e Q q => q [] H1 (Ex.refl H1) .nil
theorem ep_cons {σ : L2.St} {H : Hp} {te : TE} {tr : TA} {xs : List V} {xss : List (List V)} (h : EvU te σ H xs) (r : EvP tr σ H xss) : EvP (tCons te tr) σ H (xs :: xss) := fun H1 e Q q =>
  h H1 e _ fun p H2 _ e2 hp => r H2 (e.trans e2) _ fun ps H3 e3 hr => q (p :: ps) H3 (e2.trans e3) (.cons (e3 p _ hp) hr)
theorem q_asgLP {ta : TA} {xss : List (List V)} {σ : L2.St} {H : Hp} {tz : TS} {D : Ends} {i : Nat} (h : EvP ta σ H xss) (hz : xss.length ≤ 100000) (k : ∀ p ps H1, Ex H H1 → H1 p = some (.lst (ps.map V.ref)) → Paired (fun p xs => H1 p = some (.tup xs)) ps xss → tz D (σ.set i (some (.ref p))) H1) :
    tSeq (tAsg (tLst ta) (gName i)) tz D σ H := h H (Ex.refl H) _ fun ps H1 e1 hps => by
  have el : ∀ {as : List Addr} {bs : List (List V)}, Paired (fun p xs => H1 p = some (.tup xs)) as bs → as.length = bs.length := fun h => by
    induction h with
    | nil => rfl
    | cons _ _ ih => exact congrArg (· + 1) ih
  exact ⟨sz_of (by rw [List.length_map, el hps]; exact hz), fun p hp => k p ps _ (e1.trans (Ex.new hp)) upd_same (paired_mono (Ex.new hp) hps)⟩
theorem paired_at {H : Hp} : ∀ {ps : List Addr} {xss : List (List V)}, Paired (fun p xs => H p = some (.tup xs)) ps xss → ∀ {i : Nat} {xs : List V}, xss[i]? = some xs → ∃ p, ps[i]? = some p ∧ H p = some (.tup xs)
  | _, _, .cons h _, 0, xs, e => by
    have e := Option.some.inj e
    subst e
    exact ⟨_, rfl, h⟩
  | _, _, .cons _ r, i + 1, xs, e => by
    obtain ⟨p, h1, h2⟩ := paired_at r (i := i) (by simpa using e)
    exact ⟨p, by simpa using h1, h2⟩
theorem paired_len {α β : Type} {R : α → β → Prop} : ∀ {as : List α} {bs : List β}, Paired R as bs → as.length = bs.length
  | _, _, .nil => rfl
  | _, _, .cons _ r => congrArg (· + 1) (paired_len r)
/-- a list that is tracked, and a new one behind it -/
theorem el_catV {K : PySem.W.Frag} {σ : L2.St} {H : Hp} {ta tb : TE} {p : Addr} {xs ys : List V} (ha : Ev ta σ H (.ref p)) (hp : H p = some (.lst xs)) (hb : EvL tb σ H ys) (hz : xs.length + ys.length ≤ 100000) : EvL (tOp rCat ta tb) σ H (xs ++ ys) := fun H1 e Q q =>
  ha H1 e _ fun H2 e2 => hb H2 (e.trans e2) _ fun r H3 hr e3 h3 => ⟨p, r, xs, ys, rfl, rfl, ((e.trans e2).trans e3) p _ hp, h3, sz_of hz, fun l hl => q l _ (fresh_back (e2.trans e3) hl) ((e2.trans e3).trans (Ex.new hl)) upd_same⟩
theorem codes_app {a b : Str} {x y : List Nat} (ha : a.cps.toList = x) (hb : b.cps.toList = y) : (a ++ b).cps.toList = x ++ y := by
  show (a.cps ++ b.cps).toList = x ++ y
  rw [Array.toList_append, ha, hb]
theorem str_len (z : Str) : z.length = z.cps.toList.length := by simp [Str.length]
theorem mk_of {z : Str} {l : List Nat} (h : z.cps.toList = l) : z = ⟨l.toArray⟩ := str_ext h
/-- long texts -/
theorem ev_lenB {σ : L2.St} {H : Hp} {te : TE} {z : Str} (h : Ev te σ H (.str z)) (hz : z.length ≤ 16777216) : Ev (tCB (fun xs H Q => ∃ z, xs = [V.str z] ∧ z.length ≤ sizeLine ∧ Q (.int z.length) H) (tCons te tNil)) σ H (.int (z.length : Int)) := fun H1 e Q q =>
  h H1 e _ fun H2 e2 => ⟨z, rfl, sizeOk hz, q H2 e2⟩
theorem ev_ixB {σ : L2.St} {H : Hp} {ta tb : TE} {z : Str} {i : Int} {c : Nat} (ha : Ev ta σ H (.str z)) (hb : Ev tb σ H (.int i)) (hz : z.length ≤ 16777216) (hi : atI z.cps.toList i = some c) : Ev (tOp rIxS ta tb) σ H (.str ⟨#[c]⟩) :=
  ev_op ha hb fun H1 _ _ q => ⟨z, i, c, rfl, rfl, sizeOk hz, hi, q H1 (Ex.refl H1)⟩
theorem ev_slB {σ : L2.St} {H : Hp} {te : TE} {tl th : TO} {z : Str} {lo hi : Option Int} (h : Ev te σ H (.str z)) (h1 : EvO tl σ H lo) (h2 : EvO th σ H hi) (hz : z.length ≤ 16777216) : Ev (tSl rSlS te tl th) σ H (.str (cutS z lo hi)) := fun H1 e Q q =>
  h H1 e _ fun H2 e2 => h1 H2 (e.trans e2) _ fun H3 e3 => h2 H3 ((e.trans e2).trans e3) _ fun H4 e4 => ⟨z, rfl, sizeOk hz, q H4 ((e2.trans e3).trans e4)⟩
theorem at_natS {l : List Nat} {j c : Nat} (h : l[j]? = some c) : atI l (j : Int) = some c := by
  have hj := (List.getElem?_eq_some_iff.mp h).1
  unfold atI
  rw [ixN_nat hj]
  exact h
theorem q_asgAug {σ : L2.St} {H : Hp} {te : TE} {tz : TS} {D : Ends} {i : Nat} {a b : Int} (hx : σ[i]? = some (some (.int a))) (h : Ev te σ H (.int b)) (k : ∀ H1, Ex H H1 → tz D (σ.set i (some (.int (a + b)))) H1) : tSeq (tAug i te (ipI fun i j => i + j)) tz D σ H := q_aug hx h k
theorem q_callV {sp : Sp} {dvs vs : List V} {E : XK} {ta : TA} {σ : L2.St} {H : Hp} {tz : TS} {D : Ends} {i : Nat} (h : EvA ta σ H vs) (k : ∀ H1, Ex H H1 → sp (vs ++ dvs) H1 (fun v H2 => tz D (σ.set i (some v)) H2) E) : tSeq (tAsg (tCall sp dvs E ta) (gName i)) tz D σ H := h H (Ex.refl H) _ fun H1 e1 => k H1 e1
/-! ### a small tactic: what an expression evaluates to -/
local macro_rules | `(tactic| walk_at "side") => `(tactic| first | assumption | decide | (show (0 : Int) < _; omega) | omega | (show CDivW _ _; exact ⟨by first | decide | omega, by decide⟩) | (show CPow _ _; exact ⟨by decide, by decide, by decide⟩) | (show CMulX _ _; (refine Wd.mul ?_ ?_ <;> walk_at "wd")))
local macro_rules | `(tactic| walk_at "wd") => `(tactic| first | assumption | exact Wd.lit (by decide) | exact Wd.small (by omega) (by omega) | (refine Wd.div ?_; walk_at "wd") | (refine Wd.mod ?_ ?_; (first | decide | omega); (walk_at "wd")) | (refine Wd.neg ?_; walk_at "wd"))
local macro_rules | `(tactic| walk_at "call") => `(tactic| fail "no call")
local macro_rules | `(tactic| walk_at "seq") => `(tactic| first | assumption | (refine ex_l ?_ ?_ <;> assumption) | exact sq_of (by assumption))
local macro_rules | `(tactic| walk_at "ev") => `(tactic| first
  | with_reducible exact ev_c
  | exact ev_var rfl
  | (refine ev_intI ?_; walk_at "ev")
  | (refine ev_bin0 ?_ ?_; (walk_at "ev"); (walk_at "ev"))
  | (refine ev_bin ?_ ?_ ?_; (walk_at "ev"); (walk_at "ev"); (walk_at "side"))
  | (refine ev_eqI ?_ ?_; (walk_at "ev"); (walk_at "ev"))
  | (refine ev_neI ?_ ?_; (walk_at "ev"); (walk_at "ev"))
  | (refine ev_eqS ?_ ?_; (walk_at "ev"); (walk_at "ev"))
  | (refine ev_neS ?_ ?_; (walk_at "ev"); (walk_at "ev"))
  | (refine ev_neg ?_; walk_at "ev")
  | walk_at "call")
local macro_rules | `(tactic| walk_at "et") => `(tactic| first
  | (refine et_test ?_; walk_at "ev")
  | (refine et_B ?_; walk_at "ev")
  | (refine et_not ?_; walk_at "et"))
local macro_rules | `(tactic| walk_at "ea") => `(tactic| first | exact ea_nil | (refine ea_cons ?_ ?_; (walk_at "ev"); (walk_at "ea")))


/-! ### a text times a number -/
theorem foldl_reps (a : Array Nat) : ∀ (m : Nat) (acc : Array Nat), ((List.replicate m a).foldl (· ++ ·) acc).toList = acc.toList ++ (List.replicate m a.toList).flatten
  | 0, acc => by simp
  | m + 1, acc => by
    rw [List.replicate_succ, List.replicate_succ, List.foldl_cons, foldl_reps a m (acc ++ a), Array.toList_append, List.flatten_cons, List.append_assoc]
def repC (z : Str) (n : Nat) : List Nat := (List.replicate n z.cps.toList).flatten
theorem op_repS {X : Cx} : OpR X (binaryOp .Mult) (fun x y H Q => ∃ (z : Str) (k : Int), x = V.str z ∧ y = V.int k ∧ 0 ≤ k ∧ z.length * k.toNat ≤ 16777216 ∧ k < 2 ^ 60 ∧ Q (.str ⟨(repC z k.toNat).toArray⟩) H) := by
  intro pins s σ H x y v u Q I rx ry h
  obtain ⟨z, k, rfl, rfl, h0, hz, hk, q⟩ := h
  obtain ⟨t, rfl⟩ := rx
  obtain ⟨t', rfl⟩ := ry
  have ez : z.length = z.cps.toList.length := by simp [Str.length]
  have hzi : (z.length : Int) * k ≤ 16777216 := by
    have e : ((z.length * k.toNat : Nat) : Int) = (z.length : Int) * k := by
      rw [Int.natCast_mul, Int.toNat_of_nonneg h0]
    omega
  refine PySem.P.mul_str ?_ (fun h1 _ z2 => ?_) (fun h1 _ => ?_) ?_
  · rw [decide_eq_false (by omega), decide_eq_false (by omega)] <;> rfl
  · have h3 : (z.length : Int) ≤ (2 ^ 63 - 1) / k := Int.le_ediv_of_mul_le (by omega) (by omega)
    omega
  · have : ¬ z.length * k.toNat > sizeLine := by
      rw [sizeLine_eq]
      omega
    unfold Builtin.Str.tooLong
    exact decide_eq_false this
  · have e1 : ∀ y : Str, y.cps.toList = repC z k.toNat → y = ⟨(repC z k.toNat).toArray⟩ := fun y hy => by
      obtain ⟨y⟩ := y
      exact congrArg Str.mk (Array.toList_inj.mp (hy.trans rfl))
    have er : (repC z k.toNat).length = k.toNat * z.length := by
      unfold repC
      rw [List.length_flatten, List.map_replicate, List.sum_replicate_nat, ez]
    split
    · have e2 : Str.empty = (⟨(repC z k.toNat).toArray⟩ : Str) := e1 _ (by
        have : k.toNat = 0 := by omega
        unfold repC
        rw [this] <;> rfl)
      refine ⟨by decide, ?_⟩
      rw [e2]
      exact ⟨.str ⟨(repC z k.toNat).toArray⟩, H, I.tok _, ⟨_, rfl⟩, q⟩
    · split
      · rename_i h1 h2
        have e2 : z = (⟨(repC z k.toNat).toArray⟩ : Str) := e1 _ (by
          unfold repC
          rw [Bool.or_eq_true, beq_iff_eq, beq_iff_eq] at h2
          rcases h2 with h2 | h2
          · rw [h2]
            show _ = (List.replicate 1 _).flatten
            simp
          · have : z.cps.toList = [] := List.length_eq_zero_iff.mp (by omega)
            rw [this]
            simp)
        show EP X pins σ Q _ _
        rw [← e2] at q
        exact ⟨.str z, H, I, ⟨t, rfl⟩, q⟩
      · have e2 : (⟨(List.replicate k.toNat z.cps).foldl (· ++ ·) #[]⟩ : Str) = ⟨(repC z k.toNat).toArray⟩ := e1 _ (by
          show ((List.replicate k.toNat z.cps).foldl (· ++ ·) #[]).toList = _
          rw [foldl_reps] <;> rfl)
        rw [e2]
        refine ⟨?_, ⟨.str ⟨(repC z k.toNat).toArray⟩, H, I.tok _, ⟨_, rfl⟩, q⟩⟩
        show (repC z k.toNat).toArray.size ≤ sizeLine
        rw [List.size_toArray, er, sizeLine_eq, Nat.mul_comm]
        exact hz
theorem ev_repS {σ : L2.St} {H : Hp} {ta tb : TE} {z : Str} {n : Nat} (ha : Ev ta σ H (.str z)) (hb : Ev tb σ H (.int (n : Int))) (hz : z.length * n ≤ 16777216) (hn : n ≤ 16777216) : Ev (tOp (fun x y H Q => ∃ (z : Str) (k : Int), x = V.str z ∧ y = V.int k ∧ 0 ≤ k ∧ z.length * k.toNat ≤ 16777216 ∧ k < 2 ^ 60 ∧ Q (.str ⟨(repC z k.toNat).toArray⟩) H) ta tb) σ H (.str ⟨(repC z n).toArray⟩) :=
  ev_op ha hb fun H1 _ Q q => ⟨z, n, rfl, rfl, by omega, hz, by omega, q H1 (Ex.refl H1)⟩


/-! ### items and their written form -/
inductive It where
  | non
  | int (i : Int)
  | str (z : Str)
  | tup (xs : List It)
def numC (i : Int) : List Nat := (toString i : Str).cps.toList
mutual
/-- the codes of the written item -/
def encC : It → List Nat
  | .non => [110]
  | .int i => 105 :: (numC i ++ [59])
  | .str z => 116 :: (numC (z.length : Int) ++ (58 :: z.cps.toList))
  | .tup xs => 40 :: (encL xs ++ [41])
def encL : List It → List Nat
  | [] => []
  | d :: ds => encC d ++ encL ds
end
theorem encL_flat : ∀ ds : List It, encL ds = (ds.map encC).flatten
  | [] => rfl
  | d :: ds => by
    show encC d ++ encL ds = _
    rw [encL_flat ds, List.map_cons, List.flatten_cons]
theorem encL_app : ∀ a b : List It, encL (a ++ b) = encL a ++ encL b
  | [], b => rfl
  | x :: a, b => by
    show encC x ++ encL (a ++ b) = encC x ++ encL a ++ encL b
    rw [encL_app a b, List.append_assoc]
theorem encC_pos (d : It) : 1 ≤ (encC d).length := by
  cases d with
  | non => exact Nat.le_refl 1
  | int i => show 1 ≤ (105 :: _).length; simp
  | str z => show 1 ≤ (116 :: _).length; simp
  | tup xs => show 1 ≤ (40 :: _).length; simp
theorem encL_mem : ∀ {ds : List It} {d : It}, d ∈ ds → (encC d).length ≤ (encL ds).length
  | d' :: ds, d, h => by
    show _ ≤ (encC d' ++ encL ds).length
    rw [List.length_append]
    rcases List.mem_cons.mp h with e | e
    · rw [e]; omega
    · have := encL_mem e; omega
mutual
/-- the value v of the heap is the item -/
inductive Dv (K : PySem.W.Frag) (H : Hp) : V → It → Prop
  | non : Dv K H .non .non
  | int (i : Int) : Dv K H (.int i) (.int i)
  | str (z : Str) : Dv K H (.str z) (.str z)
  | tup {a : Addr} {xs : List V} {ds : List It} (h : SqT K H a xs) (r : DvL K H xs ds) : Dv K H (.ref a) (.tup ds)
inductive DvL (K : PySem.W.Frag) (H : Hp) : List V → List It → Prop
  | nil : DvL K H [] []
  | cons {v : V} {vs : List V} {d : It} {ds : List It} (h : Dv K H v d) (r : DvL K H vs ds) : DvL K H (v :: vs) (d :: ds)
end
/-- all but lists stands as it stood -/
def ExN (H H' : Hp) : Prop := ∀ a o, H a = some o → (∀ xs, o ≠ .lst xs) → H' a = some o
theorem exN_t {K : PySem.W.Frag} {H H' : Hp} {a : Addr} {xs : List V} (e : ExN H H') (h : SqT K H a xs) : SqT K H' a xs := by
  rcases h with (h | ⟨o, h⟩) | h
  · exact .inl (.inl (e _ _ h fun _ z => nomatch z))
  · exact .inl (.inr ⟨o, e _ _ h fun _ z => nomatch z⟩)
  · exact .inr h
theorem Ex.n {H H' : Hp} (e : Ex H H') : ExN H H' := fun a o h _ => e a o h
theorem ExN.trans {H H1 H2 : Hp} (a : ExN H H1) (b : ExN H1 H2) : ExN H H2 := fun x o h n => b x o (a x o h n) n
theorem ExN.upd {H : Hp} {p : Addr} {xs : List V} {o : HO} (h : H p = some (.lst xs)) : ExN H (upd H p o) := fun a u e n => by
  rw [upd_ne (fun z => n xs (by rw [z, h] at e; exact (Option.some.inj e).symm))]
  exact e
mutual
theorem Dv.monoN {K : PySem.W.Frag} {H H' : Hp} (e : ExN H H') : ∀ {v : V} {d : It}, Dv K H v d → Dv K H' v d
  | _, _, .non => .non
  | _, _, .int i => .int i
  | _, _, .str z => .str z
  | _, _, .tup h r => .tup (exN_t e h) (DvL.monoN e r)
theorem DvL.monoN {K : PySem.W.Frag} {H H' : Hp} (e : ExN H H') : ∀ {vs : List V} {ds : List It}, DvL K H vs ds → DvL K H' vs ds
  | _, _, .nil => .nil
  | _, _, .cons h r => .cons (Dv.monoN e h) (DvL.monoN e r)
end
theorem Dv.mono {K : PySem.W.Frag} {H H' : Hp} (e : Ex H H') {v : V} {d : It} (h : Dv K H v d) : Dv K H' v d := h.monoN (Ex.n e)
theorem DvL.mono {K : PySem.W.Frag} {H H' : Hp} (e : Ex H H') {vs : List V} {ds : List It} (h : DvL K H vs ds) : DvL K H' vs ds := h.monoN (Ex.n e)
theorem DvL.app {K : PySem.W.Frag} {H : Hp} : ∀ {vs us : List V} {ds es : List It}, DvL K H vs ds → DvL K H us es → DvL K H (vs ++ us) (ds ++ es)
  | _, _, _, _, .nil, h => h
  | _, _, _, _, .cons a r, h => .cons a (r.app h)
theorem DvL.take {K : PySem.W.Frag} {H : Hp} : ∀ {vs : List V} {ds : List It} (n : Nat), DvL K H vs ds → DvL K H (vs.take n) (ds.take n)
  | _, _, 0, _ => .nil
  | _, _, _ + 1, .nil => .nil
  | _, _, n + 1, .cons a r => .cons a (r.take n)
theorem DvL.drop {K : PySem.W.Frag} {H : Hp} : ∀ {vs : List V} {ds : List It} (n : Nat), DvL K H vs ds → DvL K H (vs.drop n) (ds.drop n)
  | _, _, 0, h => h
  | _, _, _ + 1, .nil => .nil
  | _, _, n + 1, .cons _ r => r.drop n
theorem DvL.len {K : PySem.W.Frag} {H : Hp} : ∀ {vs : List V} {ds : List It}, DvL K H vs ds → vs.length = ds.length
  | _, _, .nil => rfl
  | _, _, .cons _ r => congrArg (· + 1) r.len
theorem DvL.at {K : PySem.W.Frag} {H : Hp} : ∀ {vs : List V} {ds : List It}, DvL K H vs ds → ∀ {i : Nat} {v : V} {d : It}, vs[i]? = some v → ds[i]? = some d → Dv K H v d
  | _, _, .cons h _, 0, v, d, e1, e2 => by
    have e1 := Option.some.inj e1
    have e2 := Option.some.inj e2
    subst e1 e2
    exact h
  | _, _, .cons _ r, i + 1, v, d, e1, e2 => r.at (i := i) (by simpa using e1) (by simpa using e2)
/-- depth, width and sizes -/
def It.fit : Nat → It → Prop
  | 0, x => match x with
    | .non => True
    | .int i => -(10 ^ 60) < i ∧ i < 10 ^ 60
    | .str z => z.length ≤ 999999
    | .tup _ => False
  | n + 1, x => match x with
    | .non => True
    | .int i => -(10 ^ 60) < i ∧ i < 10 ^ 60
    | .str z => z.length ≤ 999999
    | .tup xs => xs.length ≤ 1000 ∧ ∀ y ∈ xs, It.fit n y
theorem log60 {i : Int} (h : -(10 ^ 60) < i ∧ i < 10 ^ 60) : i.natAbs.log2 < 1920 := by
  have e60 : (10 : Int) ^ 60 = 1000000000000000000000000000000000000000000000000000000000000 := by decide
  rw [e60] at h
  exact Nat.lt_of_lt_of_le (PySem.Flt.log2_lt_of (k := 256) (by decide) (by omega)) (by decide)
theorem fit_int60 {n : Nat} {i : Int} (h : It.fit n (.int i)) : -(10 ^ 60) < i ∧ i < 10 ^ 60 := by cases n <;> exact h
theorem fit_int {n : Nat} {i : Int} (h : It.fit n (.int i)) : i.natAbs.log2 < 1920 := log60 (fit_int60 h)
theorem fit_str {n : Nat} {z : Str} (h : It.fit n (.str z)) : z.length ≤ 999999 := by cases n <;> exact h
theorem It.fit_mono : ∀ {n m : Nat} {d : It}, It.fit n d → n ≤ m → It.fit m d
  | n, m, .non, _, _ => by cases m <;> trivial
  | n, m, .int i, h, _ => by
    have := fit_int60 h
    cases m <;> exact this
  | n, m, .str z, h, _ => by
    have := fit_str h
    cases m <;> exact this
  | 0, m, .tup xs, h, _ => h.elim
  | n + 1, 0, .tup xs, h, e => by omega
  | n + 1, m + 1, .tup xs, h, e => ⟨h.1, fun y hy => It.fit_mono (h.2 y hy) (by omega)⟩
def spEnc (K : PySem.W.Frag) (n : Nat) : Sp := fun vs H Q _ => ∃ (v : V) (d : It), vs = [v] ∧ Dv K H v d ∧ d.fit n ∧ (encC d).length ≤ 16000000 ∧ ∀ H', Ex H H' → Q (.str ⟨(encC d).toArray⟩) H'
theorem cv_enc {K : PySem.W.Frag} {n : Nat} {v : V} {d : It} {H : Hp} (h : Dv K H v d) (hf : d.fit n) (hz : (encC d).length ≤ 16000000) : SpV (spEnc K n) [v] H (.str ⟨(encC d).toArray⟩) := fun H1 e Q q E => ⟨v, d, rfl, h.mono e, hf, hz, fun H2 e2 => q H2 e2⟩
/-- '(' + ''.join([f(part) for part in item]) + ')' -/
theorem ev_parts {K : PySem.W.Frag} {σ : L2.St} {H : Hp} {te tl : TE} {j : Nat} {vs : List Nat} {a : Addr} {xs : List V} {ds : List It} {n : Nat} (hl : Ev tl σ H (.ref a)) (h : SqT K H a xs) (r : DvL K H xs ds) (hf : It.fit (n + 1) (.tup ds)) (hz : (encC (.tup ds)).length ≤ 16000000)
    (hw : ∀ x, wipe ((wipe σ vs).set j (some x)) vs = wipe σ vs)
    (he : ∀ (x : V) (d : It) H1, Ex H H1 → Dv K H1 x d → d.fit n → (encC d).length ≤ 16000000 → Ev te ((wipe σ vs).set j (some x)) H1 (.str ⟨(encC d).toArray⟩)) :
    Ev (tOp (fun x y H Q => ∃ i j, x = V.str i ∧ y = V.str j ∧ i.length + j.length ≤ sizeLine ∧ Q (.str (i ++ j)) H) (tOp (fun x y H Q => ∃ i j, x = V.str i ∧ y = V.str j ∧ i.length + j.length ≤ sizeLine ∧ Q (.str (i ++ j)) H) (tC (.str (Str.ofString "(")))
      (tM1 (fun x xs H Q => ∃ a p, ∃ ys : List Str, x = .str a ∧ xs = [.ref p] ∧ (SqL K H p (ys.map V.str) ∨ SqT K H p (ys.map V.str)) ∧ (ys.map (·.length)).sum + ys.length * a.length ≤ 16777216 ∧ Q (.str (Txt.join a ys)) H) (tC (.str (Str.ofString ""))) (tLc (iTup K tl) (gName j) tYes te vs)))
      (tC (.str (Str.ofString ")")))) σ H (.str ⟨(encC (.tup ds)).toArray⟩) := by
  have ez : (encC (.tup ds)).length = (encL ds).length + 2 := by
    show (40 :: (encL ds ++ [41])).length = _
    rw [List.length_cons, List.length_append] <;> rfl
  have ef : (encL ds) = (ds.map encC).flatten := encL_flat ds
  have ej : Txt.join (Str.ofString "") ((ds.map encC).map fun c => (⟨c.toArray⟩ : Str)) = ⟨(encL ds).toArray⟩ := by rw [join_codes, ef]
  have e1 : (⟨(encC (.tup ds)).toArray⟩ : Str) = Str.ofString "(" ++ Txt.join (Str.ofString "") ((ds.map encC).map fun c => (⟨c.toArray⟩ : Str)) ++ Str.ofString ")" := by
    refine str_ext ?_
    rw [ej]
    have a1 : (Str.ofString "(").cps.toList = [40] := by decide +kernel
    have a2 : (Str.ofString ")").cps.toList = [41] := by decide +kernel
    rw [codes_app (codes_app a1 rfl) a2]
    show 40 :: (encL ds ++ [41]) = _
    simp
  rw [e1]
  have l1 : (Str.ofString "(").length = 1 := by decide +kernel
  have l2 : (Str.ofString ")").length = 1 := by decide +kernel
  have l3 : (Str.ofString "(" ++ Txt.join (Str.ofString "") ((ds.map encC).map fun c => (⟨c.toArray⟩ : Str))).length = 1 + (encL ds).length := by
    rw [ej, str_len, codes_app (x := [40]) (by decide +kernel) rfl, List.length_append]
    simp
  have l4 : (Txt.join (Str.ofString "") ((ds.map encC).map fun c => (⟨c.toArray⟩ : Str))).length = (encL ds).length := by
    rw [ej, str_len]
  refine ev_addS (ev_addS ev_c (ev_joinN (K := K) ev_c (el_mapT (K := K) hl h ?_ hw ?_ fun i x y hx hy H1 ex => ?_) ?_) ?_) ev_c ?_
  · have := hf.1
    rw [r.len]; omega
  · rw [List.length_map, List.length_map, List.length_map, r.len]
  · rw [List.getElem?_map, List.getElem?_map, List.getElem?_map] at hy
    cases e : ds[i]? with
    | none =>
      rw [e] at hy
      cases hy
    | some d =>
      rw [e] at hy
      have ey : y = .str ⟨(encC d).toArray⟩ := (Option.some.inj hy).symm
      have hm := List.mem_of_getElem? e
      rw [ey]
      have := encL_mem hm
      exact he x d H1 ex ((r.at hx e).mono ex) (hf.2 d hm) (by omega)
  · rw [sum_codes, ← ef]
    show _ + _ * 0 ≤ 16777216
    omega
  · rw [l1, l4]; omega
  · rw [l3, l2]; omega
/-- return f'i{item};' -/
theorem enc_int {n : Nat} {i : Int} {σ : L2.St} {H : Hp} {D : Ends} (hf : It.fit n (.int i)) (hz : (encC (.int i)).length ≤ 16000000) (q : ∀ H1, Ex H H1 → D.rt (.str ⟨(encC (.int i)).toArray⟩) H1) {te : TE} (he : Ev te σ H (.int i) := by exact ev_var rfl) :
    tRet (fun σ H Q => tJs [tC (.str (Str.ofString "i")), tFmt te, tC (.str (Str.ofString ";"))] Str.empty σ H fun out H1 => Q (.str out) H1) D σ H := by
  have a1 : (Str.ofString "i").cps.toList = [105] := by decide +kernel
  have a2 : (Str.ofString ";").cps.toList = [59] := by decide +kernel
  have a0 : (Str.empty).cps.toList = [] := by decide +kernel
  have ey : ([Str.ofString "i", (toString i : Str), Str.ofString ";"].foldl (· ++ ·) Str.empty : Str) = ⟨(encC (.int i)).toArray⟩ := mk_of (by
    show (((Str.empty ++ Str.ofString "i") ++ (toString i : Str)) ++ Str.ofString ";").cps.toList = _
    rw [codes_app (codes_app (codes_app a0 a1) rfl) a2]
    show _ = 105 :: (numC i ++ [59])
    simp [numC])
  refine s_ret (ev_is (ev_joined (.cons ev_c (.cons (ev_fmtI he (fit_int hf)) (.cons ev_c .nil))) ?_) (congrArg V.str ey)) q
  have e1 : (encC (.int i)).length = 2 + (numC i).length := by
    show (105 :: (numC i ++ [59])).length = _
    rw [List.length_cons, List.length_append, List.length_singleton]
    omega
  have e2 : ([Str.ofString "i", (toString i : Str), Str.ofString ";"].map (·.length)).sum = 1 + ((numC i).length + (1 + 0)) := by
    show (Str.ofString "i").length + ((toString i : Str).length + ((Str.ofString ";").length + 0)) = _
    rw [str_len, str_len, str_len, a1, a2] <;> rfl
  omega
/-- return f't{len(item)}:{item}' -/
theorem enc_str {n : Nat} {z : Str} {σ : L2.St} {H : Hp} {D : Ends} (hf : It.fit n (.str z)) (hz : (encC (.str z)).length ≤ 16000000) (q : ∀ H1, Ex H H1 → D.rt (.str ⟨(encC (.str z)).toArray⟩) H1) {te : TE} (he : Ev te σ H (.str z) := by exact ev_var rfl) :
    tRet (fun σ H Q => tJs [tC (.str (Str.ofString "t")), tFmt (tCB (fun xs H Q => ∃ z, xs = [V.str z] ∧ z.length ≤ sizeLine ∧ Q (.int z.length) H) (tCons te tNil)), tC (.str (Str.ofString ":")), tFmt te] Str.empty σ H fun out H1 => Q (.str out) H1) D σ H := by
  have a1 : (Str.ofString "t").cps.toList = [116] := by decide +kernel
  have a2 : (Str.ofString ":").cps.toList = [58] := by decide +kernel
  have a0 : (Str.empty).cps.toList = [] := by decide +kernel
  have hl := fit_str hf
  have hl2 : z.length ≤ sizeLine := sizeOk (by omega)
  have hs : ((z.length : Int)).natAbs.log2 < 1920 := Nat.lt_of_lt_of_le (PySem.Flt.log2_lt_of (k := 64) (by decide) (by omega)) (by decide)
  have ey : ([Str.ofString "t", (toString (z.length : Int) : Str), Str.ofString ":", z].foldl (· ++ ·) Str.empty : Str) = ⟨(encC (.str z)).toArray⟩ := mk_of (by
    show ((((Str.empty ++ Str.ofString "t") ++ (toString (z.length : Int) : Str)) ++ Str.ofString ":") ++ z).cps.toList = _
    rw [codes_app (codes_app (codes_app (codes_app a0 a1) rfl) a2) rfl]
    show _ = 116 :: (numC (z.length : Int) ++ (58 :: z.cps.toList))
    simp [numC])
  refine s_ret (ev_is (ev_joined (.cons ev_c (.cons (ev_fmtI (fun H1 e Q q => he H1 e _ fun H2 e2 => ⟨z, rfl, hl2, q H2 e2⟩) hs) (.cons ev_c (.cons (ev_fmtS he (by omega)) .nil)))) ?_) (congrArg V.str ey)) q
  have e1 : (encC (.str z)).length = 2 + (numC (z.length : Int)).length + z.cps.toList.length := by
    show (116 :: (numC (z.length : Int) ++ (58 :: z.cps.toList))).length = _
    rw [List.length_cons, List.length_append, List.length_cons]
    omega
  have e2 : ([Str.ofString "t", (toString (z.length : Int) : Str), Str.ofString ":", z].map (·.length)).sum = 1 + ((numC (z.length : Int)).length + (1 + (z.cps.toList.length + 0))) := by
    show (Str.ofString "t").length + ((toString (z.length : Int) : Str).length + ((Str.ofString ":").length + (z.length + 0))) = _
    rw [str_len, str_len (toString _ : Str), str_len (Str.ofString ":"), str_len z, a1, a2] <;> rfl
  omega

def rCatS' : R2 := fun x y H Q => ∃ i j, x = V.str i ∧ y = V.str j ∧ i.length + j.length ≤ sizeLine ∧ Q (.str (i ++ j)) H
/-- return 'i' + str(item) + ';' -/
theorem wr_int {n : Nat} {i : Int} {σ : L2.St} {H : Hp} {D : Ends} (hf : It.fit n (.int i)) (hz : (encC (.int i)).length ≤ 16000000) (q : ∀ H1, Ex H H1 → D.rt (.str ⟨(encC (.int i)).toArray⟩) H1) {te : TE} (he : Ev te σ H (.int i) := by exact ev_var rfl) :
    tRet (tOp rCatS' (tOp rCatS' (tC (.str (Str.ofString "i"))) (tCB (fun xs H Q => ∃ i : Int, xs = [V.int i] ∧ i.natAbs.log2 < 1920 ∧ Q (.str (toString i)) H) (tCons te tNil))) (tC (.str (Str.ofString ";")))) D σ H := by
  have a1 : (Str.ofString "i").cps.toList = [105] := by decide +kernel
  have a2 : (Str.ofString ";").cps.toList = [59] := by decide +kernel
  have ey : ((Str.ofString "i" ++ (toString i : Str)) ++ Str.ofString ";") = (⟨(encC (.int i)).toArray⟩ : Str) := mk_of (by
    rw [codes_app (codes_app a1 rfl) a2]
    show _ = 105 :: (numC i ++ [59])
    simp [numC])
  have e1 : (encC (.int i)).length = 2 + (numC i).length := by
    show (105 :: (numC i ++ [59])).length = _
    rw [List.length_cons, List.length_append, List.length_singleton]
    omega
  have e3 : (toString i : Str).length = (numC i).length := str_len _
  have e2 : (Str.ofString "i" ++ (toString i : Str)).length = 1 + (numC i).length := by
    rw [str_len, codes_app a1 rfl, List.length_append] <;> rfl
  have l1 : (Str.ofString "i").length = 1 := by decide +kernel
  have l2 : (Str.ofString ";").length = 1 := by decide +kernel
  refine s_ret (ev_is (ev_addS (ev_addS ev_c (ev_strI he (fit_int hf)) ?_) ev_c ?_) (congrArg V.str ey)) q
  · rw [l1, e3]; omega
  · rw [e2, l2]; omega
/-- return 't' + str(len(item)) + ':' + item -/
theorem wr_str {n : Nat} {z : Str} {σ : L2.St} {H : Hp} {D : Ends} (hf : It.fit n (.str z)) (hz : (encC (.str z)).length ≤ 16000000) (q : ∀ H1, Ex H H1 → D.rt (.str ⟨(encC (.str z)).toArray⟩) H1) {te : TE} (he : Ev te σ H (.str z) := by exact ev_var rfl) :
    tRet (tOp rCatS' (tOp rCatS' (tOp rCatS' (tC (.str (Str.ofString "t"))) (tCB (fun xs H Q => ∃ i : Int, xs = [V.int i] ∧ i.natAbs.log2 < 1920 ∧ Q (.str (toString i)) H) (tCons (tCB (fun xs H Q => ∃ z, xs = [V.str z] ∧ z.length ≤ sizeLine ∧ Q (.int z.length) H) (tCons te tNil)) tNil))) (tC (.str (Str.ofString ":")))) te) D σ H := by
  have a1 : (Str.ofString "t").cps.toList = [116] := by decide +kernel
  have a2 : (Str.ofString ":").cps.toList = [58] := by decide +kernel
  have hl := fit_str hf
  have hl2 : z.length ≤ sizeLine := sizeOk (by omega)
  have hs : ((z.length : Int)).natAbs.log2 < 1920 := Nat.lt_of_lt_of_le (PySem.Flt.log2_lt_of (k := 64) (by decide) (by omega)) (by decide)
  have ey : (((Str.ofString "t" ++ (toString (z.length : Int) : Str)) ++ Str.ofString ":") ++ z) = (⟨(encC (.str z)).toArray⟩ : Str) := mk_of (by
    rw [codes_app (codes_app (codes_app a1 rfl) a2) rfl]
    show _ = 116 :: (numC (z.length : Int) ++ (58 :: z.cps.toList))
    simp [numC])
  have e1 : (encC (.str z)).length = 2 + (numC (z.length : Int)).length + z.cps.toList.length := by
    show (116 :: (numC (z.length : Int) ++ (58 :: z.cps.toList))).length = _
    rw [List.length_cons, List.length_append, List.length_cons]
    omega
  have e3 : (toString (z.length : Int) : Str).length = (numC (z.length : Int)).length := str_len _
  have e2 : (Str.ofString "t" ++ (toString (z.length : Int) : Str)).length = 1 + (numC (z.length : Int)).length := by
    rw [str_len, codes_app a1 rfl, List.length_append] <;> rfl
  have e4 : ((Str.ofString "t" ++ (toString (z.length : Int) : Str)) ++ Str.ofString ":").length = 2 + (numC (z.length : Int)).length := by
    rw [str_len, codes_app (codes_app a1 rfl) a2, List.length_append, List.length_append]
    show 1 + _ + 1 = _
    unfold numC
    omega
  have l1 : (Str.ofString "t").length = 1 := by decide +kernel
  have l2 : (Str.ofString ":").length = 1 := by decide +kernel
  have l4 := str_len z
  refine s_ret (ev_is (ev_addS (ev_addS (ev_addS ev_c (ev_strI (fun H1 e Q q => he H1 e _ fun H2 e2 => ⟨z, rfl, hl2, q H2 e2⟩) hs) ?_) ev_c ?_) he ?_) (congrArg V.str ey)) q
  · rw [l1, e3]; omega
  · rw [e2, l2]; omega
  · rw [e4]; omega
/-! ### sizes -/
theorem numC_len {i : Int} (h : i.natAbs.log2 < 1920) : (numC i).length ≤ 1921 := by
  have e := int_text_length_le (k := 1920) (by decide) h
  have e2 : (numC i).length = (toString i : Str).length := (str_len _).symm
  rw [e2]
  show (Str.ofString (toString i)).length ≤ 1921
  rw [PySem.ofString_length]
  exact e
theorem enc_int_len {i : Int} (h : i.natAbs.log2 < 1920) : (encC (.int i)).length ≤ 1923 := by
  have := numC_len h
  show (105 :: (numC i ++ [59])).length ≤ _
  rw [List.length_cons, List.length_append, List.length_singleton]
  omega
theorem enc_str_len {z : Str} (h : z.length ≤ 1000000) : (encC (.str z)).length ≤ 1923 + z.length := by
  have hs : ((z.length : Int)).natAbs.log2 < 1920 := Nat.lt_of_lt_of_le (PySem.Flt.log2_lt_of (k := 64) (by decide) (by omega)) (by decide)
  have := numC_len hs
  have e := str_len z
  show (116 :: (numC (z.length : Int) ++ (58 :: z.cps.toList))).length ≤ _
  rw [List.length_cons, List.length_append, List.length_cons]
  omega
/-- a value of the document: None, an int below 10 ** 60, a text of some signs -/
def It.sc : It → Prop
  | .non => True
  | .int i => -(10 ^ 60) < i ∧ i < 10 ^ 60
  | .str z => z.length ≤ 200
  | .tup _ => False
def vz : It → V
  | .non => .non
  | .int i => .int i
  | .str z => .str z
  | .tup _ => .non
theorem It.sc_fit {d : It} (h : d.sc) (n : Nat) : d.fit n := by
  cases d with
  | non => cases n <;> trivial
  | int i => cases n <;> exact h
  | str z =>
    have h : z.length ≤ 200 := h
    cases n <;> (show z.length ≤ 999999; omega)
  | tup xs => exact h.elim
theorem It.sc_len {d : It} (h : d.sc) : (encC d).length ≤ 2200 := by
  cases d with
  | non => show 1 ≤ 2200; decide
  | int i => exact Nat.le_trans (enc_int_len (log60 h)) (by decide)
  | str z =>
    have h : z.length ≤ 200 := h
    have := enc_str_len (z := z) (by omega)
    omega
  | tup xs => exact h.elim
theorem Dv.sc {K : PySem.W.Frag} {H : Hp} {d : It} (h : d.sc) : Dv K H (vz d) d := by
  cases d with
  | non => exact .non
  | int i => exact .int i
  | str z => exact .str z
  | tup xs => exact h.elim
theorem DvL.sc {K : PySem.W.Frag} {H : Hp} : ∀ {ds : List It}, (∀ d ∈ ds, d.sc) → DvL K H (ds.map vz) ds
  | [], _ => .nil
  | d :: ds, h => .cons (.sc (h d (List.mem_cons_self ..))) (.sc fun x hx => h x (List.mem_cons_of_mem _ hx))
theorem encL_len : ∀ {ds : List It} {m : Nat}, (∀ d ∈ ds, (encC d).length ≤ m) → (encL ds).length ≤ ds.length * m
  | [], m, _ => Nat.zero_le _
  | d :: ds, m, h => by
    have h1 := h d (List.mem_cons_self ..)
    have h2 := encL_len (ds := ds) (m := m) fun x hx => h x (List.mem_cons_of_mem _ hx)
    show (encC d ++ encL ds).length ≤ (ds.length + 1) * m
    rw [List.length_append, Nat.add_mul]
    omega
theorem enc_tup_len (ds : List It) : (encC (.tup ds)).length = (encL ds).length + 2 := by
  show (40 :: (encL ds ++ [41])).length = _
  rw [List.length_cons, List.length_append] <;> rfl


/-- the digest -/
def digS (t : Int) (c : Nat) : Int := (31 * t + (c : Int)) % 1000003
def digZ (l : List Nat) : Int := l.foldl digS 7
theorem digZ_succ {l : List Nat} {i c : Nat} (h : l[i]? = some c) : digZ (l.take (i + 1)) = (31 * digZ (l.take i) + (c : Int)) % 1000003 := by
  unfold digZ
  rw [List.take_add_one, h]
  show ((l.take i) ++ [c]).foldl digS 7 = _
  rw [List.foldl_append] <;> rfl
theorem digZ_ge : ∀ (l : List Nat), 0 ≤ digZ l ∧ digZ l < 1000003 := by
  intro l
  unfold digZ
  have key : ∀ (l : List Nat) (t : Int), 0 ≤ t ∧ t < 1000003 → 0 ≤ l.foldl digS t ∧ l.foldl digS t < 1000003 := by
    intro l
    induction l with
    | nil => exact fun t h => h
    | cons a r ih => exact fun t _ => ih (digS t a) ⟨Int.emod_nonneg (31 * t + (a : Int)) (by decide : (1000003 : Int) ≠ 0), Int.emod_lt_of_pos (31 * t + (a : Int)) (by decide : (0 : Int) < 1000003)⟩
  exact key l 7 ⟨by decide, by decide⟩
def spDig : Sp := fun vs H Q _ => ∃ z : Str, vs = [.str z] ∧ ∀ H', Ex H H' → Q (.int (digZ z.cps.toList)) H'
theorem cv_dig {z : Str} {H : Hp} : SpV spDig [.str z] H (.int (digZ z.cps.toList)) := fun H1 e Q q E => ⟨z, rfl, fun H2 e2 => q H2 e2⟩


/-! ### what is read back -/
theorem numC_nat (n : Nat) : numC ((n : Nat) : Int) = TL.numL n := TL.tl_num n
theorem neg_text (n : Nat) : (toString (Int.negSucc n) : String) = "-" ++ toString ((n + 1 : Nat) : Int) := rfl
theorem ofString_app (a b : String) : Str.ofString (a ++ b) = Str.ofString a ++ Str.ofString b := by
  refine str_ext ?_
  rw [codes_app (signs_ofString a) (signs_ofString b), signs_ofString, String.toList_append, List.map_append]
theorem numC_neg (n : Nat) : numC (Int.negSucc n) = 45 :: TL.numL (n + 1) := by
  show (Str.ofString (toString (Int.negSucc n))).cps.toList = _
  rw [neg_text, ofString_app, codes_app (x := [45]) (by decide +kernel) rfl]
  exact congrArg (List.cons 45) (numC_nat (n + 1))
/-- digits without a leading zero -/
structure Digs (ds : List Nat) (most : Nat) : Prop where
  all : ∀ c ∈ ds, 48 ≤ c ∧ c ≤ 57
  ne : ds ≠ []
  len : ds.length ≤ most
  lead : ds.length = 1 ∨ ds.head? ≠ some 48
theorem numL_head : ∀ n : Nat, (TL.numL n).length = 1 ∨ (TL.numL n).head? ≠ some 48 := by
  intro n
  induction n using Nat.strongRecOn with
  | _ n ih =>
    by_cases h : n < 10
    · exact .inl (by rw [TL.numL_lt h] <;> rfl)
    · refine .inr ?_
      have h10 : 10 ≤ n := by omega
      rw [TL.numL_step h10]
      have hne := TL.numL_ne (n / 10)
      cases e : TL.numL (n / 10) with
      | nil => exact absurd e hne
      | cons c r =>
        show some c ≠ some 48
        rcases ih (n / 10) (by omega) with h1 | h1
        · rw [e] at h1
          have hr : r = [] := List.length_eq_zero_iff.mp (by simpa using h1)
          subst hr
          have hq : n / 10 < 10 := by
            by_cases hq : n / 10 < 10
            · exact hq
            · rw [TL.numL_step (by omega)] at e
              have := congrArg List.length e
              have h3 := List.length_pos_iff.mpr (TL.numL_ne (n / 10 / 10))
              rw [List.length_append, List.length_singleton, List.length_singleton] at this
              omega
          rw [TL.numL_lt hq] at e
          have e2 : 48 + n / 10 = c := by simpa using e
          intro z
          have := Option.some.inj z
          omega
        · rw [e] at h1
          exact h1
theorem digs_num {n most : Nat} (hm : 0 < most) (h : n < 10 ^ most) : Digs (TL.numL n) most := ⟨TL.numL_digits n, TL.numL_ne n, TL.numL_len hm h, numL_head n⟩
theorem slice_app {l a b c : List Nat} (h : l = a ++ (b ++ c)) : (l.drop a.length).take b.length = b := by
  rw [h, List.drop_left, List.take_left]
/-- text[i:j] of a text that is known there -/
theorem cutS_at {z : Str} {a b c : List Nat} (h : z.cps.toList = a ++ (b ++ c)) : cutS z (some (a.length : Int)) (some ((a.length + b.length : Nat) : Int)) = ⟨b.toArray⟩ := by
  have el : z.length = a.length + (b.length + c.length) := by rw [str_len, h, List.length_append, List.length_append]
  unfold cutS
  rw [HT.sIx_nat, HT.sIx_nat, Nat.min_eq_left (by omega), Nat.min_eq_left (by omega), Nat.add_sub_cancel_left, slice_app h]
theorem int_at {i : Int} (h : -(10 ^ 60) < i ∧ i < 10 ^ 60) : intText? (⟨(numC i).toArray⟩ : Str) = some i ∧ (⟨(numC i).toArray⟩ : Str).length ≤ 640 := by
  have e60 : (10 : Int) ^ 60 = 1000000000000000000000000000000000000000000000000000000000000 := by decide
  have n60 : (10 : Nat) ^ 60 = 1000000000000000000000000000000000000000000000000000000000000 := by decide
  rw [e60] at h
  cases i with
  | ofNat n =>
    have hn : n < 10 ^ 60 := by
      rw [n60]
      have := h.2
      simp at this
      omega
    have hl := TL.numL_len (by decide) hn
    have e : (⟨(numC (Int.ofNat n)).toArray⟩ : Str) = Str.ofString (toString ((n : Nat) : Int)) := str_ext rfl
    refine ⟨?_, ?_⟩
    · rw [e]
      exact TL.int_num (by omega)
    · rw [str_len]
      show (numC ((n : Nat) : Int)).length ≤ 640
      rw [numC_nat]
      omega
  | negSucc n =>
    have hn : n + 1 < 10 ^ 60 := by
      rw [n60]
      have := h.1
      omega
    have hl := TL.numL_len (by decide) hn
    have ec : (⟨(numC (Int.negSucc n)).toArray⟩ : Str).cps.toList = 45 :: TL.numL (n + 1) := numC_neg n
    have ln : (⟨(numC (Int.negSucc n)).toArray⟩ : Str).length = (TL.numL (n + 1)).length + 1 := by rw [str_len, ec] <;> rfl
    refine ⟨?_, by omega⟩
    have := PySem.intText_neg ec (TL.numL_digits _) (TL.numL_ne _) (by omega)
    rw [TL.numL_val] at this
    rw [this]
    exact congrArg some (by omega)
/-! ### a chain of two comparisons of texts -/
theorem le_str1 (a c : Nat) : (!decide ((⟨#[c]⟩ : Str).cps.toList < (⟨#[a]⟩ : Str).cps.toList)) = decide (a ≤ c) := by
  have e : ((⟨#[c]⟩ : Str).cps.toList < (⟨#[a]⟩ : Str).cps.toList) ↔ c < a := by
    show ([c] : List Nat) < [a] ↔ c < a
    constructor
    · intro h
      cases h with
      | rel h => exact h
      | cons h => cases h
    · intro h
      exact List.Lex.rel h
  by_cases h : c < a
  · rw [decide_eq_true (e.mpr h), decide_eq_false (by omega)] <;> rfl
  · rw [decide_eq_false (fun z => h (e.mp z)), decide_eq_true (by omega)] <;> rfl
abbrev rLeS : R2 := fun x y H Q => ∃ i j, x = .str i ∧ y = .str j ∧ Q (.bl (!decide (j.cps.toList < i.cps.toList))) H
theorem et_dig {σ : L2.St} {H : Hp} {tb : TE} {c : Nat} (hb : Ev tb σ H (.str ⟨#[c]⟩)) : EvT (tTest (tChain rLeS rLeS (tC (.str (Str.ofString "0"))) tb (tC (.str (Str.ofString "9"))))) σ H (decide (48 ≤ c ∧ c ≤ 57)) := fun H1 e Q q => by
  have e0 : (Str.ofString "0") = ⟨#[48]⟩ := by decide +kernel
  have e9 : (Str.ofString "9") = ⟨#[57]⟩ := by decide +kernel
  refine hb H1 e _ fun H2 e2 => ⟨_, _, rfl, rfl, decide (48 ≤ c), ?_, ?_⟩
  · rw [e0]
    exact congrArg V.bl (le_str1 48 c)
  · by_cases h : 48 ≤ c
    · rw [decide_eq_true h]
      refine iteT ⟨_, _, rfl, rfl, decide (c ≤ 57), ?_, ?_⟩
      · rw [e9]
        exact congrArg V.bl (le_str1 c 57)
      · have : decide (48 ≤ c ∧ c ≤ 57) = decide (c ≤ 57) := decide_eq_decide.mpr ⟨fun z => z.2, fun z => ⟨h, z⟩⟩
        rw [← this]
        exact q H2 e2
    · rw [decide_eq_false h]
      refine iteF ⟨false, rfl, ?_⟩
      have : decide (48 ≤ c ∧ c ≤ 57) = false := decide_eq_false fun z => h z.1
      rw [← this]
      exact q H2 e2
theorem str1_eq {a c : Nat} : decide ((⟨#[c]⟩ : Str) = ⟨#[a]⟩) = decide (c = a) := decide_eq_decide.mpr ⟨fun h => by
  have := congrArg (fun s : Str => s.cps.toList) h
  simpa using this, fun h => by rw [h]⟩
def spDec (K : PySem.W.Frag) : Sp := fun vs H Q _ => ∃ (z : Str) (d : It), vs = [.str z] ∧ z = ⟨(encC d).toArray⟩ ∧ d.fit 12 ∧ (encC d).length ≤ 16000000 ∧ ∀ v H', Ex H H' → Dv K H' v d → Q v H'


/-! ### kinds -/
def kIn (k : Str) (xs : List String) : Bool := inV (.str k) (xs.map fun x => V.str (Str.ofString x))
def baseT (k : Str) : Str := if kIn k ["int", "int?"] then Str.ofString "int" else Str.ofString "text"
theorem ev_kinU {K : PySem.W.Frag} {σ : L2.St} {H : Hp} {ta tb : TE} {k : Str} {xs : List String} (ha : Ev ta σ H (.str k)) (hb : EvU tb σ H (xs.map fun x => V.str (Str.ofString x))) (hf : (xs.map fun x => V.str (Str.ofString x)).all flatV = true := by rfl) : Ev (tOp (rIn K false) ta tb) σ H (.bl (kIn k xs)) := ev_inU ha hb rfl hf
theorem ev_kinL {K : PySem.W.Frag} {σ : L2.St} {H : Hp} {ta tb : TE} {k : Str} {xs : List String} (ha : Ev ta σ H (.str k)) (hb : EvL tb σ H (xs.map fun x => V.str (Str.ofString x))) (hf : (xs.map fun x => V.str (Str.ofString x)).all flatV = true := by rfl) : Ev (tOp (rIn K false) ta tb) σ H (.bl (kIn k xs)) := ev_opL ha hb fun _ _ h _ => rv_isL (sq_of h) rfl hf
/-- None, an integer or a text -/
inductive Sc : V → Prop
  | non : Sc .non
  | int (i : Int) : Sc (.int i)
  | str (z : Str) : Sc (.str z)
def accB (k : Str) : V → Bool
  | .non => kIn k ["int?", "text?"]
  | .int _ => decide (baseT k = Str.ofString "int")
  | _ => !decide (baseT k = Str.ofString "int")


/-! ### names: a comprehension over a text, all, chains -/
theorem el_lcS {σ : L2.St} {H : Hp} {te tl : TE} {z : Str} {j : Nat} {vs : List Nat} {ys : List V} (h : Ev te σ H (.str z)) (hz : z.cps.toList.length ≤ 40000) (hw : ∀ x, wipe ((wipe σ vs).set j (some x)) vs = wipe σ vs) (hl : ys.length = z.cps.toList.length)
    (he : ∀ (i c : Nat) (y : V), z.cps.toList[i]? = some c → ys[i]? = some y → ∀ H1, Ex H H1 → Ev tl ((wipe σ vs).set j (some (.str ⟨#[c]⟩))) H1 y) : EvL (tLc (iStr te) (gName j) tYes tl vs) σ H ys := fun H0 e Q q => h H0 e _ fun H1 e1 => ⟨z, rfl, fun D hD => by
  have g : given z.cps.toList.length (fun _ => true) (fun i => ys.getD i .non) = ys := given_all hl fun i hi => by
    have hi2 : i < ys.length := by omega
    rw [List.getElem?_eq_getElem hi2, List.getD_eq_getElem?_getD, List.getElem?_eq_getElem hi2] <;> rfl
  refine ⟨fun i m H' => m = z.cps.toList.length - i ∧ i ≤ z.cps.toList.length ∧ Cw H1 (fun _ => true) (fun i => ys.getD i .non) D i H', ⟨_, rfl, Nat.zero_le _, hD, Ex.new hD, upd_same⟩, ?_⟩
  rintro i m H' ⟨rfl, hi, p⟩
  by_cases hlt : i < z.cps.toList.length
  · refine .inr ⟨(by show i < z.cps.size; simpa using hlt), Cw H1 (fun _ => true) (fun i => ys.getD i .non) D (i + 1), fun H2 p2 => ⟨_, by omega, rfl, hlt, p2⟩, fun x H2 y => ?_⟩
    obtain ⟨rfl, c, hc, rfl⟩ := y
    have hc' : z.cps.toList[i]? = some c := by simpa using hc
    have hi2 : i < ys.length := by omega
    have hy : ys[i]? = some (ys.getD i .non) := by rw [List.getElem?_eq_getElem hi2, List.getD_eq_getElem?_getD, List.getElem?_eq_getElem hi2] <;> rfl
    exact ⟨hw _, cw_turn p (by omega) (fun H3 e3 Q q => q H3 (Ex.refl H3)) fun _ => (he i c _ hc' hy H1 (e.trans e1))⟩
  · have ei : i = z.cps.toList.length := by omega
    subst ei
    refine .inl ⟨(by show z.cps.size ≤ z.cps.toList.length; simp), ?_⟩
    have p2 := p.2.2
    rw [g] at p2
    exact q D H' (fresh_back e1 p.1) (e1.trans p.2.1) p2⟩
theorem ev_allN {K : PySem.W.Frag} {σ : L2.St} {H : Hp} {te : TE} {bs : List Bool} (h : EvL te σ H (bs.map V.bl)) : Ev (tCB (rAll K) (tCons te tNil)) σ H (.bl (bs.all id)) := fun H1 e Q q =>
  h H1 e _ fun p H2 _ e2 hp => ⟨p, bs, rfl, sq_of hp, q H2 e2⟩
theorem ev_chainI {f g : Int → Int → V} {σ : L2.St} {H : Hp} {tb : TE} {i j k : Int} {a b : Bool} (hb : Ev tb σ H (.int j)) (hf : f i j = .bl a) (hg : g j k = .bl b) : Ev (tChain (rI0 f) (rI0 g) (tC (.int i)) tb (tC (.int k))) σ H (.bl (a && b)) := fun H1 e Q q =>
  hb H1 e _ fun H2 e2 => ⟨i, j, rfl, rfl, a, hf, by
    cases a with
    | true => exact iteT ⟨j, k, rfl, rfl, by rw [hg]; exact q H2 e2⟩
    | false => exact iteF (q H2 e2)⟩
theorem ev_chainS {σ : L2.St} {H : Hp} {tb : TE} {x y c : Nat} {sx sy : Str} (hx : sx = ⟨#[x]⟩) (hy : sy = ⟨#[y]⟩) (hb : Ev tb σ H (.str ⟨#[c]⟩)) : Ev (tChain rLeS rLeS (tC (.str sx)) tb (tC (.str sy))) σ H (.bl (decide (x ≤ c ∧ c ≤ y))) := fun H1 e Q q => by
  subst hx hy
  refine hb H1 e _ fun H2 e2 => ⟨_, _, rfl, rfl, decide (x ≤ c), congrArg V.bl (le_str1 x c), ?_⟩
  by_cases h : x ≤ c
  · rw [decide_eq_true h]
    refine iteT ⟨_, _, rfl, rfl, ?_⟩
    rw [le_str1 c y]
    have : decide (x ≤ c ∧ c ≤ y) = decide (c ≤ y) := decide_eq_decide.mpr ⟨fun z => z.2, fun z => ⟨h, z⟩⟩
    rw [← this]
    exact q H2 e2
  · rw [decide_eq_false h]
    refine iteF ?_
    have : decide (x ≤ c ∧ c ≤ y) = false := decide_eq_false fun z => h z.1
    rw [← this]
    exact q H2 e2
def lowerC (c : Nat) : Bool := decide (97 ≤ c ∧ c ≤ 122)
def nameB (z : Str) : Bool := decide (1 ≤ z.length ∧ z.length ≤ 12) && z.cps.toList.all lowerC


/-! ### data of the heap -/
mutual
theorem dp_mono {K : PySem.W.Frag} {H H' : Hp} (e : Ex H H') : ∀ {v : V} {d : PyData}, Dp K H v d → Dp K H' v d
  | _, _, .non => .non
  | _, _, .bl b => .bl b
  | _, _, .int i => .int i
  | _, _, .str z => .str z
  | _, _, .lst h r => .lst (ex_l e h) (dpa_mono e r)
  | _, _, .tup h r => .tup (ex_t e h) (dpa_mono e r)
theorem dpa_mono {K : PySem.W.Frag} {H H' : Hp} (e : Ex H H') : ∀ {vs : List V} {ds : List PyData}, DpAll K H vs ds → DpAll K H' vs ds
  | _, _, .nil => .nil
  | _, _, .cons h r => .cons (dp_mono e h) (dpa_mono e r)
end
theorem dpa_len {K : PySem.W.Frag} {H : Hp} : ∀ {vs : List V} {ds : List PyData}, DpAll K H vs ds → vs.length = ds.length
  | _, _, .nil => rfl
  | _, _, .cons _ r => congrArg (· + 1) (dpa_len r)
theorem dpa_app {K : PySem.W.Frag} {H : Hp} : ∀ {vs us : List V} {ds es : List PyData}, DpAll K H vs ds → DpAll K H us es → DpAll K H (vs ++ us) (ds ++ es)
  | _, _, _, _, .nil, h => h
  | _, _, _, _, .cons a r, h => .cons a (dpa_app r h)
theorem dpa_at {K : PySem.W.Frag} {H : Hp} : ∀ {vs : List V} {ds : List PyData}, DpAll K H vs ds → ∀ {i : Nat} {v : V}, vs[i]? = some v → ∃ d, ds[i]? = some d ∧ Dp K H v d
  | _, _, .cons h _, 0, v, e => by
    cases Option.some.inj e
    exact ⟨_, rfl, h⟩
  | _, _, .cons _ r, i + 1, v, e => by
    obtain ⟨d, h1, h2⟩ := dpa_at r (i := i) (by simpa using e)
    exact ⟨d, by simpa using h1, h2⟩
theorem dpa_get {K : PySem.W.Frag} {H : Hp} : ∀ {vs : List V} {ds : List PyData}, DpAll K H vs ds → ∀ {i : Nat} {d : PyData}, ds[i]? = some d → ∃ v, vs[i]? = some v ∧ Dp K H v d
  | _, _, .cons h _, 0, d, e => by
    cases Option.some.inj e
    exact ⟨_, rfl, h⟩
  | _, _, .cons _ r, i + 1, d, e => by
    obtain ⟨v, h1, h2⟩ := dpa_get r (i := i) (by simpa using e)
    exact ⟨v, by simpa using h1, h2⟩
/-- data without lists, bools and dicts, of nesting at most n -/
inductive Fl : Nat → PyData → Prop
  | non (n : Nat) : Fl n .none
  | int (n : Nat) (i : Int) : Fl n (.int i)
  | str (n : Nat) {z : Str} (h : SeqAt.shaped (.str z) = true) : Fl n (.str z)
  | tup {n : Nat} {ds : List PyData} (h : ∀ d ∈ ds, Fl n d) (hl : ds.length ≤ 1000 := by first | decide | simp) : Fl (n + 1) (.tuple ds)
theorem Fl.mono : ∀ {n m : Nat} {d : PyData}, Fl n d → n ≤ m → Fl m d
  | _, _, _, .non _, _ => .non _
  | _, _, _, .int _ i, _ => .int _ i
  | _, _, _, .str _ h, _ => .str _ h
  | n + 1, m + 1, _, .tup h l, e => .tup (fun d hd => (h d hd).mono (by omega)) l
  | n + 1, 0, _, .tup h _, e => by omega
mutual
theorem dp_monoN {K : PySem.W.Frag} {H H' : Hp} (e : ExN H H') : ∀ {n : Nat} {v : V} {d : PyData}, Fl n d → Dp K H v d → Dp K H' v d
  | _, _, _, .non _, .non => .non
  | _, _, _, .int _ i, .int _ => .int i
  | _, _, _, .str _ _, .str z => .str z
  | _ + 1, _, _, .tup f _, .tup h r => .tup (exN_t e h) (dpa_monoN e f r)
theorem dpa_monoN {K : PySem.W.Frag} {H H' : Hp} (e : ExN H H') : ∀ {n : Nat} {vs : List V} {ds : List PyData}, (∀ d ∈ ds, Fl n d) → DpAll K H vs ds → DpAll K H' vs ds
  | _, _, _, _, .nil => .nil
  | _, _, _, f, .cons h r => .cons (dp_monoN e (f _ (List.mem_cons_self ..)) h) (dpa_monoN e (fun d hd => f d (List.mem_cons_of_mem _ hd)) r)
end
theorem q_asgK {te : TE} {σ : L2.St} {H : Hp} {tz : TS} {D : Ends} {i : Nat} (k : te σ H fun v H1 => tz D (σ.set i (some v)) H1) : tSeq (tAsg te (gName i)) tz D σ H := k
theorem q_asgG {te : TE} {g : TG} {σ : L2.St} {H : Hp} {tz : TS} {D : Ends} (k : te σ H fun v H1 => g v σ H1 (tz D)) : tSeq (tAsg te g) tz D σ H := k
/-! ### equality of data -/
/-- no bool, no dict -/
inductive Pl : PyData → Prop
  | non : Pl .none
  | int (i : Int) : Pl (.int i)
  | str (z : Str) : Pl (.str z)
  | lst {ds : List PyData} (h : ∀ d ∈ ds, Pl d) : Pl (.list ds)
  | tup {ds : List PyData} (h : ∀ d ∈ ds, Pl d) : Pl (.tuple ds)
theorem Fl.pl : ∀ {n : Nat} {d : PyData}, Fl n d → Pl d
  | _, _, .non _ => .non
  | _, _, .int _ i => .int i
  | _, _, .str _ _ => .str _
  | _ + 1, _, .tup h _ => .tup fun d hd => (h d hd).pl
mutual
theorem eqv_iff : ∀ (d e : PyData), Pl d → Pl e → (PyData.eqv d e = true ↔ d = e)
  | .none, e, _, he => by cases he <;> simp [PyData.eqv]
  | .int i, e, _, he => by cases he <;> simp [PyData.eqv]
  | .str z, e, _, he => by cases he <;> simp [PyData.eqv]
  | .list xs, e, hd, he => by
    cases hd with
    | lst hd =>
      cases he with
      | lst he =>
        rename_i ys
        rw [show PyData.eqv (.list xs) (.list ys) = PyData.eqvAll xs ys by simp [PyData.eqv], eqvAll_iff xs ys hd he]
        simp
      | _ => simp [PyData.eqv]
  | .tuple xs, e, hd, he => by
    cases hd with
    | tup hd =>
      cases he with
      | tup he =>
        rename_i ys
        rw [show PyData.eqv (.tuple xs) (.tuple ys) = PyData.eqvAll xs ys by simp [PyData.eqv], eqvAll_iff xs ys hd he]
        simp
      | _ => simp [PyData.eqv]
  | .bool _, _, hd, _ => by cases hd
  | .dict _, _, hd, _ => by cases hd
theorem eqvAll_iff : ∀ (xs ys : List PyData), (∀ d ∈ xs, Pl d) → (∀ d ∈ ys, Pl d) → (PyData.eqvAll xs ys = true ↔ xs = ys)
  | [], [], _, _ => by simp [PyData.eqvAll]
  | [], y :: ys, _, _ => by simp [PyData.eqvAll]
  | x :: xs, [], _, _ => by simp [PyData.eqvAll]
  | x :: xs, y :: ys, hx, hy => by
    rw [show PyData.eqvAll (x :: xs) (y :: ys) = (PyData.eqv x y && PyData.eqvAll xs ys) by simp [PyData.eqvAll], Bool.and_eq_true,
      eqv_iff x y (hx x (List.mem_cons_self ..)) (hy y (List.mem_cons_self ..)), eqvAll_iff xs ys (fun d hd => hx d (List.mem_cons_of_mem _ hd)) (fun d hd => hy d (List.mem_cons_of_mem _ hd))]
    simp
end
noncomputable def eqB (d e : PyData) : Bool := PyData.eqv d e
theorem eqv_dec {d e : PyData} (hd : Pl d) (he : Pl e) [Decidable (d = e)] : PyData.eqv d e = decide (d = e) := by
  by_cases h : d = e
  · rw [decide_eq_true h]
    exact (eqv_iff d e hd he).mpr h
  · rw [decide_eq_false h]
    cases x : PyData.eqv d e with
    | false => rfl
    | true => exact absurd ((eqv_iff d e hd he).mp x) h
mutual
theorem canLay_fl : ∀ {n : Nat} {d : PyData}, Fl n d → d.canLay0 = true
  | _, .none, _ => by simp [PyData.canLay0]
  | _, .int _, _ => by simp [PyData.canLay0]
  | _, .str z, h => by
    cases h with
    | str _ h => exact SeqAt.canLay_of_shaped h
  | _, .tuple xs, h => by
    cases h with
    | tup h _ =>
      rw [show (PyData.tuple xs).canLay0 = PyData.canLayAll0 xs by simp [PyData.canLay0]]
      exact canLayAll_fl h
  | _, .bool _, h => by cases h
  | _, .list _, h => by cases h
  | _, .dict _, h => by cases h
theorem canLayAll_fl : ∀ {n : Nat} {ds : List PyData}, (∀ d ∈ ds, Fl n d) → PyData.canLayAll0 ds = true
  | _, [], _ => by simp [PyData.canLayAll0]
  | _, d :: ds, h => by
    rw [show PyData.canLayAll0 (d :: ds) = (d.canLay0 && PyData.canLayAll0 ds) by simp [PyData.canLayAll0], canLay_fl (h d (List.mem_cons_self ..)), canLayAll_fl fun x hx => h x (List.mem_cons_of_mem _ hx)] <;> rfl
end
mutual
theorem depth_fl : ∀ {n : Nat} {d : PyData}, Fl n d → d.depth ≤ n + 1
  | _, .none, _ => by simp [PyData.depth]
  | _, .int _, _ => by simp [PyData.depth]
  | _, .str z, _ => by simp [PyData.depth]
  | _ + 1, .tuple xs, .tup h _ => by
    rw [show (PyData.tuple xs).depth = 1 + PyData.depthAll xs by simp [PyData.depth, Nat.add_comm]]
    have := depthAll_fl h
    omega
  | _, .bool _, h => by cases h
  | _, .list _, h => by cases h
  | _, .dict _, h => by cases h
theorem depthAll_fl : ∀ {n : Nat} {ds : List PyData}, (∀ d ∈ ds, Fl n d) → PyData.depthAll ds ≤ n + 1
  | _, [], _ => by simp [PyData.depthAll]
  | n, d :: ds, h => by
    have h1 := depth_fl (h d (List.mem_cons_self ..))
    have h2 := depthAll_fl fun x hx => h x (List.mem_cons_of_mem _ hx)
    rw [show PyData.depthAll (d :: ds) = max d.depth (PyData.depthAll ds) by simp [PyData.depthAll]]
    omega
end
theorem shaped_fl {n : Nat} {d : PyData} (h : Fl n d) (hn : n ≤ 60) : SeqAt.shaped d = true := by
  have := depth_fl h
  unfold SeqAt.shaped
  rw [canLay_fl h, decide_eq_true (by omega)] <;> rfl
theorem shaped_lst {n : Nat} {ds : List PyData} (h : ∀ d ∈ ds, Fl n d) (hn : n ≤ 60) : SeqAt.shaped (.list ds) = true := by
  have := depthAll_fl h
  unfold SeqAt.shaped
  rw [show (PyData.list ds).canLay0 = PyData.canLayAll0 ds by simp [PyData.canLay0], canLayAll_fl h, decide_eq_true (by
    rw [show (PyData.list ds).depth = 1 + PyData.depthAll ds by simp [PyData.depth, Nat.add_comm]]
    omega)] <;> rfl
/-! ### what evaluates to data -/
def EP (K : PySem.W.Frag) (te : TE) (σ : L2.St) (H : Hp) (R : PyData → Prop) : Prop := ∀ H1, Ex H H1 → ∀ Q : VK, (∀ v d H2, Ex H1 H2 → R d → Dp K H2 v d → Q v H2) → te σ H1 Q
def EPA (K : PySem.W.Frag) (ta : TA) (σ : L2.St) (H : Hp) (R : List PyData → Prop) : Prop := ∀ H1, Ex H H1 → ∀ Q : List V → Hp → Prop, (∀ vs ds H2, Ex H1 H2 → R ds → DpAll K H2 vs ds → Q vs H2) → ta σ H1 Q
/-- a new list -/
def EPL (K : PySem.W.Frag) (te : TE) (σ : L2.St) (H : Hp) (R : List PyData → Prop) : Prop := ∀ H1, Ex H H1 → ∀ Q : VK, (∀ p vs ds H2, H1 p = none → Ex H1 H2 → H2 p = some (.lst vs) → R ds → DpAll K H2 vs ds → Q (.ref p) H2) → te σ H1 Q
section
variable {K : PySem.W.Frag} {σ : L2.St} {H : Hp} {te ta tb : TE}
theorem ep_is {v : V} {d : PyData} {R : PyData → Prop} (h : Ev te σ H v) (hd : Dp K H v d) (hr : R d) : EP K te σ H R := fun H1 e Q q => h H1 e _ fun H2 e2 => q v d H2 e2 hr (dp_mono (e.trans e2) hd)
theorem ep_int {i : Int} (h : Ev te σ H (.int i)) : EP K te σ H (· = .int i) := ep_is h (.int i) rfl
theorem ep_str {z : Str} (h : Ev te σ H (.str z)) : EP K te σ H (· = .str z) := ep_is h (.str z) rfl
theorem ep_non (h : Ev te σ H .non) : EP K te σ H (· = .none) := ep_is h .non rfl
theorem EP.imp {R S : PyData → Prop} (h : EP K te σ H R) (i : ∀ d, R d → S d) : EP K te σ H S := fun H1 e Q q => h H1 e Q fun v d H2 e2 r D => q v d H2 e2 (i d r) D
theorem EP.mono {R : PyData → Prop} {H' : Hp} (e : Ex H H') (h : EP K te σ H R) : EP K te σ H' R := fun H1 e1 => h H1 (e.trans e1)
theorem epa_nil : EPA K tNil σ H (· = []) := fun H1 _ _ q => q [] [] H1 (Ex.refl H1) rfl .nil
theorem epa_cons {tr : TA} {R : PyData → Prop} {S : List PyData → Prop} (h : EP K te σ H R) (r : EPA K tr σ H S) : EPA K (tCons te tr) σ H (fun ds => ∃ d r, ds = d :: r ∧ R d ∧ S r) := fun H1 e Q q =>
  h H1 e _ fun v d H2 e2 hr hd => r H2 (e.trans e2) _ fun vs ds H3 e3 hs hds => q (v :: vs) (d :: ds) H3 (e2.trans e3) ⟨d, ds, rfl, hr, hs⟩ (.cons (dp_mono e3 hd) hds)
theorem epa_c {tr : TA} {d : PyData} {ds : List PyData} (h : EP K te σ H (· = d)) (r : EPA K tr σ H (· = ds)) : EPA K (tCons te tr) σ H (· = d :: ds) := fun H1 e Q q =>
  h H1 e _ fun v d' H2 e2 hr hd => r H2 (e.trans e2) _ fun vs ds' H3 e3 hs hds => q (v :: vs) (d' :: ds') H3 (e2.trans e3) (by rw [hr, hs]) (.cons (dp_mono e3 hd) hds)
theorem ep_tup {ta : TA} {R : PyData → Prop} {S : List PyData → Prop} (h : EPA K ta σ H S) (i : ∀ ds, S ds → ds.length ≤ 100000 ∧ R (.tuple ds)) : EP K (tTup ta) σ H R := fun H1 e Q q =>
  h H1 e _ fun vs ds H2 e2 hs hds => ⟨sz_of (by rw [dpa_len hds]; exact (i ds hs).1), fun p hp => q _ _ _ (e2.trans (Ex.new hp)) (i ds hs).2 (.tup (st_of upd_same) (dpa_mono (Ex.new hp) hds))⟩
theorem ep_t {ta : TA} {ds : List PyData} (h : EPA K ta σ H (· = ds)) (hl : ds.length ≤ 100000) : EP K (tTup ta) σ H (· = .tuple ds) := ep_tup h fun ds' e => by
  rw [e]
  exact ⟨hl, rfl⟩
theorem epl_lst {ta : TA} {S : List PyData → Prop} (h : EPA K ta σ H S) (i : ∀ ds, S ds → ds.length ≤ 100000) : EPL K (tLst ta) σ H S := fun H1 e Q q =>
  h H1 e _ fun vs ds H2 e2 hs hds => ⟨sz_of (by rw [dpa_len hds]; exact i ds hs), fun p hp => q p vs ds _ (fresh_back e2 hp) (e2.trans (Ex.new hp)) upd_same hs (dpa_mono (Ex.new hp) hds)⟩
theorem EPL.ep {R : PyData → Prop} {S : List PyData → Prop} (h : EPL K te σ H S) (i : ∀ ds, S ds → R (.list ds)) : EP K te σ H R := fun H1 e Q q =>
  h H1 e _ fun p vs ds H2 hp e2 h2 hs hds => q _ _ H2 e2 (i ds hs) (.lst (sq_of h2) hds)
theorem s_retP {D : Ends} {R : PyData → Prop} (h : EP K te σ H R) (k : ∀ v d H1, Ex H H1 → R d → Dp K H1 v d → D.rt v H1) : tRet te D σ H := h H (Ex.refl H) _ k
theorem s_retPL {D : Ends} {S : List PyData → Prop} (h : EPL K te σ H S) (k : ∀ p vs ds H1, H p = none → Ex H H1 → H1 p = some (.lst vs) → S ds → DpAll K H1 vs ds → D.rt (.ref p) H1) : tRet te D σ H := h H (Ex.refl H) _ k
theorem q_asgP {D : Ends} {tz : TS} {i : Nat} {R : PyData → Prop} (h : EP K te σ H R) (k : ∀ v d H1, Ex H H1 → R d → Dp K H1 v d → tz D (σ.set i (some v)) H1) : tSeq (tAsg te (gName i)) tz D σ H := h H (Ex.refl H) _ k
theorem q_asgPL {D : Ends} {tz : TS} {i : Nat} {S : List PyData → Prop} (h : EPL K te σ H S) (k : ∀ p vs ds H1, H p = none → Ex H H1 → H1 p = some (.lst vs) → S ds → DpAll K H1 vs ds → tz D (σ.set i (some (.ref p))) H1) : tSeq (tAsg te (gName i)) tz D σ H := h H (Ex.refl H) _ k
theorem s_retTup {ta : TA} {D : Ends} {S : List PyData → Prop} (h : EPA K ta σ H S) (l : ∀ ds, S ds → ds.length ≤ 100000) (k : ∀ p ds H1, H p = none → Ex H H1 → S ds → Dp K H1 (.ref p) (.tuple ds) → D.rt (.ref p) H1) : tRet (tTup ta) D σ H :=
  h H (Ex.refl H) _ fun vs ds H1 e1 hs hds => ⟨sz_of (by rw [dpa_len hds]; exact l ds hs), fun p hp => k p ds _ (fresh_back e1 hp) (e1.trans (Ex.new hp)) hs (.tup (st_of upd_same) (dpa_mono (Ex.new hp) hds))⟩
/-- == and != of data -/
theorem ev_eqP {x y : V} {d e : PyData} {b : Bool} (ha : Ev ta σ H x) (hb : Ev tb σ H y) (hd : Dp K H x d) (he : Dp K H y e) (sd : SeqAt.shaped d = true) (se : SeqAt.shaped e = true) (hv : PyData.eqv d e = b) : Ev (tOp (rEqD K) ta tb) σ H (.bl b) :=
  ev_op ha hb fun H1 e1 _ q => ⟨d, e, dp_mono e1 hd, dp_mono e1 he, sd, se, by rw [hv]; exact q H1 (Ex.refl H1)⟩
theorem ev_neP {x y : V} {d e : PyData} {b : Bool} (ha : Ev ta σ H x) (hb : Ev tb σ H y) (hd : Dp K H x d) (he : Dp K H y e) (sd : SeqAt.shaped d = true) (se : SeqAt.shaped e = true) (hv : (!PyData.eqv d e) = b) : Ev (tOp (rNeD K) ta tb) σ H (.bl b) :=
  ev_op ha hb fun H1 e1 _ q => ⟨d, e, dp_mono e1 hd, dp_mono e1 he, sd, se, by rw [hv]; exact q H1 (Ex.refl H1)⟩
/-- [f(k) for k in range(n)] -/
theorem epl_mapR {ta : TA} {j : Nat} {vs : List Nat} {n : Nat} {R : Nat → PyData → Prop} (h : EvA ta σ H [.int (n : Int)]) (hz : n ≤ 40000) (hw : ∀ x, wipe ((wipe σ vs).set j (some x)) vs = wipe σ vs) {m : Nat} (hf : ∀ i d, R i d → Fl m d)
    (he : ∀ (i : Nat) H1, i < n → Ex H H1 → EP K te ((wipe σ vs).set j (some (.int (i : Int)))) H1 (R i)) : EPL K (tLc (iRng1 ta) (gName j) tYes te vs) σ H (fun ds => ds.length = n ∧ ∀ i d, ds[i]? = some d → R i d) := by
  intro H0 e Q q
  refine h H0 e _ fun H1 e1 => ⟨(n : Int), rfl, by omega, by omega, fun Dl hD => ?_⟩
  rw [show ((n : Int)).toNat = n by omega]
  refine lc_range (n := n) (fun i H' => H1 Dl = none ∧ Ex H1 H' ∧ ∃ us ds, H' Dl = some (.lst us) ∧ DpAll K H' us ds ∧ ds.length = i ∧ ∀ i d, ds[i]? = some d → R i d) ⟨hD, Ex.new hD, [], [], upd_same, .nil, rfl, fun i d z => nomatch z⟩ (fun i H' hi p => ⟨hw _, ?_⟩) (fun H' p => ?_)
  · obtain ⟨p1, p2, us, ds, p3, p4, p5, p6⟩ := p
    show te ((wipe σ vs).set j (some (.int (0 + (i : Int))))) H' _
    rw [Int.zero_add]
    refine he i H1 hi (e.trans e1) H' p2 _ fun v d H4 e4 hr hd => ⟨us, e4 Dl _ p3, sz_lt (by rw [dpa_len p4, p5]; omega), p1, (p2.trans e4).mut p1, us ++ [v], ds ++ [d], upd_same, ?_, by rw [List.length_append, p5] <;> rfl, fun k x hk => ?_⟩
    · exact dpa_app (dpa_monoN (ExN.upd (e4 Dl _ p3)) (fun x hx => by
        obtain ⟨k, hk⟩ := List.getElem?_of_mem hx
        exact hf k x (p6 k x hk)) (dpa_mono e4 p4)) (.cons (dp_monoN (ExN.upd (e4 Dl _ p3)) (hf i d hr) hd) .nil)
    · by_cases hlt : k < ds.length
      · rw [List.getElem?_append_left hlt] at hk
        exact p6 k x hk
      · rw [List.getElem?_append_right (by omega)] at hk
        have hk0 : k - ds.length = 0 := by
          by_cases z : k - ds.length = 0
          · exact z
          · rw [List.getElem?_eq_none (by simp; omega)] at hk
            cases hk
        rw [hk0] at hk
        have ek : k = i := by omega
        rw [ek, ← Option.some.inj hk]
        exact hr
  · obtain ⟨p1, p2, us, ds, p3, p4, p5, p6⟩ := p
    exact q Dl us ds H' (fresh_back e1 p1) (e1.trans p2) p3 ⟨p5, p6⟩ p4
end
section
variable {K : PySem.W.Frag} {σ : L2.St} {H : Hp} {te tl : TE}
theorem acc_add {K : PySem.W.Frag} {H H4 : Hp} {Dl : Addr} {us : List V} {ds : List PyData} {v : V} {d : PyData} {m : Nat} {R : Nat → PyData → Prop} (hf : ∀ i d, R i d → Fl m d) (e4 : Ex H H4) (p3 : H Dl = some (.lst us)) (p4 : DpAll K H us ds) (p6 : ∀ i d, ds[i]? = some d → R i d) (hr : R ds.length d) (hd : Dp K H4 v d) :
    DpAll K (upd H4 Dl (.lst (us ++ [v]))) (us ++ [v]) (ds ++ [d]) ∧ (ds ++ [d]).length = ds.length + 1 ∧ ∀ i x, (ds ++ [d])[i]? = some x → R i x := by
  refine ⟨dpa_app (dpa_monoN (n := m) (ExN.upd (e4 Dl _ p3)) (fun x hx => ?_) (dpa_mono e4 p4)) (.cons (dp_monoN (ExN.upd (e4 Dl _ p3)) (hf _ d hr) hd) .nil), by simp, fun k x hk => ?_⟩
  · obtain ⟨k, hk⟩ := List.getElem?_of_mem hx
    exact hf k x (p6 k x hk)
  · by_cases hlt : k < ds.length
    · rw [List.getElem?_append_left hlt] at hk
      exact p6 k x hk
    · rw [List.getElem?_append_right (by omega)] at hk
      have hk0 : k - ds.length = 0 := by
        by_cases z : k - ds.length = 0
        · exact z
        · rw [List.getElem?_eq_none (by simp; omega)] at hk
          cases hk
      rw [hk0] at hk
      have ek : k = ds.length := by omega
      rw [ek, ← Option.some.inj hk]
      exact hr
/-- [f(x) for x in a tuple] -/
theorem epl_mapT {j : Nat} {vs : List Nat} {a : Addr} {xs : List V} {R : Nat → PyData → Prop} (h : Ev tl σ H (.ref a)) (hx : SqT K H a xs) (hz : xs.length ≤ 40000) (hw : ∀ x, wipe ((wipe σ vs).set j (some x)) vs = wipe σ vs) {m : Nat} (hf : ∀ i d, R i d → Fl m d)
    (he : ∀ (i : Nat) x H1, xs[i]? = some x → Ex H H1 → EP K te ((wipe σ vs).set j (some x)) H1 (R i)) : EPL K (tLc (iTup K tl) (gName j) tYes te vs) σ H (fun ds => ds.length = xs.length ∧ ∀ i d, ds[i]? = some d → R i d) := by
  intro H0 e Q q
  refine h H0 e _ fun H1 e1 => ⟨a, rfl, ⟨xs, ex_t (e.trans e1) hx⟩, fun Dl hD => ?_⟩
  refine lc_tup (xs := xs) (fun i H' => H1 Dl = none ∧ Ex H1 H' ∧ ∃ us ds, H' Dl = some (.lst us) ∧ DpAll K H' us ds ∧ ds.length = i ∧ ∀ i d, ds[i]? = some d → R i d) ⟨hD, Ex.new hD, [], [], upd_same, .nil, rfl, fun i d z => nomatch z⟩ (fun i H' _ p => ex_t ((e.trans e1).trans p.2.1) hx) (fun i x H' hi p => ⟨hw x, ?_⟩) (fun H' p => ?_)
  · obtain ⟨p1, p2, us, ds, p3, p4, p5, p6⟩ := p
    have hi2 := (List.getElem?_eq_some_iff.mp hi).1
    show te ((wipe σ vs).set j (some x)) H' _
    refine he i x H1 hi (e.trans e1) H' p2 _ fun v d H4 e4 hr hd => ⟨us, e4 Dl _ p3, sz_lt (by rw [dpa_len p4, p5]; omega), p1, (p2.trans e4).mut p1, us ++ [v], ds ++ [d], upd_same, ?_⟩
    rw [← p5] at hr ⊢
    exact acc_add hf e4 p3 p4 p6 hr hd
  · obtain ⟨p1, p2, us, ds, p3, p4, p5, p6⟩ := p
    exact q Dl us ds H' (fresh_back e1 p1) (e1.trans p2) p3 ⟨p5, p6⟩ p4
/-- [f(x) for x in a list] -/
theorem epl_mapL {j : Nat} {vs : List Nat} {a : Addr} {xs : List V} {R : Nat → PyData → Prop} (h : Ev tl σ H (.ref a)) (hx : SqL K H a xs) (hz : xs.length ≤ 40000) (hw : ∀ x, wipe ((wipe σ vs).set j (some x)) vs = wipe σ vs) {m : Nat} (hf : ∀ i d, R i d → Fl m d)
    (he : ∀ (i : Nat) x H1, xs[i]? = some x → Ex H H1 → EP K te ((wipe σ vs).set j (some x)) H1 (R i)) : EPL K (tLc (iList K tl) (gName j) tYes te vs) σ H (fun ds => ds.length = xs.length ∧ ∀ i d, ds[i]? = some d → R i d) := by
  intro H0 e Q q
  refine h H0 e _ fun H1 e1 => ⟨a, rfl, ⟨xs, ex_l (e.trans e1) hx⟩, fun Dl hD => ?_⟩
  refine lc_list (xs := xs) (fun i H' => H1 Dl = none ∧ Ex H1 H' ∧ ∃ us ds, H' Dl = some (.lst us) ∧ DpAll K H' us ds ∧ ds.length = i ∧ ∀ i d, ds[i]? = some d → R i d) ⟨hD, Ex.new hD, [], [], upd_same, .nil, rfl, fun i d z => nomatch z⟩ (fun i H' _ p => ex_l ((e.trans e1).trans p.2.1) hx) (fun i x H' hi p => ⟨hw x, ?_⟩) (fun H' p => ?_)
  · obtain ⟨p1, p2, us, ds, p3, p4, p5, p6⟩ := p
    have hi2 := (List.getElem?_eq_some_iff.mp hi).1
    show te ((wipe σ vs).set j (some x)) H' _
    refine he i x H1 hi (e.trans e1) H' p2 _ fun v d H4 e4 hr hd => ⟨us, e4 Dl _ p3, sz_lt (by rw [dpa_len p4, p5]; omega), p1, (p2.trans e4).mut p1, us ++ [v], ds ++ [d], upd_same, ?_⟩
    rw [← p5] at hr ⊢
    exact acc_add hf e4 p3 p4 p6 hr hd
  · obtain ⟨p1, p2, us, ds, p3, p4, p5, p6⟩ := p
    exact q Dl us ds H' (fresh_back e1 p1) (e1.trans p2) p3 ⟨p5, p6⟩ p4
end
/-- tuple(a new list of data) -/
theorem ep_tupOf {K : PySem.W.Frag} {σ : L2.St} {H : Hp} {te : TE} {R : PyData → Prop} {S : List PyData → Prop} (h : EPL K te σ H S) (i : ∀ ds, S ds → R (.tuple ds)) : EP K (tCB (rTupOf K) (tCons te tNil)) σ H R := fun H1 e Q q =>
  h H1 e _ fun p vs ds H2 _ e2 hp hs hds => ⟨p, vs, rfl, .inl ⟨sq_of hp, fun l hl => q _ _ _ (e2.trans (Ex.new hl)) (i ds hs) (.tup (st_of upd_same) (dpa_mono (Ex.new hl) hds))⟩⟩
theorem list_same {ds es : List PyData} (hl : ds.length = es.length) (h : ∀ (i : Nat) (d : PyData), ds[i]? = some d → es[i]? = some d) : ds = es := by
  refine List.ext_getElem? fun i => ?_
  by_cases hi : i < ds.length
  · rw [List.getElem?_eq_getElem hi]
    exact (h i _ (List.getElem?_eq_getElem hi)).symm
  · rw [List.getElem?_eq_none (by omega), List.getElem?_eq_none (by omega)]
/-- isinstance of data against tuple, list -/
def isTup : PyData → Bool
  | .tuple _ => true
  | _ => false
def isLst : PyData → Bool
  | .list _ => true
  | _ => false
def isStrD : PyData → Bool
  | .str _ => true
  | _ => false
def isIntD : PyData → Bool
  | .int _ => true
  | .bool _ => true
  | _ => false
def isBoolD : PyData → Bool
  | .bool _ => true
  | _ => false
theorem tyx_lst {K : PySem.W.Frag} {H : Hp} {a : Addr} {xs : List V} (h : SqL K H a xs) : TyX K H (.ref a) (.type "list") := by
  rcases h with (h | ⟨o, h⟩) | ⟨o, its, n, h, hc, _⟩
  · exact .base (.lst h)
  · exact .base (.frz h)
  · exact .kList h hc
theorem ev_isT {K : PySem.W.Frag} {σ : L2.St} {H : Hp} {te : TE} {x : V} {d : PyData} (h : Ev te σ H x) (hd : Dp K H x d) : Ev (tCB (rIsi K) (tCons te (tCons (tC (.ty "tuple")) tNil))) σ H (.bl (isTup d)) := by
  cases hd with
  | non => exact ev_isi (a := "NoneType") (r := false) h (fun _ _ => .base .non) (by decide +kernel)
  | bl b => exact ev_isi (a := "bool") (r := false) h (fun _ _ => .base (.bl b)) (by decide +kernel)
  | int i => exact ev_isi (a := "int") (r := false) h (fun _ _ => .base (.int i)) (by decide +kernel)
  | str z => exact ev_isi (a := "str") (r := false) h (fun _ _ => .base (.str z)) (by decide +kernel)
  | lst hs _ => exact ev_isi (a := "list") (r := false) h (fun H2 e2 => tyx_lst (ex_l e2 hs)) (by decide +kernel)
  | tup hs _ => exact ev_isi (a := "tuple") (r := true) h (fun H2 e2 => tyx_tup (ex_t e2 hs)) (by decide +kernel)
theorem ev_isL {K : PySem.W.Frag} {σ : L2.St} {H : Hp} {te : TE} {x : V} {d : PyData} (h : Ev te σ H x) (hd : Dp K H x d) : Ev (tCB (rIsi K) (tCons te (tCons (tC (.ty "list")) tNil))) σ H (.bl (isLst d)) := by
  cases hd with
  | non => exact ev_isi (a := "NoneType") (r := false) h (fun _ _ => .base .non) (by decide +kernel)
  | bl b => exact ev_isi (a := "bool") (r := false) h (fun _ _ => .base (.bl b)) (by decide +kernel)
  | int i => exact ev_isi (a := "int") (r := false) h (fun _ _ => .base (.int i)) (by decide +kernel)
  | str z => exact ev_isi (a := "str") (r := false) h (fun _ _ => .base (.str z)) (by decide +kernel)
  | lst hs _ => exact ev_isi (a := "list") (r := true) h (fun H2 e2 => tyx_lst (ex_l e2 hs)) (by decide +kernel)
  | tup hs _ => exact ev_isi (a := "tuple") (r := false) h (fun H2 e2 => tyx_tup (ex_t e2 hs)) (by decide +kernel)
theorem ev_isS {K : PySem.W.Frag} {σ : L2.St} {H : Hp} {te : TE} {x : V} {d : PyData} (h : Ev te σ H x) (hd : Dp K H x d) : Ev (tCB (rIsi K) (tCons te (tCons (tC (.ty "str")) tNil))) σ H (.bl (isStrD d)) := by
  cases hd with
  | non => exact ev_isi (a := "NoneType") (r := false) h (fun _ _ => .base .non) (by decide +kernel)
  | bl b => exact ev_isi (a := "bool") (r := false) h (fun _ _ => .base (.bl b)) (by decide +kernel)
  | int i => exact ev_isi (a := "int") (r := false) h (fun _ _ => .base (.int i)) (by decide +kernel)
  | str z => exact ev_isi (a := "str") (r := true) h (fun _ _ => .base (.str z)) (by decide +kernel)
  | lst hs _ => exact ev_isi (a := "list") (r := false) h (fun H2 e2 => tyx_lst (ex_l e2 hs)) (by decide +kernel)
  | tup hs _ => exact ev_isi (a := "tuple") (r := false) h (fun H2 e2 => tyx_tup (ex_t e2 hs)) (by decide +kernel)
theorem ev_isNum {K : PySem.W.Frag} {σ : L2.St} {H : Hp} {te : TE} {x : V} {d : PyData} (h : Ev te σ H x) (hd : Dp K H x d) : Ev (tCB (rIsi K) (tCons te (tCons (tC (.ty "int")) tNil))) σ H (.bl (isIntD d)) := by
  cases hd with
  | non => exact ev_isi (a := "NoneType") (r := false) h (fun _ _ => .base .non) (by decide +kernel)
  | bl b => exact ev_isi (a := "bool") (r := true) h (fun _ _ => .base (.bl b)) (by decide +kernel)
  | int i => exact ev_isi (a := "int") (r := true) h (fun _ _ => .base (.int i)) (by decide +kernel)
  | str z => exact ev_isi (a := "str") (r := false) h (fun _ _ => .base (.str z)) (by decide +kernel)
  | lst hs _ => exact ev_isi (a := "list") (r := false) h (fun H2 e2 => tyx_lst (ex_l e2 hs)) (by decide +kernel)
  | tup hs _ => exact ev_isi (a := "tuple") (r := false) h (fun H2 e2 => tyx_tup (ex_t e2 hs)) (by decide +kernel)
theorem ev_isBl {K : PySem.W.Frag} {σ : L2.St} {H : Hp} {te : TE} {x : V} {d : PyData} (h : Ev te σ H x) (hd : Dp K H x d) : Ev (tCB (rIsi K) (tCons te (tCons (tC (.ty "bool")) tNil))) σ H (.bl (isBoolD d)) := by
  cases hd with
  | non => exact ev_isi (a := "NoneType") (r := false) h (fun _ _ => .base .non) (by decide +kernel)
  | bl b => exact ev_isi (a := "bool") (r := true) h (fun _ _ => .base (.bl b)) (by decide +kernel)
  | int i => exact ev_isi (a := "int") (r := false) h (fun _ _ => .base (.int i)) (by decide +kernel)
  | str z => exact ev_isi (a := "str") (r := false) h (fun _ _ => .base (.str z)) (by decide +kernel)
  | lst hs _ => exact ev_isi (a := "list") (r := false) h (fun H2 e2 => tyx_lst (ex_l e2 hs)) (by decide +kernel)
  | tup hs _ => exact ev_isi (a := "tuple") (r := false) h (fun H2 e2 => tyx_tup (ex_t e2 hs)) (by decide +kernel)
/-- an item of a list or a tuple -/
def rIxD (K : PySem.W.Frag) : R2 := fun x y H Q => rIxL K x y H Q ∨ rIxT K x y H Q
theorem ix_any {X : Cx} {r1 r2 : R2} (h1 : IxR X r1) (h2 : IxR X r2) : IxR X (fun x y H Q => r1 x y H Q ∨ r2 x y H Q) := fun value slice pins s σ H x y v u Q I rx ry h hs => h.elim (fun h => h1 value slice pins s σ H x y v u Q I rx ry h hs) (fun h => h2 value slice pins s σ H x y v u Q I rx ry h hs)
theorem op_any {X : Cx} {f : Value → Value → Sem Value} {r1 r2 : R2} (h1 : OpR X f r1) (h2 : OpR X f r2) : OpR X f (fun x y H Q => r1 x y H Q ∨ r2 x y H Q) := fun pins s σ H x y v u Q I rx ry h => h.elim (fun h => h1 pins s σ H x y v u Q I rx ry h) (fun h => h2 pins s σ H x y v u Q I rx ry h)


/-! ### version texts -/
def mkS (l : List Nat) : Str := ⟨l.toArray⟩
theorem mkS_inj {a b : List Nat} (h : mkS a = mkS b) : a = b := by
  have := congrArg (fun z : Str => z.cps.toList) h
  simpa [mkS] using this
theorem mkS_codes (z : Str) : z = mkS z.cps.toList := mk_of rfl
theorem mkS_len (l : List Nat) : (mkS l).length = l.length := by rw [str_len] <;> rfl
def stC (c : Nat) : Bool := decide (c = 126 ∨ c = 94)
theorem tw_lt {p : Nat → Bool} : ∀ {l : List Nat} {i : Nat}, i < (l.takeWhile p).length → ∃ c, l[i]? = some c ∧ p c = true
  | [], i, h => by simp at h
  | a :: l, i, h => by
    by_cases ha : p a = true
    · rw [List.takeWhile_cons_of_pos ha] at h
      cases i with
      | zero => exact ⟨a, rfl, ha⟩
      | succ i =>
        obtain ⟨c, h1, h2⟩ := tw_lt (l := l) (i := i) (by simpa using h)
        exact ⟨c, by simpa using h1, h2⟩
    · rw [List.takeWhile_cons_of_neg ha] at h
      simp at h
theorem tw_eq {p : Nat → Bool} : ∀ {l : List Nat} {c : Nat}, l[(l.takeWhile p).length]? = some c → p c = false
  | [], c, h => by simp at h
  | a :: l, c, h => by
    by_cases ha : p a = true
    · rw [List.takeWhile_cons_of_pos ha] at h
      exact tw_eq (l := l) (by simpa using h)
    · rw [List.takeWhile_cons_of_neg ha] at h
      have e : a = c := by simpa using h
      rw [← e]
      simpa using ha
theorem tw_le (p : Nat → Bool) (l : List Nat) : (l.takeWhile p).length ≤ l.length := by
  induction l with
  | nil => simp
  | cons a l ih =>
    by_cases ha : p a = true
    · rw [List.takeWhile_cons_of_pos ha]; simp; exact ih
    · rw [List.takeWhile_cons_of_neg ha]; simp
/-- the length without the steps at the end -/
def rsz (l : List Nat) : Nat := l.length - (l.reverse.takeWhile stC).length
theorem rsz_le (l : List Nat) : rsz l ≤ l.length := Nat.sub_le _ _
theorem rev_at {l : List Nat} {i : Nat} (h : i < l.length) : l.reverse[i]? = l[l.length - 1 - i]? := by
  rw [List.getElem?_reverse h]
/-- what the law's own loop keeps -/
theorem rsz_step {l : List Nat} {k s : Nat} (hk : k < l.length) (hs : s = max (rsz l) (l.length - k)) : (0 < s → ∃ c, l[s - 1]? = some c ∧ (if stC c = true then s - 1 else s) = max (rsz l) (l.length - (k + 1))) ∧ (s = 0 → s = max (rsz l) (l.length - (k + 1))) := by
  have hw := tw_le stC l.reverse
  rw [List.length_reverse] at hw
  unfold rsz at *
  refine ⟨fun h0 => ?_, fun h0 => by omega⟩
  by_cases hkw : k < (l.reverse.takeWhile stC).length
  · obtain ⟨c, h1, h2⟩ := tw_lt hkw
    rw [rev_at hk] at h1
    have e : s - 1 = l.length - 1 - k := by omega
    refine ⟨c, by rw [e]; exact h1, ?_⟩
    rw [if_pos h2]
    omega
  · have hlt : l.length - (l.reverse.takeWhile stC).length - 1 < l.length := by omega
    have es : s = l.length - (l.reverse.takeWhile stC).length := by omega
    have hp : (l.reverse.takeWhile stC).length < l.length := by omega
    have e2 := rev_at hp
    obtain ⟨c, hc⟩ : ∃ c, l[s - 1]? = some c := ⟨_, List.getElem?_eq_getElem (by omega)⟩
    have e3 : l.reverse[(l.reverse.takeWhile stC).length]? = some c := by
      rw [e2, ← hc]
      congr 1
      omega
    have := tw_eq e3
    refine ⟨c, hc, ?_⟩
    rw [if_neg (by rw [this]; exact Bool.false_ne_true)]
    omega
def digC (c : Nat) : Bool := decide (48 ≤ c ∧ c ≤ 57)
def addrB (b : List Nat) : Bool := decide (1 ≤ b.length ∧ b.length ≤ 18) && (!decide (b.head? = some 48) && b.all digC)
def verD (b : List Nat) (s : Str) : Option PyData :=
  if b = [64] then some (.tuple [.str (Str.ofString "head"), .none, .str s])
  else if nameB (mkS b) = true then some (.tuple [.str (Str.ofString "name"), .str (mkS b), .str s])
  else if b.head? = some 47 ∧ nameB (mkS (b.drop 1)) = true then some (.tuple [.str (Str.ofString "far"), .str (mkS (b.drop 1)), .str s])
  else if b.head? = some 58 ∧ addrB (b.drop 1) = true then some (.tuple [.str (Str.ofString "address"), .int (PySem.NumText.digitsVal (b.drop 1) : Nat), .str s])
  else none
def verO (l : List Nat) : Option PyData := if 60 < l.length then none else verD (l.take (rsz l)) (mkS (l.drop (rsz l)))
theorem at_eq : Str.ofString "@" = mkS [64] := by decide +kernel
theorem rstrip_eq (z : Str) : Txt.rstripChars z (Str.ofString "~^") = mkS (z.cps.toList.take (rsz z.cps.toList)) := by
  have ec : (fun c => (Str.ofString "~^").cps.contains c) = stC := by
    funext c
    have e : (Str.ofString "~^").cps = #[126, 94] := by decide +kernel
    rw [e]
    show (#[126, 94] : Array Nat).contains c = decide (c = 126 ∨ c = 94)
    by_cases h : c = 126
    · subst h; simp
    · by_cases h2 : c = 94
      · subst h2; simp
      · rw [decide_eq_false (by omega)]
        simp [Array.contains, h, h2]
  have e0 : stripLo (fun c => (Str.ofString "~^").cps.contains c) false z = 0 := rfl
  have e1 : stripHi (fun c => (Str.ofString "~^").cps.contains c) true z 0 = rsz z.cps.toList := by
    show z.length - ((z.cps.toList.drop 0).reverse.takeWhile _).length = _
    rw [ec, List.drop_zero, str_len] <;> rfl
  show (if stripSame (fun c => (Str.ofString "~^").cps.contains c) false true z = true then z else stripped (fun c => (Str.ofString "~^").cps.contains c) false true z) = _
  unfold stripSame stripped
  rw [e0, e1]
  split
  · rename_i h
    have h2 : rsz z.cps.toList = z.length := by simpa using h
    rw [h2, str_len, List.take_length]
    exact mkS_codes z
  · refine str_ext ?_
    rw [PySem.StrLaws.strSub_toList, List.drop_zero, Nat.sub_zero] <;> rfl
theorem starts_one (b : List Nat) (c : Nat) : Txt.startswith (mkS b) (mkS [c]) = decide (b.head? = some c) := by
  unfold Txt.startswith
  rw [PySem.StrLaws.subAt_eq, mkS_len, mkS_len]
  show (decide (0 + 1 ≤ b.length) && ((b.drop 0).take 1 == [c])) = _
  cases b with
  | nil => rfl
  | cons a r =>
    show (decide (0 + 1 ≤ r.length + 1) && ([a] == [c])) = decide (some a = some c)
    rw [decide_eq_true (by omega), Bool.true_and]
    by_cases h : a = c
    · subst h; simp
    · simp [h]
theorem cutS_from (b : List Nat) (n : Nat) : cutS (mkS b) (some (n : Int)) none = mkS (b.drop n) := by
  refine str_ext ?_
  show (b.drop (HT.sIx (mkS b).length 0 (some (n : Int)))).take _ = b.drop n
  rw [HT.sIx_nat, mkS_len, HT.sIx_none]
  by_cases h : n ≤ b.length
  · rw [Nat.min_eq_left h, List.take_of_length_le (by rw [List.length_drop]; omega)]
  · rw [Nat.min_eq_right (by omega), List.drop_of_length_le (Nat.le_refl _), List.drop_of_length_le (by omega)] <;> simp
theorem cutS_to (b : List Nat) (n : Nat) : cutS (mkS b) none (some (n : Int)) = mkS (b.take n) := by
  refine str_ext ?_
  show (b.drop (HT.sIx (mkS b).length 0 none)).take (HT.sIx (mkS b).length (mkS b).length (some (n : Int)) - HT.sIx (mkS b).length 0 none) = b.take n
  rw [HT.sIx_nat, mkS_len, HT.sIx_none, List.drop_zero, Nat.sub_zero]
  by_cases h : n ≤ b.length
  · rw [Nat.min_eq_left h]
  · rw [Nat.min_eq_right (by omega), List.take_of_length_le (Nat.le_refl _), List.take_of_length_le (by omega)]
theorem take_len {l : List Nat} {n : Nat} (h : n ≤ l.length) : (l.take n).length = n := by rw [List.length_take]; omega
/-! ### comprehensions with a test over a text -/
theorem given_filter {l : List Nat} (p : Nat → Bool) (g : Nat → V) : given l.length (fun i => p (l.getD i 0)) (fun i => g (l.getD i 0)) = (l.filter p).map g := by
  have e : l = (List.range l.length).map fun i => l.getD i 0 := by
    refine List.ext_getElem? fun i => ?_
    rw [List.getElem?_map]
    by_cases hi : i < l.length
    · rw [List.getElem?_range hi, List.getElem?_eq_getElem hi, Option.map_some, List.getD_eq_getElem?_getD, List.getElem?_eq_getElem hi] <;> rfl
    · rw [List.getElem?_eq_none (by omega), List.getElem?_eq_none (by rw [List.length_range]; omega)] <;> rfl
  unfold given
  conv => rhs; rw [e, List.filter_map, List.map_map]
  rfl
theorem el_flS {σ : L2.St} {H : Hp} {te tl : TE} {tt : TT} {z : Str} {j : Nat} {vs : List Nat} {p : Nat → Bool} (h : Ev te σ H (.str z)) (hz : z.cps.toList.length ≤ 40000) (hw : ∀ x, wipe ((wipe σ vs).set j (some x)) vs = wipe σ vs)
    (ht : ∀ (c : Nat), c ∈ z.cps.toList → ∀ H1, Ex H H1 → EvT tt ((wipe σ vs).set j (some (.str ⟨#[c]⟩))) H1 (p c)) (he : ∀ (c : Nat) H1, Ex H H1 → Ev tl ((wipe σ vs).set j (some (.str ⟨#[c]⟩))) H1 (.str ⟨#[c]⟩)) : EvL (tLc (iStr te) (gName j) tt tl vs) σ H ((z.cps.toList.filter p).map fun c => .str ⟨#[c]⟩) := fun H0 e Q q => h H0 e _ fun H1 e1 => ⟨z, rfl, fun D hD => by
  rw [← given_filter (l := z.cps.toList) p fun c => .str ⟨#[c]⟩] at q
  refine ⟨fun i m H' => m = z.cps.toList.length - i ∧ i ≤ z.cps.toList.length ∧ Cw H1 (fun i => p (z.cps.toList.getD i 0)) (fun i => .str ⟨#[z.cps.toList.getD i 0]⟩) D i H', ⟨_, rfl, Nat.zero_le _, hD, Ex.new hD, upd_same⟩, ?_⟩
  rintro i m H' ⟨rfl, hi, pp⟩
  by_cases hlt : i < z.cps.toList.length
  · refine .inr ⟨(by show i < z.cps.size; simpa using hlt), Cw H1 (fun i => p (z.cps.toList.getD i 0)) (fun i => .str ⟨#[z.cps.toList.getD i 0]⟩) D (i + 1), fun H2 p2 => ⟨_, by omega, rfl, hlt, p2⟩, fun x H2 y => ?_⟩
    obtain ⟨rfl, c, hc, rfl⟩ := y
    have hc' : z.cps.toList[i]? = some c := by simpa using hc
    have ed : z.cps.toList.getD i 0 = c := by rw [List.getD_eq_getElem?_getD, hc'] <;> rfl
    have t1 := ht c (List.mem_of_getElem? hc') H1 (e.trans e1)
    have t2 := he c H1 (e.trans e1)
    refine ⟨hw _, cw_turn pp (by omega) (by rw [ed]; exact t1) fun _ => (by rw [ed]; exact t2)⟩
  · have ei : i = z.cps.toList.length := by omega
    subst ei
    exact .inl ⟨(by show z.cps.size ≤ z.cps.toList.length; simp), q D H' (fresh_back e1 pp.1) (e1.trans pp.2.1) pp.2.2⟩⟩
theorem dpa_strs {K : PySem.W.Frag} {H : Hp} : ∀ zs : List Str, DpAll K H (zs.map V.str) (zs.map PyData.str)
  | [] => .nil
  | z :: zs => .cons (.str z) (dpa_strs zs)
/-- a new list == [] -/
theorem ev_eqNil {K : PySem.W.Frag} {σ : L2.St} {H : Hp} {ta : TE} {zs : List Str} (h : EvL ta σ H (zs.map V.str)) (hz : ∀ z ∈ zs, SeqAt.shaped (.str z) = true) : Ev (tOp (rEqD K) ta (tLst tNil)) σ H (.bl zs.isEmpty) := by
  refine ev_opLL h (el_lst ea_nil (by decide)) fun p q H1 hp hq _ => rv_val fun H2 e2 Q k => ⟨_, _, .lst (sq_of (e2 _ _ hp)) (dpa_strs zs), .lst (sq_of (e2 _ _ hq)) .nil, shaped_lst (n := 0) (fun d hd => ?_) (by decide), by decide, ?_⟩
  · obtain ⟨z, hz', rfl⟩ := List.mem_map.mp hd
    exact .str 0 (hz z hz')
  · have e : PyData.eqv (.list (zs.map PyData.str)) (.list []) = zs.isEmpty := by
      cases zs <;> simp [PyData.eqv, PyData.eqvAll]
    rw [e]
    exact k
/-- [f(k) for k in range(n)], n any int -/
theorem el_mapRI {σ : L2.St} {H : Hp} {ta : TA} {te : TE} {j : Nat} {vs : List Nat} {n : Int} {ys : List V} (h : EvA ta σ H [.int n]) (hz : -100000 ≤ n ∧ n ≤ 40000) (hw : ∀ x, wipe ((wipe σ vs).set j (some x)) vs = wipe σ vs) (hl : ys.length = n.toNat)
    (he : ∀ (i : Nat) (y : V), (i : Int) < n → ys[i]? = some y → ∀ H1, Ex H H1 → Ev te ((wipe σ vs).set j (some (.int (i : Int)))) H1 y) : EvL (tLc (iRng1 ta) (gName j) tYes te vs) σ H ys := by
  intro H0 e Q q
  refine h H0 e _ fun H1 e1 => ⟨n, rfl, by omega, by omega, fun Dl hD => ?_⟩
  refine lc_range (n := n.toNat) (fun i H' => H1 Dl = none ∧ Ex H1 H' ∧ H' Dl = some (.lst (ys.take i))) ⟨hD, Ex.new hD, upd_same⟩ (fun i H' hi p => ⟨hw _, ?_⟩) (fun H' p => ?_)
  · obtain ⟨p1, p2, p3⟩ := p
    have hi2 : i < ys.length := by omega
    have hy : ys[i]? = some ys[i] := List.getElem?_eq_getElem hi2
    show te ((wipe σ vs).set j (some (.int (0 + (i : Int))))) H' _
    rw [Int.zero_add]
    refine he i ys[i] (by omega) hy H1 (e.trans e1) H' p2 _ fun H4 e4 => ⟨ys.take i, e4 Dl _ p3, sz_lt (by rw [List.length_take]; omega), p1, (p2.trans e4).mut p1, ?_⟩
    rw [upd_same, List.take_add_one, hy] <;> rfl
  · obtain ⟨p1, p2, p3⟩ := p
    rw [← hl, List.take_length] at p3
    exact q Dl H' (fresh_back e1 p1) (e1.trans p2) p3
/-- texts that the law makes -/
def TxOk (n : Nat) (z : Str) : Prop := z.length ≤ n ∧ ∀ c ∈ z.cps.toList, c ≤ 1000
theorem TxOk.sh {n : Nat} {z : Str} (h : TxOk n z) : SeqAt.shaped (.str z) = true := by
  unfold SeqAt.shaped
  have e : PyData.strOk z = true := by
    unfold PyData.strOk
    rw [Array.all_eq_true']
    intro c hc
    have := h.2 c (by simpa using hc)
    simp only [decide_eq_true_eq]
    omega
  rw [show (PyData.str z).canLay0 = PyData.strOk z by simp [PyData.canLay0], e] <;> rfl
theorem TxOk.app {n m : Nat} {a b : Str} (h : TxOk n a) (k : TxOk m b) : TxOk (n + m) (a ++ b) := by
  refine ⟨?_, fun c hc => ?_⟩
  · rw [str_len, codes_app rfl rfl, List.length_append, ← str_len, ← str_len]
    have := h.1
    have := k.1
    omega
  · rw [codes_app (x := a.cps.toList) (y := b.cps.toList) rfl rfl] at hc
    rcases List.mem_append.mp hc with z | z
    · exact h.2 c z
    · exact k.2 c z
theorem TxOk.cut {n : Nat} {z : Str} (h : TxOk n z) (lo hi : Option Int) : TxOk n (cutS z lo hi) := by
  refine ⟨Nat.le_trans (cutS_length z lo hi) h.1, fun c hc => h.2 c ?_⟩
  exact List.mem_of_mem_drop (List.mem_of_mem_take (by exact hc))
theorem TxOk.mono {n m : Nat} {z : Str} (h : TxOk n z) (e : n ≤ m) : TxOk m z := ⟨Nat.le_trans h.1 e, h.2⟩
theorem TxOk.one {c : Nat} (h : c ≤ 1000) : TxOk 1 ⟨#[c]⟩ := ⟨Nat.le_refl 1, fun d hd => by
  have : d = c := by simpa using hd
  omega⟩
/-- a join of signs -/
theorem ev_joinS {K : PySem.W.Frag} {σ : L2.St} {H : Hp} {te : TE} {l : List Nat} (h : EvL te σ H (l.map fun c => V.str ⟨#[c]⟩)) (hz : l.length ≤ 100000) :
    Ev (tM1 (fun x xs H Q => ∃ a p, ∃ ys : List Str, x = .str a ∧ xs = [.ref p] ∧ (SqL K H p (ys.map V.str) ∨ SqT K H p (ys.map V.str)) ∧ (ys.map (·.length)).sum + ys.length * a.length ≤ 16777216 ∧ Q (.str (Txt.join a ys)) H) (tC (.str (Str.ofString ""))) te) σ H (.str (mkS l)) := by
  have e : (l.map fun c => V.str ⟨#[c]⟩) = (l.map fun c => (⟨#[c]⟩ : Str)).map V.str := by rw [List.map_map] <;> rfl
  rw [e] at h
  refine ev_is (ev_joinN (K := K) ev_c h ?_) (congrArg V.str (join_signs l))
  rw [sum_ones, List.length_map]
  have : (Str.ofString "").length = 0 := by decide +kernel
  rw [this]
  omega
theorem ev_starts {σ : L2.St} {H : Hp} {to te : TE} {a b : Str} (h0 : Ev to σ H (.str a)) (h : Ev te σ H (.str b)) : Ev (tM1 (fun x xs H Q => ∃ a b, x = V.str a ∧ xs = [V.str b] ∧ Q (.bl (Txt.startswith a b)) H) to te) σ H (.bl (Txt.startswith a b)) := fun H1 e Q q =>
  h0 H1 e _ fun H2 e2 => ⟨⟨a, rfl⟩, h H2 (e.trans e2) _ fun H3 e3 => ⟨a, b, rfl, rfl, q H3 (e2.trans e3)⟩⟩
theorem ev_rstrip {σ : L2.St} {H : Hp} {to te : TE} {a b : Str} (h0 : Ev to σ H (.str a)) (h : Ev te σ H (.str b)) (hz : a.length ≤ 16777216) : Ev (tM1 (fun x xs H Q => ∃ a b, x = V.str a ∧ xs = [V.str b] ∧ a.length ≤ sizeLine ∧ Q (.str (Txt.rstripChars a b)) H) to te) σ H (.str (Txt.rstripChars a b)) := fun H1 e Q q =>
  h0 H1 e _ fun H2 e2 => ⟨⟨a, rfl⟩, h H2 (e.trans e2) _ fun H3 e3 => ⟨a, b, rfl, rfl, sizeOk hz, q H3 (e2.trans e3)⟩⟩
theorem ev_intS {σ : L2.St} {H : Hp} {te : TE} {a : Str} {n : Int} (h : Ev te σ H (.str a)) (hn : PySem.intText? a = some n) (hz : a.length ≤ 640) : Ev (tCB (fun xs H Q => ∃ a n, xs = [V.str a] ∧ PySem.intText? a = some n ∧ a.length ≤ 640 ∧ Q (.int n) H) (tCons te tNil)) σ H (.int n) := fun H1 e Q q =>
  h H1 e _ fun H2 e2 => ⟨a, n, rfl, hn, hz, q H2 e2⟩
theorem addr_int {b : List Nat} (h : addrB b = true) : PySem.intText? (mkS b) = some ((PySem.NumText.digitsVal b : Nat) : Int) ∧ (mkS b).length ≤ 640 := by
  unfold addrB at h
  simp only [Bool.and_eq_true, decide_eq_true_eq, List.all_eq_true] at h
  obtain ⟨h1, _, h2⟩ := h
  refine ⟨intText_digits (x := mkS b) (fun c hc => ?_) (fun z => ?_) (by rw [mkS_len]; omega), by rw [mkS_len]; omega⟩
  · have := h2 c hc
    unfold digC at this
    simpa using this
  · have : b = [] := z
    subst this
    simp at h1
theorem ev_intB {σ : L2.St} {H : Hp} {te : TE} {b : Bool} (h : Ev te σ H (.bl b)) : Ev (tCB (fun xs H Q => (∃ i, xs = [V.int i] ∧ Q (.int i) H) ∨ ∃ k, xs = [V.bl k] ∧ Q (.int (if k = true then 1 else 0)) H) (tCons te tNil)) σ H (.int (if b = true then 1 else 0)) := fun H1 e Q q =>
  h H1 e _ fun H2 e2 => .inr ⟨b, rfl, q H2 e2⟩


/-! ### what evaluates to some text -/
def ES (te : TE) (σ : L2.St) (H : Hp) (R : Str → Prop) : Prop := ∀ H1, Ex H H1 → ∀ Q : VK, (∀ z H2, Ex H1 H2 → R z → Q (.str z) H2) → te σ H1 Q
def ESA (ta : TA) (σ : L2.St) (H : Hp) (R : Str → Prop) (n : Nat) : Prop := ∀ H1, Ex H H1 → ∀ Q : List V → Hp → Prop, (∀ (zs : List Str) H2, Ex H1 H2 → zs.length = n → (∀ z ∈ zs, R z) → Q (zs.map V.str) H2) → ta σ H1 Q
section
variable {K : PySem.W.Frag} {σ : L2.St} {H : Hp} {te ta tb : TE} {R R1 R2 : Str → Prop}
theorem es_ev {z : Str} (h : Ev te σ H (.str z)) (r : R z) : ES te σ H R := fun H1 e Q q => h H1 e _ fun H2 e2 => q z H2 e2 r
theorem ES.imp (h : ES te σ H R1) (i : ∀ z, R1 z → R z) : ES te σ H R := fun H1 e Q q => h H1 e Q fun z H2 e2 r => q z H2 e2 (i z r)
theorem ES.mono {H' : Hp} (e : Ex H H') (h : ES te σ H R) : ES te σ H' R := fun H1 e1 => h H1 (e.trans e1)
theorem es_add (ha : ES ta σ H R1) (hb : ES tb σ H R2) (hR : ∀ a b, R1 a → R2 b → a.length + b.length ≤ 16777216 ∧ R (a ++ b)) : ES (tOp (fun x y H Q => ∃ i j, x = V.str i ∧ y = V.str j ∧ i.length + j.length ≤ sizeLine ∧ Q (.str (i ++ j)) H) ta tb) σ H R := fun H1 e Q q =>
  ha H1 e _ fun a H2 e2 ra => hb H2 (e.trans e2) _ fun b H3 e3 rb => ⟨a, b, rfl, rfl, sizeOk (hR a b ra rb).1, q _ H3 (e2.trans e3) (hR a b ra rb).2⟩
theorem esa_nil : ESA tNil σ H R 0 := fun H1 _ _ q => q [] H1 (Ex.refl H1) rfl fun _ z => nomatch z
theorem esa_cons {tr : TA} {n : Nat} (h : ES te σ H R) (r : ESA tr σ H R n) : ESA (tCons te tr) σ H R (n + 1) := fun H1 e Q q =>
  h H1 e _ fun z H2 e2 rz => r H2 (e.trans e2) _ fun zs H3 e3 hl hz => q (z :: zs) H3 (e2.trans e3) (by rw [List.length_cons, hl]) fun y hy => by
    rcases List.mem_cons.mp hy with h | h
    · rw [h]; exact rz
    · exact hz y h
theorem es_ixN {tr : TA} {n : Nat} {i : Int} (h : ESA tr σ H R n) (hi : ∀ H1, Ex H H1 → Ev tb σ H1 (.int i)) (h0 : 0 ≤ i) (h1 : i < n) (hn : n ≤ 100000) : ES (tOp (rIxL K) (tLst tr) tb) σ H R := fun H1 e Q q =>
  h H1 e _ fun zs H2 e2 hl hz => ⟨sz_of (by rw [List.length_map, hl]; exact hn), fun p hp => hi _ (e.trans (e2.trans (Ex.new hp))) _ (Ex.refl _) _ fun H3 e3 => by
    obtain ⟨z, hzz⟩ : ∃ z, zs[i.toNat]? = some z := ⟨_, List.getElem?_eq_getElem (by omega)⟩
    exact ⟨p, zs.map V.str, i, .str z, rfl, rfl, sq_of (e3 _ _ upd_same), atI_of h0 (by rw [List.getElem?_map, hzz] <;> rfl), q z H3 ((e2.trans (Ex.new hp)).trans e3) (hz z (List.mem_of_getElem? hzz))⟩⟩
theorem q_asgS {D : Ends} {tz : TS} {i : Nat} (h : ES te σ H R) (k : ∀ z H1, Ex H H1 → R z → tz D (σ.set i (some (.str z))) H1) : tSeq (tAsg te (gName i)) tz D σ H := h H (Ex.refl H) _ k
theorem s_asgS {D : Ends} {i : Nat} (h : ES te σ H R) (k : ∀ z H1, Ex H H1 → R z → D.nx (σ.set i (some (.str z))) H1) : tAsg te (gName i) D σ H := h H (Ex.refl H) _ k
theorem s_retS {D : Ends} (h : ES te σ H R) (k : ∀ z H1, Ex H H1 → R z → D.rt (.str z) H1) : tRet te D σ H := h H (Ex.refl H) _ k
end
/-- for x in [a, b, c], texts -/
theorem s_forTx {K : PySem.W.Frag} {σ : L2.St} {H : Hp} {ta : TA} {tu : TS} {D : Ends} {j n : Nat} {R : Str → Prop} (h : ESA ta σ H R n) (hn : n ≤ 100000) (Pv : Hp → L2.St → Hp → Prop) (h0 : ∀ H1, Ex H H1 → Pv H1 σ H1) (he : ∀ H1 σ' H', Pv H1 σ' H' → Ex H1 H')
    (hs : ∀ H1 z σ' H', Ex H H1 → R z → Pv H1 σ' H' → tu { D with nx := Pv H1, ct := Pv H1, bk := D.nx } (σ'.set j (some (.str z))) H') (hd : ∀ H1 σ' H', Ex H H1 → Pv H1 σ' H' → D.nx σ' H') : tFor (iList K (tLst ta)) (gName j) tu D σ H := by
  refine h H (Ex.refl H) _ fun zs H2 e2 hl hz => ⟨sz_of (by rw [List.length_map, hl]; exact hn), fun p hp => ⟨p, rfl, ⟨zs.map V.str, sq_of upd_same⟩, ?_⟩⟩
  have e3 := e2.trans (Ex.new (o := .lst (zs.map V.str)) hp)
  refine for_list (xs := zs.map V.str) (fun i σ' H' => Pv (upd H2 p (.lst (zs.map V.str))) σ' H') (h0 _ e3) (fun i σ' H' _ hP => sq_of (he _ _ _ hP p _ upd_same)) (fun i x σ' H' hi hP => ?_) (fun σ' H' hP => hd _ _ _ e3 hP)
  rw [List.getElem?_map] at hi
  cases e : zs[i]? with
  | none => rw [e] at hi; cases hi
  | some z =>
    rw [e] at hi
    have ex : x = .str z := (Option.some.inj hi).symm
    subst ex
    exact hs _ z σ' H' e3 (hz z (List.mem_of_getElem? e)) hP


section
variable {P : Program} {w : World} {K : PySem.W.Frag} {mg : Str → Option Value} {base : Heap}

/-! ### _law_cell -/
def cellZ (ns : List Int) (k : Nat) : Int := ns.getD k 0
def sp_cell (K : PySem.W.Frag) : Sp := fun vs H Q _ => ∃ (a : Addr) (ns : List Int) (k : Nat), vs = [.ref a, .int (k : Int)] ∧ SqL K H a (ns.map V.int) ∧ ∀ H', Ex H H' → Q (.int (cellZ ns k)) H'
theorem ok_law_cell (T : Txt K mg) : FnOk P w K mg base CX0 1 T.f_law_cell T.d_law_cell ["script", "k"] (sp_cell K) := by
  refine T.F_law_cell.ok sc_law_cell (fun vs H Q E h => ?_) (fun cdv A outer s H vs Q E hr h => ?_)
  · obtain ⟨a, ns, k, rfl, _⟩ := h
    rfl
  · obtain ⟨a, ns, k, rfl, hS, q⟩ := h
    refine ⟨_, pss_cons (ps_if (pt_cmpR op_lt (pv 1) (pe_callB (r := rLenQ K) call_len_seq (by rfl) T.m_len (by decide +kernel) (pa_cons (pv 0) (pa_nil))) (nomark _))
      (pss_one (ps_ret (pe_ix (r := rIxL K) ix_list (pv 0) (pv 1) (fun _ _ => rfl))))
      (pss_nil))
      (pss_one (ps_ret (pe_int))), ?_⟩
    refine q_when (b := decide ((k : Int) < ((ns.map V.int).length : Int))) (et_test (ev_bin0 (ev_var rfl) (ev_lenQ (K := K) (ev_var rfl) hS))) (fun hb H1 e1 => ?_) (fun hb H1 e1 => ?_)
    · have hk : k < ns.length := by
        have := of_decide_eq_true hb
        rw [List.length_map] at this
        omega
      refine s_ret (ev_ixL (K := K) (ev_var rfl) (ev_var rfl) (ex_l e1 hS) (at_nat (v := .int (cellZ ns k)) ?_)) fun H2 e2 => q H2 (e1.trans e2)
      rw [List.getElem?_map, List.getElem?_eq_getElem hk]
      unfold cellZ
      rw [List.getD_eq_getElem?_getD, List.getElem?_eq_getElem hk] <;> rfl
    · have hk : ¬ k < ns.length := by
        have := of_decide_eq_false hb
        rw [List.length_map] at this
        omega
      have e0 : cellZ ns k = 0 := by
        unfold cellZ
        rw [List.getD_eq_getElem?_getD, List.getElem?_eq_none (by omega)] <;> rfl
      refine s_ret ev_c fun H2 e2 => ?_
      rw [e0] at q
      exact q H2 (e1.trans e2)
theorem cv_cell {a : Addr} {ns : List Int} {k : Nat} {H : Hp} (h : SqL K H a (ns.map V.int)) : SpV (sp_cell K) [.ref a, .int (k : Int)] H (.int (cellZ ns k)) := fun H1 e Q q E => ⟨a, ns, k, rfl, ex_l e h, fun H2 e2 => q H2 e2⟩
theorem Wd.cell {ns : List Int} (h : ∀ n ∈ ns, Wd n) (k : Nat) : Wd (cellZ ns k) := by
  unfold cellZ
  rw [List.getD_eq_getElem?_getD]
  cases e : ns[k]? with
  | none => exact Wd.lit (by decide)
  | some x => exact h x (List.mem_of_getElem? e)


/-! ### sums of the script's ints and small ones -/
theorem nat_log {n m : Nat} (h : n < 2 ^ m) (hm : 0 < m) : n.log2 < m := by
  by_cases e : n = 0
  · subst e
    exact Nat.lt_of_le_of_lt (Nat.le_of_eq (by decide)) hm
  · exact (Nat.log2_lt e).mpr h
theorem bits_lt {n : Int} {b : Nat} (h : Builtin.Int.intBits n ≤ b) : n.natAbs < 2 ^ b := by
  unfold Builtin.Int.intBits at h
  by_cases e : n = 0
  · subst e
    exact Nat.pow_pos (by decide)
  · rw [if_neg (by simpa using e)] at h
    have e2 : n.natAbs ≠ 0 := by omega
    exact (Nat.log2_lt e2).mp (by omega)
theorem add_lt {n k : Int} {m : Nat} (hn : n.natAbs < 2 ^ m) (hk : k.natAbs < 2 ^ m) : (n + k).natAbs < 2 ^ (m + 1) := by
  rw [Nat.pow_succ]
  omega
theorem small_lt {k : Int} {m : Nat} (h : k.natAbs < 1000000) (hm : 20 ≤ m) : k.natAbs < 2 ^ m := Nat.lt_of_lt_of_le (Nat.lt_trans h (by decide : 1000000 < 2 ^ 20)) (Nat.pow_le_pow_right (by decide) hm)
theorem Wd.of_lt {n : Int} {m : Nat} (h : n.natAbs < 2 ^ m) (hm : 0 < m) (hl : m ≤ 1100000) : Wd n := ⟨Nat.lt_of_lt_of_le (nat_log h hm) hl⟩
theorem cell_lt {ns : List Int} {b : Nat} (h : ∀ z ∈ ns, Builtin.Int.intBits z ≤ b) (k : Nat) : (cellZ ns k).natAbs < 2 ^ b := by
  unfold cellZ
  rw [List.getD_eq_getElem?_getD]
  cases e : ns[k]? with
  | none => exact Nat.pow_pos (by decide)
  | some x => exact bits_lt (h x (List.mem_of_getElem? e))
theorem Wd.cellAdd {ns : List Int} {b : Nat} (h : ∀ z ∈ ns, Builtin.Int.intBits z ≤ b) (k : Nat) {i : Int} (hi : i.natAbs < 1000000) (hb : 20 ≤ b) (hb2 : b ≤ 1099999) : Wd (cellZ ns k + i) := Wd.of_lt (add_lt (cell_lt h k) (small_lt hi hb)) (by omega) (by omega)
theorem Wd.cellDivAdd {ns : List Int} {b : Nat} (h : ∀ z ∈ ns, Builtin.Int.intBits z ≤ b) (k : Nat) {i d : Int} (hi : i.natAbs < 1000000) (hb : 20 ≤ b) (hb2 : b ≤ 1099999) : Wd (cellZ ns k / d + i) := Wd.of_lt (add_lt (Nat.lt_of_le_of_lt (Int.natAbs_ediv_le_natAbs _ _) (cell_lt h k)) (small_lt hi hb)) (by omega) (by omega)
theorem cutV_map (ns : List Int) (lo hi : Option Int) : ∃ ms : List Int, cutV (ns.map V.int) lo hi = ms.map V.int ∧ ms.length ≤ ns.length ∧ ∀ m ∈ ms, m ∈ ns := by
  unfold cutV
  rw [← List.map_drop, ← List.map_take]
  refine ⟨_, rfl, ?_, fun m hm => List.mem_of_mem_drop (List.mem_of_mem_take hm)⟩
  rw [List.length_take, List.length_drop]
  omega


/-! ### _law_numbers -/
/-- count ints from 0 to 999 -/
def spNumbers : Sp := fun vs H Q _ => ∃ (cell : Int) (count : Nat), vs = [.int cell, .int (count : Int)] ∧ Wd cell ∧ count ≤ 1000 ∧ ∀ p (ns : List Int) H', H p = none → Ex H H' → H' p = some (.lst (ns.map V.int)) → ns.length = count → (∀ n ∈ ns, 0 ≤ n ∧ n < 1000) → Q (.ref p) H'
theorem ok_law_numbers (T : Txt K mg) : FnOk P w K mg base CX0 1 T.f_law_numbers T.d_law_numbers ["cell", "count"] spNumbers := by
  refine T.F_law_numbers.ok sc_law_numbers (fun vs H Q E h => ?_) (fun cdv A outer s H vs Q E hr h => ?_)
  · obtain ⟨c, n, rfl, _⟩ := h
    rfl
  · obtain ⟨c, n, rfl, hW, hn, q⟩ := h
    refine ⟨_, pss_cons (ps_set (i := 2) sc_law_numbers.nd rfl (by first | exact Or.inl rfl | exact Or.inr rfl) (pe_lst (pa_nil)))
      (pss_cons (ps_if (pt_cmpR op_ge (pv 0) (pe_op op_pow (pe_int) (pe_int)) (nomark _))
      (pss_cons (ps_for PassesOwn.never rfl (pi_range1 (by rfl) T.m_range (pa_cons (pv 1) (pa_nil))) (pg_name (i := 3) sc_law_numbers.nd rfl (by first | exact Or.inl rfl | exact Or.inr rfl))
      (pss_cons (ps_expr (pe_bm PySem.F.plainAttrs_list PySem.F.slot_list_append PySem.F.type_list_append mt_append (pv 2) (pa_cons (pe_op op_mod (pe_callTy call_int1 (by rfl) T.m_int (by decide +kernel) (pa_cons (pv 0) (pa_nil))) (pe_int)) (pa_nil))))
      (pss_one (ps_set (i := 0) sc_law_numbers.nd rfl (by first | exact Or.inl rfl | exact Or.inr rfl) (pe_op op_fdivW (pv 0) (pe_int))))))
      (pss_one (ps_ret (pv 2))))
      (pss_nil))
      (pss_cons (ps_set (i := 4) sc_law_numbers.nd rfl (by first | exact Or.inl rfl | exact Or.inr rfl) (pe_op op_mod (pe_callTy call_int1 (by rfl) T.m_int (by decide +kernel) (pa_cons (pv 0) (pa_nil))) (pe_int)))
      (pss_cons (ps_for PassesOwn.never rfl (pi_range1 (by rfl) T.m_range (pa_cons (pv 1) (pa_nil))) (pg_name (i := 3) sc_law_numbers.nd rfl (by first | exact Or.inl rfl | exact Or.inr rfl))
      (pss_cons (ps_set (i := 4) sc_law_numbers.nd rfl (by first | exact Or.inl rfl | exact Or.inr rfl) (pe_op op_mod (pe_callTy call_int1 (by rfl) T.m_int (by decide +kernel) (pa_cons (pe_op op_add (pe_op op_mulX (pv 4) (pe_int)) (pe_op op_mulX (pe_int) (pe_op op_add (pv 3) (pe_int)))) (pa_nil))) (pe_int)))
      (pss_one (ps_expr (pe_bm PySem.F.plainAttrs_list PySem.F.slot_list_append PySem.F.type_list_append mt_append (pv 2) (pa_cons (pe_op op_mod (pe_op op_fdivW (pv 4) (pe_int)) (pe_int)) (pa_nil)))))))
      (pss_one (ps_ret (pv 2)))))), ?_⟩
    refine q_asgL (el_lst ea_nil (by decide)) fun p H1 hp e1 h1 => ?_
    have fin : ∀ {ns : List Int} {H' : Hp}, Ex H H' → H' p = some (.lst (ns.map V.int)) → ns.length = n → (∀ n ∈ ns, 0 ≤ n ∧ n < 1000) → Q (.ref p) H' := fun e h1 h2 h3 => q p _ _ hp e h1 h2 h3
    have add : ∀ {ns : List Int} {x : Int}, (∀ n ∈ ns, 0 ≤ n ∧ n < 1000) → (0 ≤ x ∧ x < 1000) → ∀ n ∈ ns ++ [x], 0 ≤ n ∧ n < 1000 := fun h hx y hy => by
      rcases List.mem_append.mp hy with z | z
      · exact h y z
      · rw [List.mem_singleton.mp z]
        exact hx
    refine q_when (b := decide (10 ^ 18 ≤ c)) (et_test (ev_bin0 (j := 10 ^ 18) (ev_var rfl) (ev_is (ev_bin ev_c ev_c ⟨by decide, by decide, by decide⟩) (by decide)))) (fun hb H2 e2 => ?_) (fun hb H2 e2 => ?_)
    · refine q_forR1 (n := (n : Int)) (ea_cons (ev_var rfl) ea_nil) (by omega) (fun i σ' H' => ∃ (c' : Int) (ns : List Int) (x3 x4 : Option V), σ' = [some (.int c'), some (.int (n : Int)), some (.ref p), x3, x4] ∧ Wd c' ∧ Ex H H' ∧ H' p = some (.lst (ns.map V.int)) ∧ ns.length = i ∧ ∀ n ∈ ns, 0 ≤ n ∧ n < 1000)
        (fun H3 e3 => ⟨c, [], none, none, rfl, hW, (e1.trans e2).trans e3, (e2.trans e3) p _ h1, rfl, fun n hn => nomatch hn⟩) (fun i σ' H' hi hP => ?_) (fun σ' H' hP => ?_)
      · obtain ⟨c', ns, x3, x4, rfl, hW', eH, hl, hlen, hr⟩ := hP
        refine q_app (K := K) hl (ev_var rfl) (ev_bin (ev_intI (ev_var rfl)) ev_c (by decide)) (by rw [List.length_map]; omega) fun H3 e3 => ?_
        refine s_asg (ev_bin (ev_var rfl) ev_c ⟨by decide, by decide⟩) fun H4 e4 => ⟨c' / 1000, ns ++ [c' % 1000], _, _, rfl, Wd.div hW', ((eH.trans e3).mut hp).trans e4, ?_, by rw [List.length_append, hlen] <;> rfl, add hr ⟨by omega, by omega⟩⟩
        rw [e4 p _ upd_same, List.map_append] <;> rfl
      · obtain ⟨c', ns, x3, x4, rfl, hW', eH, hl, hlen, hr⟩ := hP
        exact s_ret (ev_var rfl) fun H3 e3 => fin (eH.trans e3) (e3 p _ hl) (by omega) hr
    · refine q_asg (ev_bin (ev_intI (ev_var rfl)) ev_c (by decide)) fun H3 e3 => ?_
      refine q_forR1 (n := (n : Int)) (ea_cons (ev_var rfl) ea_nil) (by omega) (fun i σ' H' => ∃ (m : Int) (ns : List Int) (x3 : Option V), σ' = [some (.int c), some (.int (n : Int)), some (.ref p), x3, some (.int m)] ∧ (0 ≤ m ∧ m < 2147483647) ∧ Ex H H' ∧ H' p = some (.lst (ns.map V.int)) ∧ ns.length = i ∧ ∀ n ∈ ns, 0 ≤ n ∧ n < 1000)
        (fun H4 e4 => ⟨c % 2147483647, [], none, rfl, by omega, ((e1.trans e2).trans e3).trans e4, ((e2.trans e3).trans e4) p _ h1, rfl, fun n hn => nomatch hn⟩) (fun i σ' H' hi hP => ?_) (fun σ' H' hP => ?_)
      · obtain ⟨m, ns, x3, rfl, hm, eH, hl, hlen, hr⟩ := hP
        have hi2 : i < 1000 := by omega
        refine q_asg (ev_bin (ev_intI (ev_bin0 (ev_bin (ev_var rfl) ev_c (Wd.mul (Wd.small (by omega) (by omega)) (Wd.lit (by decide)))) (ev_bin ev_c (ev_bin0 (ev_var rfl) ev_c) (Wd.mul (Wd.lit (by decide)) (Wd.small (by omega) (by omega)))))) ev_c (by decide)) fun H4 e4 => ?_
        generalize hm2 : (m * 48271 + 69621 * ((i : Int) + 1)) % 2147483647 = m2
        refine s_app (K := K) (e4 p _ hl) (ev_var rfl) (ev_bin (ev_bin (ev_var rfl) ev_c ⟨by decide, by decide⟩) ev_c (by decide)) (by rw [List.length_map]; omega) fun H5 e5 => ⟨m2, ns ++ [m2 / 7 % 1000], _, rfl, by omega, ((eH.trans e4).trans e5).mut hp, ?_, by rw [List.length_append, hlen] <;> rfl, add hr ⟨by omega, by omega⟩⟩
        rw [upd_same, List.map_append] <;> rfl
      · obtain ⟨m, ns, x3, rfl, hm, eH, hl, hlen, hr⟩ := hP
        exact s_ret (ev_var rfl) fun H4 e4 => fin (eH.trans e4) (e4 p _ hl) (by omega) hr


/-! ### _law_only -/
def spOnly : Sp := fun vs H Q _ => ∃ (n : Nat) (z w : Str), vs = [.str z, .str w] ∧ TxOk n z ∧ n ≤ 30000 ∧ ∀ H', Ex H H' → Q (.bl (z.cps.toList.all fun c => decide (c ∈ w.cps.toList))) H'
theorem cv_only {n : Nat} {z w : Str} {H : Hp} (hz : TxOk n z) (hn : n ≤ 30000) : SpV spOnly [.str z, .str w] H (.bl (z.cps.toList.all fun c => decide (c ∈ w.cps.toList))) := fun H1 e Q q E => ⟨n, z, w, rfl, hz, hn, fun H2 e2 => q H2 e2⟩
theorem ok_law_only (T : Txt K mg) : FnOk P w K mg base CX0 1 T.f_law_only T.d_law_only ["text", "chars"] spOnly := by
  refine T.F_law_only.ok sc_law_only (fun vs H Q E h => ?_) (fun cdv A outer s H vs Q E hr h => ?_)
  · obtain ⟨n, z, w, rfl, _⟩ := h
    rfl
  · obtain ⟨n, z, w, rfl, hz, hn, q⟩ := h
    have hl := hz.1
    rw [str_len] at hl
    refine ⟨_, pss_one (ps_ret (pe_cmpR (r := rEqD K) (op_eqD hr.units) (pe_lc (own := [("char", 2)]) (g := gName 2) rfl sc_law_only.nd (pi_str (pv 0)) (blkOk_by (N := ["text", "chars", "char"]) (sc := defScope s_law_only) (by decide +kernel)) (fun _ _ _ _ _ => pg_name (i := 2) sc_law_only.nd rfl (Or.inl rfl)) (fun _ _ _ _ _ => pts_one (pt_cmpR op_notIn_sign (pv 2) (pv 1) (by rfl))) (fun _ _ _ _ _ => pv 2)) (pe_lst (pa_nil)) (nomark _))), ?_⟩
    refine s_ret (ev_is (ev_eqNil (K := K) (zs := (z.cps.toList.filter fun c => !decide (c ∈ w.cps.toList)).map fun c => ⟨#[c]⟩) ?_ fun x hx => ?_) (congrArg V.bl ?_)) q
    · rw [List.map_map]
      exact el_flS (p := fun c => !decide (c ∈ w.cps.toList)) (ev_var rfl) (by omega) (fun x => rfl) (fun c hc H1 e1 => et_test (ev_op (ev_var rfl) (ev_var rfl) fun H2 e2 Q q => ⟨c, w, rfl, rfl, q H2 (Ex.refl H2)⟩)) fun c H1 e1 => ev_var rfl
    · obtain ⟨c, hc, rfl⟩ := List.mem_map.mp hx
      exact (TxOk.one (hz.2 c ((List.mem_filter.mp hc).1))).sh
    · rw [List.isEmpty_map]
      induction z.cps.toList with
      | nil => rfl
      | cons c r ih =>
        by_cases h : c ∈ w.cps.toList
        · rw [List.filter_cons_of_neg (by simp [h]), ih, List.all_cons, decide_eq_true h, Bool.true_and]
        · rw [List.filter_cons_of_pos (by simp [h]), List.all_cons, decide_eq_false h] <;> rfl


/-! ### _law_read -/
theorem letters_in (c : Nat) : decide (c ∈ (Str.ofString "abcdefghijklmnopqrstuvwxyz").cps.toList) = lowerC c := by
  have e : (Str.ofString "abcdefghijklmnopqrstuvwxyz").cps.toList = (List.range 26).map (· + 97) := by decide +kernel
  rw [e]
  refine decide_eq_decide.mpr ⟨fun h => ?_, fun h => ?_⟩
  · obtain ⟨i, hi, rfl⟩ := List.mem_map.mp h
    have := List.mem_range.mp hi
    omega
  · exact List.mem_map.mpr ⟨c - 97, List.mem_range.mpr (by omega), by omega⟩
theorem digits_in (c : Nat) : decide (c ∈ (Str.ofString "0123456789").cps.toList) = digC c := by
  have e : (Str.ofString "0123456789").cps.toList = (List.range 10).map (· + 48) := by decide +kernel
  rw [e]
  refine decide_eq_decide.mpr ⟨fun h => ?_, fun h => ?_⟩
  · obtain ⟨i, hi, rfl⟩ := List.mem_map.mp h
    have := List.mem_range.mp hi
    omega
  · exact List.mem_map.mpr ⟨c - 48, List.mem_range.mpr (by omega), by omega⟩
theorem steps_in (c : Nat) : decide (c ∈ (Str.ofString "~^").cps.toList) = stC c := by
  have e : (Str.ofString "~^").cps.toList = [126, 94] := by decide +kernel
  rw [e]
  exact decide_eq_decide.mpr ⟨fun h => by simpa using h, fun h => by simpa using h⟩
theorem name_eq (b : List Nat) : nameB (mkS b) = (decide (1 ≤ b.length ∧ b.length ≤ 12) && b.all lowerC) := by
  unfold nameB
  rw [mkS_len] <;> rfl
def optD : Option PyData → PyData
  | none => .none
  | some d => d
def spRead (K : PySem.W.Frag) : Sp := fun vs H Q _ => ∃ l : List Nat, vs = [.str (mkS l)] ∧ l.length ≤ 10000 ∧ (∀ c ∈ l, c ≤ 1000) ∧ ∀ v H', Ex H H' → Dp K H' v (optD (verO l)) → Q v H'
theorem ok_law_read (T : Txt K mg) : FnOk P w K mg base CX0 2 T.f_law_read T.d_law_read ["text"] (spRead K) := by
  refine T.F_law_read.ok sc_law_read (fun vs H Q E h => ?_) (fun cdv A outer s H vs Q E hr h => ?_)
  · obtain ⟨l, rfl, _⟩ := h
    rfl
  · obtain ⟨l, rfl, hz, hc, q⟩ := h
    have hl := mkS_len l
    have hr1 := rsz_le l
    refine ⟨_, pss_cons (ps_set (i := 1) sc_law_read.nd rfl (by first | exact Or.inl rfl | exact Or.inr rfl) (pe_callB call_len_str (by rfl) T.m_len (by decide +kernel) (pa_cons (pv 0) (pa_nil))))
      (pss_cons (ps_for PassesOwn.never rfl (pi_range1 (by rfl) T.m_range (pa_cons (pe_callB call_len_str (by rfl) T.m_len (by decide +kernel) (pa_cons (pv 0) (pa_nil))) (pa_nil))) (pg_name (i := 2) sc_law_read.nd rfl (by first | exact Or.inl rfl | exact Or.inr rfl))
      (pss_one (ps_if (PW.pt (pw_and (pt_cmpR op_gt (pv 1) (pe_int) (nomark _)) (pw_and1 (pt_cmpR op_in_sign (pe_ix ix_str (pv 0) (pe_op op_sub (pv 1) (pe_int)) (fun _ _ => rfl)) (pe_str) (by rfl)))))
      (pss_one (ps_set (i := 1) sc_law_read.nd rfl (by first | exact Or.inl rfl | exact Or.inr rfl) (pe_op op_sub (pv 1) (pe_int))))
      (pss_nil))))
      (pss_cons (ps_set (i := 3) sc_law_read.nd rfl (by first | exact Or.inl rfl | exact Or.inr rfl) (pe_slice sl_str (pv 0) (po_none) (po_some (pv 1))))
      (pss_cons (ps_set (i := 4) sc_law_read.nd rfl (by first | exact Or.inl rfl | exact Or.inr rfl) (pe_slice sl_str (pv 0) (po_some (pv 1)) (po_none)))
      (pss_cons (ps_set (i := 5) sc_law_read.nd rfl (by first | exact Or.inl rfl | exact Or.inr rfl) (pe_str))
      (pss_cons (ps_if (PW.pt (pw_or (pt_cmpR op_gt (pe_callB call_len_str (by rfl) T.m_len (by decide +kernel) (pa_cons (pv 0) (pa_nil))) (pe_int) (nomark _)) (pw_or1 (pt_cmpR op_eq (pv 3) (pe_str) (nomark _)))))
      (pss_one (ps_ret (pe_non)))
      (pss_nil))
      (pss_cons (ps_if (pt_cmpR op_eq (pv 3) (pe_str) (nomark _))
      (pss_one (ps_ret (pe_tup (pa_cons (pe_str) (pa_cons (pe_non) (pa_cons (pv 4) (pa_nil)))))))
      (pss_nil))
      (pss_cons (ps_if (pt_cmpR op_eq (pe_ix ix_str (pv 3) (pe_int) (fun _ _ => rfl)) (pe_str) (nomark _))
      (pss_cons (ps_set (i := 6) sc_law_read.nd rfl (by first | exact Or.inl rfl | exact Or.inr rfl) (pe_slice sl_str (pv 3) (po_some (pe_int)) (po_none)))
      (pss_cons (ps_if (PW.pt (pw_or (pt_cmpR op_eq (pv 6) (pe_str) (nomark _)) (pw_or (pt_cmpR op_gt (pe_callB call_len_str (by rfl) T.m_len (by decide +kernel) (pa_cons (pv 6) (pa_nil))) (pe_int) (nomark _)) (pw_or (pt_not (pt_val (pe_call (ok_law_only T) (hr.mono (by first | decide | omega)) (by rfl) T.g_law_only T.F_law_only.kp T.b_law_only .nil pass0 (pa_cons (pv 6) (pa_cons (pe_str) (pa_nil)))))) (pw_or1 (pt_cmpR op_eq (pe_ix ix_str (pv 6) (pe_int) (fun _ _ => rfl)) (pe_str) (nomark _)))))))
      (pss_one (ps_ret (pe_non)))
      (pss_nil))
      (pss_one (ps_ret (pe_tup (pa_cons (pe_str) (pa_cons (pe_callTy call_int_str (by rfl) T.m_int (by decide +kernel) (pa_cons (pv 6) (pa_nil))) (pa_cons (pv 4) (pa_nil)))))))))
      (pss_nil))
      (pss_cons (ps_set (i := 7) sc_law_read.nd rfl (by first | exact Or.inl rfl | exact Or.inr rfl) (pv 3))
      (pss_cons (ps_if (pt_cmpR op_eq (pe_ix ix_str (pv 3) (pe_int) (fun _ _ => rfl)) (pe_str) (nomark _))
      (pss_one (ps_set (i := 7) sc_law_read.nd rfl (by first | exact Or.inl rfl | exact Or.inr rfl) (pe_slice sl_str (pv 3) (po_some (pe_int)) (po_none))))
      (pss_nil))
      (pss_cons (ps_if (PW.pt (pw_or (pt_cmpR op_eq (pv 7) (pe_str) (nomark _)) (pw_or (pt_cmpR op_gt (pe_callB call_len_str (by rfl) T.m_len (by decide +kernel) (pa_cons (pv 7) (pa_nil))) (pe_int) (nomark _)) (pw_or1 (pt_not (pt_val (pe_call (ok_law_only T) (hr.mono (by first | decide | omega)) (by rfl) T.g_law_only T.F_law_only.kp T.b_law_only .nil pass0 (pa_cons (pv 7) (pa_cons (pv 5) (pa_nil))))))))))
      (pss_one (ps_ret (pe_non)))
      (pss_nil))
      (pss_one (ps_ret (pe_tup (pa_cons (pe_ix (r := rIxL K) ix_list (pe_lst (pa_cons (pe_str) (pa_cons (pe_str) (pa_nil)))) (pe_callTy call_int1 (by rfl) T.m_int (by decide +kernel) (pa_cons (pe_cmpR op_eq (pe_ix ix_str (pv 3) (pe_int) (fun _ _ => rfl)) (pe_str) (nomark _)) (pa_nil))) (fun _ _ => rfl)) (pa_cons (pv 7) (pa_cons (pv 4) (pa_nil))))))))))))))))), ?_⟩
    refine q_asg (v := .int (l.length : Int)) (ev_is (ev_lenB (ev_var rfl) (by omega)) (by rw [hl])) fun H1 e1 => ?_
    refine q_forR1 (n := (l.length : Int)) (ea_cons (ev_is (ev_lenB (ev_var rfl) (by omega)) (by rw [hl])) ea_nil) (by omega) (fun i σ' H' => ∃ (s : Nat) (kv : Option V), σ' = [some (.str (mkS l)), some (.int (s : Int)), kv, none, none, none, none, none] ∧ Ex H H' ∧ s = max (rsz l) (l.length - i))
      (fun H2 e2 => ⟨l.length, none, rfl, e1.trans e2, by omega⟩) (fun i σ' H' hi hP => ?_) (fun σ' H' hP => ?_)
    · obtain ⟨s, kv, rfl, eH, hs⟩ := hP
      have hi2 : i < l.length := by omega
      obtain ⟨st1, st2⟩ := rsz_step hi2 hs
      by_cases h0 : 0 < s
      · obtain ⟨c, h1, h2⟩ := st1 h0
        have es : ((s : Int) - 1) = ((s - 1 : Nat) : Int) := by omega
        refine s_when (b := stC c) (et_is (et_and (et_is (et_test (ev_bin0 (ev_var rfl) ev_c)) (decide_eq_true (by omega))) fun _ => et_test (ev_op (ev_ixB (z := mkS l) (c := c) (ev_var rfl) (ev_is (ev_bin0 (ev_var rfl) ev_c) (congrArg V.int es)) (by omega) (at_natS h1)) ev_c fun H2 e2 Q q => ⟨c, _, rfl, rfl, by rw [steps_in c]; exact q H2 (Ex.refl H2)⟩)) rfl) (fun hb H2 e2 => ?_) (fun hb H2 e2 => ?_)
        · rw [if_pos hb] at h2
          exact s_asg (ev_is (ev_bin0 (ev_var rfl) ev_c) (congrArg V.int es)) fun H3 e3 => ⟨s - 1, _, rfl, (eH.trans e2).trans e3, h2⟩
        · rw [if_neg (by rw [hb]; exact Bool.false_ne_true)] at h2
          exact ⟨s, _, rfl, eH.trans e2, h2⟩
      · refine s_when (b := false) (et_is (et_and (b := false) (et_test (ev_bin0 (ev_var rfl) ev_c)) fun h => absurd (of_decide_eq_true h) (by omega)) (by simp)) (fun z => nomatch z) fun _ H2 e2 => ⟨s, _, rfl, eH.trans e2, st2 (by omega)⟩
    · obtain ⟨s, kv, rfl, eH, hs⟩ := hP
      have es : s = rsz l := by omega
      subst es
      refine q_asg (v := .str (mkS (l.take (rsz l)))) (ev_is (ev_slB (lo := none) (hi := some ((rsz l : Nat) : Int)) (ev_var rfl) eo_none (eo_some (ev_var rfl)) (by omega)) (congrArg V.str (cutS_to l (rsz l)))) fun H2 e2 => ?_
      refine q_asg (v := .str (mkS (l.drop (rsz l)))) (ev_is (ev_slB (lo := some ((rsz l : Nat) : Int)) (hi := none) (ev_var rfl) (eo_some (ev_var rfl)) eo_none (by omega)) (congrArg V.str (cutS_from l (rsz l)))) fun H3 e3 => ?_
      refine q_asg ev_c fun H4 e4 => ?_
      have E4 := ((eH.trans e2).trans e3).trans e4
      have hb : (l.take (rsz l)).length = rsz l := take_len hr1
      have hcb : ∀ c ∈ l.take (rsz l), c ≤ 1000 := fun c h => hc c (List.mem_of_mem_take h)
      unfold verO at q
      generalize l.take (rsz l) = b at q hb hcb
      generalize mkS (l.drop (rsz l)) = st at q
      have e00 : Str.ofString "" = mkS [] := by decide +kernel
      have bad : verD b st = none ∨ 60 < l.length → ∀ {D : Ends} {σ : L2.St} {H5 : Hp}, D.rt = Q → Ex H H5 → tRet (tC .non) D σ H5 := fun hv D σ H5 eD e5 => by
        refine s_ret ev_c fun H6 e6 => ?_
        rw [eD]
        refine q _ _ (e5.trans e6) ?_
        rcases hv with hv | hv
        · rw [hv, ite_self]
          exact .non
        · rw [if_pos hv]
          exact .non
      refine q_when (b := decide (60 < l.length) || decide (b = [])) (et_or (et_is (et_test (ev_bin0 (ev_lenB (ev_var rfl) (by omega)) ev_c)) (decide_eq_decide.mpr (by rw [hl]; omega))) fun _ => et_is (et_test (ev_eqS (ev_var rfl) ev_c)) (decide_eq_decide.mpr ⟨fun h => mkS_inj (h.trans e00), fun h => by rw [h, e00]⟩)) (fun hb1 H5 e5 => ?_) (fun hb1 H5 e5 => ?_)
      · refine bad ?_ rfl (E4.trans e5)
        simp only [Bool.or_eq_true, decide_eq_true_eq] at hb1
        rcases hb1 with h | h
        · exact .inr h
        · subst h
          exact .inl rfl
      have E5 := E4.trans e5
      simp only [Bool.or_eq_false_iff, decide_eq_false_iff_not] at hb1
      rw [if_neg hb1.1] at q
      have h60 := hb1.1
      obtain ⟨c, r, rfl⟩ : ∃ c r, b = c :: r := by
        cases b with
        | nil => exact absurd rfl hb1.2
        | cons c r => exact ⟨c, r, rfl⟩
      have hbl : (c :: r).length ≤ 60 := by omega
      have hrl : r.length ≤ 59 := by simp at hbl; omega
      have ret : ∀ {ta : TA} {H4 : Hp} {D : Ends} {ds : List PyData} {σ : L2.St}, D.rt = Q → Ex H H4 → EPA K ta σ H4 (· = ds) → ds.length ≤ 10 → verD (c :: r) st = some (.tuple ds) → tRet (tTup ta) D σ H4 := fun {ta H4 D ds σ} eD e4 h hl ed => by
        refine s_retTup h (fun es (z : es = ds) => by rw [z]; omega) fun a es H5 _ e5 hs hds => ?_
        subst hs
        rw [eD]
        refine q _ _ (e4.trans e5) ?_
        rw [ed]
        exact hds
      refine q_when (et_test (ev_eqS (ev_var rfl) ev_c)) (fun hb2 H6 e6 => ?_) (fun hb2 H6 e6 => ?_)
      · have eb : c :: r = [64] := mkS_inj ((of_decide_eq_true hb2).trans at_eq)
        exact ret rfl (E5.trans e6) (epa_c (ep_str ev_c) (epa_c (ep_non ev_c) (epa_c (ep_str (ev_var rfl)) epa_nil))) (by show 3 ≤ 10; decide) (by unfold verD; rw [if_pos eb])
      have n64 : ¬ c :: r = [64] := fun eb => of_decide_eq_false hb2 (by rw [eb, at_eq])
      have E6 := E5.trans e6
      have hd : ∀ {H' : Hp} {σ : L2.St}, σ[3]? = some (some (V.str (mkS (c :: r)))) → Ev (tOp rIxS (tVar 3) (tC (.int 0))) σ H' (.str ⟨#[c]⟩) := fun hσ => ev_ixB (z := mkS (c :: r)) (i := 0) (c := c) (ev_var hσ) ev_c (by rw [mkS_len]; omega) (at_natS (j := 0) rfl)
      have fr : ∀ {H' : Hp} {σ : L2.St}, σ[3]? = some (some (V.str (mkS (c :: r)))) → Ev (tSl rSlS (tVar 3) (tPart (tC (.int 1))) tNoPart) σ H' (.str (mkS r)) := fun hσ => ev_is (ev_slB (lo := some ((1 : Nat) : Int)) (hi := none) (ev_var hσ) (eo_some ev_c) eo_none (by rw [mkS_len]; omega)) (congrArg V.str (cutS_from (c :: r) 1))
      have one : ∀ (k : Nat) (x : String), Str.ofString x = mkS [k] → decide ((⟨#[c]⟩ : Str) = Str.ofString x) = decide (c = k) := fun k x hx => by
        rw [hx]
        refine decide_eq_decide.mpr ⟨fun h => ?_, fun h => by rw [h] <;> rfl⟩
        have := mkS_inj (a := [c]) (b := [k]) h
        simpa using this
      have o58 := one 58 ":" (by decide +kernel)
      have o47 := one 47 "/" (by decide +kernel)
      refine q_when (b := decide (c = 58)) (et_is (et_test (ev_eqS (hd (by rfl)) ev_c)) o58) (fun hb3 H7 e7 => ?_) (fun hb3 H7 e7 => ?_)
      · have hc58 : c = 58 := of_decide_eq_true hb3
        have nn : nameB (mkS (c :: r)) = false := by
          rw [name_eq, hc58, List.all_cons]
          show (_ && (false && _)) = false
          simp
        have vv : verD (c :: r) st = if addrB r = true then some (.tuple [.str (Str.ofString "address"), .int (PySem.NumText.digitsVal r : Nat), .str st]) else none := by
          unfold verD
          rw [if_neg n64, if_neg (by rw [nn]; exact Bool.false_ne_true), if_neg (fun h => by have := Option.some.inj h.1; omega)]
          by_cases ha : addrB r = true
          · rw [if_pos ⟨by rw [hc58] <;> rfl, ha⟩, if_pos ha] <;> rfl
          · rw [if_neg (fun h => ha h.2), if_neg ha]
        refine q_asg (fr rfl) fun H8 e8 => ?_
        have E8 := (E6.trans e7).trans e8
        have e48 : ∀ x : Nat, decide ((⟨#[x]⟩ : Str) = Str.ofString "0") = decide (x = 48) := fun x => by
          rw [show Str.ofString "0" = mkS [48] by decide +kernel]
          refine decide_eq_decide.mpr ⟨fun h => ?_, fun h => by rw [h] <;> rfl⟩
          have := mkS_inj (a := [x]) (b := [48]) h
          simpa using this
        have hok : TxOk 60 (mkS r) := ⟨by rw [mkS_len]; omega, fun x hx => hcb x (List.mem_cons_of_mem _ hx)⟩
        have eall : (mkS r).cps.toList.all (fun c => decide (c ∈ (Str.ofString "0123456789").cps.toList)) = r.all digC := by
          show r.all _ = _
          congr 1
          funext x
          exact digits_in x
        refine q_when (b := !addrB r) (et_is (et_or (a := decide (r = [])) (b := decide (18 < r.length) || (!r.all digC || decide (r.head? = some 48))) (et_is (et_test (ev_eqS (ev_var rfl) ev_c)) (decide_eq_decide.mpr ⟨fun h => mkS_inj (h.trans e00), fun h => by rw [h, e00]⟩)) fun hne => et_or (et_is (et_test (ev_bin0 (ev_lenB (ev_var rfl) (by rw [mkS_len]; omega)) ev_c)) (decide_eq_decide.mpr (by rw [mkS_len]; omega))) fun _ => et_or (et_is (et_not (et_B (ev_call (ea_cons (ev_var rfl) (ea_cons ev_c ea_nil)) (cv_only hok (by decide))))) (by rw [eall])) fun _ => ?_) ?_) (fun hb4 H9 e9 => ?_) (fun hb4 H9 e9 => ?_)
        · have hne2 : r ≠ [] := of_decide_eq_false hne
          obtain ⟨x, t, rfl⟩ : ∃ x t, r = x :: t := by
            cases r with
            | nil => exact absurd rfl hne2
            | cons x t => exact ⟨x, t, rfl⟩
          refine et_is (et_test (ev_eqS (ev_ixB (z := mkS (x :: t)) (i := 0) (c := x) (ev_var rfl) ev_c (by rw [mkS_len]; omega) (at_natS (j := 0) rfl)) ev_c)) ?_
          rw [e48]
          exact decide_eq_decide.mpr ⟨fun h => by rw [h] <;> rfl, fun h => Option.some.inj h⟩
        · unfold addrB
          cases r with
          | nil => rfl
          | cons x t =>
            rw [decide_eq_false (by simp : ¬ x :: t = [])]
            by_cases h18 : (x :: t).length ≤ 18
            · rw [decide_eq_false (by omega : ¬ 18 < (x :: t).length), decide_eq_true (⟨by simp, h18⟩ : 1 ≤ (x :: t).length ∧ (x :: t).length ≤ 18)]
              cases (x :: t).all digC <;> cases decide ((x :: t).head? = some 48) <;> rfl
            · rw [decide_eq_true (by omega : 18 < (x :: t).length), decide_eq_false (fun h => h18 h.2 : ¬ (1 ≤ (x :: t).length ∧ (x :: t).length ≤ 18))] <;> rfl
        · refine bad (.inl ?_) rfl (E8.trans e9)
          have ha : addrB r = false := by simpa using hb4
          rw [vv, if_neg (by rw [ha]; exact Bool.false_ne_true)]
        · have ha : addrB r = true := by simpa using hb4
          obtain ⟨i1, i2⟩ := addr_int ha
          exact ret rfl (E8.trans e9) (epa_c (ep_str ev_c) (epa_c (ep_int (ev_intS (ev_var rfl) i1 i2)) (epa_c (ep_str (ev_var rfl)) epa_nil))) (by show 3 ≤ 10; decide) (by rw [vv, if_pos ha])
      have n58 : ¬ c = 58 := of_decide_eq_false hb3
      have E7 := E6.trans e7
      refine q_asg (ev_var rfl) fun H8 e8 => ?_
      have E8 := E7.trans e8
      refine q_ifAsg (v := .str (mkS (if c = 47 then r else c :: r))) (b := decide (c = 47)) (et_is (et_test (ev_eqS (hd (by rfl)) ev_c)) o47) (fun h => by rw [if_pos (of_decide_eq_true h)]; exact fr rfl) (fun h => by rw [if_neg (of_decide_eq_false h)] <;> rfl) fun H9 e9 => ?_
      have E9 := E8.trans e9
      have hnl : (if c = 47 then r else c :: r).length ≤ 60 := by split <;> omega
      have hnc : ∀ x ∈ (if c = 47 then r else c :: r), x ≤ 1000 := fun x hx => by
        split at hx
        · exact hcb x (List.mem_cons_of_mem _ hx)
        · exact hcb x hx
      have vv : verD (c :: r) st = if nameB (mkS (if c = 47 then r else c :: r)) = true then some (.tuple [.str (if c = 47 then Str.ofString "far" else Str.ofString "name"), .str (mkS (if c = 47 then r else c :: r)), .str st]) else none := by
        unfold verD
        rw [if_neg n64]
        by_cases h47 : c = 47
        · have nn : nameB (mkS (c :: r)) = false := by
            rw [name_eq, h47, List.all_cons]
            show (_ && (false && _)) = false
            simp
          rw [if_neg (by rw [nn]; exact Bool.false_ne_true), if_pos h47, if_pos h47]
          by_cases ha : nameB (mkS r) = true
          · rw [if_pos ⟨by rw [h47] <;> rfl, ha⟩, if_pos ha] <;> rfl
          · rw [if_neg (fun h => ha h.2), if_neg ha, if_neg (fun h => n58 (Option.some.inj h.1))]
        · rw [if_neg h47, if_neg h47]
          by_cases ha : nameB (mkS (c :: r)) = true
          · rw [if_pos ha, if_pos ha]
          · rw [if_neg ha, if_neg ha, if_neg (fun h => h47 (Option.some.inj h.1)), if_neg (fun h => n58 (Option.some.inj h.1))]
      generalize (if c = 47 then r else c :: r) = nm at *
      have hok : TxOk 60 (mkS nm) := ⟨by rw [mkS_len]; omega, fun x hx => hnc x hx⟩
      have eall : (mkS nm).cps.toList.all (fun c => decide (c ∈ (Str.ofString "abcdefghijklmnopqrstuvwxyz").cps.toList)) = nm.all lowerC := by
        show nm.all _ = _
        congr 1
        funext x
        exact letters_in x
      refine q_when (b := !nameB (mkS nm)) (et_is (et_or (a := decide (nm = [])) (b := decide (12 < nm.length) || !nm.all lowerC) (et_is (et_test (ev_eqS (ev_var rfl) ev_c)) (decide_eq_decide.mpr ⟨fun h => mkS_inj (h.trans e00), fun h => by rw [h, e00]⟩)) fun hne => et_or (et_is (et_test (ev_bin0 (ev_lenB (ev_var rfl) (by rw [mkS_len]; omega)) ev_c)) (decide_eq_decide.mpr (by rw [mkS_len]; omega))) fun _ => et_is (et_not (et_B (ev_call (ea_cons (ev_var rfl) (ea_cons (ev_var rfl) ea_nil)) (cv_only hok (by decide))))) (by rw [eall])) ?_) (fun hb4 H10 e10 => ?_) (fun hb4 H10 e10 => ?_)
      · rw [name_eq]
        cases nm with
        | nil => rfl
        | cons x t =>
          rw [decide_eq_false (by simp : ¬ x :: t = [])]
          by_cases h12 : (x :: t).length ≤ 12
          · rw [decide_eq_false (by omega : ¬ 12 < (x :: t).length), decide_eq_true (⟨by simp, h12⟩ : 1 ≤ (x :: t).length ∧ (x :: t).length ≤ 12)]
            cases (x :: t).all lowerC <;> rfl
          · rw [decide_eq_true (by omega : 12 < (x :: t).length), decide_eq_false (fun h => h12 h.2 : ¬ (1 ≤ (x :: t).length ∧ (x :: t).length ≤ 12))] <;> rfl
      · refine bad (.inl ?_) rfl (E9.trans e10)
        have ha : nameB (mkS nm) = false := by simpa using hb4
        rw [vv, if_neg (by rw [ha]; exact Bool.false_ne_true)]
      · have ha : nameB (mkS nm) = true := by simpa using hb4
        refine ret rfl (E9.trans e10) (epa_c (ep_str (z := if c = 47 then Str.ofString "far" else Str.ofString "name") ?_) (epa_c (ep_str (ev_var rfl)) (epa_c (ep_str (ev_var rfl)) epa_nil))) (by show 3 ≤ 10; decide) (by rw [vv, if_pos ha])
        refine ev_ixN (xs := [.str (Str.ofString "name"), .str (Str.ofString "far")]) (i := if c = 47 then 1 else 0) (el_lst (ea_cons ev_c (ea_cons ev_c ea_nil)) (by show 2 ≤ 100000; decide)) (fun H11 e11 => ?_) ?_
        · have ee : (if decide (c = 47) = true then (1 : Int) else 0) = if c = 47 then 1 else 0 := by by_cases h : c = 47 <;> simp [h]
          exact ev_is (ev_intB (ev_is (ev_eqS (hd rfl) ev_c) (congrArg V.bl o47))) (congrArg V.int ee)
        · by_cases h : c = 47
          · rw [if_pos h, if_pos h]
            exact at_nat (j := 1) rfl
          · rw [if_neg h, if_neg h]
            exact at_nat (j := 0) rfl


/-! ### _law_same -/
/-- data of nesting at most n -/
inductive Gd : Nat → PyData → Prop
  | non (n : Nat) : Gd n .none
  | bl (n : Nat) (b : Bool) : Gd n (.bool b)
  | int (n : Nat) (i : Int) : Gd n (.int i)
  | str (n : Nat) (z : Str) : Gd n (.str z)
  | tup {n : Nat} {ds : List PyData} (h : ∀ d ∈ ds, Gd n d) (hl : ds.length ≤ 40000) : Gd (n + 1) (.tuple ds)
  | lst {n : Nat} {ds : List PyData} (h : ∀ d ∈ ds, Gd n d) (hl : ds.length ≤ 40000) : Gd (n + 1) (.list ds)
def spSameG (K : PySem.W.Frag) (n : Nat) : Sp := fun vs H Q _ => ∃ (u v : V) (d : PyData), vs = [u, v] ∧ Dp K H u d ∧ Dp K H v d ∧ Gd n d ∧ ∀ H', Ex H H' → Q (.bl true) H'
theorem cv_sameG {K : PySem.W.Frag} {n : Nat} {u v : V} {d : PyData} {H : Hp} (h : Dp K H u d) (h2 : Dp K H v d) (hf : Gd n d) : SpV (spSameG K n) [u, v] H (.bl true) := fun H1 e Q q E => ⟨u, v, d, rfl, dp_mono e h, dp_mono e h2, hf, fun H2 e2 => q H2 e2⟩
theorem dp_sc {K : PySem.W.Frag} {H : Hp} {u v : V} {d : PyData} (hs : isTup d = false) (hl : isLst d = false) (h : Dp K H u d) (k : Dp K H v d) : u = v := by
  cases h <;> cases k <;> first | rfl | (simp [isTup] at hs; done) | (simp [isLst] at hl; done)
theorem same_flat {K : PySem.W.Frag} {u v : V} {d : PyData} {H : Hp} {Q : VK} {n : Nat} (hU : Dp K H u d) (hV : Dp K H v d) (hs : isTup d = false) (hl : isLst d = false) (q : ∀ H', Ex H H' → Q (.bl true) H') {nx : L2.St → Hp → Prop} {x : Option V}
    {t1 t2 : TS} :
    tSeq (tIfS (tTest (tOp (fun x y H Q => y = .non ∧ Q (.bl (decide (x = .non))) H) (tVar 1) (tC .non))) (tRet (tOp (fun x y H Q => y = .non ∧ Q (.bl (decide (x = .non))) H) (tVar 0) (tC .non))) tNext)
      (tSeq (tIfS (tOr (tB (tCB (rIsi K) (tCons (tVar 1) (tCons (tC (.ty "list")) tNil)))) (tB (tCB (rIsi K) (tCons (tVar 1) (tCons (tC (.ty "tuple")) tNil))))) t1 tNext)
        (tSeq (tIfS (tOr (tTest (tOp rNe (tCB (rIsi K) (tCons (tVar 1) (tCons (tC (.ty "bool")) tNil))) (tCB (rIsi K) (tCons (tVar 0) (tCons (tC (.ty "bool")) tNil))))) (tTest (tOp rNe (tCB (rIsi K) (tCons (tVar 1) (tCons (tC (.ty "int")) tNil))) (tCB (rIsi K) (tCons (tVar 0) (tCons (tC (.ty "int")) tNil)))))) t2 tNext)
          (tRet (tAndV (tOp rEq (tCB (rIsi K) (tCons (tVar 1) (tCons (tC (.ty "str")) tNil))) (tCB (rIsi K) (tCons (tVar 0) (tCons (tC (.ty "str")) tNil)))) (tOp rEq (tVar 0) (tVar 1))))))
      { nx := nx, rt := Q } [some u, some v, x] H := by
  have huv : u = v := dp_sc hs hl hU hV
  subst huv
  refine q_when (et_test (ev_isN (ev_var rfl))) (fun hb H1 e1 => ?_) (fun hb H1 e1 => ?_)
  · exact s_ret (ev_is (ev_isN (ev_var rfl)) (congrArg V.bl hb)) fun H2 e2 => q H2 (e1.trans e2)
  refine q_when (b := false) (et_is (et_or (et_B (ev_isL (ev_var rfl) (dp_mono e1 hV))) fun _ => et_B (ev_isT (ev_var rfl) (dp_mono e1 hV))) (by rw [hs, hl] <;> rfl)) (fun z => nomatch z) fun _ H2 e2 => ?_
  have E2 := e1.trans e2
  have hV2 := dp_mono E2 hV
  refine q_when (b := false) (et_is (et_or (et_test (ev_neB (ev_isBl (ev_var rfl) hV2) (ev_isBl (ev_var rfl) hV2))) fun _ => et_test (ev_neB (ev_isNum (ev_var rfl) hV2) (ev_isNum (ev_var rfl) hV2))) (by simp)) (fun z => nomatch z) fun _ H3 e3 => ?_
  have hV3 := dp_mono e3 hV2
  refine s_ret (v := .bl true) (ev_is (ev_andV (ev_eqB (ev_isS (ev_var rfl) hV3) (ev_isS (ev_var rfl) hV3)) fun _ => ev_is (ev_op (ev_var rfl) (ev_var rfl) (rv_eq (x := u) (y := u) ?_)) (congrArg V.bl (decide_eq_true rfl))) (by simp)) fun H4 e4 => q H4 ((E2.trans e3).trans e4)
  cases hV <;> first | rfl | (simp [isTup] at hs; done) | (simp [isLst] at hl; done)
theorem ok_law_same_at (T : Txt K mg) : ∀ n : Nat, FnOk P w K mg base CX0 (n + 1) T.f_law_same T.d_law_same ["actual", "due"] (spSameG K n)
  | 0 => by
    refine T.F_law_same.ok sc_law_same (fun vs H Q E h => ?_) (fun cdv A outer s H vs Q E hr h => ?_)
    · obtain ⟨u, v, d, rfl, _⟩ := h
      rfl
    · obtain ⟨u, v, d, rfl, hU, hV, hf, q⟩ := h
      refine ⟨_, pss_cons (ps_if (pt_cmpR op_isN (pv 1) (pe_non) (nomark _))
      (pss_one (ps_ret (pe_cmpR op_isN (pv 0) (pe_non) (nomark _))))
      (pss_nil))
      (pss_cons (ps_if (PW.pt (pw_or (pt_val (pe_callB (r := rIsi K) call_isi (by rfl) T.m_isinstance (by decide +kernel) (pa_cons (pv 1) (pa_cons (pe_bltn (v := .ty "list") (by rfl) T.m_list (by decide +kernel) rfl) (pa_nil))))) (pw_or1 (pt_val (pe_callB (r := rIsi K) call_isi (by rfl) T.m_isinstance (by decide +kernel) (pa_cons (pv 1) (pa_cons (pe_bltn (v := .ty "tuple") (by rfl) T.m_tuple (by decide +kernel) rfl) (pa_nil))))))))
      (pss_cons (ps_if (PW.pt (pw_or (pt_cmpR op_ne (pe_callB (r := rIsi K) call_isi (by rfl) T.m_isinstance (by decide +kernel) (pa_cons (pv 1) (pa_cons (pe_bltn (v := .ty "list") (by rfl) T.m_list (by decide +kernel) rfl) (pa_nil)))) (pe_callB (r := rIsi K) call_isi (by rfl) T.m_isinstance (by decide +kernel) (pa_cons (pv 0) (pa_cons (pe_bltn (v := .ty "list") (by rfl) T.m_list (by decide +kernel) rfl) (pa_nil)))) (nomark _)) (pw_or1 (pt_cmpR op_ne (pe_callB (r := rIsi K) call_isi (by rfl) T.m_isinstance (by decide +kernel) (pa_cons (pv 1) (pa_cons (pe_bltn (v := .ty "tuple") (by rfl) T.m_tuple (by decide +kernel) rfl) (pa_nil)))) (pe_callB (r := rIsi K) call_isi (by rfl) T.m_isinstance (by decide +kernel) (pa_cons (pv 0) (pa_cons (pe_bltn (v := .ty "tuple") (by rfl) T.m_tuple (by decide +kernel) rfl) (pa_nil)))) (nomark _)))))
      (pss_one (ps_ret (pe_bl)))
      (pss_nil))
      (pss_cons (ps_if (pt_cmpR op_ne (pe_callB (r := rLenQ K) call_len_seq (by rfl) T.m_len (by decide +kernel) (pa_cons (pv 0) (pa_nil))) (pe_callB (r := rLenQ K) call_len_seq (by rfl) T.m_len (by decide +kernel) (pa_cons (pv 1) (pa_nil))) (nomark _))
      (pss_one (ps_ret (pe_bl)))
      (pss_nil))
      (pss_cons (ps_for PassesOwn.never rfl (pi_range1 (by rfl) T.m_range (pa_cons (pe_callB (r := rLenQ K) call_len_seq (by rfl) T.m_len (by decide +kernel) (pa_cons (pv 1) (pa_nil))) (pa_nil))) (pg_name (i := 2) sc_law_same.nd rfl (by first | exact Or.inl rfl | exact Or.inr rfl))
      (pss_one (ps_never)))
      (pss_one (ps_ret (pe_bl))))))
      (pss_nil))
      (pss_cons (ps_if (PW.pt (pw_or (pt_cmpR op_ne (pe_callB (r := rIsi K) call_isi (by rfl) T.m_isinstance (by decide +kernel) (pa_cons (pv 1) (pa_cons (pe_bltn (v := .ty "bool") (by rfl) T.m_bool (by decide +kernel) rfl) (pa_nil)))) (pe_callB (r := rIsi K) call_isi (by rfl) T.m_isinstance (by decide +kernel) (pa_cons (pv 0) (pa_cons (pe_bltn (v := .ty "bool") (by rfl) T.m_bool (by decide +kernel) rfl) (pa_nil)))) (nomark _)) (pw_or1 (pt_cmpR op_ne (pe_callB (r := rIsi K) call_isi (by rfl) T.m_isinstance (by decide +kernel) (pa_cons (pv 1) (pa_cons (pe_bltn (v := .ty "int") (by rfl) T.m_int (by decide +kernel) rfl) (pa_nil)))) (pe_callB (r := rIsi K) call_isi (by rfl) T.m_isinstance (by decide +kernel) (pa_cons (pv 0) (pa_cons (pe_bltn (v := .ty "int") (by rfl) T.m_int (by decide +kernel) rfl) (pa_nil)))) (nomark _)))))
      (pss_one (ps_ret (pe_bl)))
      (pss_nil))
      (pss_one (ps_ret (pe_and (pe_cmpR op_eq (pe_callB (r := rIsi K) call_isi (by rfl) T.m_isinstance (by decide +kernel) (pa_cons (pv 1) (pa_cons (pe_bltn (v := .ty "str") (by rfl) T.m_str (by decide +kernel) rfl) (pa_nil)))) (pe_callB (r := rIsi K) call_isi (by rfl) T.m_isinstance (by decide +kernel) (pa_cons (pv 0) (pa_cons (pe_bltn (v := .ty "str") (by rfl) T.m_str (by decide +kernel) rfl) (pa_nil)))) (nomark _)) (pe_one (pe_cmpR op_eq (pv 0) (pv 1) (nomark _)))))))), ?_⟩
      exact same_flat (n := 0) hU hV (by cases hf <;> rfl) (by cases hf <;> rfl) q
  | n + 1 => by
    have IH := ok_law_same_at T n
    refine T.F_law_same.ok sc_law_same (fun vs H Q E h => ?_) (fun cdv A outer s H vs Q E hr h => ?_)
    · obtain ⟨u, v, d, rfl, _⟩ := h
      rfl
    · obtain ⟨u, v, d, rfl, hU, hV, hf, q⟩ := h
      refine ⟨_, pss_cons (ps_if (pt_cmpR op_isN (pv 1) (pe_non) (nomark _))
      (pss_one (ps_ret (pe_cmpR op_isN (pv 0) (pe_non) (nomark _))))
      (pss_nil))
      (pss_cons (ps_if (PW.pt (pw_or (pt_val (pe_callB (r := rIsi K) call_isi (by rfl) T.m_isinstance (by decide +kernel) (pa_cons (pv 1) (pa_cons (pe_bltn (v := .ty "list") (by rfl) T.m_list (by decide +kernel) rfl) (pa_nil))))) (pw_or1 (pt_val (pe_callB (r := rIsi K) call_isi (by rfl) T.m_isinstance (by decide +kernel) (pa_cons (pv 1) (pa_cons (pe_bltn (v := .ty "tuple") (by rfl) T.m_tuple (by decide +kernel) rfl) (pa_nil))))))))
      (pss_cons (ps_if (PW.pt (pw_or (pt_cmpR op_ne (pe_callB (r := rIsi K) call_isi (by rfl) T.m_isinstance (by decide +kernel) (pa_cons (pv 1) (pa_cons (pe_bltn (v := .ty "list") (by rfl) T.m_list (by decide +kernel) rfl) (pa_nil)))) (pe_callB (r := rIsi K) call_isi (by rfl) T.m_isinstance (by decide +kernel) (pa_cons (pv 0) (pa_cons (pe_bltn (v := .ty "list") (by rfl) T.m_list (by decide +kernel) rfl) (pa_nil)))) (nomark _)) (pw_or1 (pt_cmpR op_ne (pe_callB (r := rIsi K) call_isi (by rfl) T.m_isinstance (by decide +kernel) (pa_cons (pv 1) (pa_cons (pe_bltn (v := .ty "tuple") (by rfl) T.m_tuple (by decide +kernel) rfl) (pa_nil)))) (pe_callB (r := rIsi K) call_isi (by rfl) T.m_isinstance (by decide +kernel) (pa_cons (pv 0) (pa_cons (pe_bltn (v := .ty "tuple") (by rfl) T.m_tuple (by decide +kernel) rfl) (pa_nil)))) (nomark _)))))
      (pss_one (ps_ret (pe_bl)))
      (pss_nil))
      (pss_cons (ps_if (pt_cmpR op_ne (pe_callB (r := rLenQ K) call_len_seq (by rfl) T.m_len (by decide +kernel) (pa_cons (pv 0) (pa_nil))) (pe_callB (r := rLenQ K) call_len_seq (by rfl) T.m_len (by decide +kernel) (pa_cons (pv 1) (pa_nil))) (nomark _))
      (pss_one (ps_ret (pe_bl)))
      (pss_nil))
      (pss_cons (ps_for PassesOwn.never rfl (pi_range1 (by rfl) T.m_range (pa_cons (pe_callB (r := rLenQ K) call_len_seq (by rfl) T.m_len (by decide +kernel) (pa_cons (pv 1) (pa_nil))) (pa_nil))) (pg_name (i := 2) sc_law_same.nd rfl (by first | exact Or.inl rfl | exact Or.inr rfl))
      (pss_one (ps_if (pt_not (pt_val (pe_call IH (hr.mono (by omega)) (by rfl) T.g_law_same T.F_law_same.kp T.b_law_same .nil pass0 (pa_cons (pe_ix (r := rIxD K) (ix_any ix_list ix_tup) (pv 0) (pv 2) (fun _ _ => rfl)) (pa_cons (pe_ix (r := rIxD K) (ix_any ix_list ix_tup) (pv 1) (pv 2) (fun _ _ => rfl)) (pa_nil))))))
      (pss_one (ps_ret (pe_bl)))
      (pss_nil))))
      (pss_one (ps_ret (pe_bl))))))
      (pss_nil))
      (pss_cons (ps_if (PW.pt (pw_or (pt_cmpR op_ne (pe_callB (r := rIsi K) call_isi (by rfl) T.m_isinstance (by decide +kernel) (pa_cons (pv 1) (pa_cons (pe_bltn (v := .ty "bool") (by rfl) T.m_bool (by decide +kernel) rfl) (pa_nil)))) (pe_callB (r := rIsi K) call_isi (by rfl) T.m_isinstance (by decide +kernel) (pa_cons (pv 0) (pa_cons (pe_bltn (v := .ty "bool") (by rfl) T.m_bool (by decide +kernel) rfl) (pa_nil)))) (nomark _)) (pw_or1 (pt_cmpR op_ne (pe_callB (r := rIsi K) call_isi (by rfl) T.m_isinstance (by decide +kernel) (pa_cons (pv 1) (pa_cons (pe_bltn (v := .ty "int") (by rfl) T.m_int (by decide +kernel) rfl) (pa_nil)))) (pe_callB (r := rIsi K) call_isi (by rfl) T.m_isinstance (by decide +kernel) (pa_cons (pv 0) (pa_cons (pe_bltn (v := .ty "int") (by rfl) T.m_int (by decide +kernel) rfl) (pa_nil)))) (nomark _)))))
      (pss_one (ps_ret (pe_bl)))
      (pss_nil))
      (pss_one (ps_ret (pe_and (pe_cmpR op_eq (pe_callB (r := rIsi K) call_isi (by rfl) T.m_isinstance (by decide +kernel) (pa_cons (pv 1) (pa_cons (pe_bltn (v := .ty "str") (by rfl) T.m_str (by decide +kernel) rfl) (pa_nil)))) (pe_callB (r := rIsi K) call_isi (by rfl) T.m_isinstance (by decide +kernel) (pa_cons (pv 0) (pa_cons (pe_bltn (v := .ty "str") (by rfl) T.m_str (by decide +kernel) rfl) (pa_nil)))) (nomark _)) (pe_one (pe_cmpR op_eq (pv 0) (pv 1) (nomark _)))))))), ?_⟩
      by_cases hsc : isTup d = false ∧ isLst d = false
      · exact same_flat (n := n) hU hV hsc.1 hsc.2 q
      obtain ⟨a, b, xs, ys, ds, rfl, rfl, hx, hy, hdx, hdy, hds, hl⟩ : ∃ a b xs ys ds, u = .ref a ∧ v = .ref b ∧ (SqL K H a xs ∧ SqL K H b ys ∧ d = .list ds ∨ SqT K H a xs ∧ SqT K H b ys ∧ d = .tuple ds) ∧ True ∧ DpAll K H xs ds ∧ DpAll K H ys ds ∧ (∀ d ∈ ds, Gd n d) ∧ ds.length ≤ 40000 := by
        cases hf with
        | tup h hl =>
          cases hU with
          | tup hs r =>
            cases hV with
            | tup hs2 r2 => exact ⟨_, _, _, _, _, rfl, rfl, .inr ⟨hs, hs2, rfl⟩, trivial, r, r2, h, hl⟩
        | lst h hl =>
          cases hU with
          | lst hs r =>
            cases hV with
            | lst hs2 r2 => exact ⟨_, _, _, _, _, rfl, rfl, .inl ⟨hs, hs2, rfl⟩, trivial, r, r2, h, hl⟩
        | _ => exact absurd ⟨rfl, rfl⟩ hsc
      have lx := dpa_len hdx
      have ly := dpa_len hdy
      refine q_when (b := false) (et_test (ev_isNf (ev_var rfl))) (fun z => nomatch z) fun _ H1 e1 => ?_
      have eor : (isLst d || isTup d) = true := by rcases hx with ⟨_, _, rfl⟩ | ⟨_, _, rfl⟩ <;> rfl
      refine q_when (b := true) (et_is (et_or (et_B (ev_isL (ev_var rfl) (dp_mono e1 hV))) fun _ => et_B (ev_isT (ev_var rfl) (dp_mono e1 hV))) eor) (fun _ H2 e2 => ?_) (fun z => nomatch z)
      have E2 := e1.trans e2
      refine q_when (b := false) (et_is (et_or (et_test (ev_neB (ev_isL (ev_var rfl) (dp_mono E2 hV)) (ev_isL (ev_var rfl) (dp_mono E2 hU)))) fun _ => et_test (ev_neB (ev_isT (ev_var rfl) (dp_mono E2 hV)) (ev_isT (ev_var rfl) (dp_mono E2 hU)))) (by simp)) (fun z => nomatch z) fun _ H3 e3 => ?_
      have E3 := E2.trans e3
      have len : ∀ {H' : Hp} {σ : L2.St}, Ex H H' → σ[0]? = some (some (V.ref a)) → σ[1]? = some (some (V.ref b)) → Ev (tCB (rLenQ K) (tCons (tVar 0) tNil)) σ H' (.int (ds.length : Int)) ∧ Ev (tCB (rLenQ K) (tCons (tVar 1) tNil)) σ H' (.int (ds.length : Int)) := fun {H' σ} e h0 h1 => by
        rcases hx with ⟨p1, p2, _⟩ | ⟨p1, p2, _⟩
        · exact ⟨ev_is (ev_lenQ (ev_var h0) (ex_l e p1)) (by rw [lx]), ev_is (ev_lenQ (ev_var h1) (ex_l e p2)) (by rw [ly])⟩
        · exact ⟨ev_is (ev_lenT (ev_var h0) (ex_t e p1)) (by rw [lx]), ev_is (ev_lenT (ev_var h1) (ex_t e p2)) (by rw [ly])⟩
      refine q_when (b := false) (et_is (et_test (ev_neI (len E3 rfl rfl).1 (len E3 rfl rfl).2)) (by simp)) (fun z => nomatch z) fun _ H4 e4 => ?_
      have E4 := E3.trans e4
      refine q_forR1 (n := (ds.length : Int)) (ea_cons (len E4 rfl rfl).2 ea_nil) (by omega) (fun i σ' H' => ∃ kv : Option V, σ' = [some (.ref a), some (.ref b), kv] ∧ Ex H H') (fun H4 e4 => ⟨none, rfl, E4.trans e4⟩) (fun i σ' H' hi hP => ?_) (fun σ' H' hP => ?_)
      · obtain ⟨kv, rfl, eH⟩ := hP
        have hi2 : i < ds.length := by omega
        obtain ⟨d1, h1⟩ : ∃ d1, ds[i]? = some d1 := ⟨_, List.getElem?_eq_getElem hi2⟩
        obtain ⟨v1, g1, g2⟩ := dpa_get hdx h1
        obtain ⟨v2, k1, k2⟩ := dpa_get hdy h1
        have it : ∀ {j : Nat} {c : Addr} {zs : List V} {v : V} {σ : L2.St}, (SqL K H c zs ∨ SqT K H c zs) → σ[j]? = some (some (V.ref c)) → σ[2]? = some (some (V.int (i : Int))) → zs[i]? = some v → Ev (tOp (rIxD K) (tVar j) (tVar 2)) σ H' v := fun hq hj h2 hv => by
          rcases hq with hq | hq
          · exact ev_op (ev_var hj) (ev_var h2) fun H1 e1 Q q => .inl ((rv_ixL (ex_l eH hq) (at_nat hv)) H1 e1 Q q)
          · exact ev_op (ev_var hj) (ev_var h2) fun H1 e1 Q q => .inr ((rv_ixT (ex_t eH hq) (at_nat hv)) H1 e1 Q q)
        refine s_when (b := false) (et_is (et_not (et_B (ev_call (ea_cons (it (j := 0) (hx.imp (fun z => z.1) fun z => z.1) rfl rfl g1) (ea_cons (it (j := 1) (hx.imp (fun z => z.2.1) fun z => z.2.1) rfl rfl k1) ea_nil)) (cv_sameG (dp_mono eH g2) (dp_mono eH k2) (hds d1 (List.mem_of_getElem? h1)))))) rfl) (fun z => nomatch z) fun _ H4 e4 => ⟨_, rfl, eH.trans e4⟩
      · obtain ⟨kv, rfl, eH⟩ := hP
        exact s_ret ev_c fun H4 e4 => q H4 (eH.trans e4)
theorem ok_law_same (T : Txt K mg) : FnOk P w K mg base CX0 3 T.f_law_same T.d_law_same ["actual", "due"] (spSameG K 2) := ok_law_same_at T 2
theorem Gd.mono2 : ∀ {n m : Nat} {d : PyData}, Gd n d → n ≤ m → Gd m d
  | _, _, _, .non _, _ => .non _
  | _, _, _, .bl _ b, _ => .bl _ b
  | _, _, _, .int _ i, _ => .int _ i
  | _, _, _, .str _ z, _ => .str _ z
  | n + 1, m + 1, _, .tup h l, e => .tup (fun d hd => (h d hd).mono2 (by omega)) l
  | n + 1, m + 1, _, .lst h l, e => .lst (fun d hd => (h d hd).mono2 (by omega)) l
  | n + 1, 0, _, .tup h l, e => by omega
  | n + 1, 0, _, .lst h l, e => by omega


/-! ### _is_address -/
def spAddr : Sp := fun vs H Q _ => ∃ b : List Nat, vs = [.str (mkS b)] ∧ b.length ≤ 16000 ∧ ∀ H', Ex H H' → Q (.bl (addrB b)) H'
theorem cv_addr {b : List Nat} {H : Hp} (hz : b.length ≤ 16000) : SpV spAddr [.str (mkS b)] H (.bl (addrB b)) := fun H1 e Q q E => ⟨b, rfl, hz, fun H2 e2 => q H2 e2⟩
theorem ok_is_address (T : Txt K mg) : FnOk P w K mg base CX0 1 T.f_is_address T.d_is_address ["text"] spAddr := by
  refine T.F_is_address.ok sc_is_address (fun vs H Q E h => ?_) (fun cdv A outer s H vs Q E hr h => ?_)
  · obtain ⟨z, rfl, _⟩ := h
    rfl
  · obtain ⟨b, rfl, hz, q⟩ := h
    have e0 : (Str.ofString "0") = ⟨#[48]⟩ := by decide +kernel
    have e9 : (Str.ofString "9") = ⟨#[57]⟩ := by decide +kernel
    have hl := mkS_len b
    refine ⟨_, pss_cons (ps_if (PW.pt (pw_or (pt_not (pt_chain op_le op_le (pe_int) (pe_callB call_len_str (by rfl) T.m_len (by decide +kernel) (pa_cons (pv 0) (pa_nil))) (pe_glob (v := .int 18) rfl T.k_MOST_DIGITS ⟨_, rfl⟩))) (pw_or1 (pt_cmpR op_eq (pe_ix ix_str (pv 0) (pe_int) (fun _ _ => rfl)) (pe_str) (nomark _)))))
      (pss_one (ps_ret (pe_bl)))
      (pss_nil))
      (pss_one (ps_ret (pe_callB (cr_all rfl) (by rfl) T.m_all (by decide +kernel) (pa_cons (pe_lc (own := [("sign", 1)]) (g := gName 1) (tt := tYes) rfl sc_is_address.nd (pi_str (pv 0)) (blkOk_by (N := ["text", "sign"]) (sc := defScope s_is_address) (by decide +kernel)) (fun _ _ _ _ _ => pg_name (i := 1) sc_is_address.nd rfl (Or.inl rfl)) (fun _ _ _ _ _ => pts_nil) (fun _ _ _ _ _ => pe_chain op_le_str op_le_str (pe_str) (pv 1) (pe_str))) (pa_nil))))), ?_⟩
    refine q_when (b := !(decide (1 ≤ b.length ∧ b.length ≤ 18)) || decide (b.head? = some 48)) (et_or (et_not (et_test (ev_is (ev_chainI (a := decide ((1 : Int) ≤ (mkS b).length)) (b := decide (((mkS b).length : Int) ≤ 18)) (ev_lenB (ev_var rfl) (by omega)) rfl rfl) (congrArg V.bl ?_)))) fun h => ?_) (fun hb H1 e1 => ?_) (fun hb H1 e1 => ?_)
    · rw [hl, ← Bool.decide_and]
      exact decide_eq_decide.mpr ⟨fun h => ⟨by omega, by omega⟩, fun h => ⟨by omega, by omega⟩⟩
    · have h2 : 1 ≤ b.length ∧ b.length ≤ 18 := by simpa using h
      obtain ⟨c, r, rfl⟩ : ∃ c r, b = c :: r := by
        cases b with
        | nil => simp at h2
        | cons c r => exact ⟨c, r, rfl⟩
      refine et_is (et_test (ev_eqS (ev_ixB (z := mkS (c :: r)) (i := 0) (c := c) (ev_var rfl) ev_c (by rw [hl]; omega) (at_natS (j := 0) rfl)) ev_c)) ?_
      rw [e0]
      refine decide_eq_decide.mpr ⟨fun h => ?_, fun h => ?_⟩
      · have : c = 48 := by simpa using h
        rw [this] <;> rfl
      · have : c = 48 := Option.some.inj h
        rw [this]
    · have ea : addrB b = false := by
        unfold addrB
        simp only [Bool.or_eq_true, Bool.not_eq_true', decide_eq_true_eq, decide_eq_false_iff_not] at hb
        rcases hb with h | h
        · rw [decide_eq_false h] <;> rfl
        · rw [decide_eq_true h]; simp
      rw [ea] at q
      exact s_ret ev_c fun H2 e2 => q H2 (e1.trans e2)
    · have ea : addrB b = (b.map digC).all id := by
        unfold addrB
        simp only [Bool.or_eq_false_iff, Bool.not_eq_false', decide_eq_true_eq, decide_eq_false_iff_not] at hb
        rw [decide_eq_true hb.1, decide_eq_false hb.2, List.all_map] <;> rfl
      rw [ea] at q
      refine s_ret (ev_allN (K := K) (el_lcS (z := mkS b) (ev_var rfl) (by show b.length ≤ 40000; omega) (fun x => rfl) (by show _ = b.length; simp) fun i c y hc hy H2 e2 => ?_)) fun H2 e2 => q H2 (e1.trans e2)
      have hc2 : b[i]? = some c := hc
      rw [List.getElem?_map, List.getElem?_map, hc2] at hy
      rw [← Option.some.inj hy]
      exact ev_chainS e0 e9 (ev_var rfl)


/-! ### is_name -/
def spName : Sp := fun vs H Q _ => ∃ z : Str, vs = [.str z] ∧ z.length ≤ 16000 ∧ ∀ H', Ex H H' → Q (.bl (nameB z)) H'
theorem cv_name {z : Str} {H : Hp} (hz : z.length ≤ 16000) : SpV spName [.str z] H (.bl (nameB z)) := fun H1 e Q q E => ⟨z, rfl, hz, fun H2 e2 => q H2 e2⟩
theorem ok_is_name (T : Txt K mg) : FnOk P w K mg base CX0 1 T.f_is_name T.d_is_name ["text"] spName := by
  refine T.F_is_name.ok sc_is_name (fun vs H Q E h => ?_) (fun cdv A outer s H vs Q E hr h => ?_)
  · obtain ⟨z, rfl, _⟩ := h
    rfl
  · obtain ⟨z, rfl, hz, q⟩ := h
    have ea : (Str.ofString "a") = ⟨#[97]⟩ := by decide +kernel
    have eb : (Str.ofString "z") = ⟨#[122]⟩ := by decide +kernel
    have hz2 := hz
    rw [str_len] at hz2
    refine ⟨_, pss_one (ps_ret (pe_and (pe_chain op_le op_le (pe_int) (pe_callB call_len_str (by rfl) T.m_len (by decide +kernel) (pa_cons (pv 0) (pa_nil))) (pe_int)) (pe_one (pe_callB (cr_all rfl) (by rfl) T.m_all (by decide +kernel) (pa_cons (pe_lc (own := [("letter", 1)]) (g := gName 1) (tt := tYes) rfl sc_is_name.nd (pi_str (pv 0)) (blkOk_by (N := ["text", "letter"]) (sc := defScope s_is_name) (by decide +kernel)) (fun _ _ _ _ _ => pg_name (i := 1) sc_is_name.nd rfl (Or.inl rfl)) (fun _ _ _ _ _ => pts_nil) (fun _ _ _ _ _ => pe_chain op_le_str op_le_str (pe_str) (pv 1) (pe_str))) (pa_nil)))))), ?_⟩
    refine s_ret (v := .bl (nameB z)) (ev_is (ev_andV (a := decide (1 ≤ z.length ∧ z.length ≤ 12)) (b := (z.cps.toList.map lowerC).all id) (ev_is (ev_chainI (a := decide ((1 : Int) ≤ z.length)) (b := decide ((z.length : Int) ≤ 12)) (ev_lenB (ev_var rfl) (by omega)) rfl rfl) (congrArg V.bl ?_)) fun _ => ev_allN (el_lcS (ev_var rfl) (by omega) (fun x => rfl) (by simp) fun i c y hc hy H1 e1 => ?_)) (congrArg V.bl ?_)) fun H2 e2 => q H2 e2
    · rw [← Bool.decide_and]
      exact decide_eq_decide.mpr ⟨fun h => ⟨by omega, by omega⟩, fun h => ⟨by omega, by omega⟩⟩
    · rw [List.getElem?_map, List.getElem?_map, hc] at hy
      rw [← Option.some.inj hy]
      exact ev_chainS ea eb (ev_var rfl)
    · unfold nameB
      rw [List.all_map] <;> rfl


/-! ### parse_version -/
def spVer (K : PySem.W.Frag) : Sp := fun vs H Q _ => ∃ (l : List Nat) (d : PyData), vs = [.str (mkS l)] ∧ l.length ≤ 10000 ∧ verO l = some d ∧ ∀ v H', Ex H H' → Dp K H' v d → Q v H'
def spVerX (C : Addr) : Sp := fun vs H _ E => ∃ l : List Nat, vs = [.str (mkS l)] ∧ l.length ≤ 10000 ∧ verO l = none ∧ ∀ H', Ex H H' → E (.ref C) none H'
theorem ok_parse_version (T : Txt K mg) : FnOk P w K mg base CX0 2 T.f_parse_version T.d_parse_version ["text"] (spVer K) := by
  refine T.F_parse_version.ok sc_parse_version (fun vs H Q E h => ?_) (fun cdv A outer s H vs Q E hr h => ?_)
  · obtain ⟨l, d, rfl, _⟩ := h
    rfl
  · obtain ⟨l, d, rfl, hz, hv, q⟩ := h
    have hl := mkS_len l
    have h60 : ¬ 60 < l.length := fun h => by unfold verO at hv; rw [if_pos h] at hv; cases hv
    unfold verO at hv
    rw [if_neg h60] at hv
    have hr1 := rsz_le l
    have hb : (l.take (rsz l)).length = rsz l := take_len hr1
    refine ⟨_, pss_cons (ps_if (pt_cmpR op_gt (pe_callB call_len_str (by rfl) T.m_len (by decide +kernel) (pa_cons (pv 0) (pa_nil))) (pe_glob (v := .int 60) rfl T.k_MOST_CHARACTERS ⟨_, rfl⟩) (nomark _))
      (pss_one (ps_never))
      (pss_nil))
      (pss_cons (ps_set (i := 1) sc_parse_version.nd rfl (by first | exact Or.inl rfl | exact Or.inr rfl) (pe_m1 PySem.F.slot_str_rstrip PySem.F.type_str_rstrip mt_rstripChars (pv 0) (pe_glob (v := .str (Str.ofString "~^")) rfl T.k_STEPS ⟨_, rfl⟩)))
      (pss_cons (ps_set (i := 2) sc_parse_version.nd rfl (by first | exact Or.inl rfl | exact Or.inr rfl) (pe_slice sl_str (pv 0) (po_some (pe_callB call_len_str (by rfl) T.m_len (by decide +kernel) (pa_cons (pv 1) (pa_nil)))) (po_none)))
      (pss_cons (ps_if (pt_cmpR op_eq (pv 1) (pe_str) (nomark _))
      (pss_one (ps_ret (pe_tup (pa_cons (pe_str) (pa_cons (pe_non) (pa_cons (pv 2) (pa_nil)))))))
      (pss_nil))
      (pss_cons (ps_if (pt_val (pe_call (ok_is_name T) (hr.mono (by first | decide | omega)) (by rfl) T.g_is_name T.F_is_name.kp T.b_is_name .nil pass0 (pa_cons (pv 1) (pa_nil))))
      (pss_one (ps_ret (pe_tup (pa_cons (pe_str) (pa_cons (pv 1) (pa_cons (pv 2) (pa_nil)))))))
      (pss_nil))
      (pss_cons (ps_if (PW.pt (pw_and (pt_val (pe_m1 PySem.F.slot_str_startswith PySem.F.type_str_startswith mt_startswith (pv 1) (pe_str))) (pw_and1 (pt_val (pe_call (ok_is_name T) (hr.mono (by first | decide | omega)) (by rfl) T.g_is_name T.F_is_name.kp T.b_is_name .nil pass0 (pa_cons (pe_slice sl_str (pv 1) (po_some (pe_int)) (po_none)) (pa_nil)))))))
      (pss_one (ps_ret (pe_tup (pa_cons (pe_str) (pa_cons (pe_slice sl_str (pv 1) (po_some (pe_int)) (po_none)) (pa_cons (pv 2) (pa_nil)))))))
      (pss_nil))
      (pss_cons (ps_if (PW.pt (pw_and (pt_val (pe_m1 PySem.F.slot_str_startswith PySem.F.type_str_startswith mt_startswith (pv 1) (pe_str))) (pw_and1 (pt_val (pe_call (ok_is_address T) (hr.mono (by first | decide | omega)) (by rfl) T.g_is_address T.F_is_address.kp T.b_is_address .nil pass0 (pa_cons (pe_slice sl_str (pv 1) (po_some (pe_int)) (po_none)) (pa_nil)))))))
      (pss_one (ps_ret (pe_tup (pa_cons (pe_str) (pa_cons (pe_callTy call_int_str (by rfl) T.m_int (by decide +kernel) (pa_cons (pe_slice sl_str (pv 1) (po_some (pe_int)) (po_none)) (pa_nil))) (pa_cons (pv 2) (pa_nil)))))))
      (pss_nil))
      (pss_one (ps_never)))))))), ?_⟩
    refine q_when (b := false) (et_is (et_test (ev_bin0 (ev_lenB (ev_var rfl) (by omega)) ev_c)) (decide_eq_false (by omega))) (fun z => nomatch z) fun _ H1 e1 => ?_
    refine q_asg (v := .str (mkS (l.take (rsz l)))) (ev_is (ev_rstrip (ev_var rfl) ev_c (by omega)) (congrArg V.str (rstrip_eq (mkS l)))) fun H2 e2 => ?_
    refine q_asg (v := .str (mkS (l.drop (rsz l)))) (ev_is (ev_slB (lo := some ((rsz l : Nat) : Int)) (hi := none) (ev_var rfl) (eo_some (ev_is (ev_lenB (ev_var rfl) (by rw [mkS_len]; omega)) (by rw [mkS_len, hb]))) eo_none (by omega)) (congrArg V.str (cutS_from l (rsz l)))) fun H3 e3 => ?_
    have E3 := (e1.trans e2).trans e3
    generalize l.take (rsz l) = b at hv hb
    generalize mkS (l.drop (rsz l)) = st at hv
    have hbl : b.length ≤ 60 := by omega
    have dl : (b.drop 1).length ≤ 60 := by rw [List.length_drop]; omega
    unfold verD at hv
    have ret : ∀ {ta : TA} {H4 : Hp} {D : Ends} {ds : List PyData} {σ : L2.St}, D.rt = Q → Ex H H4 → EPA K ta σ H4 (· = ds) → ds.length ≤ 10 → d = .tuple ds → tRet (tTup ta) D σ H4 := fun {ta H4 D ds σ} eD e4 h hl ed => by
      refine s_retTup h (fun es (z : es = ds) => by rw [z]; omega) fun a es H5 _ e5 hs hds => ?_
      subst hs
      rw [eD]
      refine q _ _ (e4.trans e5) ?_
      rw [ed]
      exact hds
    refine q_when (et_test (ev_eqS (ev_var rfl) ev_c)) (fun hb1 H4 e4 => ?_) (fun hb1 H4 e4 => ?_)
    · have eb : b = [64] := mkS_inj ((of_decide_eq_true hb1).trans at_eq)
      rw [if_pos eb] at hv
      exact ret rfl (E3.trans e4) (epa_c (ep_str ev_c) (epa_c (ep_non ev_c) (epa_c (ep_str (ev_var rfl)) epa_nil))) (by show 3 ≤ 10; decide) (Option.some.inj hv).symm
    rw [if_neg (fun eb => of_decide_eq_false hb1 (by rw [eb, at_eq]))] at hv
    have E4 := E3.trans e4
    have nm : ∀ {H' : Hp} {σ : L2.St} {te : TE} {E : XK} {c : List Nat}, c.length ≤ 60 → Ev te σ H' (.str (mkS c)) → Ev (tCall spName [] E (tCons te tNil)) σ H' (.bl (nameB (mkS c))) := fun hc h => ev_call (ea_cons h ea_nil) (cv_name (by rw [mkS_len]; omega))
    refine q_when (et_B (nm hbl (ev_var rfl))) (fun hb2 H5 e5 => ?_) (fun hb2 H5 e5 => ?_)
    · rw [if_pos hb2] at hv
      exact ret rfl (E4.trans e5) (epa_c (ep_str ev_c) (epa_c (ep_str (ev_var rfl)) (epa_c (ep_str (ev_var rfl)) epa_nil))) (by show 3 ≤ 10; decide) (Option.some.inj hv).symm
    rw [if_neg (by rw [hb2]; exact Bool.false_ne_true)] at hv
    have E5 := E4.trans e5
    have s47 : Str.ofString "/" = mkS [47] := by decide +kernel
    have s58 : Str.ofString ":" = mkS [58] := by decide +kernel
    have fr : ∀ {H' : Hp} {σ : L2.St}, σ[1]? = some (some (V.str (mkS b))) → Ev (tSl rSlS (tVar 1) (tPart (tC (.int 1))) tNoPart) σ H' (.str (mkS (b.drop 1))) := fun hσ => ev_is (ev_slB (lo := some ((1 : Nat) : Int)) (hi := none) (ev_var hσ) (eo_some ev_c) eo_none (by rw [mkS_len]; omega)) (congrArg V.str (cutS_from b 1))
    refine q_when (b := decide (b.head? = some 47) && nameB (mkS (b.drop 1))) (et_and (et_B (ev_is (ev_starts (ev_var rfl) ev_c) (by rw [s47, starts_one]))) fun _ => et_B (nm dl (fr rfl))) (fun hb3 H6 e6 => ?_) (fun hb3 H6 e6 => ?_)
    · simp only [Bool.and_eq_true, decide_eq_true_eq] at hb3
      rw [if_pos hb3] at hv
      exact ret rfl (E5.trans e6) (epa_c (ep_str ev_c) (epa_c (ep_str (fr rfl)) (epa_c (ep_str (ev_var rfl)) epa_nil))) (by show 3 ≤ 10; decide) (Option.some.inj hv).symm
    rw [if_neg (fun h => by rw [decide_eq_true h.1, h.2] at hb3; cases hb3)] at hv
    have E6 := E5.trans e6
    refine q_when (b := decide (b.head? = some 58) && addrB (b.drop 1)) (et_and (et_B (ev_is (ev_starts (ev_var rfl) ev_c) (by rw [s58, starts_one]))) fun _ => et_B (ev_call (ea_cons (fr rfl) ea_nil) (cv_addr (by omega)))) (fun hb4 H7 e7 => ?_) (fun hb4 H7 e7 => ?_)
    · simp only [Bool.and_eq_true, decide_eq_true_eq] at hb4
      rw [if_pos hb4] at hv
      obtain ⟨i1, i2⟩ := addr_int hb4.2
      exact ret rfl (E6.trans e7) (epa_c (ep_str ev_c) (epa_c (ep_int (ev_intS (fr rfl) i1 i2)) (epa_c (ep_str (ev_var rfl)) epa_nil))) (by show 3 ≤ 10; decide) (Option.some.inj hv).symm
    · rw [if_neg (fun h => by rw [decide_eq_true h.1, h.2] at hb4; cases hb4)] at hv
      cases hv
theorem s_raiseV {X : Cx} {te : TE} {v : V} {σ : L2.St} {H H0 : Hp} {C : Addr} {E : XK} (h : Ev te σ H v) (hr : Raises X (.ref C)) (k : ∀ H1, Ex H H1 → Ex H0 H1 ∧ E (.ref C) none H1) :
    te σ H fun _ H1 => ∀ a, H1 a = none → ∃ a' cls, V.ref a = .ref a' ∧ upd H1 a (ExO (.ref C) a) a' = some (ExO cls a') ∧ Fr0 H0 a' ∧ Raises X cls ∧ E cls none (delH (upd H1 a (ExO (.ref C) a)) a') :=
  h H (Ex.refl H) _ fun H1 e1 a ha => ⟨a, _, rfl, upd_same, fr0_none (fresh_back (k H1 e1).1 ha), hr, by rw [delH_new ha]; exact (k H1 e1).2⟩
theorem s_raiseJ {X : Cx} {ts : List TE} {ys : List Str} {σ : L2.St} {H H0 : Hp} {C : Addr} {E : XK} (h : EvJ σ H ts ys) (hz : (ys.map (·.length)).sum ≤ 16777216) (hr : Raises X (.ref C)) (k : ∀ H1, Ex H H1 → Ex H0 H1 ∧ E (.ref C) none H1) :
    tJs ts Str.empty σ H fun _ H1 => ∀ a, H1 a = none → ∃ a' cls, V.ref a = .ref a' ∧ upd H1 a (ExO (.ref C) a) a' = some (ExO cls a') ∧ Fr0 H0 a' ∧ Raises X cls ∧ E cls none (delH (upd H1 a (ExO (.ref C) a)) a') :=
  ev_joined h hz H (Ex.refl H) (fun _ H1 => ∀ a, H1 a = none → ∃ a' cls, V.ref a = .ref a' ∧ upd H1 a (ExO (.ref C) a) a' = some (ExO cls a') ∧ Fr0 H0 a' ∧ Raises X cls ∧ E cls none (delH (upd H1 a (ExO (.ref C) a)) a')) fun H1 e1 a ha => ⟨a, _, rfl, upd_same, fr0_none (fresh_back (k H1 e1).1 ha), hr, by rw [delH_new ha]; exact (k H1 e1).2⟩
theorem ok_parse_version_bad (T : Txt K mg) : FnOk P w K mg base (L2.CX P w) 2 T.f_parse_version T.d_parse_version ["text"] (spVerX T.C_InvalidVersion) := by
  refine T.F_parse_version.okX sc_parse_version (fun vs H Q E h => ?_) (fun cdv A outer s H vs Q E hr h => ?_)
  · obtain ⟨l, rfl, _⟩ := h
    rfl
  · obtain ⟨l, rfl, hz, hv, q⟩ := h
    have hl := mkS_len l
    have hr1 := rsz_le l
    have hb : (l.take (rsz l)).length = rsz l := take_len hr1
    refine ⟨_, pss_cons (ps_if (pt_cmpR op_gt (pe_callB call_len_str (by rfl) T.m_len (by decide +kernel) (pa_cons (pv 0) (pa_nil))) (pe_glob (v := .int 60) rfl T.k_MOST_CHARACTERS ⟨_, rfl⟩) (nomark _))
      (pss_one (L2.ps_raise rfl (L2.takes_of rfl rfl rfl rfl) (pmk_ret rfl (pe_exc1 PySem.F.excBase_ValueError T.e_InvalidVersion.x T.e_InvalidVersion.g T.e_InvalidVersion.kp (by rfl) (pe_str)))))
      (pss_nil))
      (pss_cons (ps_set (i := 1) sc_parse_version.nd rfl (by first | exact Or.inl rfl | exact Or.inr rfl) (pe_m1 PySem.F.slot_str_rstrip PySem.F.type_str_rstrip mt_rstripChars (pv 0) (pe_glob (v := .str (Str.ofString "~^")) rfl T.k_STEPS ⟨_, rfl⟩)))
      (pss_cons (ps_set (i := 2) sc_parse_version.nd rfl (by first | exact Or.inl rfl | exact Or.inr rfl) (pe_slice sl_str (pv 0) (po_some (pe_callB call_len_str (by rfl) T.m_len (by decide +kernel) (pa_cons (pv 1) (pa_nil)))) (po_none)))
      (pss_cons (ps_if (pt_cmpR op_eq (pv 1) (pe_str) (nomark _))
      (pss_one (ps_ret (pe_tup (pa_cons (pe_str) (pa_cons (pe_non) (pa_cons (pv 2) (pa_nil)))))))
      (pss_nil))
      (pss_cons (ps_if (pt_val (pe_call (ok_is_name T) (hr.mono (by first | decide | omega)) (by rfl) T.g_is_name T.F_is_name.kp T.b_is_name .nil pass0 (pa_cons (pv 1) (pa_nil))))
      (pss_one (ps_ret (pe_tup (pa_cons (pe_str) (pa_cons (pv 1) (pa_cons (pv 2) (pa_nil)))))))
      (pss_nil))
      (pss_cons (ps_if (PW.pt (pw_and (pt_val (pe_m1 PySem.F.slot_str_startswith PySem.F.type_str_startswith mt_startswith (pv 1) (pe_str))) (pw_and1 (pt_val (pe_call (ok_is_name T) (hr.mono (by first | decide | omega)) (by rfl) T.g_is_name T.F_is_name.kp T.b_is_name .nil pass0 (pa_cons (pe_slice sl_str (pv 1) (po_some (pe_int)) (po_none)) (pa_nil)))))))
      (pss_one (ps_ret (pe_tup (pa_cons (pe_str) (pa_cons (pe_slice sl_str (pv 1) (po_some (pe_int)) (po_none)) (pa_cons (pv 2) (pa_nil)))))))
      (pss_nil))
      (pss_cons (ps_if (PW.pt (pw_and (pt_val (pe_m1 PySem.F.slot_str_startswith PySem.F.type_str_startswith mt_startswith (pv 1) (pe_str))) (pw_and1 (pt_val (pe_call (ok_is_address T) (hr.mono (by first | decide | omega)) (by rfl) T.g_is_address T.F_is_address.kp T.b_is_address .nil pass0 (pa_cons (pe_slice sl_str (pv 1) (po_some (pe_int)) (po_none)) (pa_nil)))))))
      (pss_one (ps_ret (pe_tup (pa_cons (pe_str) (pa_cons (pe_callTy call_int_str (by rfl) T.m_int (by decide +kernel) (pa_cons (pe_slice sl_str (pv 1) (po_some (pe_int)) (po_none)) (pa_nil))) (pa_cons (pv 2) (pa_nil)))))))
      (pss_nil))
      (pss_one (L2.ps_raise rfl (L2.takes_of rfl rfl rfl rfl) (pmk_ret rfl (pe_exc1 PySem.F.excBase_ValueError T.e_InvalidVersion.x T.e_InvalidVersion.g T.e_InvalidVersion.kp (by rfl) (pe_joined (.cons (pe_str) (.cons (pe_fmt (pv 0)) (.nil)))))))))))))), ?_⟩
    by_cases h60 : 60 < l.length
    · refine q_when (b := true) (et_is (et_test (ev_bin0 (ev_lenB (ev_var rfl) (by omega)) ev_c)) (decide_eq_true (by omega))) (fun _ H1 e1 => ?_) (fun z => nomatch z)
      exact s_raiseV ev_c (L2.raises_own T.e_InvalidVersion.b T.e_InvalidVersion.t) fun H2 e2 => ⟨e1.trans e2, q H2 (e1.trans e2)⟩
    unfold verO at hv
    rw [if_neg h60] at hv
    refine q_when (b := false) (et_is (et_test (ev_bin0 (ev_lenB (ev_var rfl) (by omega)) ev_c)) (decide_eq_false (by omega))) (fun z => nomatch z) fun _ H1 e1 => ?_
    refine q_asg (v := .str (mkS (l.take (rsz l)))) (ev_is (ev_rstrip (ev_var rfl) ev_c (by omega)) (congrArg V.str (rstrip_eq (mkS l)))) fun H2 e2 => ?_
    refine q_asg (v := .str (mkS (l.drop (rsz l)))) (ev_is (ev_slB (lo := some ((rsz l : Nat) : Int)) (hi := none) (ev_var rfl) (eo_some (ev_is (ev_lenB (ev_var rfl) (by rw [mkS_len]; omega)) (by rw [mkS_len, hb]))) eo_none (by omega)) (congrArg V.str (cutS_from l (rsz l)))) fun H3 e3 => ?_
    have E3 := (e1.trans e2).trans e3
    generalize l.take (rsz l) = b at hv hb
    generalize mkS (l.drop (rsz l)) = st at hv
    have hbl : b.length ≤ 60 := by omega
    have dl : (b.drop 1).length ≤ 60 := by rw [List.length_drop]; omega
    unfold verD at hv
    have h1 : ¬ b = [64] := fun h => by rw [if_pos h] at hv; cases hv
    rw [if_neg h1] at hv
    have h2 : nameB (mkS b) = false := by
      cases h : nameB (mkS b) with
      | false => rfl
      | true => rw [if_pos h] at hv; cases hv
    rw [if_neg (by rw [h2]; exact Bool.false_ne_true)] at hv
    have h3 : ¬ (b.head? = some 47 ∧ nameB (mkS (b.drop 1)) = true) := fun h => by rw [if_pos h] at hv; cases hv
    rw [if_neg h3] at hv
    have h4 : ¬ (b.head? = some 58 ∧ addrB (b.drop 1) = true) := fun h => by rw [if_pos h] at hv; cases hv
    refine q_when (b := false) (et_is (et_test (ev_eqS (ev_var rfl) ev_c)) (decide_eq_false fun h => h1 (mkS_inj (h.trans at_eq)))) (fun z => nomatch z) fun _ H4 e4 => ?_
    have E4 := E3.trans e4
    have nm : ∀ {H' : Hp} {σ : L2.St} {te : TE} {E : XK} {c : List Nat}, c.length ≤ 60 → Ev te σ H' (.str (mkS c)) → Ev (tCall spName [] E (tCons te tNil)) σ H' (.bl (nameB (mkS c))) := fun hc h => ev_call (ea_cons h ea_nil) (cv_name (by rw [mkS_len]; omega))
    refine q_when (b := false) (et_is (et_B (nm hbl (ev_var rfl))) h2) (fun z => nomatch z) fun _ H5 e5 => ?_
    have E5 := E4.trans e5
    have s47 : Str.ofString "/" = mkS [47] := by decide +kernel
    have s58 : Str.ofString ":" = mkS [58] := by decide +kernel
    have fr : ∀ {H' : Hp} {σ : L2.St}, σ[1]? = some (some (V.str (mkS b))) → Ev (tSl rSlS (tVar 1) (tPart (tC (.int 1))) tNoPart) σ H' (.str (mkS (b.drop 1))) := fun hσ => ev_is (ev_slB (lo := some ((1 : Nat) : Int)) (hi := none) (ev_var hσ) (eo_some ev_c) eo_none (by rw [mkS_len]; omega)) (congrArg V.str (cutS_from b 1))
    refine q_when (b := false) (et_is (et_and (et_B (ev_is (ev_starts (ev_var rfl) ev_c) (by rw [s47, starts_one]))) fun _ => et_B (nm dl (fr rfl))) ?_) (fun z => nomatch z) fun _ H6 e6 => ?_
    · by_cases h : b.head? = some 47
      · rw [decide_eq_true h]
        cases h5 : nameB (mkS (b.drop 1)) with
        | false => rfl
        | true => exact absurd ⟨h, h5⟩ h3
      · rw [decide_eq_false h] <;> rfl
    have E6 := E5.trans e6
    refine q_when (b := false) (et_is (et_and (et_B (ev_is (ev_starts (ev_var rfl) ev_c) (by rw [s58, starts_one]))) fun _ => et_B (ev_call (ea_cons (fr rfl) ea_nil) (cv_addr (by omega)))) ?_) (fun z => nomatch z) fun _ H7 e7 => ?_
    · by_cases h : b.head? = some 58
      · rw [decide_eq_true h]
        cases h5 : addrB (b.drop 1) with
        | false => rfl
        | true => exact absurd ⟨h, h5⟩ h4
      · rw [decide_eq_false h] <;> rfl
    have E7 := E6.trans e7
    refine s_raiseJ (.cons ev_c (.cons (ev_fmtS (ev_var rfl) (by omega)) .nil)) ?_ (L2.raises_own T.e_InvalidVersion.b T.e_InvalidVersion.t) fun H8 e8 => ⟨E7.trans e8, q H8 (E7.trans e8)⟩
    have e0 : (Str.ofString "this is not a version text: ").length = 28 := by decide +kernel
    show (Str.ofString "this is not a version text: ").length + ((mkS l).length + 0) ≤ 16777216
    rw [e0, hl]
    omega


/-! ### _law_parses -/
def spParses : Sp := fun vs H Q _ => ∃ z : Str, vs = [.str z] ∧ TxOk 5000 z ∧ ∀ H', Ex H H' → Q (.bl true) H'
theorem cv_parses {z : Str} {H : Hp} (hz : TxOk 5000 z) : SpV spParses [.str z] H (.bl true) := fun H1 e Q q E => ⟨z, rfl, hz, fun H2 e2 => q H2 e2⟩
theorem verO_fl {l : List Nat} {d : PyData} (h : verO l = some d) : Gd 1 d ∧ d ≠ .none := by
  have tri : ∀ a b c : PyData, Gd 0 a → Gd 0 b → Gd 0 c → Gd 1 (.tuple [a, b, c]) := fun a b c ha hb hc => .tup (fun x hx => by
    simp only [List.mem_cons, List.not_mem_nil, or_false] at hx
    rcases hx with z | z | z <;> rw [z] <;> assumption) (by show 3 ≤ 40000; decide)
  unfold verO verD at h
  split at h
  · cases h
  split at h
  · cases h; exact ⟨tri _ _ _ (.str 0 _) (.non 0) (.str 0 _), fun z => nomatch z⟩
  split at h
  · cases h; exact ⟨tri _ _ _ (.str 0 _) (.str 0 _) (.str 0 _), fun z => nomatch z⟩
  split at h
  · cases h; exact ⟨tri _ _ _ (.str 0 _) (.str 0 _) (.str 0 _), fun z => nomatch z⟩
  split at h
  · cases h; exact ⟨tri _ _ _ (.str 0 _) (.int 0 _) (.str 0 _), fun z => nomatch z⟩
  · cases h
theorem ev_notN {σ : L2.St} {H : Hp} {te : TE} {v : V} {b : Bool} (h : Ev te σ H v) (hb : (!decide (v = .non)) = b) : Ev (tOp (fun x y H Q => y = .non ∧ Q (.bl (!decide (x = .non))) H) te (tC .non)) σ H (.bl b) := fun H1 e Q q => h H1 e _ fun H2 e2 => ⟨rfl, by rw [hb]; exact q H2 e2⟩
theorem ok_law_parses (T : Txt K mg) : FnOk P w K mg base CX0 4 T.f_law_parses T.d_law_parses ["text"] spParses := by
  refine T.F_law_parses.ok sc_law_parses (fun vs H Q E h => ?_) (fun cdv A outer s H vs Q E hr h => ?_)
  · obtain ⟨z, rfl, _⟩ := h
    rfl
  · obtain ⟨z, rfl, hz, q⟩ := h
    obtain ⟨l, rfl⟩ : ∃ l, z = mkS l := ⟨_, mkS_codes z⟩
    have hl : l.length ≤ 10000 := by have := hz.1; rw [mkS_len] at this; omega
    have hlc : ∀ c ∈ l, c ≤ 1000 := hz.2
    cases hv : verO l with
    | some d =>
      obtain ⟨g1, g2⟩ := verO_fl hv
      refine ⟨_, pss_cons (ps_set (i := 1) sc_law_parses.nd rfl (by first | exact Or.inl rfl | exact Or.inr rfl) (pe_call (ok_law_read T) (hr.mono (by first | decide | omega)) (by rfl) T.g_law_read T.F_law_read.kp T.b_law_read .nil pass0 (pa_cons (pv 0) (pa_nil))))
      (pss_cons (ps_try_thru0 (pss_one (ps_set (i := 2) sc_law_parses.nd rfl (by first | exact Or.inl rfl | exact Or.inr rfl) (pe_call (ok_parse_version T) (hr.mono (by first | decide | omega)) (by rfl) T.g_parse_version T.F_parse_version.kp T.b_parse_version .nil pass0 (pa_cons (pv 0) (pa_nil))))))
      (pss_one (ps_ret (pe_and (pe_cmpR op_notN (pv 1) (pe_non) (nomark _)) (pe_one (pe_call (ok_law_same T) (hr.mono (by first | decide | omega)) (by rfl) T.g_law_same T.F_law_same.kp T.b_law_same .nil pass0 (pa_cons (pv 2) (pa_cons (pv 1) (pa_nil))))))))), ?_⟩
      refine q_asgK ((ea_cons (ev_var rfl) ea_nil) H (Ex.refl H) _ fun H1 e1 => ⟨l, rfl, hl, hlc, fun v H2 e2 hd => ?_⟩)
      rw [hv] at hd
      have hd : Dp K H2 v d := hd
      refine q_asgK ((ea_cons (ev_var rfl) ea_nil) H2 (Ex.refl H2) _ fun H3 e3 => ⟨l, d, rfl, hl, hv, fun u H4 e4 hu => ?_⟩)
      have E4 := (e1.trans e2).trans (e3.trans e4)
      have nv : (!decide (v = .non)) = true := by
        cases hd <;> first | rfl | exact absurd rfl g2
      refine s_ret (v := .bl true) (ev_is (ev_andV (a := true) (ev_notN (ev_var rfl) nv) fun _ => ev_call (ea_cons (ev_var rfl) (ea_cons (ev_var rfl) ea_nil)) (cv_sameG (d := d) hu (dp_mono (e3.trans e4) hd) (g1.mono2 (by decide)))) rfl) fun H5 e5 => q H5 (E4.trans e5)
    | none =>
      refine ⟨_, pss_cons (ps_set (i := 1) sc_law_parses.nd rfl (by first | exact Or.inl rfl | exact Or.inr rfl) (pe_call (ok_law_read T) (hr.mono (by first | decide | omega)) (by rfl) T.g_law_read T.F_law_read.kp T.b_law_read .nil pass0 (pa_cons (pv 0) (pa_nil)))) (pss_cons (ps_try_as2 (i := 3) (c := .ref T.C_InvalidVersion) rfl rfl sc_law_parses.nd rfl rfl ⟨rfl, by decide, .inl T.e_InvalidVersion.g⟩
        (fun W pn xe tk => pss_one (ps_asg (pe_callS (ok_parse_version_bad T) (hr.mono (by decide)) (by rfl) T.g_parse_version T.F_parse_version.kp T.b_parse_version (fun σ => L2.passAt tk σ) (pa_cons (pv 0) (pa_nil))) (pg_name (i := 2) sc_law_parses.nd rfl (Or.inl rfl))))
        (fun a oe cls d pn hz hf => pss_given (P := cls = .ref T.C_InvalidVersion ∧ d = none) fun p => pss_one (ps_ret (pe_and (pe_cmpR op_isN (pv 1) pe_non (nomark _)) (pe_and (pe_callB (call_isE T.e_InvalidVersion.is (zc_of p hz) hf) (by rfl) T.m_isinstance (by decide +kernel) (pa_cons (pv 3) (pa_cons (pe_glob (v := .ref T.C_VersionError) rfl T.g_VersionError rfl) pa_nil))) (pe_and (pe_callB (call_isE T.e_InvalidVersion.is (zc_of p hz) hf) (by rfl) T.m_isinstance (by decide +kernel) (pa_cons (pv 3) (pa_cons (pe_bltn (v := .ty "ValueError") (by rfl) T.m_ValueError (by decide +kernel) rfl) pa_nil)))
          (pe_one (pe_not (pe_callB (call_isE T.e_InvalidVersion.is (zc_of p hz) hf) (by rfl) T.m_isinstance (by decide +kernel) (pa_cons (pv 3) (pa_cons (pe_glob (v := .ref T.C_UnknownVersion) rfl T.e_UnknownVersion.g rfl) pa_nil))))))))))) pss_never), ?_⟩
      refine q_asgK ((ea_cons (ev_var rfl) ea_nil) H (Ex.refl H) _ fun H1 e1 => ⟨l, rfl, hl, hlc, fun v H2 e2 hd => ?_⟩)
      rw [hv] at hd
      have hvn : v = .non := by
        have hd : Dp K H2 v .none := hd
        cases hd
        rfl
      subst hvn
      refine s_callT (ea_cons (ev_var rfl) ea_nil) fun H3 Q1 e3 => ⟨l, rfl, hl, hv, fun H4 e4 => ⟨T.e_InvalidVersion.self, fun a ha => ⟨⟨rfl, rfl⟩, ?_⟩⟩⟩
      exact s_ret (v := .bl true) (ev_is (ev_andV (a := true) (b := true) (ev_isNt (ev_var rfl)) fun _ => ev_is (ev_andV (a := true) (b := true) (ev_isE (ev_var rfl) (fun u h => h) T.ku_InvalidVersion_VersionError) fun _ => ev_is (ev_andV (a := true) (b := true) (ev_isE (ev_var rfl) (fun u h => h) T.kv_InvalidVersion) fun _ => ev_is (ev_notV (ev_isE (b := false) (ev_var rfl) (fun u h => h) T.kt_InvalidVersion_UnknownVersion)) rfl) rfl) rfl) rfl) fun H5 e5 => q H5 (((e1.trans e2).trans (e3.trans e4)).trans e5)


/-! ### _law_spoilt -/
def spSpoilt : Sp := fun vs H Q _ => ∃ (m : Nat) (z : Str) (a b c : Int), vs = [.str z, .int a, .int b, .int c] ∧ TxOk m z ∧ m ≤ 1000 ∧ ∀ (z' : Str) H', Ex H H' → TxOk (2 * m + 1) z' → Q (.str z') H'
theorem ok_law_spoilt (T : Txt K mg) : FnOk P w K mg base CX0 1 T.f_law_spoilt T.d_law_spoilt ["text", "a", "b", "c"] spSpoilt := by
  refine T.F_law_spoilt.ok sc_law_spoilt (fun vs H Q E h => ?_) (fun cdv A outer s H vs Q E hr h => ?_)
  · obtain ⟨m, z, a, b, c, rfl, _⟩ := h
    rfl
  · obtain ⟨m, z, a, b, c, rfl, hz, hm, q⟩ := h
    have hl := hz.1
    have eo : (Str.ofString "@/:~^09azAZ .-_m").cps.toList = [64, 47, 58, 126, 94, 48, 57, 97, 122, 65, 90, 32, 46, 45, 95, 109] := by decide +kernel
    refine ⟨_, pss_cons (ps_set (i := 4) sc_law_spoilt.nd rfl (by first | exact Or.inl rfl | exact Or.inr rfl) (pe_op op_mod (pv 1) (pe_op op_add (pe_callB call_len_str (by rfl) T.m_len (by decide +kernel) (pa_cons (pv 0) (pa_nil))) (pe_int))))
      (pss_cons (ps_set (i := 5) sc_law_spoilt.nd rfl (by first | exact Or.inl rfl | exact Or.inr rfl) (pe_ix ix_str (pe_str) (pe_op op_mod (pv 2) (pe_int)) (fun _ _ => rfl)))
      (pss_cons (ps_if (pt_cmpR op_eq (pe_op op_mod (pv 3) (pe_int)) (pe_int) (nomark _))
      (pss_one (ps_ret (pe_op op_add_str (pe_op op_add_str (pe_slice sl_str (pv 0) (po_none) (po_some (pv 4))) (pv 5)) (pe_slice sl_str (pv 0) (po_some (pv 4)) (po_none)))))
      (pss_nil))
      (pss_cons (ps_if (pt_cmpR op_eq (pe_op op_mod (pv 3) (pe_int)) (pe_int) (nomark _))
      (pss_one (ps_ret (pe_op op_add_str (pe_op op_add_str (pe_slice sl_str (pv 0) (po_none) (po_some (pv 4))) (pv 5)) (pe_slice sl_str (pv 0) (po_some (pe_op op_add (pv 4) (pe_int))) (po_none)))))
      (pss_nil))
      (pss_one (ps_ret (pe_op op_add_str (pe_slice sl_str (pv 0) (po_none) (po_some (pv 4))) (pe_slice sl_str (pv 0) (po_some (pe_op op_add (pv 4) (pe_int))) (po_none)))))))), ?_⟩
    refine q_asg (ev_bin (ev_var rfl) (ev_bin0 (ev_lenB (ev_var rfl) (by omega)) ev_c) (by show (0 : Int) < _; omega)) fun H1 e1 => ?_
    generalize a % ((z.length : Int) + 1) = at_
    have h1 := Int.emod_nonneg b (by decide : (16 : Int) ≠ 0)
    have h2 := Int.emod_lt_of_pos b (by decide : (0 : Int) < 16)
    refine q_asg (ev_ixB (c := [64, 47, 58, 126, 94, 48, 57, 97, 122, 65, 90, 32, 46, 45, 95, 109].getD (b % 16).toNat 0) ev_c (ev_bin (ev_var rfl) ev_c (by decide)) (by decide +kernel) (at_cps eo h1 h2)) fun H2 e2 => ?_
    have hc : [64, 47, 58, 126, 94, 48, 57, 97, 122, 65, 90, 32, 46, 45, 95, 109].getD (b % 16).toNat 0 ≤ 1000 := by
      have h3 : (b % 16).toNat < 16 := by omega
      have : ∀ i : Nat, i < 16 → [64, 47, 58, 126, 94, 48, 57, 97, 122, 65, 90, 32, 46, 45, 95, 109].getD i 0 ≤ 1000 := by decide
      exact this _ h3
    generalize [64, 47, 58, 126, 94, 48, 57, 97, 122, 65, 90, 32, 46, 45, 95, 109].getD (b % 16).toNat 0 = ch at hc
    have E2 := e1.trans e2
    have l1 : TxOk m (cutS z none (some at_)) := hz.cut _ _
    have l2 : ∀ i, TxOk m (cutS z (some i) none) := fun i => hz.cut _ _
    have s1 : ∀ {H' : Hp} {σ : L2.St}, σ[0]? = some (some (V.str z)) → σ[4]? = some (some (V.int at_)) → Ev (tSl rSlS (tVar 0) tNoPart (tPart (tVar 4))) σ H' (.str (cutS z none (some at_))) := fun h0 h4 => ev_slB (ev_var h0) eo_none (eo_some (ev_var h4)) (by omega)
    have l1' := l1.1
    have l3 := l1.app (TxOk.one hc)
    have l3' := l3.1
    have t1 : ∀ {H' : Hp} {σ : L2.St}, σ[0]? = some (some (V.str z)) → σ[4]? = some (some (V.int at_)) → σ[5]? = some (some (V.str ⟨#[ch]⟩)) → Ev (tOp (fun x y H Q => ∃ i j, x = V.str i ∧ y = V.str j ∧ i.length + j.length ≤ sizeLine ∧ Q (.str (i ++ j)) H) (tSl rSlS (tVar 0) tNoPart (tPart (tVar 4))) (tVar 5)) σ H' (.str (cutS z none (some at_) ++ ⟨#[ch]⟩)) := fun h0 h4 h5 => ev_addS (s1 h0 h4) (ev_var h5) (by show _ + 1 ≤ 16777216; omega)
    refine q_when (et_test (ev_eqI (ev_bin (ev_var rfl) ev_c (by decide)) ev_c)) (fun hb H3 e3 => ?_) (fun hb H3 e3 => ?_)
    · have l4 := (l2 at_).1
      exact s_ret (ev_addS (t1 rfl rfl rfl) (ev_slB (ev_var rfl) (eo_some (ev_var rfl)) eo_none (by omega)) (by omega)) fun H4 e4 => q _ _ ((E2.trans e3).trans e4) ((l3.app (l2 at_)).mono (by omega))
    refine q_when (et_test (ev_eqI (ev_bin (ev_var rfl) ev_c (by decide)) ev_c)) (fun hb H4 e4 => ?_) (fun hb H4 e4 => ?_)
    · have l4 := (l2 (at_ + 1)).1
      exact s_ret (ev_addS (t1 rfl rfl rfl) (ev_slB (ev_var rfl) (eo_some (ev_bin0 (ev_var rfl) ev_c)) eo_none (by omega)) (by omega)) fun H5 e5 => q _ _ (((E2.trans e3).trans e4).trans e5) ((l3.app (l2 (at_ + 1))).mono (by omega))
    · have l4 := (l2 (at_ + 1)).1
      exact s_ret (ev_addS (s1 rfl rfl) (ev_slB (ev_var rfl) (eo_some (ev_bin0 (ev_var rfl) ev_c)) eo_none (by omega)) (by omega)) fun H5 e5 => q _ _ (((E2.trans e3).trans e4).trans e5) ((l1.app (l2 (at_ + 1))).mono (by omega))


/-! ### _law_name -/
/-- a text of some letters -/
def spName2 (K : PySem.W.Frag) : Sp := fun vs H Q _ => ∃ (p : Addr) (ns : List Int), vs = [.ref p] ∧ SqL K H p (ns.map V.int) ∧ 3 ≤ ns.length ∧ (∀ n ∈ ns, 0 ≤ n ∧ n < 1000) ∧ ∀ (z : Str) H', Ex H H' → TxOk 12 z → Q (.str z) H'
theorem ok_law_name (T : Txt K mg) : FnOk P w K mg base CX0 1 T.f_law_name T.d_law_name ["numbers"] (spName2 K) := by
  refine T.F_law_name.ok sc_law_name (fun vs H Q E h => ?_) (fun cdv A outer s H vs Q E hr h => ?_)
  · obtain ⟨p, ns, rfl, _⟩ := h
    rfl
  · obtain ⟨p, ns, rfl, hS, hl, hr3, q⟩ := h
    have it : ∀ {H' : Hp} {σ : L2.St} {j : Nat}, Ex H H' → σ[0]? = some (some (V.ref p)) → j < 3 → Ev (tOp (rIxL K) (tVar 0) (tC (.int (j : Int)))) σ H' (.int (ns.getD j 0)) := fun {H' σ j} e hσ hj => ev_ixL (K := K) (ev_var hσ) ev_c (ex_l e hS) (at_nat (by
      rw [List.getElem?_map, List.getD_eq_getElem?_getD, List.getElem?_eq_getElem (by omega)] <;> rfl))
    have rg : ∀ j, j < 3 → 0 ≤ ns.getD j 0 ∧ ns.getD j 0 < 1000 := fun j hj => hr3 _ (by
      rw [List.getD_eq_getElem?_getD, List.getElem?_eq_getElem (by omega)]
      exact List.getElem_mem _)
    have r0 := rg 0 (by decide)
    have r1 := rg 1 (by decide)
    have r2 := rg 2 (by decide)
    have ea : (Str.ofString "abcdefghijklmnopqrstuvwxyz") = mkS ((List.range 26).map (· + 97)) := by decide +kernel
    refine ⟨_, pss_cons (ps_set (i := 1) sc_law_name.nd rfl (by first | exact Or.inl rfl | exact Or.inr rfl) (pe_str))
      (pss_one (ps_ret (pe_join (pe_str) (pe_lc (own := [("k", 2)]) (g := gName 2) (tt := tYes) rfl sc_law_name.nd (pi_range1 (by rfl) T.m_range (pa_cons (pe_op op_add (pe_int) (pe_op op_mod (pe_ix (r := rIxL K) ix_list (pv 0) (pe_int) (fun _ _ => rfl)) (pe_int))) (pa_nil))) (blkOk_by (N := ["numbers", "letters", "k"]) (sc := defScope s_law_name) (by decide +kernel)) (fun _ _ _ _ _ => pg_name (i := 2) sc_law_name.nd rfl (Or.inl rfl)) (fun _ _ _ _ _ => pts_nil) (fun _ _ _ _ _ => pe_ix ix_str (pv 1) (pe_op op_mod (pe_op op_add (pe_ix (r := rIxL K) ix_list (pv 0) (pe_int) (fun _ _ => rfl)) (pe_op op_mulX (pv 2) (pe_ix (r := rIxL K) ix_list (pv 0) (pe_int) (fun _ _ => rfl)))) (pe_int)) (fun _ _ => rfl)))))), ?_⟩
    refine q_asg ev_c fun H1 e1 => ?_
    obtain ⟨n, hn⟩ : ∃ n : Nat, 1 + ns.getD 2 0 % 12 = (n : Int) := ⟨(1 + ns.getD 2 0 % 12).toNat, (Int.toNat_of_nonneg (by omega)).symm⟩
    refine s_ret (v := .str (mkS ((List.range n).map fun (k : Nat) => ((List.range 26).map (· + 97)).getD ((ns.getD 0 0 + (k : Int) * ns.getD 1 0) % 26).toNat 0))) (ev_joinS (K := K) ?_ (by rw [List.length_map, List.length_range]; omega)) fun H2 e2 => q _ _ (e1.trans e2) ⟨?_, fun c hc => ?_⟩
    · refine el_mapR (n := n) (ea_cons (ev_is (ev_bin0 ev_c (ev_bin (it (j := 2) e1 rfl (by decide)) ev_c (by decide))) (congrArg V.int hn)) ea_nil) (by omega) (fun x => rfl) (by rw [List.length_map, List.length_map, List.length_range]) fun k y hk hy H3 e3 => ?_
      rw [List.getElem?_map, List.getElem?_map, List.getElem?_range hk] at hy
      rw [← Option.some.inj hy]
      have h1 := Int.emod_nonneg (ns.getD 0 0 + (k : Int) * ns.getD 1 0) (by decide : (26 : Int) ≠ 0)
      have h2 := Int.emod_lt_of_pos (ns.getD 0 0 + (k : Int) * ns.getD 1 0) (by decide : (0 : Int) < 26)
      exact ev_ixS (ev_is (ev_var rfl) (congrArg V.str ea)) (ev_bin (ev_bin0 (it (j := 0) (e1.trans e3) rfl (by decide)) (ev_bin (ev_var rfl) (it (j := 1) (e1.trans e3) rfl (by decide)) (Wd.mul (Wd.small (by omega) (by omega)) (Wd.small (by omega) (by omega))))) ev_c (by decide)) (by decide +kernel) (at_cps (l := (List.range 26).map (· + 97)) rfl h1 (by rw [List.length_map, List.length_range]; omega))
    · rw [mkS_len, List.length_map, List.length_range]; omega
    · obtain ⟨k, _, rfl⟩ := List.mem_map.mp hc
      have h1 := Int.emod_nonneg (ns.getD 0 0 + (k : Int) * ns.getD 1 0) (by decide : (26 : Int) ≠ 0)
      have h2 := Int.emod_lt_of_pos (ns.getD 0 0 + (k : Int) * ns.getD 1 0) (by decide : (0 : Int) < 26)
      have h3 : ((ns.getD 0 0 + (k : Int) * ns.getD 1 0) % 26).toNat < ((List.range 26).map (· + 97)).length := by rw [List.length_map, List.length_range]; omega
      rw [List.getD_eq_getElem?_getD, List.getElem?_eq_getElem h3]
      have := List.getElem_mem h3
      obtain ⟨i, hi, e⟩ := List.mem_map.mp this
      have := List.mem_range.mp hi
      rw [← e]
      show i + 97 ≤ 1000
      omega


/-! ### _law_text_of -/
def spTextOf : Sp := fun vs H Q _ => ∃ c : Int, vs = [.int c] ∧ Wd c ∧ ∀ (z : Str) H', Ex H H' → TxOk 200 z → Q (.str z) H'
theorem num_tx {n : Int} (h : n.natAbs.log2 < 70) : TxOk 100 (toString n : Str) := by
  refine ⟨?_, fun c hc => ?_⟩
  · have := int_text_length_le (k := 70) (by decide) h
    show (Str.ofString (toString n)).length ≤ 100
    rw [PySem.ofString_length]
    omega
  · have hc : c ∈ numC n := hc
    cases n with
    | ofNat m =>
      have := TL.numL_digits m c (by rw [← numC_nat]; exact hc)
      omega
    | negSucc m =>
      rw [numC_neg] at hc
      rcases List.mem_cons.mp hc with z | z
      · omega
      · have := TL.numL_digits (m + 1) c z
        omega
theorem ok_law_text_of (T : Txt K mg) : FnOk P w K mg base CX0 2 T.f_law_text_of T.d_law_text_of ["cell"] spTextOf := by
  refine T.F_law_text_of.ok sc_law_text_of (fun vs H Q E h => ?_) (fun cdv A outer s H vs Q E hr h => ?_)
  · obtain ⟨c, rfl, _⟩ := h
    rfl
  · obtain ⟨c, rfl, hW, q⟩ := h
    refine ⟨_, pss_cons (ps_set (i := 1) sc_law_text_of.nd rfl (by first | exact Or.inl rfl | exact Or.inr rfl) (pe_call (ok_law_numbers T) (hr.mono (by first | decide | omega)) (by rfl) T.g_law_numbers T.F_law_numbers.kp T.b_law_numbers .nil pass0 (pa_cons (pv 0) (pa_cons (pe_int) (pa_nil)))))
      (pss_cut (ps_set (i := 2) sc_law_text_of.nd rfl (by first | exact Or.inl rfl | exact Or.inr rfl) (pe_ix (r := rIxL K) ix_list (pe_lst (pa_cons (pe_str) (pa_cons (pe_call (ok_law_name T) (hr.mono (by first | decide | omega)) (by rfl) T.g_law_name T.F_law_name.kp T.b_law_name .nil pass0 (pa_cons (pv 1) (pa_nil))) (pa_cons (pe_op op_add_str (pe_str) (pe_call (ok_law_name T) (hr.mono (by first | decide | omega)) (by rfl) T.g_law_name T.F_law_name.kp T.b_law_name .nil pass0 (pa_cons (pv 1) (pa_nil)))) (pa_cons (pe_op op_add_str (pe_str) (pe_callTy call_str_int (by rfl) T.m_str (by decide +kernel) (pa_cons (pe_op op_add (pe_int) (pe_op op_mod (pe_callTy call_int1 (by rfl) T.m_int (by decide +kernel) (pa_cons (pv 0) (pa_nil))) (pe_op op_sub (pe_op op_pow (pe_int) (pe_int)) (pe_int)))) (pa_nil)))) (pa_nil)))))) (pe_op op_mod (pe_ix (r := rIxL K) ix_list (pv 1) (pe_int) (fun _ _ => rfl)) (pe_int)) (fun _ _ => rfl)))
      (pss_cut (ps_if (pt_cmpR op_eq (pe_op op_mod (pe_ix (r := rIxL K) ix_list (pv 1) (pe_int) (fun _ _ => rfl)) (pe_int)) (pe_int) (nomark _))
      (pss_one (ps_set (i := 2) sc_law_text_of.nd rfl (by first | exact Or.inl rfl | exact Or.inr rfl) (pe_op op_add_str (pe_str) (pe_callTy call_str_int (by rfl) T.m_str (by decide +kernel) (pa_cons (pe_op op_mod (pe_callTy call_int1 (by rfl) T.m_int (by decide +kernel) (pa_cons (pv 0) (pa_nil))) (pe_ix (r := rIxL K) ix_list (pe_lst (pa_cons (pe_int) (pa_cons (pe_op op_pow (pe_int) (pe_int)) (pa_cons (pe_op op_pow (pe_int) (pe_int)) (pa_nil))))) (pe_op op_mod (pe_ix (r := rIxL K) ix_list (pv 1) (pe_int) (fun _ _ => rfl)) (pe_int)) (fun _ _ => rfl))) (pa_nil))))))
      (pss_nil))
      (pss_cons (ps_set (i := 3) sc_law_text_of.nd rfl (by first | exact Or.inl rfl | exact Or.inr rfl) (pe_op op_mod (pe_ix (r := rIxL K) ix_list (pv 1) (pe_int) (fun _ _ => rfl)) (pe_int)))
      (pss_cut (ps_if (pt_cmpR op_eq (pe_op op_mod (pe_ix (r := rIxL K) ix_list (pv 1) (pe_int) (fun _ _ => rfl)) (pe_int)) (pe_int) (nomark _))
      (pss_one (ps_set (i := 3) sc_law_text_of.nd rfl (by first | exact Or.inl rfl | exact Or.inr rfl) (pe_op op_sub (pe_op op_add (pe_int) (pe_op op_mod (pe_ix (r := rIxL K) ix_list (pv 1) (pe_int) (fun _ _ => rfl)) (pe_int))) (pe_callB call_len_str (by rfl) T.m_len (by decide +kernel) (pa_cons (pv 2) (pa_nil))))))
      (pss_nil))
      (pss_one (ps_ret (pe_op op_add_str (pv 2) (pe_join (pe_str) (pe_lc (own := [("k", 4)]) (g := gName 4) (tt := tYes) rfl sc_law_text_of.nd (pi_range1 (by rfl) T.m_range (pa_cons (pv 3) (pa_nil))) (blkOk_by (N := ["cell", "numbers", "text", "count", "k"]) (sc := defScope s_law_text_of) (by decide +kernel)) (fun _ _ _ _ _ => pg_name (i := 4) sc_law_text_of.nd rfl (Or.inl rfl)) (fun _ _ _ _ _ => pts_nil) (fun _ _ _ _ _ => pe_ix ix_str (pe_str) (pe_op op_mod (pe_op op_add (pe_ix (r := rIxL K) ix_list (pv 1) (pe_int) (fun _ _ => rfl)) (pe_op op_mulX (pv 4) (pe_ix (r := rIxL K) ix_list (pv 1) (pe_int) (fun _ _ => rfl)))) (pe_int)) (fun _ _ => rfl))))))))))), ?_⟩
    refine q_asgK ((ea_cons (ev_var rfl) (ea_cons ev_c ea_nil)) H (Ex.refl H) _ fun H1 e1 => ⟨c, 12, rfl, hW, by decide, fun p ns H2 hp e2 hl h12 hr => ?_⟩)
    have E2 := e1.trans e2
    have it : ∀ {H' : Hp} {σ : L2.St} {j : Nat}, Ex H2 H' → σ[1]? = some (some (V.ref p)) → j < 12 → Ev (tOp (rIxL K) (tVar 1) (tC (.int (j : Int)))) σ H' (.int (ns.getD j 0)) := fun {H' σ j} e hσ hj => ev_ixL (K := K) (ev_var hσ) ev_c (sq_of (e _ _ hl)) (at_nat (by
      rw [List.getElem?_map, List.getD_eq_getElem?_getD, List.getElem?_eq_getElem (by omega)] <;> rfl))
    have rg : ∀ j, j < 12 → 0 ≤ ns.getD j 0 ∧ ns.getD j 0 < 1000 := fun j hj => hr _ (by
      rw [List.getD_eq_getElem?_getD, List.getElem?_eq_getElem (by omega)]
      exact List.getElem_mem _)
    have r3 := rg 3 (by decide)
    have r4 := rg 4 (by decide)
    have r5 := rg 5 (by decide)
    have r6 := rg 6 (by decide)
    have r7 := rg 7 (by decide)
    have r8 := rg 8 (by decide)
    have r9 := rg 9 (by decide)
    have r10 := rg 10 (by decide)
    have lg : ∀ {n : Int}, 0 ≤ n → n < 10 ^ 20 → n.natAbs.log2 < 70 := fun {n} h1 h2 => PySem.Flt.log2_lt_of (k := 70) (by decide) (by omega)
    have sA : TxOk 1 (Str.ofString "@") := ⟨by decide +kernel, by decide +kernel⟩
    have sS : TxOk 1 (Str.ofString "/") := ⟨by decide +kernel, by decide +kernel⟩
    have sC : TxOk 1 (Str.ofString ":") := ⟨by decide +kernel, by decide +kernel⟩
    have p18 : ∀ {σ : L2.St} {H : Hp}, Ev (tOp (rI CPow fun i j => V.int (i ^ j.toNat)) (tC (.int 10)) (tC (.int 18))) σ H (.int (10 ^ 18)) := ev_bin ev_c ev_c ⟨by decide, by decide, by decide⟩
    have p19 : ∀ {σ : L2.St} {H : Hp}, Ev (tOp (rI CPow fun i j => V.int (i ^ j.toNat)) (tC (.int 10)) (tC (.int 19))) σ H (.int (10 ^ 19)) := ev_bin ev_c ev_c ⟨by decide, by decide, by decide⟩
    have add : ∀ {n m : Nat} {a b : Str}, n + m ≤ 10000 → TxOk n a → TxOk m b → a.length + b.length ≤ 16777216 ∧ TxOk (n + m) (a ++ b) := fun h ha hb => ⟨by have := ha.1; have := hb.1; omega, ha.app hb⟩
    refine q_cut (M := fun σ' H' => ∃ (z : Str), σ' = [some (.int c), some (.ref p), some (.str z), none, none] ∧ TxOk 101 z ∧ Ex H2 H') ?_ fun σ' H' hM => ?_
    · have m18 : 0 ≤ c % (10 ^ 18 - 1) ∧ c % (10 ^ 18 - 1) < 10 ^ 18 - 1 := ⟨Int.emod_nonneg _ (by decide), Int.emod_lt_of_pos _ (by decide)⟩
      have l18 : (1 + c % (10 ^ 18 - 1)).natAbs.log2 < 70 := lg (by omega) (by omega)
      have nm : ∀ {H' : Hp} {σ : L2.St} {E : XK}, Ex H2 H' → σ[1]? = some (some (V.ref p)) → ES (tCall (spName2 K) [] E (tCons (tVar 1) tNil)) σ H' (TxOk 12) := fun e hσ H3 e3 Q q => ⟨_, hσ, p, ns, rfl, sq_of ((e.trans e3) _ _ hl), by omega, hr, fun z H4 e4 hz => q z H4 e4 hz⟩
      refine s_asgS (R := TxOk 101) (es_ixN (K := K) (n := 4) (i := ns.getD 3 0 % 4) (esa_cons (es_ev ev_c (sA.mono (by decide))) (esa_cons ((nm (Ex.refl H2) rfl).imp fun z h => h.mono (by decide)) (esa_cons (es_add (es_ev ev_c sS) (nm (Ex.refl H2) rfl) fun a b ha hb => ⟨(add (by decide) ha hb).1, (add (by decide) ha hb).2.mono (by decide)⟩) (esa_cons (es_add (es_ev ev_c sC) (es_ev (R := TxOk 100) (ev_strI (i := 1 + c % (10 ^ 18 - 1)) (ev_bin0 ev_c (ev_bin (ev_intI (ev_var rfl)) (ev_bin0 p18 ev_c) (by decide))) (by omega)) (num_tx l18)) fun a b ha hb => ⟨(add (by decide) ha hb).1, (add (by decide) ha hb).2.mono (by decide)⟩) esa_nil)))) (fun H3 e3 => ev_bin (it (j := 3) e3 rfl (by decide)) ev_c (by decide)) (by omega) (by omega) (by decide)) fun z H3 e3 hz => ⟨z, rfl, hz, e3⟩
    · obtain ⟨z0, rfl, hz0, eM⟩ := hM
      refine q_cut (M := fun σ' H' => ∃ (z : Str), σ' = [some (.int c), some (.ref p), some (.str z), none, none] ∧ TxOk 101 z ∧ Ex H2 H') ?_ fun σ' H' hM => ?_
      · refine s_when (b := decide (ns.getD 4 0 % 5 = 0)) (et_test (ev_eqI (ev_bin (it (j := 4) eM rfl (by decide)) ev_c (by decide)) ev_c)) (fun hb H3 e3 => ?_) (fun hb H3 e3 => ⟨z0, rfl, hz0, eM.trans e3⟩)
        obtain ⟨m, hm, hm0, hm1⟩ : ∃ m : Int, ([.int 10, .int (10 ^ 18), .int (10 ^ 19)] : List V)[(ns.getD 5 0 % 3).toNat]? = some (.int m) ∧ 0 < m ∧ m ≤ 10 ^ 19 := by
          have hh : ns.getD 5 0 % 3 = 0 ∨ ns.getD 5 0 % 3 = 1 ∨ ns.getD 5 0 % 3 = 2 := by omega
          rcases hh with e | e | e <;> rw [e]
          · exact ⟨10, rfl, by decide, by decide⟩
          · exact ⟨10 ^ 18, rfl, by decide, by decide⟩
          · exact ⟨10 ^ 19, rfl, by decide, by decide⟩
        have h1 := Int.emod_nonneg c (by omega : m ≠ 0)
        have h2 := Int.emod_lt_of_pos c hm0
        refine s_asgS (R := TxOk 101) (es_add (es_ev ev_c sC) (es_ev (R := TxOk 100) (ev_strI (i := c % m) (ev_bin (ev_intI (ev_var rfl)) (ev_ixN (xs := [.int 10, .int (10 ^ 18), .int (10 ^ 19)]) (i := ns.getD 5 0 % 3) (el_lst (ea_cons ev_c (ea_cons p18 (ea_cons p19 ea_nil))) (by show 3 ≤ 100000; decide)) (fun H4 e4 => ev_bin (it (j := 5) ((eM.trans e3).trans e4) rfl (by decide)) ev_c (by decide)) (atI_of (by omega) hm)) hm0) ?_) (num_tx ?_)) fun a b ha hb => add (by decide) ha hb) fun z H4 e4 hz => ⟨z, rfl, hz, (eM.trans e3).trans e4⟩
        · have := lg h1 (by omega); omega
        · exact lg h1 (by omega)
      · obtain ⟨z, rfl, hz, eM⟩ := hM
        have hzl := hz.1
        refine q_asg (ev_bin (it (j := 6) eM rfl (by decide)) ev_c (by decide)) fun H3 e3 => ?_
        refine q_cut (M := fun σ' H' => ∃ (m : Int), σ' = [some (.int c), some (.ref p), some (.str z), some (.int m), none] ∧ (-1000 ≤ m ∧ m ≤ 63) ∧ Ex H2 H') ?_ fun σ' H' hM => ?_
        · have E3 := eM.trans e3
          refine s_when (b := decide (ns.getD 7 0 % 6 = 0)) (et_test (ev_eqI (ev_bin (it (j := 7) E3 rfl (by decide)) ev_c (by decide)) ev_c)) (fun hb H4 e4 => ?_) (fun hb H4 e4 => ⟨_, rfl, by omega, E3.trans e4⟩)
          exact s_asg (ev_bin0 (ev_bin0 ev_c (ev_bin (it (j := 8) (E3.trans e4) rfl (by decide)) ev_c (by decide))) (ev_lenB (ev_var rfl) (by omega))) fun H5 e5 => ⟨_, rfl, by omega, (E3.trans e4).trans e5⟩
        · obtain ⟨m, rfl, hm, eN⟩ := hM
          have es : (Str.ofString "~~^").cps.toList = [126, 126, 94] := by decide +kernel
          have hj : TxOk 63 (mkS ((List.range m.toNat).map fun (k : Nat) => [126, 126, 94].getD ((ns.getD 9 0 + (k : Int) * ns.getD 10 0) % 3).toNat 0)) := by
            refine ⟨by rw [mkS_len, List.length_map, List.length_range]; omega, fun x hx => ?_⟩
            obtain ⟨k, _, rfl⟩ := List.mem_map.mp hx
            have h1 := Int.emod_nonneg (ns.getD 9 0 + (k : Int) * ns.getD 10 0) (by decide : (3 : Int) ≠ 0)
            have h2 := Int.emod_lt_of_pos (ns.getD 9 0 + (k : Int) * ns.getD 10 0) (by decide : (0 : Int) < 3)
            have : ∀ i : Nat, i < 3 → [126, 126, 94].getD i 0 ≤ 1000 := by decide
            exact this _ (by omega)
          refine s_ret (v := .str (z ++ mkS ((List.range m.toNat).map fun (k : Nat) => [126, 126, 94].getD ((ns.getD 9 0 + (k : Int) * ns.getD 10 0) % 3).toNat 0))) (ev_addS (ev_var rfl) (ev_joinS (K := K) ?_ (by rw [List.length_map, List.length_range]; omega)) (by have := hj.1; omega)) fun H4 e4 => q _ _ ((E2.trans eN).trans e4) ((hz.app hj).mono (by decide))
          refine el_mapRI (n := m) (ea_cons (ev_var rfl) ea_nil) (by omega) (fun x => rfl) (by rw [List.length_map, List.length_map, List.length_range]) fun k y hk hy H5 e5 => ?_
          rw [List.getElem?_map, List.getElem?_map, List.getElem?_range (by omega)] at hy
          rw [← Option.some.inj hy]
          have h1 := Int.emod_nonneg (ns.getD 9 0 + (k : Int) * ns.getD 10 0) (by decide : (3 : Int) ≠ 0)
          have h2 := Int.emod_lt_of_pos (ns.getD 9 0 + (k : Int) * ns.getD 10 0) (by decide : (0 : Int) < 3)
          exact ev_ixB ev_c (ev_bin (ev_bin0 (it (j := 9) (eN.trans e5) rfl (by decide)) (ev_bin (ev_var rfl) (it (j := 10) (eN.trans e5) rfl (by decide)) (Wd.mul (Wd.small (by omega) (by omega)) (Wd.small (by omega) (by omega))))) ev_c (by decide)) (by decide +kernel) (at_cps es h1 h2)


/-! ### law -/
def spLaw (K : PySem.W.Frag) : Sp := fun vs H Q _ => ∃ (a : Addr) (ns : List Int), vs = [.ref a] ∧ SqL K H a (ns.map V.int) ∧ ns.length ≤ 63 ∧ (∀ z ∈ ns, Builtin.Int.intBits z ≤ 1048576) ∧ ∀ H', Q (.bl true) H'
theorem ok_law (T : Txt K mg) : FnOk P w K mg base CX0 5 T.f_law T.d_law ["script"] (spLaw K) := by
  refine T.F_law.ok sc_law (fun vs H Q E h => ?_) (fun cdv A outer s H vs Q E hr h => ?_)
  · obtain ⟨a, ns, rfl, _⟩ := h
    rfl
  · obtain ⟨a, ns, rfl, hS, hlen, hbits, q⟩ := h
    obtain ⟨b, hb, hb1, hb2⟩ : ∃ b : Nat, b = 1048576 ∧ 20 ≤ b ∧ b ≤ 1099999 := ⟨1048576, rfl, by decide, by decide⟩
    rw [← hb] at hbits
    refine ⟨_, pss_cons (ps_for PassesOwn.never rfl (pi_range1 (by rfl) T.m_range (pa_cons (pe_int) (pa_nil))) (pg_name (i := 1) sc_law.nd rfl (by first | exact Or.inl rfl | exact Or.inr rfl))
      (pss_cons (ps_set (i := 2) sc_law.nd rfl (by first | exact Or.inl rfl | exact Or.inr rfl) (pe_call (ok_law_cell T) (hr.mono (by first | decide | omega)) (by rfl) T.g_law_cell T.F_law_cell.kp T.b_law_cell .nil pass0 (pa_cons (pv 0) (pa_cons (pv 1) (pa_nil)))))
      (pss_cons (ps_set (i := 3) sc_law.nd rfl (by first | exact Or.inl rfl | exact Or.inr rfl) (pe_call (ok_law_text_of T) (hr.mono (by first | decide | omega)) (by rfl) T.g_law_text_of T.F_law_text_of.kp T.b_law_text_of .nil pass0 (pa_cons (pe_op op_add (pv 2) (pv 1)) (pa_nil))))
      (pss_cons (ps_set (i := 4) sc_law.nd rfl (by first | exact Or.inl rfl | exact Or.inr rfl) (pe_call (ok_law_numbers T) (hr.mono (by first | decide | omega)) (by rfl) T.g_law_numbers T.F_law_numbers.kp T.b_law_numbers .nil pass0 (pa_cons (pe_op op_add (pe_op op_fdivW (pv 2) (pe_int)) (pv 1)) (pa_cons (pe_int) (pa_nil)))))
      (pss_cons (ps_set (i := 5) sc_law.nd rfl (by first | exact Or.inl rfl | exact Or.inr rfl) (pe_join (pe_str) (pe_lc (own := [("number", 6)]) (g := gName 6) (tt := tYes) rfl sc_law.nd (pi_list (pe_slice (r := rSlL K) sl_list (pv 4) (po_some (pe_int)) (po_some (pe_op op_add (pe_int) (pe_op op_mod (pe_ix (r := rIxL K) ix_list (pv 4) (pe_int) (fun _ _ => rfl)) (pe_int)))))) (blkOk_by (N := ["script", "k", "cell", "text", "numbers", "odd", "number", "told"]) (sc := defScope s_law) (by decide +kernel)) (fun _ _ _ _ _ => pg_name (i := 6) sc_law.nd rfl (Or.inl rfl)) (fun _ _ _ _ _ => pts_nil) (fun _ _ _ _ _ => pe_ix ix_str (pe_str) (pe_op op_mod (pv 6) (pe_int)) (fun _ _ => rfl)))))
      (pss_one (ps_for PassesOwn.never rfl (pi_list (pe_lst (pa_cons (pv 3) (pa_cons (pe_call (ok_law_spoilt T) (hr.mono (by first | decide | omega)) (by rfl) T.g_law_spoilt T.F_law_spoilt.kp T.b_law_spoilt .nil pass0 (pa_cons (pv 3) (pa_cons (pe_ix (r := rIxL K) ix_list (pv 4) (pe_int) (fun _ _ => rfl)) (pa_cons (pe_ix (r := rIxL K) ix_list (pv 4) (pe_int) (fun _ _ => rfl)) (pa_cons (pe_ix (r := rIxL K) ix_list (pv 4) (pe_int) (fun _ _ => rfl)) (pa_nil)))))) (pa_cons (pv 5) (pa_nil)))))) (pg_name (i := 7) sc_law.nd rfl (by first | exact Or.inl rfl | exact Or.inr rfl))
      (pss_one (ps_if (pt_not (pt_val (pe_call (ok_law_parses T) (hr.mono (by first | decide | omega)) (by rfl) T.g_law_parses T.F_law_parses.kp T.b_law_parses .nil pass0 (pa_cons (pv 7) (pa_nil)))))
      (pss_one (ps_ret (pe_bl)))
      (pss_nil))))))))))
      (pss_one (ps_ret (pe_bl))), ?_⟩
    refine q_forR1 (n := 12) (ea_cons ev_c ea_nil) (by decide) (fun i σ' H' => ∃ o1 o2 o3 o4 o5 o7 : Option V, σ' = [some (.ref a), o1, o2, o3, o4, o5, none, o7] ∧ Ex H H') (fun H1 e1 => ⟨none, none, none, none, none, none, rfl, e1⟩) (fun i σ' H' hi hP => ?_) (fun σ' H' hP => ?_)
    · obtain ⟨o1, o2, o3, o4, o5, o7, rfl, eH⟩ := hP
      have hi12 : i < 12 := by omega
      refine q_asg (v := .int (cellZ ns i)) (ev_call (ea_cons (ev_var rfl) (ea_cons (ev_var rfl) ea_nil)) (cv_cell (ex_l eH hS))) fun H1 e1 => ?_
      refine q_asgK ((ea_cons (ev_bin0 (ev_var rfl) (ev_var rfl)) ea_nil) H1 (Ex.refl H1) _ fun H2 e2 => ⟨_, rfl, Wd.cellAdd hbits i (by omega) hb1 hb2, fun z H3 e3 hz => ?_⟩)
      refine q_asgK ((ea_cons (ev_bin0 (ev_bin (ev_var rfl) ev_c ⟨by decide, by decide⟩) (ev_var rfl)) (ea_cons ev_c ea_nil)) H3 (Ex.refl H3) _ fun H4 e4 => ⟨_, 15, rfl, Wd.cellDivAdd hbits i (by omega) hb1 hb2, by decide, fun p ms H5 hp e5 hl h15 hr => ?_⟩)
      have it : ∀ {H' : Hp} {σ : L2.St} {j : Nat}, Ex H5 H' → σ[4]? = some (some (V.ref p)) → j < 15 → Ev (tOp (rIxL K) (tVar 4) (tC (.int (j : Int)))) σ H' (.int (ms.getD j 0)) := fun {H' σ j} e hσ hj => ev_ixL (K := K) (ev_var hσ) ev_c (sq_of (e _ _ hl)) (at_nat (by
        rw [List.getElem?_map, List.getD_eq_getElem?_getD, List.getElem?_eq_getElem (by omega)] <;> rfl))
      obtain ⟨ks, hk1, hk2, hk3⟩ := cutV_map ms (some 3) (some (3 + ms.getD 2 0 % 13))
      have eo : (Str.ofString "@/:~^0123abz A1").cps.toList = [64, 47, 58, 126, 94, 48, 49, 50, 51, 97, 98, 122, 32, 65, 49] := by decide +kernel
      have hj : TxOk 15 (mkS (ks.map fun m => [64, 47, 58, 126, 94, 48, 49, 50, 51, 97, 98, 122, 32, 65, 49].getD (m % 15).toNat 0)) := by
        refine ⟨by rw [mkS_len, List.length_map]; omega, fun x hx => ?_⟩
        obtain ⟨k, _, rfl⟩ := List.mem_map.mp hx
        have : ∀ i : Nat, i < 15 → [64, 47, 58, 126, 94, 48, 49, 50, 51, 97, 98, 122, 32, 65, 49].getD i 0 ≤ 1000 := by decide
        exact this _ (by omega)
      refine q_asg (v := .str (mkS (ks.map fun m => [64, 47, 58, 126, 94, 48, 49, 50, 51, 97, 98, 122, 32, 65, 49].getD (m % 15).toNat 0))) (ev_joinS (K := K) ?_ (by rw [List.length_map]; omega)) fun H6 e6 => ?_
      · rw [List.map_map]
        refine el_mapN (K := K) (ns := ks) ?_ (by omega) (fun x => rfl) fun m hm H7 e7 => ?_
        · rw [← hk1]
          exact el_sl (K := K) (ev_var rfl) (eo_some ev_c) (eo_some (ev_bin0 ev_c (ev_bin (it (j := 2) (Ex.refl H5) rfl (by decide)) ev_c (by decide)))) (sq_of hl)
        · exact ev_ixB ev_c (ev_bin (ev_var rfl) ev_c (by decide)) (by decide +kernel) (at_cps eo (by omega) (by show m % 15 < 15; omega))
      generalize mkS (ks.map fun m => [64, 47, 58, 126, 94, 48, 49, 50, 51, 97, 98, 122, 32, 65, 49].getD (m % 15).toNat 0) = od at hj
      have E6 := (((eH.trans e1).trans e2).trans (e3.trans e4)).trans (e5.trans e6)
      -- the list of three texts
      refine s_forTx (K := K) (n := 3) (R := TxOk 5000) (esa_cons (es_ev (ev_var rfl) (hz.mono (by decide))) (esa_cons (fun H7 e7 Q1 q1 => (ea_cons (ev_var rfl) (ea_cons (it (j := 0) (e6.trans e7) rfl (by decide)) (ea_cons (it (j := 1) (e6.trans e7) rfl (by decide)) (ea_cons (it (j := 2) (e6.trans e7) rfl (by decide)) ea_nil)))) H7 (Ex.refl H7) _ fun H8 e8 => ⟨200, z, _, _, _, rfl, hz, by decide, fun z' H9 e9 hz' => q1 z' H9 (e8.trans e9) (hz'.mono (by decide))⟩) (esa_cons (es_ev (ev_var rfl) (hj.mono (by decide))) esa_nil))) (by decide) (fun H7 σ' H' => ∃ o1 o2 o3 o4 o5 o7 : Option V, σ' = [some (.ref a), o1, o2, o3, o4, o5, none, o7] ∧ Ex H7 H') (fun H7 e7 => ⟨_, _, _, _, _, _, rfl, Ex.refl H7⟩) (fun H7 σ' H' hP => ?_) (fun H7 x σ' H' e7 hx hP => ?_) (fun H7 σ' H' e7 hP => ?_)
      · obtain ⟨_, _, _, _, _, _, _, e⟩ := hP
        exact e
      rotate_left
      · obtain ⟨o1, o2, o3, o4, o5, o7, rfl, e⟩ := hP
        exact ⟨_, _, _, _, _, _, rfl, (E6.trans e7).trans e⟩
      obtain ⟨o1, o2, o3, o4, o5, o7, rfl, eH⟩ := hP
      exact s_when (b := false) (et_is (et_not (et_B (ev_call (ea_cons (ev_var rfl) ea_nil) (cv_parses hx)))) rfl) (fun z => nomatch z) fun _ H8 e8 => ⟨_, _, _, _, _, _, rfl, eH.trans e8⟩
    · obtain ⟨o1, o2, o3, o4, o5, o7, rfl, eH⟩ := hP
      exact s_ret ev_c fun H2 e2 => q H2


end

theorem all_mk {l : PySem.W.OpenLaw} {w : World} {K : PySem.W.Frag} {h : Heap} {mg : Str → Option Value} {fa C_InvalidVersion C_UnknownVersion C_VersionError f_law_cell f_law_numbers f_law_only f_law_read f_law_same f_is_address f_is_name f_parse_version f_law_parses f_law_spoilt f_law_name f_law_text_of f_law : Addr} (X : K.In h) (G : h.Ns mainGlobals mg) (hfa : mg "law" = some (.ref fa))
    {od_law_cell an_law_cell : Option Addr} {sl_law_cell : Array (Option Value)} {oc_law_cell kV_law_cell dc_law_cell pm_law_cell cd_law_cell ct_law_cell : Value}
    {od_law_numbers an_law_numbers : Option Addr} {sl_law_numbers : Array (Option Value)} {oc_law_numbers kV_law_numbers dc_law_numbers pm_law_numbers cd_law_numbers ct_law_numbers : Value}
    {od_law_only an_law_only : Option Addr} {sl_law_only : Array (Option Value)} {oc_law_only kV_law_only dc_law_only pm_law_only cd_law_only ct_law_only : Value}
    {od_law_read an_law_read : Option Addr} {sl_law_read : Array (Option Value)} {oc_law_read kV_law_read dc_law_read pm_law_read cd_law_read ct_law_read : Value}
    {od_law_same an_law_same : Option Addr} {sl_law_same : Array (Option Value)} {oc_law_same kV_law_same dc_law_same pm_law_same cd_law_same ct_law_same : Value}
    {od_is_address an_is_address : Option Addr} {sl_is_address : Array (Option Value)} {oc_is_address kV_is_address dc_is_address pm_is_address cd_is_address ct_is_address : Value}
    {od_is_name an_is_name : Option Addr} {sl_is_name : Array (Option Value)} {oc_is_name kV_is_name dc_is_name pm_is_name cd_is_name ct_is_name : Value}
    {od_parse_version an_parse_version : Option Addr} {sl_parse_version : Array (Option Value)} {oc_parse_version kV_parse_version dc_parse_version pm_parse_version cd_parse_version ct_parse_version : Value}
    {od_law_parses an_law_parses : Option Addr} {sl_law_parses : Array (Option Value)} {oc_law_parses kV_law_parses dc_law_parses pm_law_parses cd_law_parses ct_law_parses : Value}
    {od_law_spoilt an_law_spoilt : Option Addr} {sl_law_spoilt : Array (Option Value)} {oc_law_spoilt kV_law_spoilt dc_law_spoilt pm_law_spoilt cd_law_spoilt ct_law_spoilt : Value}
    {od_law_name an_law_name : Option Addr} {sl_law_name : Array (Option Value)} {oc_law_name kV_law_name dc_law_name pm_law_name cd_law_name ct_law_name : Value}
    {od_law_text_of an_law_text_of : Option Addr} {sl_law_text_of : Array (Option Value)} {oc_law_text_of kV_law_text_of dc_law_text_of pm_law_text_of cd_law_text_of ct_law_text_of : Value}
    {od_law an_law : Option Addr} {sl_law : Array (Option Value)} {oc_law kV_law dc_law pm_law cd_law ct_law : Value}
    {t_MOST_CHARACTERS : Tok}
    {t_MOST_DIGITS : Tok}
    {t_STEPS : Tok}
    (ax_InvalidVersion : PySem.W.nsIn K mainGlobals "InvalidVersion" = some (some (.ref C_InvalidVersion)))
    (xx_InvalidVersion : PySem.W.excIn K C_InvalidVersion [.type "ValueError", .type "Exception", .type "BaseException", .type "object"] "ValueError.__new__" = true)
    (xk_InvalidVersion : PySem.W.keepIn K (.ref C_InvalidVersion) = true)
    (xb_InvalidVersion : PySem.W.subIn K (.ref C_InvalidVersion) (.type "BaseException") = some true)
    (xt_InvalidVersion : PySem.W.typeIn K (.ref C_InvalidVersion) = some (.type "type"))
    (xs_InvalidVersion : PySem.W.subIn K (.ref C_InvalidVersion) (.ref C_InvalidVersion) = some true)
    (xg_InvalidVersion : PySem.W.findIn K (.ref C_InvalidVersion) "__getattribute__" = some (some (.builtin "BaseException.__getattribute__")))
    (xq_InvalidVersion : PySem.W.findIn K (.ref C_InvalidVersion) "__getattr__" = some none)
    (xd_InvalidVersion : PySem.W.hasDictIn K C_InvalidVersion = true)
    (xa_InvalidVersion : PySem.W.findIn K (.ref C_InvalidVersion) "__class__" = some (some (.builtin "object.__class__")))
    (xn_InvalidVersion : PySem.W.specialIn K (.builtin "object.__class__") "__get__" = some (some (.builtin "getset_descriptor.__get__")))
    (xi_InvalidVersion : PySem.W.takesIn K (.builtin "object.__class__") = some true)
    (xm_InvalidVersion : PySem.W.mroIn K C_InvalidVersion (.type "object") = some true)
    (xv_InvalidVersion : PySem.W.kitOne K (.ref C_InvalidVersion) (.type "ValueError") = some true)
    (ax_UnknownVersion : PySem.W.nsIn K mainGlobals "UnknownVersion" = some (some (.ref C_UnknownVersion)))
    (xx_UnknownVersion : PySem.W.excIn K C_UnknownVersion [.type "ValueError", .type "Exception", .type "BaseException", .type "object"] "ValueError.__new__" = true)
    (xk_UnknownVersion : PySem.W.keepIn K (.ref C_UnknownVersion) = true)
    (xb_UnknownVersion : PySem.W.subIn K (.ref C_UnknownVersion) (.type "BaseException") = some true)
    (xt_UnknownVersion : PySem.W.typeIn K (.ref C_UnknownVersion) = some (.type "type"))
    (xs_UnknownVersion : PySem.W.subIn K (.ref C_UnknownVersion) (.ref C_UnknownVersion) = some true)
    (xg_UnknownVersion : PySem.W.findIn K (.ref C_UnknownVersion) "__getattribute__" = some (some (.builtin "BaseException.__getattribute__")))
    (xq_UnknownVersion : PySem.W.findIn K (.ref C_UnknownVersion) "__getattr__" = some none)
    (xd_UnknownVersion : PySem.W.hasDictIn K C_UnknownVersion = true)
    (xa_UnknownVersion : PySem.W.findIn K (.ref C_UnknownVersion) "__class__" = some (some (.builtin "object.__class__")))
    (xn_UnknownVersion : PySem.W.specialIn K (.builtin "object.__class__") "__get__" = some (some (.builtin "getset_descriptor.__get__")))
    (xi_UnknownVersion : PySem.W.takesIn K (.builtin "object.__class__") = some true)
    (xm_UnknownVersion : PySem.W.mroIn K C_UnknownVersion (.type "object") = some true)
    (xv_UnknownVersion : PySem.W.kitOne K (.ref C_UnknownVersion) (.type "ValueError") = some true)
    (ko_InvalidVersion_UnknownVersion : PySem.W.kitOne K (.ref C_InvalidVersion) (.ref C_UnknownVersion) = some false)
    (ko_UnknownVersion_InvalidVersion : PySem.W.kitOne K (.ref C_UnknownVersion) (.ref C_InvalidVersion) = some false)
    (ay_VersionError : PySem.W.nsIn K mainGlobals "VersionError" = some (some (.ref C_VersionError)))
    (kp_InvalidVersion_VersionError : PySem.W.kitOne K (.ref C_InvalidVersion) (.ref C_VersionError) = some true)
    (kp_UnknownVersion_VersionError : PySem.W.kitOne K (.ref C_UnknownVersion) (.ref C_VersionError) = some true)
    (a_law_cell : PySem.W.nsIn K mainGlobals "_law_cell" = some (some (.ref f_law_cell))) (l_law_cell : K.lookup f_law_cell = some ⟨oc_law_cell, od_law_cell, .func (PySem.W.fnOf "_law_cell" "_law_cell" (defArgs s_law_cell) (defBody s_law_cell) (defScope s_law_cell) .none kV_law_cell dc_law_cell pm_law_cell an_law_cell cd_law_cell ct_law_cell), sl_law_cell⟩) (c_law_cell : PySem.W.codeIn K cd_law_cell "_law_cell" = true) (k_law_cell : PySem.W.keepIn K (.ref f_law_cell) = true)
    (a_law_numbers : PySem.W.nsIn K mainGlobals "_law_numbers" = some (some (.ref f_law_numbers))) (l_law_numbers : K.lookup f_law_numbers = some ⟨oc_law_numbers, od_law_numbers, .func (PySem.W.fnOf "_law_numbers" "_law_numbers" (defArgs s_law_numbers) (defBody s_law_numbers) (defScope s_law_numbers) .none kV_law_numbers dc_law_numbers pm_law_numbers an_law_numbers cd_law_numbers ct_law_numbers), sl_law_numbers⟩) (c_law_numbers : PySem.W.codeIn K cd_law_numbers "_law_numbers" = true) (k_law_numbers : PySem.W.keepIn K (.ref f_law_numbers) = true)
    (a_law_only : PySem.W.nsIn K mainGlobals "_law_only" = some (some (.ref f_law_only))) (l_law_only : K.lookup f_law_only = some ⟨oc_law_only, od_law_only, .func (PySem.W.fnOf "_law_only" "_law_only" (defArgs s_law_only) (defBody s_law_only) (defScope s_law_only) .none kV_law_only dc_law_only pm_law_only an_law_only cd_law_only ct_law_only), sl_law_only⟩) (c_law_only : PySem.W.codeIn K cd_law_only "_law_only" = true) (k_law_only : PySem.W.keepIn K (.ref f_law_only) = true)
    (a_law_read : PySem.W.nsIn K mainGlobals "_law_read" = some (some (.ref f_law_read))) (l_law_read : K.lookup f_law_read = some ⟨oc_law_read, od_law_read, .func (PySem.W.fnOf "_law_read" "_law_read" (defArgs s_law_read) (defBody s_law_read) (defScope s_law_read) .none kV_law_read dc_law_read pm_law_read an_law_read cd_law_read ct_law_read), sl_law_read⟩) (c_law_read : PySem.W.codeIn K cd_law_read "_law_read" = true) (k_law_read : PySem.W.keepIn K (.ref f_law_read) = true)
    (a_law_same : PySem.W.nsIn K mainGlobals "_law_same" = some (some (.ref f_law_same))) (l_law_same : K.lookup f_law_same = some ⟨oc_law_same, od_law_same, .func (PySem.W.fnOf "_law_same" "_law_same" (defArgs s_law_same) (defBody s_law_same) (defScope s_law_same) .none kV_law_same dc_law_same pm_law_same an_law_same cd_law_same ct_law_same), sl_law_same⟩) (c_law_same : PySem.W.codeIn K cd_law_same "_law_same" = true) (k_law_same : PySem.W.keepIn K (.ref f_law_same) = true)
    (a_is_address : PySem.W.nsIn K mainGlobals "_is_address" = some (some (.ref f_is_address))) (l_is_address : K.lookup f_is_address = some ⟨oc_is_address, od_is_address, .func (PySem.W.fnOf "_is_address" "_is_address" (defArgs s_is_address) (defBody s_is_address) (defScope s_is_address) .none kV_is_address dc_is_address pm_is_address an_is_address cd_is_address ct_is_address), sl_is_address⟩) (c_is_address : PySem.W.codeIn K cd_is_address "_is_address" = true) (k_is_address : PySem.W.keepIn K (.ref f_is_address) = true)
    (a_is_name : PySem.W.nsIn K mainGlobals "is_name" = some (some (.ref f_is_name))) (l_is_name : K.lookup f_is_name = some ⟨oc_is_name, od_is_name, .func (PySem.W.fnOf "is_name" "is_name" (defArgs s_is_name) (defBody s_is_name) (defScope s_is_name) .none kV_is_name dc_is_name pm_is_name an_is_name cd_is_name ct_is_name), sl_is_name⟩) (c_is_name : PySem.W.codeIn K cd_is_name "is_name" = true) (k_is_name : PySem.W.keepIn K (.ref f_is_name) = true)
    (a_parse_version : PySem.W.nsIn K mainGlobals "parse_version" = some (some (.ref f_parse_version))) (l_parse_version : K.lookup f_parse_version = some ⟨oc_parse_version, od_parse_version, .func (PySem.W.fnOf "parse_version" "parse_version" (defArgs s_parse_version) (defBody s_parse_version) (defScope s_parse_version) .none kV_parse_version dc_parse_version pm_parse_version an_parse_version cd_parse_version ct_parse_version), sl_parse_version⟩) (c_parse_version : PySem.W.codeIn K cd_parse_version "parse_version" = true) (k_parse_version : PySem.W.keepIn K (.ref f_parse_version) = true)
    (a_law_parses : PySem.W.nsIn K mainGlobals "_law_parses" = some (some (.ref f_law_parses))) (l_law_parses : K.lookup f_law_parses = some ⟨oc_law_parses, od_law_parses, .func (PySem.W.fnOf "_law_parses" "_law_parses" (defArgs s_law_parses) (defBody s_law_parses) (defScope s_law_parses) .none kV_law_parses dc_law_parses pm_law_parses an_law_parses cd_law_parses ct_law_parses), sl_law_parses⟩) (c_law_parses : PySem.W.codeIn K cd_law_parses "_law_parses" = true) (k_law_parses : PySem.W.keepIn K (.ref f_law_parses) = true)
    (a_law_spoilt : PySem.W.nsIn K mainGlobals "_law_spoilt" = some (some (.ref f_law_spoilt))) (l_law_spoilt : K.lookup f_law_spoilt = some ⟨oc_law_spoilt, od_law_spoilt, .func (PySem.W.fnOf "_law_spoilt" "_law_spoilt" (defArgs s_law_spoilt) (defBody s_law_spoilt) (defScope s_law_spoilt) .none kV_law_spoilt dc_law_spoilt pm_law_spoilt an_law_spoilt cd_law_spoilt ct_law_spoilt), sl_law_spoilt⟩) (c_law_spoilt : PySem.W.codeIn K cd_law_spoilt "_law_spoilt" = true) (k_law_spoilt : PySem.W.keepIn K (.ref f_law_spoilt) = true)
    (a_law_name : PySem.W.nsIn K mainGlobals "_law_name" = some (some (.ref f_law_name))) (l_law_name : K.lookup f_law_name = some ⟨oc_law_name, od_law_name, .func (PySem.W.fnOf "_law_name" "_law_name" (defArgs s_law_name) (defBody s_law_name) (defScope s_law_name) .none kV_law_name dc_law_name pm_law_name an_law_name cd_law_name ct_law_name), sl_law_name⟩) (c_law_name : PySem.W.codeIn K cd_law_name "_law_name" = true) (k_law_name : PySem.W.keepIn K (.ref f_law_name) = true)
    (a_law_text_of : PySem.W.nsIn K mainGlobals "_law_text_of" = some (some (.ref f_law_text_of))) (l_law_text_of : K.lookup f_law_text_of = some ⟨oc_law_text_of, od_law_text_of, .func (PySem.W.fnOf "_law_text_of" "_law_text_of" (defArgs s_law_text_of) (defBody s_law_text_of) (defScope s_law_text_of) .none kV_law_text_of dc_law_text_of pm_law_text_of an_law_text_of cd_law_text_of ct_law_text_of), sl_law_text_of⟩) (c_law_text_of : PySem.W.codeIn K cd_law_text_of "_law_text_of" = true) (k_law_text_of : PySem.W.keepIn K (.ref f_law_text_of) = true)
    (a_law : PySem.W.nsIn K mainGlobals "law" = some (some (.ref f_law))) (l_law : K.lookup f_law = some ⟨oc_law, od_law, .func (PySem.W.fnOf "law" "law" (defArgs s_law) (defBody s_law) (defScope s_law) .none kV_law dc_law pm_law an_law cd_law ct_law), sl_law⟩) (c_law : PySem.W.codeIn K cd_law "law" = true) (k_law : PySem.W.keepIn K (.ref f_law) = true)
    (z_ValueError : PySem.W.nsIn K mainGlobals "ValueError" = some none)
    (z_all : PySem.W.nsIn K mainGlobals "all" = some none)
    (z_bool : PySem.W.nsIn K mainGlobals "bool" = some none)
    (z_int : PySem.W.nsIn K mainGlobals "int" = some none)
    (z_isinstance : PySem.W.nsIn K mainGlobals "isinstance" = some none)
    (z_len : PySem.W.nsIn K mainGlobals "len" = some none)
    (z_list : PySem.W.nsIn K mainGlobals "list" = some none)
    (z_range : PySem.W.nsIn K mainGlobals "range" = some none)
    (z_str : PySem.W.nsIn K mainGlobals "str" = some none)
    (z_tuple : PySem.W.nsIn K mainGlobals "tuple" = some none)
    (z_MOST_CHARACTERS : PySem.W.nsIn K mainGlobals "MOST_CHARACTERS" = some (some (.int 60 t_MOST_CHARACTERS)))
    (z_MOST_DIGITS : PySem.W.nsIn K mainGlobals "MOST_DIGITS" = some (some (.int 18 t_MOST_DIGITS)))
    (z_STEPS : PySem.W.nsIn K mainGlobals "STEPS" = some (some (.str (Str.ofString "~^") t_STEPS))) :
    ∃ fd : FuncData, (∀ (s : Shared) (v : Value), BindsTo s fd ⟨[v], []⟩ [("script", v)]) ∧ ∀ base : Heap, K.In base → base.Ns mainGlobals mg → FnOk l.prog w K mg base CX0 5 fa fd ["script"] (spLaw K) := by
  have e := hfa.symm.trans (PySem.W.mg_of X G a_law)
  cases e
  have F_law_cell := fun_mk (st := s_law_cell) l_law_cell c_law_cell k_law_cell
  have F_law_numbers := fun_mk (st := s_law_numbers) l_law_numbers c_law_numbers k_law_numbers
  have F_law_only := fun_mk (st := s_law_only) l_law_only c_law_only k_law_only
  have F_law_read := fun_mk (st := s_law_read) l_law_read c_law_read k_law_read
  have F_law_same := fun_mk (st := s_law_same) l_law_same c_law_same k_law_same
  have F_is_address := fun_mk (st := s_is_address) l_is_address c_is_address k_is_address
  have F_is_name := fun_mk (st := s_is_name) l_is_name c_is_name k_is_name
  have F_parse_version := fun_mk (st := s_parse_version) l_parse_version c_parse_version k_parse_version
  have F_law_parses := fun_mk (st := s_law_parses) l_law_parses c_law_parses k_law_parses
  have F_law_spoilt := fun_mk (st := s_law_spoilt) l_law_spoilt c_law_spoilt k_law_spoilt
  have F_law_name := fun_mk (st := s_law_name) l_law_name c_law_name k_law_name
  have F_law_text_of := fun_mk (st := s_law_text_of) l_law_text_of c_law_text_of k_law_text_of
  have F_law := fun_mk (st := s_law) l_law c_law k_law
  let T : Txt K mg := {
    C_InvalidVersion := C_InvalidVersion, e_InvalidVersion := ⟨PySem.W.mg_of X G ax_InvalidVersion, xx_InvalidVersion, xk_InvalidVersion, xb_InvalidVersion, xt_InvalidVersion, xs_InvalidVersion, ⟨xg_InvalidVersion, xq_InvalidVersion, xb_InvalidVersion, xd_InvalidVersion, xa_InvalidVersion, xn_InvalidVersion, xi_InvalidVersion, xm_InvalidVersion⟩⟩, kv_InvalidVersion := xv_InvalidVersion,
    C_UnknownVersion := C_UnknownVersion, e_UnknownVersion := ⟨PySem.W.mg_of X G ax_UnknownVersion, xx_UnknownVersion, xk_UnknownVersion, xb_UnknownVersion, xt_UnknownVersion, xs_UnknownVersion, ⟨xg_UnknownVersion, xq_UnknownVersion, xb_UnknownVersion, xd_UnknownVersion, xa_UnknownVersion, xn_UnknownVersion, xi_UnknownVersion, xm_UnknownVersion⟩⟩, kv_UnknownVersion := xv_UnknownVersion,
    kt_InvalidVersion_UnknownVersion := ko_InvalidVersion_UnknownVersion,
    kt_UnknownVersion_InvalidVersion := ko_UnknownVersion_InvalidVersion,
    C_VersionError := C_VersionError, g_VersionError := PySem.W.mg_of X G ay_VersionError,
    ku_InvalidVersion_VersionError := kp_InvalidVersion_VersionError,
    ku_UnknownVersion_VersionError := kp_UnknownVersion_VersionError,
    f_law_cell := f_law_cell, d_law_cell := _, F_law_cell := F_law_cell, b_law_cell := (F_law_cell.binds (ps := ["script", "k"]) fun _ _ _ _ _ _ us hl => match us, hl with | [_, _], _ => rfl),
    g_law_cell := PySem.W.mg_of X G a_law_cell,
    f_law_numbers := f_law_numbers, d_law_numbers := _, F_law_numbers := F_law_numbers, b_law_numbers := (F_law_numbers.binds (ps := ["cell", "count"]) fun _ _ _ _ _ _ us hl => match us, hl with | [_, _], _ => rfl),
    g_law_numbers := PySem.W.mg_of X G a_law_numbers,
    f_law_only := f_law_only, d_law_only := _, F_law_only := F_law_only, b_law_only := (F_law_only.binds (ps := ["text", "chars"]) fun _ _ _ _ _ _ us hl => match us, hl with | [_, _], _ => rfl),
    g_law_only := PySem.W.mg_of X G a_law_only,
    f_law_read := f_law_read, d_law_read := _, F_law_read := F_law_read, b_law_read := (F_law_read.binds (ps := ["text"]) fun _ _ _ _ _ _ us hl => match us, hl with | [_], _ => rfl),
    g_law_read := PySem.W.mg_of X G a_law_read,
    f_law_same := f_law_same, d_law_same := _, F_law_same := F_law_same, b_law_same := (F_law_same.binds (ps := ["actual", "due"]) fun _ _ _ _ _ _ us hl => match us, hl with | [_, _], _ => rfl),
    g_law_same := PySem.W.mg_of X G a_law_same,
    f_is_address := f_is_address, d_is_address := _, F_is_address := F_is_address, b_is_address := (F_is_address.binds (ps := ["text"]) fun _ _ _ _ _ _ us hl => match us, hl with | [_], _ => rfl),
    g_is_address := PySem.W.mg_of X G a_is_address,
    f_is_name := f_is_name, d_is_name := _, F_is_name := F_is_name, b_is_name := (F_is_name.binds (ps := ["text"]) fun _ _ _ _ _ _ us hl => match us, hl with | [_], _ => rfl),
    g_is_name := PySem.W.mg_of X G a_is_name,
    f_parse_version := f_parse_version, d_parse_version := _, F_parse_version := F_parse_version, b_parse_version := (F_parse_version.binds (ps := ["text"]) fun _ _ _ _ _ _ us hl => match us, hl with | [_], _ => rfl),
    g_parse_version := PySem.W.mg_of X G a_parse_version,
    f_law_parses := f_law_parses, d_law_parses := _, F_law_parses := F_law_parses, b_law_parses := (F_law_parses.binds (ps := ["text"]) fun _ _ _ _ _ _ us hl => match us, hl with | [_], _ => rfl),
    g_law_parses := PySem.W.mg_of X G a_law_parses,
    f_law_spoilt := f_law_spoilt, d_law_spoilt := _, F_law_spoilt := F_law_spoilt, b_law_spoilt := (F_law_spoilt.binds (ps := ["text", "a", "b", "c"]) fun _ _ _ _ _ _ us hl => match us, hl with | [_, _, _, _], _ => rfl),
    g_law_spoilt := PySem.W.mg_of X G a_law_spoilt,
    f_law_name := f_law_name, d_law_name := _, F_law_name := F_law_name, b_law_name := (F_law_name.binds (ps := ["numbers"]) fun _ _ _ _ _ _ us hl => match us, hl with | [_], _ => rfl),
    g_law_name := PySem.W.mg_of X G a_law_name,
    f_law_text_of := f_law_text_of, d_law_text_of := _, F_law_text_of := F_law_text_of, b_law_text_of := (F_law_text_of.binds (ps := ["cell"]) fun _ _ _ _ _ _ us hl => match us, hl with | [_], _ => rfl),
    g_law_text_of := PySem.W.mg_of X G a_law_text_of,
    f_law := fa, d_law := _, F_law := F_law, b_law := (F_law.binds (ps := ["script"]) fun _ _ _ _ _ _ us hl => match us, hl with | [_], _ => rfl),
    g_law := PySem.W.mg_of X G a_law,
    m_ValueError := PySem.W.mg_none_of X G z_ValueError,
    m_all := PySem.W.mg_none_of X G z_all,
    m_bool := PySem.W.mg_none_of X G z_bool,
    m_int := PySem.W.mg_none_of X G z_int,
    m_isinstance := PySem.W.mg_none_of X G z_isinstance,
    m_len := PySem.W.mg_none_of X G z_len,
    m_list := PySem.W.mg_none_of X G z_list,
    m_range := PySem.W.mg_none_of X G z_range,
    m_str := PySem.W.mg_none_of X G z_str,
    m_tuple := PySem.W.mg_none_of X G z_tuple,
    t_MOST_CHARACTERS := t_MOST_CHARACTERS, k_MOST_CHARACTERS := PySem.W.mg_of X G z_MOST_CHARACTERS,
    t_MOST_DIGITS := t_MOST_DIGITS, k_MOST_DIGITS := PySem.W.mg_of X G z_MOST_DIGITS,
    t_STEPS := t_STEPS, k_STEPS := PySem.W.mg_of X G z_STEPS }
  exact ⟨PySem.W.fnOf "law" "law" (defArgs s_law) (defBody s_law) (defScope s_law) .none kV_law dc_law pm_law an_law cd_law ct_law, fun s v => .of_eq rfl, fun base _ _ => ok_law T⟩

end Vt

open PySem PySem.W PyProof.Rows
set_option maxHeartbeats 0 in
theorem PySem.Challenge.cw_versiontables_k45_parse_version_holds : PySem.Challenge.rw_versiontables_k45_parse_version.Holds := by
  w_on; o_law; k_head; (case hw => w_witness2)
  k_fill
  refine L2.walk_ofB (l := PySem.Challenge.rw_versiontables_k45_parse_version) (n := 63) (k := 5) (x := "script") (CX := fun _ => L2.CX0) (sp := fun w => Vt.spLaw _) rfl (by decide) rfl ⟨rfl, by decide, by decide⟩ (fun w h Y => PySem.W.kIn_of Y) ?F (fun _ _ a ns hl hb _ hS => ⟨a, ns, rfl, hS, hl, hb, fun _ => rfl⟩) (fun _ _ _ _ _ h => h)
  case F =>
    intro w mg fa h KX G hmg
    refine' Vt.all_mk KX G hmg ?ax_InvalidVersion ?xx_InvalidVersion ?xk_InvalidVersion ?xb_InvalidVersion ?xt_InvalidVersion ?xs_InvalidVersion ?xg_InvalidVersion ?xq_InvalidVersion ?xd_InvalidVersion ?xa_InvalidVersion ?xn_InvalidVersion ?xi_InvalidVersion ?xm_InvalidVersion ?xv_InvalidVersion ?ax_UnknownVersion ?xx_UnknownVersion ?xk_UnknownVersion ?xb_UnknownVersion ?xt_UnknownVersion ?xs_UnknownVersion ?xg_UnknownVersion ?xq_UnknownVersion ?xd_UnknownVersion ?xa_UnknownVersion ?xn_UnknownVersion ?xi_UnknownVersion ?xm_UnknownVersion ?xv_UnknownVersion ?ko_InvalidVersion_UnknownVersion ?ko_UnknownVersion_InvalidVersion ?ay_VersionError ?kp_InvalidVersion_VersionError ?kp_UnknownVersion_VersionError ?a_law_cell ?l_law_cell ?c_law_cell ?k_law_cell ?a_law_numbers ?l_law_numbers ?c_law_numbers ?k_law_numbers ?a_law_only ?l_law_only ?c_law_only ?k_law_only ?a_law_read ?l_law_read ?c_law_read ?k_law_read ?a_law_same ?l_law_same ?c_law_same ?k_law_same ?a_is_address ?l_is_address ?c_is_address ?k_is_address ?a_is_name ?l_is_name ?c_is_name ?k_is_name ?a_parse_version ?l_parse_version ?c_parse_version ?k_parse_version ?a_law_parses ?l_law_parses ?c_law_parses ?k_law_parses ?a_law_spoilt ?l_law_spoilt ?c_law_spoilt ?k_law_spoilt ?a_law_name ?l_law_name ?c_law_name ?k_law_name ?a_law_text_of ?l_law_text_of ?c_law_text_of ?k_law_text_of ?a_law ?l_law ?c_law ?k_law ?z_ValueError ?z_all ?z_bool ?z_int ?z_isinstance ?z_len ?z_list ?z_range ?z_str ?z_tuple ?z_MOST_CHARACTERS ?z_MOST_DIGITS ?z_STEPS
    (case ax_InvalidVersion => k_is)
    (case xx_InvalidVersion => k_exc)
    (case xk_InvalidVersion => k_is)
    (case xb_InvalidVersion => k_is)
    (case xt_InvalidVersion => k_is)
    (case xs_InvalidVersion => first | rfl | k_is)
    (case xg_InvalidVersion => k_is)
    (case xq_InvalidVersion => k_is)
    (case xd_InvalidVersion => k_is)
    (case xa_InvalidVersion => k_is)
    (case xn_InvalidVersion => first | rfl | k_is)
    (case xi_InvalidVersion => first | rfl | k_is)
    (case xm_InvalidVersion => k_is)
    (case xv_InvalidVersion => first | rfl | k_is)
    (case ax_UnknownVersion => k_is)
    (case xx_UnknownVersion => k_exc)
    (case xk_UnknownVersion => k_is)
    (case xb_UnknownVersion => k_is)
    (case xt_UnknownVersion => k_is)
    (case xs_UnknownVersion => first | rfl | k_is)
    (case xg_UnknownVersion => k_is)
    (case xq_UnknownVersion => k_is)
    (case xd_UnknownVersion => k_is)
    (case xa_UnknownVersion => k_is)
    (case xn_UnknownVersion => first | rfl | k_is)
    (case xi_UnknownVersion => first | rfl | k_is)
    (case xm_UnknownVersion => k_is)
    (case xv_UnknownVersion => first | rfl | k_is)
    (case ko_InvalidVersion_UnknownVersion => first | rfl | k_is)
    (case ko_UnknownVersion_InvalidVersion => first | rfl | k_is)
    (case ay_VersionError => k_is)
    (case kp_InvalidVersion_VersionError => first | rfl | k_is)
    (case kp_UnknownVersion_VersionError => first | rfl | k_is)
    (case a_law_cell => k_is)
    (case l_law_cell => k_is)
    (case c_law_cell => k_is)
    (case k_law_cell => k_is)
    (case a_law_numbers => k_is)
    (case l_law_numbers => k_is)
    (case c_law_numbers => k_is)
    (case k_law_numbers => k_is)
    (case a_law_only => k_is)
    (case l_law_only => k_is)
    (case c_law_only => k_is)
    (case k_law_only => k_is)
    (case a_law_read => k_is)
    (case l_law_read => k_is)
    (case c_law_read => k_is)
    (case k_law_read => k_is)
    (case a_law_same => k_is)
    (case l_law_same => k_is)
    (case c_law_same => k_is)
    (case k_law_same => k_is)
    (case a_is_address => k_is)
    (case l_is_address => k_is)
    (case c_is_address => k_is)
    (case k_is_address => k_is)
    (case a_is_name => k_is)
    (case l_is_name => k_is)
    (case c_is_name => k_is)
    (case k_is_name => k_is)
    (case a_parse_version => k_is)
    (case l_parse_version => k_is)
    (case c_parse_version => k_is)
    (case k_parse_version => k_is)
    (case a_law_parses => k_is)
    (case l_law_parses => k_is)
    (case c_law_parses => k_is)
    (case k_law_parses => k_is)
    (case a_law_spoilt => k_is)
    (case l_law_spoilt => k_is)
    (case c_law_spoilt => k_is)
    (case k_law_spoilt => k_is)
    (case a_law_name => k_is)
    (case l_law_name => k_is)
    (case c_law_name => k_is)
    (case k_law_name => k_is)
    (case a_law_text_of => k_is)
    (case l_law_text_of => k_is)
    (case c_law_text_of => k_is)
    (case k_law_text_of => k_is)
    (case a_law => k_is)
    (case l_law => k_is)
    (case c_law => k_is)
    (case k_law => k_is)
    (case z_ValueError => k_is)
    (case z_all => k_is)
    (case z_bool => k_is)
    (case z_int => k_is)
    (case z_isinstance => k_is)
    (case z_len => k_is)
    (case z_list => k_is)
    (case z_range => k_is)
    (case z_str => k_is)
    (case z_tuple => k_is)
    (case z_MOST_CHARACTERS => k_is)
    (case z_MOST_DIGITS => k_is)
    (case z_STEPS => k_is)
