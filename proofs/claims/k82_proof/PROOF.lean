import PyProof.Rows.All
import Wide.All
import OpenK.AllK
import Wide.FinOn
import HandS.ForMost
import HandS.Evl
import HandS.IsInst
import HandS.FStr
import HandS.WideBits
import HandS.Wide
import HandS.EndBits
import HandS.Exc
import HandS.TupAny
import PyProof.StrOps2
import HandS.ExcOwn
import HandS.ExcIs
import HandS.ExcCtx
import HandS.SuiteRaise
import HandS.RaiseFrom
import HandS.ExcValue
import HandS.ExcValueFrom
import HandS.WordsExc
import HandS.Replace
import HandS.ReplaceLit
import HandS.NoneIn
import HandS.StrMore
import HandS.TupLe
import HandS.Sort
import HandS.SortKw
import HandS.Lambda
import HandS.EndTab
import KE.KNestM
import KE.SortKeyHeap
import KE.SortData
import HandS.Iter
import KE.GoesMore
import KE.GoesEnum
import HandS.SetTxt0
import HandS.Set
import HandS.Strs
import HandS.Star
import HandS.Zip
import KE.KDictZip
import HandS.ExcInit
import HandS.ExcField
import HandS.Nested
import KE.KExcSuper
import KE.KSuper
import KE.KExcIs
import HandS.Iter
import HandS.More
import HandS.Conv
import HandS.SortInts
import PySem.Challenge.RW_versiontables_k82_disk


set_option Elab.async false
set_option linter.all false
set_option maxRecDepth 100000
set_option maxHeartbeats 400000

namespace Vt
open PySem PySem.Spec PyProof.Rows L2 Evl

def topS (i : Nat) : Stmt := PySem.Challenge.pw_versiontables_k82_disk.main.body.getD i (.Pass ⟨0, 0, 0, 0⟩)

abbrev s_law_text : Stmt := topS 11

theorem sc_law_text : FnScope ["a", "b", "chars", "size", "k"] ["a", "b"] (defScope s_law_text) := ⟨rfl, rfl, rfl, by decide +kernel, rfl, by decide +kernel, by decide +kernel⟩

abbrev s_law_numbers : Stmt := topS 10

theorem sc_law_numbers : FnScope ["cell", "count", "numbers", "k", "mixed"] ["cell", "count"] (defScope s_law_numbers) := ⟨rfl, rfl, rfl, by decide +kernel, rfl, by decide +kernel, by decide +kernel⟩

abbrev s_StoredFile___init : Stmt := inClass (topS 4) 0

theorem sc_StoredFile___init : FnScope ["self"] ["self"] (defScope s_StoredFile___init) := ⟨rfl, rfl, rfl, by decide +kernel, rfl, by decide +kernel, by decide +kernel⟩

abbrev s_Disk___init : Stmt := inClass (topS 5) 0

theorem sc_Disk___init : FnScope ["self"] ["self"] (defScope s_Disk___init) := ⟨rfl, rfl, rfl, by decide +kernel, rfl, by decide +kernel, by decide +kernel⟩

abbrev s_text_of : Stmt := topS 6

theorem sc_text_of : FnScope ["stored"] ["stored"] (defScope s_text_of) := ⟨rfl, rfl, rfl, by decide +kernel, rfl, by decide +kernel, by decide +kernel⟩

abbrev s_save : Stmt := topS 7

theorem sc_save : FnScope ["stored", "text"] ["stored", "text"] (defScope s_save) := ⟨rfl, rfl, rfl, by decide +kernel, rfl, by decide +kernel, by decide +kernel⟩

abbrev s_Disk__check_power : Stmt := inClass (topS 5) 8

theorem sc_Disk__check_power : FnScope ["self"] ["self"] (defScope s_Disk__check_power) := ⟨rfl, rfl, rfl, by decide +kernel, rfl, by decide +kernel, by decide +kernel⟩

abbrev s_Disk__begin_operation : Stmt := inClass (topS 5) 9

theorem sc_Disk__begin_operation : FnScope ["self"] ["self"] (defScope s_Disk__begin_operation) := ⟨rfl, rfl, rfl, by decide +kernel, rfl, by decide +kernel, by decide +kernel⟩

abbrev s_Disk_write : Stmt := inClass (topS 5) 1

theorem sc_Disk_write : FnScope ["self", "name", "text"] ["self", "name", "text"] (defScope s_Disk_write) := ⟨rfl, rfl, rfl, by decide +kernel, rfl, by decide +kernel, by decide +kernel⟩

abbrev s_Disk_sync : Stmt := inClass (topS 5) 2

theorem sc_Disk_sync : FnScope ["self", "name"] ["self", "name"] (defScope s_Disk_sync) := ⟨rfl, rfl, rfl, by decide +kernel, rfl, by decide +kernel, by decide +kernel⟩

abbrev s_Disk_cut : Stmt := inClass (topS 5) 3

theorem sc_Disk_cut : FnScope ["self", "name", "length"] ["self", "name", "length"] (defScope s_Disk_cut) := ⟨rfl, rfl, rfl, by decide +kernel, rfl, by decide +kernel, by decide +kernel⟩

abbrev s_Disk_read : Stmt := inClass (topS 5) 4

theorem sc_Disk_read : FnScope ["self", "name"] ["self", "name"] (defScope s_Disk_read) := ⟨rfl, rfl, rfl, by decide +kernel, rfl, by decide +kernel, by decide +kernel⟩

abbrev s_Disk_arm : Stmt := inClass (topS 5) 6

theorem sc_Disk_arm : FnScope ["self", "count"] ["self", "count"] (defScope s_Disk_arm) := ⟨rfl, rfl, rfl, by decide +kernel, rfl, by decide +kernel, by decide +kernel⟩

abbrev s_Disk_total : Stmt := inClass (topS 5) 5

theorem sc_Disk_total : FnScope ["self", "stored"] ["self"] (defScope s_Disk_total) := ⟨rfl, rfl, rfl, by decide +kernel, rfl, by decide +kernel, by decide +kernel⟩

abbrev s_Disk_restart : Stmt := inClass (topS 5) 7

theorem sc_Disk_restart : FnScope ["self", "kept", "number", "stored", "length"] ["self", "kept"] (defScope s_Disk_restart) := ⟨rfl, rfl, rfl, by decide +kernel, rfl, by decide +kernel, by decide +kernel⟩

abbrev s_law_is_integer : Stmt := topS 12

theorem sc_law_is_integer : FnScope ["actual"] ["actual"] (defScope s_law_is_integer) := ⟨rfl, rfl, rfl, by decide +kernel, rfl, by decide +kernel, by decide +kernel⟩

abbrev s_law_operates : Stmt := topS 13

theorem sc_law_operates : FnScope ["m"] ["m"] (defScope s_law_operates) := ⟨rfl, rfl, rfl, by decide +kernel, rfl, by decide +kernel, by decide +kernel⟩

abbrev s_law_called : Stmt := topS 14

theorem sc_law_called : FnScope ["disk", "deed", "name", "text", "length", "result", "e"] ["disk", "deed", "name", "text", "length"] (defScope s_law_called) := ⟨rfl, rfl, rfl, by decide +kernel, rfl, by decide +kernel, by decide +kernel⟩

abbrev s_law_changes : Stmt := topS 15

theorem sc_law_changes : FnScope ["m", "deed", "name", "text", "length", "whole"] ["m", "deed", "name", "text", "length"] (defScope s_law_changes) := ⟨rfl, rfl, rfl, by decide +kernel, rfl, by decide +kernel, by decide +kernel⟩

abbrev s_law_deed : Stmt := topS 16

theorem sc_law_deed : FnScope ["disk", "m", "numbers", "deed", "name", "text", "length", "good", "told", "kept", "number", "given", "k", "entry", "keep", "total"] ["disk", "m", "numbers"] (defScope s_law_deed) := ⟨rfl, rfl, rfl, by decide +kernel, rfl, by decide +kernel, by decide +kernel⟩

abbrev s_law : Stmt := topS 17

theorem sc_law : FnScope ["script", "disk", "m", "k", "name", "due"] ["script"] (defScope s_law) := ⟨rfl, rfl, rfl, by decide +kernel, rfl, by decide +kernel, by decide +kernel⟩

/-! ### what is raised -/
theorem okN {P : Program} {w : World} {K : PySem.W.Frag} {mg : Str → Option Value} {base : Heap} {x qual : Str} {st : Stmt} {f : Addr} {fd : FuncData} {N ps : List Str} {k : Nat} {sp : Sp} (F : Fun K x qual st f fd) (S : FnScope N ps (defScope st)) (len : ∀ vs H Q E, sp vs H Q E → vs.length = ps.length)
    (hb : ∀ (cdv : Value) (A : Around) (outer : List Env) (s : Shared) (H : Hp) (vs : List V) (Q : VK) (E : XK), Room k (A.deeper (envOfC qual (defScope st) s.heap.objs.size f cdv)) → sp vs H Q E →
      ∃ t, PSs (cxOf (L2N.CX P w) P w K mg base N qual (defScope st) f cdv A outer s H E) (defBody st) t ∧ t { nx := fun _ H' => Q .non H', rt := Q } (start N vs) H) : FnOk P w K mg base (L2N.CX P w) (k + 1) f fd ps sp := by
  obtain ⟨oc, od, kV, doc, pm, an, cdv, ct, osl, rfl, lk, hcd⟩ := F.ex
  exact fn_of lk hcd S len fun A outer s H vs Q E hr h => hb cdv A outer s H vs Q E hr h
/-- a reading that holds where P does -/
theorem pss_given {X : Cx} {sts : List Stmt} {t : TS} {P : Prop} (h : P → PSs X sts t) : PSs X sts (fun D σ H => P ∧ t D σ H) := ⟨fun pins s σ H D I z => (h z.1).run pins s σ H D I z.2⟩
theorem zc_of {cls : Value} {d : Option Addr} {C : Addr} {oe : Obj} (p : cls = .ref C ∧ d = none) (h : Zc cls d oe) : Zc (.ref C) none oe := by
  obtain ⟨rfl, rfl⟩ := p
  exact h
theorem ev_isE {K : PySem.W.Frag} {D a : Addr} {σ : L2.St} {H : Hp} {te : TE} {c : V} {cv : Value} {b : Bool} (h : Ev te σ H (.ref a)) (hc : ∀ u, RelV c u → u = cv) (hk : PySem.W.kitOne K (.ref D) cv = some b) : Ev (tCB (rIsE K D a) (tCons te (tCons (tC c) tNil))) σ H (.bl b) := fun H1 e Q q =>
  h H1 e _ fun H2 e2 => ⟨c, cv, b, rfl, hc, hk, q H2 e2⟩
theorem s_callE {sp : Sp} {dvs vs : List V} {E : XK} {ta : TA} {σ : L2.St} {H : Hp} {D : Ends} (h : EvA ta σ H vs) (k : ∀ H1 Q, Ex H H1 → sp (vs ++ dvs) H1 Q E) : tRet (tCall sp dvs E ta) D σ H := h H (Ex.refl H) _ fun H1 e1 => k H1 _ e1
theorem q_callE {sp : Sp} {dvs vs : List V} {E : XK} {ta : TA} {σ : L2.St} {H : Hp} {tz : TS} {D : Ends} {i : Nat} (h : EvA ta σ H vs) (k : ∀ H1 Q, Ex H H1 → sp (vs ++ dvs) H1 Q E) : tSeq (tAsg (tCall sp dvs E ta) (gName i)) tz D σ H := h H (Ex.refl H) _ fun H1 e1 => k H1 _ e1
/-- in a try's body -/
theorem s_callT {sp : Sp} {vs : List V} {E : L2.St → XK} {ta : TA} {g : TG} {σ : L2.St} {H : Hp} {D : Ends} (h : EvA ta σ H vs) (k : ∀ H1 Q, Ex H H1 → sp vs H1 Q (E σ)) : tAsg (tCallS sp E ta) g D σ H := h H (Ex.refl H) _ fun H1 e1 => k H1 _ e1
theorem s_dropT {sp : Sp} {vs : List V} {E : L2.St → XK} {ta : TA} {σ : L2.St} {H : Hp} {D : Ends} (h : EvA ta σ H vs) (k : ∀ H1 Q, Ex H H1 → sp vs H1 Q (E σ)) : tDrop (tCallS sp E ta) D σ H := h H (Ex.refl H) _ fun H1 e1 => k H1 _ e1
/-- an own error class, as the text has it -/
structure XcC (K : PySem.W.Frag) (mg : Str → Option Value) (x : Str) (C : Addr) : Prop where
  g : mg x = some (.ref C)
  x : PySem.W.excIn K C [.type "ValueError", .type "Exception", .type "BaseException", .type "object"] "ValueError.__new__" = true
  kp : PySem.W.keepIn K (.ref C) = true
  b : PySem.W.subIn K (.ref C) (.type "BaseException") = some true
  t : PySem.W.typeIn K (.ref C) = some (.type "type")
  s : PySem.W.subIn K (.ref C) (.ref C) = some true
  is : ExcC K C
theorem XcC.self {K : PySem.W.Frag} {mg : Str → Option Value} {x : Str} {C : Addr} (T : XcC K mg x C) : PySem.W.exmOne K (.ref C) (.ref C) = some true := PySem.W.exm_ref T.b T.is.hd T.t T.s
/-! try .. except X as n: .. and further clauses; what is raised is X's -/
def wAs1 (K : PySem.W.Frag) (c : Value) (i : Nat) (ts : Addr → Value → Option Addr → TS) (D : Ends) : WX := fun cls d σ H =>
  PySem.W.exmOne K cls c = some true ∧ ∀ a, H a = none → ts a cls d { nx := fun _ _ => False, rt := D.rt, bk := fun _ _ => False, ct := fun _ _ => False } (σ.set i (some (.ref a))) H
theorem ps_try_as1 {X : Cx} {x n : Str} {c : Value} {i : Nat} {body suite : List Stmt} {b₀ : Stmt} {np pos pos' : Pos} {more : List ExceptHandler} {tb : WX → TS} {ts : Addr → Value → Option Addr → TS}
    (hs : X.stack = X.env :: X.outer) (hf : X.env.frame = some X.env.locals) (hN : X.N.Nodup) (hi : X.N[i]? = some n) (hln : X.env.kindOf n = some .local) (hc : Names X x c)
    (hb : ∀ (W : WX) (pn : List (Addr × Obj)) (xe : Value → Shared → Prop), L2N.Takes (X.tr pn xe) W → PSs (X.tr pn xe) body (tb W))
    (hsu : ∀ (a : Addr) (oe : Obj) (cls : Value) (d : Option Addr) (pn : List (Addr × Obj)), Zc cls d oe → (∃ vs, oe.data = .fields vs) → PSs (X.suite a ((a, oe) :: pn)) (b₀ :: suite) (ts a cls d)) :
    PS X (.Try body (.ExceptHandler (some (.Name x np)) (some n) (b₀ :: suite) pos' :: more) [] [] pos) (fun D σ H => tb (wAs1 X.K c i ts D) D σ H) := by
  refine ⟨fun pins s σ H D I h => ?_⟩
  have ok := I.ok
  have frames : X.A.frames = some (X.env :: X.outer) := by rw [ok.frames, hs]
  refine wpAny_Try_except (wpAny_mono ((hb (wAs1 X.K c i ts D) (X.pn ++ pins) _ fun u s' z => ?_).run [] s σ H D (I.toTry _) h) (fun f s1 q => ?_) fun e s1 z => z)
  · obtain ⟨a, B, sI, pins', σ', H', cls, d, rfl, J', nb, up, sky, na, os, ag, hx, hy⟩ := z
    have J : Inv X pins σ' H' sI := J'.ofTry ok
    have sky' : L2.Sky B (X.env :: X.outer) a (L2N.Zn cls d) X.env.locals s'.heap := by rw [← hs]; exact sky
    show wpAny (model X.prog X.w) X.A (noteFrame (.ref a) X.env) _ _ _
    refine L2N.Sky.land L2N.Zn.steady frames hf sky' fun h3 fl up3 => ?_
    have J3 : Inv X pins σ' H' { s' with heap := h3 } := J.landed nb fl.1 (up.trans up3) os ag
    obtain ⟨o3, v3, g3, z3, d3⟩ := fl.there
    have nfr : a ∉ frs (X.env :: X.outer) := fun hm => by
      obtain ⟨_, o', e', no⟩ := fl.2.2.1.mem hm
      rw [g3] at e'
      cases e'
      exact no _ d3
    have nL : a ≠ X.env.locals := fun y => nfr (List.mem_filterMap.mpr ⟨X.env, List.mem_cons_self, by rw [hf, y]⟩)
    have nF : a ∉ X.fs := fun hm => by
      obtain ⟨e, he, q⟩ := List.mem_filterMap.mp hm
      exact nfr (List.mem_filterMap.mpr ⟨e, List.mem_cons_of_mem _ he, q⟩)
    have S3 := J3.suite g3 d3 na nL nF
    have LT : PySem.W.Looks (model X.prog X.w) h3 (typeOf (.ref a)) cls := fun A Q E s k q => wpAny_typeOf_ref (k _ _ g3) (by rw [z3.1]; exact q)
    have LM := PySem.W.exm_one (M := model X.prog X.w) J3.kIn LT hx
    refine wpAny_handleBy_cons (codeAny_handlers_test ?_) (by intro q; cases q)
    have test : ∀ {Q : Value → Shared → Prop} {E : Value → Shared → Prop}, Q c { s' with heap := h3 } → wpAny (model X.prog X.w) (X.A.mark (some (.ref a))) (eval (.Name x np) X.env) Q E { s' with heap := h3 } := fun q => by
      obtain ⟨hg, hd, hm | ⟨hm, hv, hn⟩⟩ := hc
      · exact ld_glob (X := X.suite a ((a, o3) :: (X.pn ++ pins))) S3 hg hm q hd
      · exact ld_blt (X := X.suite a ((a, o3) :: (X.pn ++ pins))) S3 hg hm hv q hn hd
    refine test (LM.here (codeAny_handlers_suite_as (HandSPX.lands_againZ fl fun h4 fl4 up4 => ?_)))
    have J4 : Inv X pins σ' H' { s' with heap := h4 } := J.landed nb fl4.1 ((up.trans up3).trans up4) os ag
    obtain ⟨o4, v4, g4, z4, d4⟩ := fl4.there
    refine store_ok (X := X.suite a ((a, o4) :: (X.pn ++ pins))) (v := .ref a) (J4.suite g4 d4 na nL nF) hN hi (.inl hln) rfl (fun s5 S5 => ?_) (.inr hln)
    refine wpAny_mono ((hsu a o4 cls d (X.pn ++ pins) ⟨z4.1, z4.2.1⟩ ⟨_, d4⟩).run [] s5 _ H' _ S5 (hy a na)) (fun f s6 q => ?_) (fun _ _ z => z.elim)
    cases f with
    | next =>
      obtain ⟨_, _, _, z⟩ := q
      exact z.elim
    | brk =>
      obtain ⟨_, _, _, z⟩ := q
      exact z.elim
    | cont =>
      obtain ⟨_, _, _, z⟩ := q
      exact z.elim
    | ret u =>
      obtain ⟨v6, σ6, H6, S6, r6, q6⟩ := q
      exact gone_ok (S6.unsuite ok) hN hi hln fun s7 J7 => ⟨_, _, _, J7, r6, q6⟩
  · cases f with
    | next =>
      obtain ⟨σ', H', J', z⟩ := q
      exact wpAny_execs_nil ⟨σ', H', J'.ofTry ok, z⟩
    | brk =>
      obtain ⟨σ', H', J', z⟩ := q
      exact ⟨σ', H', J'.ofTry ok, z⟩
    | cont =>
      obtain ⟨σ', H', J', z⟩ := q
      exact ⟨σ', H', J'.ofTry ok, z⟩
    | ret u =>
      obtain ⟨v, σ', H', J', r, z⟩ := q
      exact ⟨v, σ', H', J'.ofTry ok, r, z⟩
/-- as ps_try_as1, for what was raised while another error was handled -/
theorem ps_try_as2 {X : Cx} {x n : Str} {c : Value} {i : Nat} {body suite : List Stmt} {b₀ : Stmt} {np pos pos' : Pos} {more : List ExceptHandler} {tb : WX → TS} {ts : Addr → Value → Option Addr → TS}
    (hs : X.stack = X.env :: X.outer) (hf : X.env.frame = some X.env.locals) (hN : X.N.Nodup) (hi : X.N[i]? = some n) (hln : X.env.kindOf n = some .local) (hc : Names X x c)
    (hb : ∀ (W : WX) (pn : List (Addr × Obj)) (xe : Value → Shared → Prop), L2.Takes (X.tr pn xe) W → PSs (X.tr pn xe) body (tb W))
    (hsu : ∀ (a : Addr) (oe : Obj) (cls : Value) (d : Option Addr) (pn : List (Addr × Obj)), Zc cls d oe → (∃ vs, oe.data = .fields vs) → PSs (X.suite a ((a, oe) :: pn)) (b₀ :: suite) (ts a cls d)) :
    PS X (.Try body (.ExceptHandler (some (.Name x np)) (some n) (b₀ :: suite) pos' :: more) [] [] pos) (fun D σ H => tb (wAs1 X.K c i ts D) D σ H) := by
  refine ⟨fun pins s σ H D I h => ?_⟩
  have ok := I.ok
  have frames : X.A.frames = some (X.env :: X.outer) := by rw [ok.frames, hs]
  refine wpAny_Try_except (wpAny_mono ((hb (wAs1 X.K c i ts D) (X.pn ++ pins) _ fun u s' z => ?_).run [] s σ H D (I.toTry _) h) (fun f s1 q => ?_) fun e s1 z => z)
  · obtain ⟨a, B, sI, pins', σ', H', cls, d, rfl, J', nb, up, sky, na, os, ag, hx, hy⟩ := z
    have J : Inv X pins σ' H' sI := J'.ofTry ok
    have sky' : L2.Sky B (X.env :: X.outer) a (Zc cls d) X.env.locals s'.heap := by rw [← hs]; exact sky
    show wpAny (model X.prog X.w) X.A (noteFrame (.ref a) X.env) _ _ _
    refine L2.Sky.land Zc.steady frames hf sky' fun h3 fl up3 => ?_
    have J3 : Inv X pins σ' H' { s' with heap := h3 } := J.landed nb fl.1 (up.trans up3) os ag
    obtain ⟨o3, v3, g3, z3, d3⟩ := fl.there
    have nfr : a ∉ frs (X.env :: X.outer) := fun hm => by
      obtain ⟨_, o', e', no⟩ := fl.2.2.1.mem hm
      rw [g3] at e'
      cases e'
      exact no _ d3
    have nL : a ≠ X.env.locals := fun y => nfr (List.mem_filterMap.mpr ⟨X.env, List.mem_cons_self, by rw [hf, y]⟩)
    have nF : a ∉ X.fs := fun hm => by
      obtain ⟨e, he, q⟩ := List.mem_filterMap.mp hm
      exact nfr (List.mem_filterMap.mpr ⟨e, List.mem_cons_of_mem _ he, q⟩)
    have S3 := J3.suite g3 d3 na nL nF
    have LT : PySem.W.Looks (model X.prog X.w) h3 (typeOf (.ref a)) cls := fun A Q E s k q => wpAny_typeOf_ref (k _ _ g3) (by rw [z3.1]; exact q)
    have LM := PySem.W.exm_one (M := model X.prog X.w) J3.kIn LT hx
    refine wpAny_handleBy_cons (codeAny_handlers_test ?_) (by intro q; cases q)
    have test : ∀ {Q : Value → Shared → Prop} {E : Value → Shared → Prop}, Q c { s' with heap := h3 } → wpAny (model X.prog X.w) (X.A.mark (some (.ref a))) (eval (.Name x np) X.env) Q E { s' with heap := h3 } := fun q => by
      obtain ⟨hg, hd, hm | ⟨hm, hv, hn⟩⟩ := hc
      · exact ld_glob (X := X.suite a ((a, o3) :: (X.pn ++ pins))) S3 hg hm q hd
      · exact ld_blt (X := X.suite a ((a, o3) :: (X.pn ++ pins))) S3 hg hm hv q hn hd
    refine test (LM.here (codeAny_handlers_suite_as (HandSPX.lands_againZ fl fun h4 fl4 up4 => ?_)))
    have J4 : Inv X pins σ' H' { s' with heap := h4 } := J.landed nb fl4.1 ((up.trans up3).trans up4) os ag
    obtain ⟨o4, v4, g4, z4, d4⟩ := fl4.there
    refine store_ok (X := X.suite a ((a, o4) :: (X.pn ++ pins))) (v := .ref a) (J4.suite g4 d4 na nL nF) hN hi (.inl hln) rfl (fun s5 S5 => ?_) (.inr hln)
    refine wpAny_mono ((hsu a o4 cls d (X.pn ++ pins) z4 ⟨_, d4⟩).run [] s5 _ H' _ S5 (hy a na)) (fun f s6 q => ?_) (fun _ _ z => z.elim)
    cases f with
    | next =>
      obtain ⟨_, _, _, z⟩ := q
      exact z.elim
    | brk =>
      obtain ⟨_, _, _, z⟩ := q
      exact z.elim
    | cont =>
      obtain ⟨_, _, _, z⟩ := q
      exact z.elim
    | ret u =>
      obtain ⟨v6, σ6, H6, S6, r6, q6⟩ := q
      exact gone_ok (S6.unsuite ok) hN hi hln fun s7 J7 => ⟨_, _, _, J7, r6, q6⟩
  · cases f with
    | next =>
      obtain ⟨σ', H', J', z⟩ := q
      exact wpAny_execs_nil ⟨σ', H', J'.ofTry ok, z⟩
    | brk =>
      obtain ⟨σ', H', J', z⟩ := q
      exact ⟨σ', H', J'.ofTry ok, z⟩
    | cont =>
      obtain ⟨σ', H', J', z⟩ := q
      exact ⟨σ', H', J'.ofTry ok, z⟩
    | ret u =>
      obtain ⟨v, σ', H', J', r, z⟩ := q
      exact ⟨v, σ', H', J'.ofTry ok, r, z⟩
/-- raise X('..') from None in an except suite -/
theorem ps_raiseFN {X : Cx} {W : WX} {x m : Str} {C : Addr} {j j2 : Nat} {p p2 pos cpos pos2 : Pos} (hot : L2H.HotC X) (tk : L2.Takes X W) (T : XcC X.K X.mg x C) (hx : X.ex = []) (hg : Gl X x) (hdb : (x == ("__debug__" : Str)) = false) :
    PS X (.Raise (some (.Call (.Name x p) [.Constant (.str m) j p2] [] pos)) (some (.Constant .none j2 cpos)) pos2) (fun _ σ H => Ex X.H_0 H ∧ W (.ref C) none σ H) := by
  refine ⟨fun pins s σ H D I h => (L2H.ps_raiseHN hot tk (pmk_ret5 hx (pe_exc1 PySem.F.excBase_ValueError T.x T.g T.kp hg pe_str (by rfl) hdb))).run pins s σ H D I ?_⟩
  exact fun a ha => ⟨a, _, rfl, upd_same, fr0_none (fresh_back h.1 ha), L2.raises_own T.b T.t, by rw [delH_new ha]; exact h.2⟩
theorem _root_.L2.FnOk.both {P : Program} {w : World} {K : PySem.W.Frag} {mg : Str → Option Value} {base : Heap} {CX : CXT} {k : Nat} {f : Addr} {fd : FuncData} {ps : List Str} {sp0 sp1 : Sp} (F0 : FnOk P w K mg base CX0 k f fd ps sp0) (F1 : FnOk P w K mg base CX k f fd ps sp1) : FnOk P w K mg base CX k f fd ps (fun vs H Q E => sp0 vs H Q E ∨ sp1 vs H Q E) :=
  ⟨fun vs H Q E h => h.elim (F0.len vs H Q E) (F1.len vs H Q E), fun A outer s H args us vs Q E hr e0 hb r h => h.elim (fun h => codeAny_mono (F0.run A outer s H args us vs Q E hr e0 hb r h) fun res s' z => by
    cases res with
    | error e => exact False.elim z
    | ok f => cases f <;> exact z) (fun h => F1.run A outer s H args us vs Q E hr e0 hb r h)⟩
theorem s_callEA {sp : Sp} {dvs vs : List V} {E : XK} {ta : TA} {g : TG} {σ : L2.St} {H : Hp} {D : Ends} (h : EvA ta σ H vs) (k : ∀ H1 Q, Ex H H1 → sp (vs ++ dvs) H1 Q E) : tAsg (tCall sp dvs E ta) g D σ H := h H (Ex.refl H) _ fun H1 e1 => k H1 _ e1
theorem s_ifX {sp : Sp} {dvs vs : List V} {E : XK} {ta : TA} {tb : TE} {r : R2} {tu tw : TS} {σ : L2.St} {H : Hp} {D : Ends} (h : EvA ta σ H vs) (k : ∀ H1 Q, Ex H H1 → sp (vs ++ dvs) H1 Q E) : tIfS (tTest (tOp r (tCall sp dvs E ta) tb)) tu tw D σ H := h H (Ex.refl H) _ fun H1 e1 => k H1 _ e1
theorem t_testX {sp : Sp} {dvs vs : List V} {E : XK} {ta : TA} {tb : TE} {r : R2} {σ : L2.St} {H : Hp} {Q : Bool → Hp → Prop} (h : EvA ta σ H vs) (k : ∀ H1 Q, Ex H H1 → sp (vs ++ dvs) H1 Q E) : tTest (tOp r (tCall sp dvs E ta) tb) σ H Q := h H (Ex.refl H) _ fun H1 e1 => k H1 _ e1
theorem q_whileX {t : TT} {tu tz : TS} {σ : L2.St} {H : Hp} {D : Ends} (W : Nat → L2.St → Hp → Prop) (m0 : Nat) (h0 : W m0 σ H)
    (hs : ∀ m σ' H', W m σ' H' → t σ' H' fun b H1 => if b = true then ∃ N : L2.St → Hp → Prop, (∀ σ2 H2, N σ2 H2 → ∃ m', m' < m ∧ W m' σ2 H2) ∧ tu { D with nx := N, ct := N, bk := tz D } σ' H1 else tz D σ' H1) : tSeq (tWhile t tu) tz D σ H := ⟨W, ⟨m0, h0⟩, hs⟩
theorem pre_le {xs ys t u : List Nat} (h : xs ++ ys = t ++ u) (hl : t.length ≤ xs.length) : ∃ rest, xs = t ++ rest := by
  have e := congrArg (List.take t.length) h
  rw [List.take_append_of_le_length hl, List.take_left] at e
  have z := (List.take_append_drop t.length xs).symm
  rw [e] at z
  exact ⟨_, z⟩
theorem pre_one {xs t r : List Nat} {y c : Nat} (h : xs ++ [y] = t ++ (c :: r)) : ∃ rest, xs = t ++ rest := by
  refine pre_le h ?_
  have := congrArg List.length h
  simp only [List.length_append, List.length_cons, List.length_nil] at this
  omega


/-! ### super().__init__(..) in an error class over ValueError -/
section
open PySem PySem.W PySem.Spec PyProof.Rows L2
variable {prog : Program} {w : World} {A : Around} {E : Value → Shared → Prop} {h : Heap} {g : Array GenState} {d : Drawn} {t : Nat} {os : OsState}
/-- the bound __init__ is called: the exception's args are laid anew -/
theorem sup_bw {nm q : Str} {C N : Addr} {bs bm : List Value} {hdct : Bool} {sn : List Str} {sub : List Value} {ab : Bool} {col : Option Bool} {dd : Option Addr} {k0 k1 k2 k3 k5 : Option Value} {u e t0 : Addr} {rest : List Value} {Q : Value → Shared → Prop}
    (hC : h.get? C = some (excClassObj nm q C N bs bm hdct sn sub ab col dd k0 k1 k2 k3 k5 "ValueError.__new__")) (he : h.get? e = some (HandSPX.excO C t0)) (hu : h.get? u = some (kxs_mw "ValueError.__init__" e)) (hrest : rest.length ≤ sizeLine)
    (hq : ∀ h' t1, (∀ b o, b ≠ e → h.get? b = some o → h'.get? b = some o) → h'.get? e = some (HandSPX.excO C t1) → Q .none ⟨h', g, d, t, os⟩) :
    wpAny (model prog w) A (call (.ref u) rest) Q E ⟨h, g, d, t, os⟩ := by
  refine wpAny_call (codeAny_of_tree (show wpAny _ A.in1 (callAny (.ref u) ⟨rest, []⟩) _ _ _ from ?_))
  simp only [callAny]
  refine wpAny_bind (m := load u) (wpAny_load hu ?_)
  simp only [show (Value.type "method-wrapper" == Value.type "method" || Value.type "method-wrapper" == Value.type "builtin_function_or_method" || Value.type "method-wrapper" == Value.type "method-wrapper") = true from by decide, if_true]
  refine KFB.if_so (by decide) (wpAny_bind (check_bound_init F.excBase_ValueError.toExcCallFacts hC he rfl (wpAny_bind (wpAny_pure (wpAny_pure ?_)))))
  refine ⟨plainId_quiet F.excBase_ValueError.init.plain _, codeAny_builtin F.excBase_ValueError.initEntry (exc_init_tree (cls := .ref C) (t0 := t0) (dv := none) (c2 := .none) (c3 := .none) (b4 := .bool false) he hrest fun h' k e' _ => ?_)⟩
  exact hq h' h.objs.size k e'
end
section
open PySem PySem.W PySem.Spec PyProof.Rows L2
/-- a body, from some statement on, in the activation that is known -/
def PSA (X : Cx) (body sts : List Stmt) (t : TS) : Prop := ∀ (pins : List (Addr × Obj)) (s : Shared) (σ : L2.St) (H : Hp) (D : Ends), Inv X pins σ H s → t D σ H → _root_.PySem.wpAt (model X.prog X.w) X.A (.func body X.env) (execs sts X.env) (SP X pins D) X.xe s
/-- what the written part says of such an __init__ -/
structure SupK (K : PySem.W.Frag) (prog : Program) (C f cc cda : Addr) : Prop where
  fn : ∃ oc od fd osl ar, K.lookup f = some ⟨oc, od, .func fd, osl⟩ ∧ (fd.params.posonlyargs ++ fd.params.args).head? = some ar ∧ ar.arg = Str.ofString "self"
  code : ∃ ccl cdd vs ccs file tf, K.lookup cda = some ⟨ccl, cdd, .fields vs, ccs⟩ ∧ vs[2]? = some (.str file tf) ∧ (prog.main.file == file) = true
  cell : ∃ cl cld csl, K.lookup cc = some ⟨cl, cld, .cell (some (.ref C)), csl⟩
  init : ks_superIn K C C "__init__" = some (some (.builtin "ValueError.__init__"))
  tp : nsIn K cStatics "thirdparty.any" = some none
  mro : mroIn K C (.ref C) = some true
  ve : subIn K (.ref C) (.type "ValueError") = some true
/-- super().__init__(e, ..) -/
def tSup (C : Addr) (ta : TA) : TS := fun D σ H => ∃ a : Addr, σ[0]? = some (some (.ref a)) ∧ H a = some (exo a C none) ∧ ta σ H fun vs H1 => vs.length ≤ 1000 ∧ H1 a = some (exo a C none) ∧ D.nx σ H1
theorem pssa_sup {X : Cx} {C f cc cda : Addr} {body rest : List Stmt} {e : Expr} {es : List Expr} {p0 p1 p2 p3 p4 : Pos} {ta : TA} {u : TS} (T : SupK X.K X.prog C f cc cda) (O : OexC X.K C) (hf : X.env.func = some f) (hco : X.env.code = .ref cda) (hcells : X.env.cells.lookup (Str.ofString "__class__") = some cc)
    (hks : X.env.kindOf "super" = some .globalImplicit) (hkc : X.env.kindOf "__class__" = some .free) (hm : X.mg "super" = none) (hself : X.N[0]? = some (Str.ofString "self")) (hkself : X.env.kindOf "self" = some .local) (htop : (X.prog.main.scope.names.lookup (Str.ofString "super")).isSome = false)
    (ha : PA X (e :: es) ta) (hu : PSs X rest u) (he : starEach (e :: es) X.env = (false, eval e X.env) :: starEach es X.env := by rfl) (hpl : (backTo p3 (starEach es X.env)).any (·.1) = false := by rfl)
    (hi : interactive X.env = false := by rfl) (hsw : swapsWith (.Call (.Attribute (.Call (.Name "super" p0) [] [] p1) "__init__" p2) (e :: es) [] p3) none p4.line X.env = pure false := by rfl)
    (hev : eval (.Call (.Attribute (.Call (.Name "super" p0) [] [] p1) "__init__" p2) (e :: es) [] p3) X.env = (do
      let ov ← attributeBase (.Call (.Name "super" p0) [] [] p1) "__init__" X.env (eval (.Call (.Name "super" p0) [] [] p1) X.env)
      standAt p2.atName
      let (f, first) ← holding [ov] (getMethod ov "__init__" (pure false))
      callWith p3 f first (backTo p3 (starEach (e :: es) X.env)) []) := by rfl) :
    PSA X body (.Expr (.Call (.Attribute (.Call (.Name "super" p0) [] [] p1) "__init__" p2) (e :: es) [] p3) p4 :: rest) (tSeq (tSup C ta) u) := by
  intro pins s σ H D I h
  obtain ⟨a, h0, hea, h⟩ := h
  obtain ⟨oc, od, fd, osl, ar, lkf, hhead, harg⟩ := T.fn
  obtain ⟨ccl, cdd, vs, ccs, file, tf, lkc, hvs, hfile⟩ := T.code
  obtain ⟨cl, cld, csl, lkl⟩ := T.cell
  obtain ⟨nm, q, N, bs, bm, sn, sub, ab, col, dd, k0, k1, k2, k3, k5, hC, hbm⟩ := O.cls
  have KX := I.kIn
  refine ks_wpAt_execs_cons (ks_wpAt_Expr_any (ks_wpAt_MethodCall (pl := pure false) ?_ hev) hi hsw)
  refine ks_wpAt_super_base hks hkc rfl hf (KX _ _ lkf) rfl hhead hco (KX _ _ lkc) rfl hvs hfile htop ?_
  obtain ⟨mb, b1, b2⟩ := I.mod.blt
  refine ks_loadName_global I.ok.kind hks (Calls.loadGlobal_builtin (by rw [I.ok.glob]; exact I.mod.glob.keeps I.bk) hm (by rw [I.ok.blt]; exact b1.keeps I.bk) ((b2 _ (by decide)).trans (by decide +kernel : bootBuiltins "super" = some (.type "super"))) ⟨rfl, ?_⟩)
  refine wpAny_loadName_free I.ok.kind hkc hcells ⟨_, KX _ _ lkl, rfl⟩ ?_
  obtain ⟨m, hn, hl⟩ := I.loc
  obtain ⟨w0, rw0, l⟩ := hl 0 _ (.ref a) hself h0 (.inl hkself)
  obtain rfl : w0 = Value.ref a := rw0
  have hma : m (Str.ofString "self") = some (Value.ref a) := by
    rcases l with ⟨_, z⟩ | ⟨z, _⟩
    · exact z
    · rcases z with z | z
      · have y := hkself.symm.trans z
        cases y
      · have y := hkself.symm.trans z
        cases y
  rw [harg]
  refine wpAny_loadName_local I.ok.kind hkself hn hma ?_
  refine ks_wpAny_isType_cls (KX _ _ hC) rfl ⟨rfl, ?_⟩
  obtain ⟨t1, ho⟩ := exo_at I.hok hea
  obtain ⟨hp, gs, dr, tk, os⟩ := s
  refine ks_wpAny_call_super (KX _ _ hC) rfl ho rfl (fun c e => by cases e) (looks_mroIn KX T.mro) fun h' hso k => ?_
  have I1 : Inv X pins σ H ⟨h', gs, dr, tk, os⟩ := I.kept (t' := tk) k
  have hcl : clsIn X.K C = some { name := nm, bases := bs, mro := .ref C :: bm, ns := N, qualname := q, hasDict := true, slotNames := sn, subclasses := sub, abstract := ab, collection := col, hasDel := false } := by unfold clsIn; rw [hC] <;> rfl
  have hin := T.init
  unfold ks_superIn at hin
  rw [hcl] at hin
  have ne : a ≠ C := fun z => by
    have y := ho
    rw [z, KX _ _ hC] at y
    have y2 := congrArg Obj.data (Option.some.inj y)
    cases y2
  have hI : Looks (model X.prog X.w) h' (isInstance (.ref a) (.type "ValueError")) true := (InstAt.type (od := none) ⟨k _ _ ho, rfl, rfl, trivial⟩).andThen (looks_subIn I1.kIn T.ve)
  refine kxs_getMethod kxs_ValueError hso (looks_opaque I1.kIn T.tp) (l₀ := .ref C :: bm) (fun A Q E s k q => wpAny_bind ((looks_clsIn I1.kIn hcl) A _ E s k (wpAny_pure q))) rfl I1.kIn hin hI ne rfl ?_
  have hsz : h'.objs.size ≤ h'.objs.size := Nat.le_refl _
  have I2 : Inv X pins σ H ⟨h'.push (kxs_mw "ValueError.__init__" a), gs, dr, tk + 1, os⟩ := I1.kept (t' := tk + 1) fun b o e => Heap.get?_push_of_some _ e
  have hmw : (h'.push (kxs_mw "ValueError.__init__" a)).get? h'.objs.size = some (kxs_mw "ValueError.__init__" a) := Heap.get?_push_size _ rfl
  have I3 : Inv X (pins ++ pinsAt [h'.objs.size] (h'.push (kxs_mw "ValueError.__init__" a))) σ H ⟨h'.push (kxs_mw "ValueError.__init__" a), gs, dr, tk + 1, os⟩ := I2.pinned (fun b hb => by
    rw [List.mem_singleton.mp hb]
    exact I1.fpOk (Nat.le_refl _) (I1.hok.fresh (Nat.le_refl _))) fun b hb => by
    rw [List.mem_singleton.mp hb]
    exact ⟨_, hmw, fun v z => by cases z⟩
  have hmem := mem_pinsAt (fp := [h'.objs.size]) (List.mem_singleton.mpr rfl) hmw
  refine kxs_callWith (i := "ValueError.__init__") (x := a) (by rw [he]; show (false || (backTo p3 (starEach es X.env)).any (·.1)) = false; rw [hpl] <;> rfl) ?_
  have hargs := ha.run p3 _ _ σ H _ I3 h
  rw [he] at hargs ⊢
  refine Calls.evalArgs_plain (thn hargs fun us s1 hh => ?_)
  obtain ⟨vs2, H1, I4, r1, hz, hea1, q1⟩ := hh
  have hu1 := (I4.pin _ (List.mem_append_right _ (List.mem_append_right _ hmem))).1
  refine ⟨hu1, ?_⟩
  have I5 : Inv X pins σ H1 s1 := I4.unpinned
  obtain ⟨t2, ho2⟩ := exo_at I5.hok hea1
  have hus : us.length ≤ sizeLine := by
    rw [← Paired.length r1, sizeLine_eq]
    omega
  obtain ⟨hp1, g1, d1, tk1, os1⟩ := s1
  refine sup_bw (I5.kIn _ _ hC) ho2 hu1 hus fun h2 t3 kk hx => ?_
  have J := I5.write (t' := tk1) (x := a) (e := a) (o := exo a C none) (by rw [hea1]; exact True.intro) (.inl rfl) kk ⟨_, hx⟩ (exo_ok hx)
  have eu : upd H1 a (exo a C none) = H1 := by
    funext b
    by_cases hb : b = a
    · rw [hb, upd_same, hea1]
    · rw [upd_ne hb]
  rw [eu] at J
  exact wpAt_of_wpAny (hu.run pins _ σ H1 D J q1)
theorem one_look {x y : Str} {c d : Addr} : ([(x, c)] : List (Str × Addr)).lookup y = some d ↔ y = x ∧ d = c := by
  by_cases h : y = x
  · subst h
    simp [List.lookup, eq_comm]
  · have e : (y == x) = false := by simpa using h
    simp [List.lookup, e, h]
/-- the def whose body begins so -/
theorem fn_sup {CX : CXT} {P : Program} {w : World} {K : PySem.W.Frag} {mg : Str → Option Value} {base : Heap} {k : Nat} {f cc cda : Addr} {name qual : Str} {params : Arguments} {body : List Stmt} {scope : Scope} {dV kV doc pm ct oc : Value} {an od : Option Addr} {osl : Array (Option Value)} {N ps : List Str} {sp : Sp}
    (lk : K.lookup f = some ⟨oc, od, .func (fnX name qual params body scope [(Str.ofString "__class__", cc)] dV kV doc pm an (.ref cda) ct), osl⟩) (hcd : codeIn K (.ref cda) qual = true) (S : NdefX.NScope N ps [Str.ofString "__class__"] scope)
    (hcell : ∃ cl cld v csl, K.lookup cc = some ⟨cl, cld, .cell (some v), csl⟩)
    (len : ∀ vs H Q E, sp vs H Q E → vs.length = ps.length)
    (hbody : ∀ (A : Around) (outer : List Env) (s : Shared) (H : Hp) (vs : List V) (Q : VK) (E : XK), Room k (A.deeper (NdefX.envF ⟨name, qual, params, body, scope, [(Str.ofString "__class__", cc)], cda⟩ f s.heap.objs.size)) → sp vs H Q E →
      ∃ t, PSA (NdefX.ncx CX P w K mg base N ⟨name, qual, params, body, scope, [(Str.ofString "__class__", cc)], cda⟩ f A outer s H E) body body t ∧ t { nx := fun _ H' => Q .non H', rt := Q } (NdefX.startF N vs [none]) H) :
    FnOk P w K mg base CX (k + 1) f (fnX name qual params body scope [(Str.ofString "__class__", cc)] dV kV doc pm an (.ref cda) ct) ps sp := by
  refine ⟨len, fun A outer s H args us vs Q E hr e0 hb r hsp => ?_⟩
  have hl := len _ _ _ _ hsp
  have KX : K.In s.heap := e0.mod.kin.keeps fun b o e => (e0.bs b o e).1
  have lim : s.heap.NoLimit := e0.mod.nolimit.keeps fun b o e => (e0.bs b o e).1
  obtain ⟨cl, cld, v0, csl, lkl⟩ := hcell
  have hloc : ∀ y ∈ ps.zip us, scope.names.lookup y.1 = some .local := fun ⟨n, v⟩ hy => S.par n (List.of_mem_zip hy).1
  refine ks_codeAny_call_defAt (fd := fnX name qual params body scope [(Str.ofString "__class__", cc)] dV kV doc pm an (.ref cda) ct) hr.depth (KX _ _ lk) rfl lim (codeRec_of KX hcd) rfl hb S.nocell hloc (fun h₀ hns kp => ?_) S.co S.gen S.kind
  obtain ⟨t, ht, hq⟩ := hbody A outer s H vs Q E (hr.deeper _) hsp
  have C : NdefX.CellsAt [(Str.ofString "__class__", cc)] [Str.ofString "__class__"] [none] s.heap H := {
    len := rfl
    all := fun y c e => by
      rw [(one_look.mp e).2]
      exact ⟨(e0.bs _ _ (e0.mod.kin _ _ lkl)).2, _, _, KX _ _ lkl, rfl⟩
    inj := fun x y c e1 e2 => (one_look.mp e1).1.trans (one_look.mp e2).1.symm
    has := fun i y hy => by
      have hi : i < 1 := (List.getElem?_eq_some_iff.mp hy).1
      obtain rfl : i = 0 := by omega
      have hy2 : Str.ofString "__class__" = y := Option.some.inj hy
      subst hy2
      exact ⟨cc, one_look.mpr ⟨rfl, rfl⟩, fun v hv => by
        have := Option.some.inj hv
        cases this⟩ }
  have I : Inv (NdefX.ncx CX P w K mg base N ⟨name, qual, params, body, scope, [(Str.ofString "__class__", cc)], cda⟩ f A outer s H E) [] (NdefX.startF N vs [none]) H { s with heap := h₀, toks := s.toks + (ps.zip us).length } := NdefX.inv_startN S hr.hd e0 hl r C hns kp
  refine ks_wpAt_mono (ht [] _ (NdefX.startF N vs [none]) H _ I hq) (fun fl s' hs => ?_) fun e s' hs => hs
  have fin : ∀ {σ' : L2.St} {H' : Hp} {v : V} {u : Value}, Inv (NdefX.ncx CX P w K mg base N ⟨name, qual, params, body, scope, [(Str.ofString "__class__", cc)], cda⟩ f A outer s H E) [] σ' H' s' → L2.RelV v u → Q v H' → CE outer P w H s Q u s' :=
    fun {σ' H' v u} J rv q => ⟨v, H', J.os, J.bare, J.base, J.hok, rv, q⟩
  cases fl with
  | ret u =>
    obtain ⟨v, σ', H', J, rv, q⟩ := hs
    exact fin J rv q
  | next =>
    obtain ⟨σ', H', J, q⟩ := hs
    exact fin (v := V.non) (u := Value.none) J rfl q
  | brk =>
    obtain ⟨_, _, _, q⟩ := hs
    exact False.elim q
  | cont =>
    obtain ⟨_, _, _, q⟩ := hs
    exact False.elim q
end


/-! ### an own error class with an own __init__ that begins with super().__init__(..) -/
section
open PySem PySem.W PySem.Spec PyProof.Rows L2
structure XiC (K : PySem.W.Frag) (mg : Str → Option Value) (x : Str) (C : Addr) : Prop where
  g : mg x = some (.ref C)
  o : OexC K C
  s : PySem.W.subIn K (.ref C) (.ref C) = some true
  is : ExcC K C
theorem XiC.self {K : PySem.W.Frag} {mg : Str → Option Value} {x : Str} {C : Addr} (T : XiC K mg x C) : PySem.W.exmOne K (.ref C) (.ref C) = some true := PySem.W.exm_ref T.is.hs T.is.hd T.o.tyC T.s
theorem XiC.xf {K : PySem.W.Frag} {mg : Str → Option Value} {x : Str} {C : Addr} (T : XiC K mg x C) : XfC K C := ⟨T.is.hg, T.is.hk, T.is.hs, T.is.hd⟩
def oexB (K : PySem.W.Frag) (C : Addr) : Bool := match K.lookup C with
  | some ⟨.type "type", _, .cls cd, sl⟩ => (match cd.mro, sl.toList with
    | .ref C' :: bm, [_, _, _, _, some (.builtin n), _] => C' == C && n == "ValueError.__new__" && !cd.hasDel && cd.hasDict && PySem.HandSPX.refsVE bm
    | _, _ => false)
  | _ => false
theorem oexB_ok {K : PySem.W.Frag} {C : Addr} (q : oexB K C = true) : ∃ nm q N bs bm sn sub ab col dd k0 k1 k2 k3 k5, K.lookup C = some (excClassObj nm q C N bs bm true sn sub ab col dd k0 k1 k2 k3 k5 "ValueError.__new__") ∧ PySem.HandSPX.refsVE bm = true := by
  unfold oexB at q
  split at q
  · rename_i dd cd sl ho
    split at q
    · rename_i C' bm k0 k1 k2 k3 n k5 hm hs
      simp only [Bool.and_eq_true, beq_iff_eq, Bool.not_eq_true'] at q
      obtain ⟨⟨⟨⟨rfl, rfl⟩, hdel⟩, hdct⟩, ht⟩ := q
      obtain ⟨nm, bs, mro, ns, qn, hd, sn, sub, ab, col, del⟩ := cd
      dsimp only at hm hdel hdct
      subst hm hdel hdct
      have hsl : sl = #[k0, k1, k2, k3, some (.builtin "ValueError.__new__"), k5] := by
        obtain ⟨l⟩ := sl
        simp only at hs
        rw [hs]
      subst hsl
      exact ⟨nm, qn, ns, bs, bm, sn, sub, ab, col, dd, k0, k1, k2, k3, k5, ho, ht⟩
    · cases q
  · cases q
def supB (K : PySem.W.Frag) (prog : Program) (C cc cda : Addr) : Bool :=
  (match K.lookup cda with
  | some ⟨_, _, .fields vs, _⟩ => (match (vs[2]? : Option Value) with | some (.str file _) => prog.main.file == file | _ => false)
  | _ => false) && (match K.lookup cc with
  | some ⟨_, _, .cell (some (.ref C')), _⟩ => C' == C
  | _ => false) && !(prog.main.scope.names.lookup (Str.ofString "super")).isSome
theorem supB_ok {K : PySem.W.Frag} {prog : Program} {C cc cda : Addr} (h : supB K prog C cc cda = true) : (∃ ccl cdd vs ccs file tf, K.lookup cda = some ⟨ccl, cdd, .fields vs, ccs⟩ ∧ vs[2]? = some (.str file tf) ∧ (prog.main.file == file) = true) ∧
    (∃ cl cld csl, K.lookup cc = some ⟨cl, cld, .cell (some (.ref C)), csl⟩) ∧ (prog.main.scope.names.lookup (Str.ofString "super")).isSome = false := by
  unfold supB at h
  simp only [Bool.and_eq_true, Bool.not_eq_true'] at h
  obtain ⟨⟨h1, h2⟩, h3⟩ := h
  refine ⟨?_, ?_, h3⟩
  · split at h1
    · rename_i a b vs c ho
      split at h1
      · rename_i file tf hf
        exact ⟨_, _, _, _, _, _, ho, hf, h1⟩
      · cases h1
    · cases h1
  · split at h2
    · rename_i a b C' c ho
      rw [beq_iff_eq] at h2
      subst h2
      exact ⟨_, _, _, ho⟩
    · cases h2
/-- the def __init__ of such a class -/
structure FunX (K : PySem.W.Frag) (prog : Program) (qual : Str) (st : Stmt) (C f : Addr) (fd : FuncData) : Prop where
  ex : ∃ (oc : Value) (od : Option Addr) (kV doc pm : Value) (an : Option Addr) (cc cda : Addr) (ct : Value) (osl : Array (Option Value)),
    fd = PySem.W.fnX "__init__" qual (defArgs st) (defBody st) (defScope st) [(Str.ofString "__class__", cc)] .none kV doc pm an (.ref cda) ct ∧ K.lookup f = some ⟨oc, od, .func fd, osl⟩ ∧ PySem.W.codeIn K (.ref cda) qual = true ∧ SupK K prog C f cc cda
  iC : PySem.W.findIn K (.ref C) "__init__" = some (some (.ref f))
  tI : PySem.W.typeIn K (.ref f) = some (.type "function")
  top : (prog.main.scope.names.lookup (Str.ofString "super")).isSome = false
theorem funX_mk {K : PySem.W.Frag} {prog : Program} {qual : Str} {st : Stmt} {C f cc cda : Addr} {oc : Value} {od an : Option Addr} {osl : Array (Option Value)} {kV doc pm ct : Value} {ar : Arg}
    (l : K.lookup f = some ⟨oc, od, .func (PySem.W.fnX "__init__" qual (defArgs st) (defBody st) (defScope st) [(Str.ofString "__class__", cc)] .none kV doc pm an (.ref cda) ct), osl⟩)
    (c : PySem.W.codeIn K (.ref cda) qual = true) (i : PySem.W.findIn K (.ref C) "__init__" = some (some (.ref f))) (t : PySem.W.typeIn K (.ref f) = some (.type "function")) (b : supB K prog C cc cda = true)
    (hi : PySem.W.ks_superIn K C C "__init__" = some (some (.builtin "ValueError.__init__"))) (tp : PySem.W.nsIn K cStatics "thirdparty.any" = some none) (hm : PySem.W.mroIn K C (.ref C) = some true) (ve : PySem.W.subIn K (.ref C) (.type "ValueError") = some true)
    (h1 : ((defArgs st).posonlyargs ++ (defArgs st).args).head? = some ar) (h2 : ar.arg = Str.ofString "self") : FunX K prog qual st C f (PySem.W.fnX "__init__" qual (defArgs st) (defBody st) (defScope st) [(Str.ofString "__class__", cc)] .none kV doc pm an (.ref cda) ct) := by
  obtain ⟨b1, b2, b3⟩ := supB_ok b
  exact ⟨⟨oc, od, kV, doc, pm, an, cc, cda, ct, osl, rfl, l, c, ⟨⟨oc, od, _, osl, ar, l, h1, h2⟩, b1, b2, hi, tp, hm, ve⟩⟩, i, t, b3⟩
/-- what such an __init__ leaves: one field, its argument -/
def spExI (C : Addr) (f : Str) : Sp := fun vs H Q _ => ∃ (a : Addr) (n : Int), vs = [.ref a, .int n] ∧ H a = some (exo a C none) ∧ n.natAbs.log2 < 1920 ∧ ∀ H1, Evl.Ex H H1 → ∀ dx, H1 dx = none → dx ≠ a → Q .non (upd (upd H1 dx (exd dx [(f, .int n)])) a (exo a C (some dx)))
/-- isinstance(e, c), e held by the suite, with or without fields -/
theorem call_isEi {X : Cx} {a D : Addr} {oe : Obj} {d : Option Addr} {pn : List (Addr × Obj)} (C : ExcC X.K D) (hz : Zc (.ref D) d oe) (hf : ∃ vs, oe.data = .fields vs) :
    CallR (X.suite a ((a, oe) :: pn)) (.builtin "isinstance") (fun xs H Q => (∀ dd, d = some dd → ∃ fs, H dd = some (.xd fs)) ∧ rIsE X.K D a xs H Q) := by
  intro pins s σ H xs us Q I r h
  obtain ⟨hx, c, cv, b, rfl, hcv, e, q⟩ := h
  cases r with
  | cons rx rr =>
    cases rr with
    | cons rt rr =>
      cases rr
      cases rx
      have ec := hcv _ rt
      subst ec
      obtain ⟨hget, _⟩ := I.pin (a, oe) (List.mem_append.mpr (.inl List.mem_cons_self))
      obtain ⟨vs, hv⟩ := hf
      have J : ∃ od, PySem.W.InstAt s.heap a oe D od := by
        obtain ⟨oc, od, oda, osl⟩ := oe
        obtain ⟨h1, h2⟩ := hz
        dsimp only at h1 h2 hv
        subst h1 h2 hv
        cases od with
        | none => exact ⟨none, hget, rfl, rfl, trivial⟩
        | some dd =>
          obtain ⟨fs, ea⟩ := hx dd rfl
          have hx : ObjOk X.prog X.w H s.heap dd (.xd fs) := I.hok dd _ ea
          obtain ⟨mA, hns, hr⟩ := hx
          obtain ⟨od, ho, hl⟩ := lookIn_ns hns
          exact ⟨some od, hget, rfl, rfl, ho⟩
      obtain ⟨od, J⟩ := J
      have hcl : (PySem.W.clsIn X.K D).isSome = true := by
        obtain ⟨cd, hc, _⟩ := PySem.W.any_some C.hd
        rw [hc] <;> rfl
      exact PySem.W.kia_one (PySem.W.kitx_exc hcl C.hg C.hk C.hs C.ha C.hn C.ht C.hm) I.kIn J e (fun z => nomatch z) fun tk => ⟨.bl b, H, I.kept (t' := tk) fun _ _ z => z, rfl, q⟩
theorem ev_isEi {K : PySem.W.Frag} {D a : Addr} {σ : L2.St} {H : Hp} {te : TE} {d : Option Addr} {c : V} {cv : Value} {b : Bool} (h : Evl.Ev te σ H (.ref a)) (hx : ∀ dd, d = some dd → ∃ fs, H dd = some (.xd fs)) (hc : ∀ u, RelV c u → u = cv) (hk : PySem.W.kitOne K (.ref D) cv = some b) :
    Evl.Ev (tCB (fun xs H Q => (∀ dd, d = some dd → ∃ fs, H dd = some (.xd fs)) ∧ rIsE K D a xs H Q) (tCons te (tCons (tC c) tNil))) σ H (.bl b) := fun H1 e Q q =>
  h H1 e _ fun H2 e2 => ⟨fun dd z => by
    obtain ⟨fs, ea⟩ := hx dd z
    exact ⟨fs, (e.trans e2) _ _ ea⟩, c, cv, b, rfl, hc, hk, q H2 e2⟩
/-- e.f of the caught exception -/
theorem ev_xf {a C dd : Addr} {cls : Value} {d : Option Addr} {f : Str} {te : TE} {σ : L2.St} {H : Hp} {fs : List (Str × V)} {v : V} (h : Evl.Ev te σ H (.ref a)) (hc : cls = .ref C) (hd : d = some dd) (hx : H dd = some (.xd fs)) (hf : fs.lookup f = some v) : Evl.Ev (tXf a cls d C f te) σ H v := fun H1 e Q q =>
  h H1 e _ fun H2 e2 => ⟨rfl, hc, dd, fs, v, hd, (e.trans e2) _ _ hx, hf, q H2 e2⟩
end
section
open PySem PySem.W PySem.Spec PyProof.Rows L2
/-- C(e, ..), C's own __init__ keeping sp: what is made has no context yet -/
theorem pmkN_oex {X : Cx} {CX : CXT} {x : Str} {e : Expr} {es : List Expr} {ta : TA} {p pos : Pos} {C fI : Addr} {k : Nat} {fd : FuncData} {ps : List Str} {sp : Sp} (T : OexC X.K C) (iC : PySem.W.findIn X.K (.ref C) "__init__" = some (some (.ref fI))) (tI : PySem.W.typeIn X.K (.ref fI) = some (.type "function"))
    (F1 : FnOk X.prog X.w X.K X.mg X.base CX k fI fd ps sp) (hr : Room (k + 1) X.A) (hb : Binds X.K fd ps []) (hx : Passes CX X (fun _ _ _ => False)) (hg : Gl X x) (hm : X.mg x = some (.ref C)) (ha : PA X (e :: es) ta)
    (hdb : (x == ("__debug__" : Str)) = false := by decide) (he : starEach (e :: es) X.env = (false, eval e X.env) :: starEach es X.env := by rfl) (hpl : (backTo pos (starEach es X.env)).any (·.1) = false := by rfl) :
    L2N.PMk X (.Call (.Name x p) (e :: es) [] pos) (tMkO C sp [] ta) := by
  intro pins s σ H Q I h
  obtain ⟨nm, q, N, bs, bm, sn, sub, ab, col, dd, k0, k1, k2, k3, k5, hC, hbm⟩ := T.cls
  refine wpAny_Call_Name_kw (ld_glob I hg hm ?_ hdb)
  refine PySem.W.callWith_K (h₀ := X.base) I.ok.mod.kin T.kC (thn (ha.run pos pins s σ H _ I h) fun us s1 ⟨vs, H1, I1, r1, hz, q1⟩ => ⟨I1.kIn, ?_⟩) he hpl
  show wpAny _ _ (call (.ref C) us) _ _ _
  obtain ⟨hp, g, dr, tk, os⟩ := s1
  have hsz : hp.objs.size ≤ hp.objs.size + 1 := Nat.le_succ _
  have hn : H1 (hp.objs.size + 1) = none := I1.hok.fresh hsz
  have hq := q1 (hp.objs.size + 1) hn
  have kk : ∀ b o, hp.get? b = some o → ((hp.push (PySem.W.kdv_tup us)).push (PySem.HandSPX.excO C hp.objs.size)).get? b = some o := fun b o e => Heap.get?_push_of_some _ (Heap.get?_push_of_some _ e)
  have hget : ((hp.push (PySem.W.kdv_tup us)).push (PySem.HandSPX.excO C hp.objs.size)).get? (hp.objs.size + 1) = some (PySem.HandSPX.excO C hp.objs.size) := by heap_get
  have I2 : Inv X pins σ (upd H1 (hp.objs.size + 1) (exo (hp.objs.size + 1) C none)) ⟨(hp.push (PySem.W.kdv_tup us)).push (PySem.HandSPX.excO C hp.objs.size), g, dr, tk, os⟩ :=
    I1.laid (t' := tk) (a := hp.objs.size + 1) (o := exo (hp.objs.size + 1) C none) (h' := (hp.push (PySem.W.kdv_tup us)).push (PySem.HandSPX.excO C hp.objs.size)) kk hsz (exo_ok hget)
  have r2 : Vals (V.ref (hp.objs.size + 1) :: (vs ++ [])) (Value.ref (hp.objs.size + 1) :: (us ++ [])) := .cons rfl (r1.append .nil)
  have b2 := hb _ (Value.ref (hp.objs.size + 1) :: us) I2.kIn (by have e := r2.length; rw [F1.len _ _ _ _ hq] at e; exact e.symm)
  rw [List.append_nil] at b2 r2 hq
  rw [List.append_nil] at r2
  have hus : us.length ≤ sizeLine := by
    rw [← Paired.length r1, sizeLine_eq]
    omega
  refine wpAny_call (PySem.HandSPX.call_own F.excBase_ValueError (fun Y => PySem.HandSPX.refsVE_contains Y bm hbm) (I1.kIn _ _ hC) (PySem.W.looks_findIn I1.kIn iC) (fun self => PySem.W.bind_fn I1.kIn self tI) hus
    (codeAny_mono (F1.run _ X.stack _ _ ⟨Value.ref (hp.objs.size + 1) :: us, []⟩ (Value.ref (hp.objs.size + 1) :: us) _ _ (fun _ _ _ => False) (hr.make C us []) (I2.env0.make C us []) b2 r2 hq) fun r s' hq' => ?_))
  cases r with
  | error er => exact hx pins σ _ _ er s' I2 hq'
  | ok fl =>
    cases fl with
    | ret u =>
      obtain ⟨v, H2, os2, bare2, un2, hok2, rv, ev, d, fs, ea, ed, hd1, q2⟩ := hq'
      subst ev
      obtain ⟨h2, g2, d2, t2, os'⟩ := s'
      obtain ⟨t0, G, J, kG, ge, hoe, na⟩ := mk_end0 (d2 := d2) (t2 := t2) I1 hsz kk un2 hok2 os2 bare2 ea ed hd1
      refine ⟨rv, hp.objs.size + 1, _, _, ⟨G, g2, d2, t2, os'⟩, _, .ref C, some d, rfl, J, kG, ge, hoe, ⟨rfl, rfl, fun vs hv => ?_⟩, rfl, rfl, na, rfl, bare2, raises_own T.exC T.tyC, q2⟩
      cases hv
      rfl
    | next => exact False.elim hq'
    | brk => exact False.elim hq'
    | cont => exact False.elim hq'
/-- what a suite holds, for calls within it -/
theorem hotS {X : Cx} {a : Addr} {oe : Obj} {cls : Value} {d : Option Addr} {pn : List (Addr × Obj)} (hz : L2N.Zn cls d oe) (hf : ∃ vs, oe.data = .fields vs) : L2H.HotC (X.suite a ((a, oe) :: pn)) := by
  obtain ⟨vs, hv⟩ := hf
  exact ⟨(a, oe), ⟨rfl, vs, hv, hz.2.2 vs hv⟩, List.mem_cons_self⟩
theorem zc1 {cls : Value} {d : Option Addr} {C : Addr} {oe : Obj} (p : cls = .ref C) (h : L2N.Zn cls d oe) : Zc (.ref C) d oe := by
  subst p
  exact ⟨h.1, h.2.1⟩
theorem takes0N {X : Cx} : L2N.Takes X (fun _ _ _ _ => False) := fun _ _ x => by
  obtain ⟨_, _, _, _, _, _, _, _, _, _, _, _, _, _, _, _, z⟩ := x
  exact z.elim
theorem roomS {k : Nat} {A : Around} (r : Room k A) (h : Option Value) : L2H.RoomH k (A.mark h) := ⟨r.dp, r.un⟩
theorem pass0H {X : Cx} : ∀ σ : L2.St, PassesAt CX0 X σ E0 := fun _ _ _ _ _ _ _ h => h.elim
/-- a def that is called while an exception is handled -/
theorem okH {P : Program} {w : World} {K : PySem.W.Frag} {mg : Str → Option Value} {base : Heap} {x qual : Str} {st : Stmt} {f : Addr} {fd : FuncData} {N ps : List Str} {k : Nat} {sp : Sp} (F : Fun K x qual st f fd) (S : FnScope N ps (defScope st)) (len : ∀ vs H Q E, sp vs H Q E → vs.length = ps.length)
    (hb : ∀ (cdv : Value) (A : Around) (outer : List Env) (s : Shared) (H : Hp) (vs : List V) (Q : VK) (E : XK) (p : Addr × Obj), L2H.RoomH k (A.deeper (envOfC qual (defScope st) s.heap.objs.size f cdv)) → sp vs H Q E →
      ∃ t, PSs (L2H.cxH CX0 P w K mg base N qual (defScope st) f cdv A outer s H E p) (defBody st) t ∧ t { nx := fun _ H' => Q .non H', rt := Q } (start N vs) H) : L2H.FnH P w K mg base CX0 (k + 1) f fd ps sp := by
  obtain ⟨oc, od, kV, doc, pm, an, cdv, ct, osl, rfl, lk, hcd⟩ := F.ex
  exact L2H.fn_ofH lk hcd S len fun A outer s H vs Q E p hot hr h => hb cdv A outer s H vs Q E p hr h
end


structure Txt (K : PySem.W.Frag) (mg : Str → Option Value) where
  C_PowerLost : Addr
  e_PowerLost : XcC K mg "PowerLost" C_PowerLost
  kv_PowerLost : PySem.W.kitOne K (.ref C_PowerLost) (.type "ValueError") = some true
  C_VersionError : Addr
  g_VersionError : mg "VersionError" = some (.ref C_VersionError)
  ku_PowerLost_VersionError : PySem.W.kitOne K (.ref C_PowerLost) (.ref C_VersionError) = some true
  C_StoredFile : Addr
  g_StoredFile : mg "StoredFile" = some (.ref C_StoredFile)
  cl_StoredFile : Cls K C_StoredFile
  na_StoredFile_saved : NoAttr K C_StoredFile "saved"
  na_StoredFile_tail : NoAttr K C_StoredFile "tail"
  C_Disk : Addr
  g_Disk : mg "Disk" = some (.ref C_Disk)
  cl_Disk : Cls K C_Disk
  na_Disk__files : NoAttr K C_Disk "_files"
  na_Disk__powered : NoAttr K C_Disk "_powered"
  na_Disk__left : NoAttr K C_Disk "_left"
  f_law_text : Addr
  d_law_text : FuncData
  F_law_text : Fun K "_law_text" "_law_text" s_law_text f_law_text d_law_text
  b_law_text : Binds K d_law_text ["a", "b"] []
  g_law_text : mg "_law_text" = some (.ref f_law_text)
  f_law_numbers : Addr
  d_law_numbers : FuncData
  F_law_numbers : Fun K "_law_numbers" "_law_numbers" s_law_numbers f_law_numbers d_law_numbers
  b_law_numbers : Binds K d_law_numbers ["cell", "count"] []
  g_law_numbers : mg "_law_numbers" = some (.ref f_law_numbers)
  f_StoredFile___init : Addr
  d_StoredFile___init : FuncData
  F_StoredFile___init : Fun K "__init__" "StoredFile.__init__" s_StoredFile___init f_StoredFile___init d_StoredFile___init
  b_StoredFile___init : Binds K d_StoredFile___init ["self"] []
  mk_StoredFile : Mk K C_StoredFile f_StoredFile___init
  f_Disk___init : Addr
  d_Disk___init : FuncData
  F_Disk___init : Fun K "__init__" "Disk.__init__" s_Disk___init f_Disk___init d_Disk___init
  b_Disk___init : Binds K d_Disk___init ["self"] []
  mk_Disk : Mk K C_Disk f_Disk___init
  f_text_of : Addr
  d_text_of : FuncData
  F_text_of : Fun K "_text_of" "_text_of" s_text_of f_text_of d_text_of
  b_text_of : Binds K d_text_of ["stored"] []
  g_text_of : mg "_text_of" = some (.ref f_text_of)
  f_save : Addr
  d_save : FuncData
  F_save : Fun K "_save" "_save" s_save f_save d_save
  b_save : Binds K d_save ["stored", "text"] []
  g_save : mg "_save" = some (.ref f_save)
  f_Disk__check_power : Addr
  d_Disk__check_power : FuncData
  F_Disk__check_power : Fun K "_check_power" "Disk._check_power" s_Disk__check_power f_Disk__check_power d_Disk__check_power
  b_Disk__check_power : Binds K d_Disk__check_power ["self"] []
  me_Disk__check_power : Meth K C_Disk "_check_power" f_Disk__check_power
  f_Disk__begin_operation : Addr
  d_Disk__begin_operation : FuncData
  F_Disk__begin_operation : Fun K "_begin_operation" "Disk._begin_operation" s_Disk__begin_operation f_Disk__begin_operation d_Disk__begin_operation
  b_Disk__begin_operation : Binds K d_Disk__begin_operation ["self"] []
  me_Disk__begin_operation : Meth K C_Disk "_begin_operation" f_Disk__begin_operation
  f_Disk_write : Addr
  d_Disk_write : FuncData
  F_Disk_write : Fun K "write" "Disk.write" s_Disk_write f_Disk_write d_Disk_write
  b_Disk_write : Binds K d_Disk_write ["self", "name", "text"] []
  me_Disk_write : Meth K C_Disk "write" f_Disk_write
  f_Disk_sync : Addr
  d_Disk_sync : FuncData
  F_Disk_sync : Fun K "sync" "Disk.sync" s_Disk_sync f_Disk_sync d_Disk_sync
  b_Disk_sync : Binds K d_Disk_sync ["self", "name"] []
  me_Disk_sync : Meth K C_Disk "sync" f_Disk_sync
  f_Disk_cut : Addr
  d_Disk_cut : FuncData
  F_Disk_cut : Fun K "cut" "Disk.cut" s_Disk_cut f_Disk_cut d_Disk_cut
  b_Disk_cut : Binds K d_Disk_cut ["self", "name", "length"] []
  me_Disk_cut : Meth K C_Disk "cut" f_Disk_cut
  f_Disk_read : Addr
  d_Disk_read : FuncData
  F_Disk_read : Fun K "read" "Disk.read" s_Disk_read f_Disk_read d_Disk_read
  b_Disk_read : Binds K d_Disk_read ["self", "name"] []
  me_Disk_read : Meth K C_Disk "read" f_Disk_read
  f_Disk_arm : Addr
  d_Disk_arm : FuncData
  F_Disk_arm : Fun K "arm" "Disk.arm" s_Disk_arm f_Disk_arm d_Disk_arm
  b_Disk_arm : Binds K d_Disk_arm ["self", "count"] []
  me_Disk_arm : Meth K C_Disk "arm" f_Disk_arm
  f_Disk_total : Addr
  d_Disk_total : FuncData
  F_Disk_total : Fun K "total" "Disk.total" s_Disk_total f_Disk_total d_Disk_total
  b_Disk_total : Binds K d_Disk_total ["self"] []
  me_Disk_total : Meth K C_Disk "total" f_Disk_total
  f_Disk_restart : Addr
  d_Disk_restart : FuncData
  F_Disk_restart : Fun K "restart" "Disk.restart" s_Disk_restart f_Disk_restart d_Disk_restart
  b_Disk_restart : Binds K d_Disk_restart ["self", "kept"] []
  me_Disk_restart : Meth K C_Disk "restart" f_Disk_restart
  f_law_is_integer : Addr
  d_law_is_integer : FuncData
  F_law_is_integer : Fun K "_law_is_integer" "_law_is_integer" s_law_is_integer f_law_is_integer d_law_is_integer
  b_law_is_integer : Binds K d_law_is_integer ["actual"] []
  g_law_is_integer : mg "_law_is_integer" = some (.ref f_law_is_integer)
  f_law_operates : Addr
  d_law_operates : FuncData
  F_law_operates : Fun K "_law_operates" "_law_operates" s_law_operates f_law_operates d_law_operates
  b_law_operates : Binds K d_law_operates ["m"] []
  g_law_operates : mg "_law_operates" = some (.ref f_law_operates)
  f_law_called : Addr
  d_law_called : FuncData
  F_law_called : Fun K "_law_called" "_law_called" s_law_called f_law_called d_law_called
  b_law_called : Binds K d_law_called ["disk", "deed", "name", "text", "length"] []
  g_law_called : mg "_law_called" = some (.ref f_law_called)
  f_law_changes : Addr
  d_law_changes : FuncData
  F_law_changes : Fun K "_law_changes" "_law_changes" s_law_changes f_law_changes d_law_changes
  b_law_changes : Binds K d_law_changes ["m", "deed", "name", "text", "length"] []
  g_law_changes : mg "_law_changes" = some (.ref f_law_changes)
  f_law_deed : Addr
  d_law_deed : FuncData
  F_law_deed : Fun K "_law_deed" "_law_deed" s_law_deed f_law_deed d_law_deed
  b_law_deed : Binds K d_law_deed ["disk", "m", "numbers"] []
  g_law_deed : mg "_law_deed" = some (.ref f_law_deed)
  f_law : Addr
  d_law : FuncData
  F_law : Fun K "law" "law" s_law f_law d_law
  b_law : Binds K d_law ["script"] []
  g_law : mg "law" = some (.ref f_law)
  m_ValueError : mg "ValueError" = none
  m_bool : mg "bool" = none
  m_enumerate : mg "enumerate" = none
  m_int : mg "int" = none
  m_isinstance : mg "isinstance" = none
  m_len : mg "len" = none
  m_list : mg "list" = none
  m_max : mg "max" = none
  m_min : mg "min" = none
  m_range : mg "range" = none
  m_sorted : mg "sorted" = none
  m_str : mg "str" = none
  m_sum : mg "sum" = none
  m_tuple : mg "tuple" = none

/-! ### sizes of ints -/
/-- an int of at most some million bits -/
structure Wd (n : Int) : Prop where
  h : n.natAbs.log2 < 1100000
theorem log2_mono {a b : Nat} (h : a ≤ b) : a.log2 ≤ b.log2 := by
  by_cases ha : a = 0
  · subst ha
    exact Nat.le_trans (Nat.le_of_eq (by decide)) (Nat.zero_le _)
  · refine Nat.lt_succ_iff.mp ((Nat.log2_lt ha).mpr (Nat.lt_of_le_of_lt h Nat.lt_log2_self))
theorem Wd.le {n m : Int} (h : Wd n) (e : m.natAbs ≤ n.natAbs) : Wd m := ⟨Nat.lt_of_le_of_lt (log2_mono e) h.h⟩
theorem Wd.lt {n : Int} (h : n.natAbs < 2 ^ 9000) : Wd n := ⟨Nat.lt_trans (PySem.Flt.log2_lt_of (by decide) h) (by decide)⟩
theorem Wd.lit {n : Int} (h : n.natAbs < 2 ^ 256) : Wd n := ⟨Nat.lt_trans (PySem.Flt.log2_lt_of (by decide) h) (by decide)⟩
theorem Wd.bits {n : Int} (h : Builtin.Int.intBits n ≤ 1048576) : Wd n := by
  unfold Builtin.Int.intBits at h
  by_cases e : n = 0
  · subst e
    exact Wd.lit (by decide)
  · rw [if_neg (by simpa using e)] at h
    exact ⟨by omega⟩
theorem Wd.small {n : Int} (h1 : -(2 ^ 64) < n) (h2 : n < 2 ^ 64) : Wd n := Wd.lit (by
  have : n.natAbs < 2 ^ 64 := by omega
  exact Nat.lt_of_lt_of_le this (by decide))
theorem Wd.div {n b : Int} (h : Wd n) : Wd (n / b) := h.le (Int.natAbs_ediv_le_natAbs n b)
theorem Wd.mod {n b : Int} (hb : 0 < b) (h : Wd b) : Wd (n % b) := h.le (by
  have h1 := Int.emod_nonneg n (by omega : b ≠ 0)
  have h2 := Int.emod_lt_of_pos n hb
  omega)
theorem Wd.neg {n : Int} (h : Wd n) : Wd (-n) := h.le (by omega)
theorem bits_log (n : Int) : Builtin.Int.intBits n ≤ n.natAbs.log2 + 1 := by
  unfold Builtin.Int.intBits
  split <;> omega
theorem Wd.mul {i j : Int} (hi : Wd i) (hj : Wd j) : CMulX i j := by
  have a := bits_log i
  have b := bits_log j
  have c := hi.h
  have d := hj.h
  unfold CMulX
  omega
/-- what falls to a comparison of two ints -/
theorem dec_int {i j : Int} : decide (V.int i = V.int j) = decide (i = j) := by
  by_cases h : i = j
  · rw [decide_eq_true h, decide_eq_true (congrArg V.int h)]
  · rw [decide_eq_false h, decide_eq_false fun e => h (V.int.inj e)]
theorem dec_str {i j : Str} : decide (V.str i = V.str j) = decide (i = j) := by
  by_cases h : i = j
  · rw [decide_eq_true h, decide_eq_true (congrArg V.str h)]
  · rw [decide_eq_false h, decide_eq_false fun e => h (V.str.inj e)]
theorem dec_bl {i j : Bool} : decide (V.bl i = V.bl j) = decide (i = j) := by
  by_cases h : i = j
  · rw [decide_eq_true h, decide_eq_true (congrArg V.bl h)]
  · rw [decide_eq_false h, decide_eq_false fun e => h (V.bl.inj e)]
/-- len, tuple of a list or tuple -/
abbrev rLenQ (K : PySem.W.Frag) : List V → Hp → VK → Prop := fun xs H Q => ∃ p ys, xs = [V.ref p] ∧ (SqL K H p ys ∨ SqT K H p ys) ∧ Q (.int ys.length) H
abbrev rTupOf (K : PySem.W.Frag) : List V → Hp → VK → Prop := fun xs H Q => ∃ p ys, xs = [V.ref p] ∧ ((SqL K H p ys ∧ ∀ l, H l = none → Q (.ref l) (upd H l (.tup ys))) ∨ (SqT K H p ys ∧ Q (.ref p) H))
/-! ### more of what evaluates -/
section
variable {K : PySem.W.Frag} {σ : L2.St} {H : Hp} {ta tb te : TE}
theorem ev_eqI {i j : Int} (ha : Ev ta σ H (.int i)) (hb : Ev tb σ H (.int j)) : Ev (tOp rEq ta tb) σ H (.bl (decide (i = j))) := ev_is (ev_op ha hb (rv_eq rfl)) (congrArg V.bl dec_int)
theorem ev_neI {i j : Int} (ha : Ev ta σ H (.int i)) (hb : Ev tb σ H (.int j)) : Ev (tOp rNe ta tb) σ H (.bl (!decide (i = j))) := ev_is (ev_op ha hb (rv_ne rfl)) (congrArg (fun b => V.bl (!b)) dec_int)
theorem ev_eqS {i j : Str} (ha : Ev ta σ H (.str i)) (hb : Ev tb σ H (.str j)) : Ev (tOp rEq ta tb) σ H (.bl (decide (i = j))) := ev_is (ev_op ha hb (rv_eq rfl)) (congrArg V.bl dec_str)
theorem ev_neS {i j : Str} (ha : Ev ta σ H (.str i)) (hb : Ev tb σ H (.str j)) : Ev (tOp rNe ta tb) σ H (.bl (!decide (i = j))) := ev_is (ev_op ha hb (rv_ne rfl)) (congrArg (fun b => V.bl (!b)) dec_str)
theorem ev_eqB {i j : Bool} (ha : Ev ta σ H (.bl i)) (hb : Ev tb σ H (.bl j)) : Ev (tOp rEq ta tb) σ H (.bl (decide (i = j))) := ev_is (ev_op ha hb (rv_eq rfl)) (congrArg V.bl dec_bl)
theorem ev_neB {i j : Bool} (ha : Ev ta σ H (.bl i)) (hb : Ev tb σ H (.bl j)) : Ev (tOp rNe ta tb) σ H (.bl (!decide (i = j))) := ev_is (ev_op ha hb (rv_ne rfl)) (congrArg (fun b => V.bl (!b)) dec_bl)
theorem ev_bin {C : Int → Int → Prop} {g : Int → Int → V} {i j : Int} (ha : Ev ta σ H (.int i)) (hb : Ev tb σ H (.int j)) (hc : C i j) : Ev (tOp (rI C g) ta tb) σ H (g i j) := ev_op ha hb (rv_I hc)
theorem ev_bin0 {g : Int → Int → V} {i j : Int} (ha : Ev ta σ H (.int i)) (hb : Ev tb σ H (.int j)) : Ev (tOp (rI0 g) ta tb) σ H (g i j) := ev_op ha hb rv_I0
theorem ev_intI {i : Int} (h : Ev te σ H (.int i)) : Ev (tCB (fun xs H Q => (∃ i, xs = [V.int i] ∧ Q (.int i) H) ∨ ∃ k, xs = [V.bl k] ∧ Q (.int (if k = true then 1 else 0)) H) (tCons te tNil)) σ H (.int i) := fun H1 e Q q =>
  h H1 e _ fun H2 e2 => .inl ⟨i, rfl, q H2 e2⟩
theorem ev_lenS {z : Str} (h : Ev te σ H (.str z)) (hz : z.length ≤ 100000) : Ev (tCB (fun xs H Q => ∃ z, xs = [V.str z] ∧ z.length ≤ sizeLine ∧ Q (.int z.length) H) (tCons te tNil)) σ H (.int (z.length : Int)) := fun H1 e Q q =>
  h H1 e _ fun H2 e2 => ⟨z, rfl, sz_of hz, q H2 e2⟩
theorem ev_lenQ {p : Addr} {xs : List V} (ha : Ev ta σ H (.ref p)) (h : SqL K H p xs) : Ev (tCB (fun xs H Q => ∃ p ys, xs = [V.ref p] ∧ (SqL K H p ys ∨ SqT K H p ys) ∧ Q (.int ys.length) H) (tCons ta tNil)) σ H (.int (xs.length : Int)) := fun H1 e Q q =>
  ha H1 e _ fun H2 e2 => ⟨p, xs, rfl, Or.inl (ex_l (e.trans e2) h), q H2 e2⟩
theorem ev_lenT {p : Addr} {xs : List V} (ha : Ev ta σ H (.ref p)) (h : SqT K H p xs) : Ev (tCB (fun xs H Q => ∃ p ys, xs = [V.ref p] ∧ (SqL K H p ys ∨ SqT K H p ys) ∧ Q (.int ys.length) H) (tCons ta tNil)) σ H (.int (xs.length : Int)) := fun H1 e Q q =>
  ha H1 e _ fun H2 e2 => ⟨p, xs, rfl, Or.inr (ex_t (e.trans e2) h), q H2 e2⟩
theorem ev_ixL {p : Addr} {xs : List V} {i : Int} {v : V} (ha : Ev ta σ H (.ref p)) (hb : Ev tb σ H (.int i)) (h : SqL K H p xs) (hi : atI xs i = some v) : Ev (tOp (rIxL K) ta tb) σ H v := ev_op ha hb (rv_ixL h hi)
theorem ev_ixT {p : Addr} {xs : List V} {i : Int} {v : V} (ha : Ev ta σ H (.ref p)) (hb : Ev tb σ H (.int i)) (h : SqT K H p xs) (hi : atI xs i = some v) : Ev (tOp (rIxT K) ta tb) σ H v := ev_op ha hb (rv_ixT h hi)
/-- an item of a list that is written there -/
theorem ev_ixN {xs : List V} {i : Int} {v : V} (ha : EvL ta σ H xs) (hb : ∀ H1, Ex H H1 → Ev tb σ H1 (.int i)) (hi : atI xs i = some v) : Ev (tOp (rIxL K) ta tb) σ H v := ev_opL1 ha hb fun p H1 h1 _ => rv_ixL (sq_of h1) hi
theorem ev_ixS {z : Str} {i : Int} {c : Nat} (ha : Ev ta σ H (.str z)) (hb : Ev tb σ H (.int i)) (hz : z.length ≤ 100000) (hi : atI z.cps.toList i = some c) : Ev (tOp rIxS ta tb) σ H (.str ⟨#[c]⟩) := ev_op ha hb (rv_ixS hz hi)
theorem ev_addS {x y : Str} (ha : Ev ta σ H (.str x)) (hb : Ev tb σ H (.str y)) (hz : x.length + y.length ≤ 16777216) : Ev (tOp (fun x y H Q => ∃ i j, x = V.str i ∧ y = V.str j ∧ i.length + j.length ≤ sizeLine ∧ Q (.str (i ++ j)) H) ta tb) σ H (.str (x ++ y)) :=
  ev_op ha hb fun H1 _ Q q => ⟨x, y, rfl, rfl, by rw [sizeLine_eq]; exact hz, q H1 (Ex.refl H1)⟩
theorem ev_neg {i : Int} (h : Ev te σ H (.int i)) : Ev (tUn (rU fun i => .int (-i)) te) σ H (.int (-i)) := ev_un h ru_neg
theorem ev_isN {v : V} (h : Ev te σ H v) : Ev (tOp (fun x y H Q => y = .non ∧ Q (.bl (decide (x = .non))) H) te (tC .non)) σ H (.bl (decide (v = .non))) := fun H1 e Q q => h H1 e _ fun H2 e2 => ⟨rfl, q H2 e2⟩
end
section
variable {σ : L2.St} {H : Hp} {te : TE}
theorem ev_isNt (h : Ev te σ H .non) : Ev (tOp (fun x y H Q => y = .non ∧ Q (.bl (decide (x = .non))) H) te (tC .non)) σ H (.bl true) := ev_is (ev_isN h) (congrArg V.bl (decide_eq_true rfl))
theorem ev_isNf {v : V} (h : Ev te σ H v) (hv : v ≠ .non := by intro z; cases z) : Ev (tOp (fun x y H Q => y = .non ∧ Q (.bl (decide (x = .non))) H) te (tC .non)) σ H (.bl false) := ev_is (ev_isN h) (congrArg V.bl (decide_eq_false hv))
end
theorem at_nat {xs : List V} {j : Nat} {v : V} (h : xs[j]? = some v) : atI xs (j : Int) = some v := atI_nat h
theorem sizeOk {n : Nat} (h : n ≤ 16777216) : n ≤ sizeLine := by rw [sizeLine_eq]; exact h

/-! ### texts, joins, comprehensions -/
theorem str_ext {a b : Str} (h : a.cps.toList = b.cps.toList) : a = b := by
  obtain ⟨a⟩ := a
  obtain ⟨b⟩ := b
  exact congrArg Str.mk (Array.toList_inj.mp h)
/-- the join of one-sign texts -/
theorem join_signs (l : List Nat) : Txt.join (Str.ofString "") (l.map fun c => (⟨#[c]⟩ : Str)) = ⟨l.toArray⟩ := by
  rw [TL.join_eq]
  refine str_ext ?_
  have key : ∀ l : List Nat, TL.joinL [] (l.map fun c => [c]) = l := fun l => by
    induction l with
    | nil => rfl
    | cons a r ih =>
      cases r with
      | nil => rfl
      | cons b r =>
        show [a] ++ ([] ++ TL.joinL [] ((b :: r).map fun c => [c])) = a :: b :: r
        rw [ih] <;> rfl
  have h := TL.tl_join (Str.ofString "") (l.map fun c => (⟨#[c]⟩ : Str))
  have e1 : TL.tl (Str.ofString "") = [] := by decide +kernel
  rw [e1, List.map_map] at h
  exact h.trans (key l)
theorem sum_ones (l : List Nat) : ((l.map fun c => (⟨#[c]⟩ : Str)).map (·.length)).sum = l.length := by
  induction l with
  | nil => rfl
  | cons a r ih =>
    rw [List.map_cons, List.map_cons, List.sum_cons, ih, List.length_cons]
    show 1 + r.length = r.length + 1
    omega
/-- a join of a new list of texts -/
theorem ev_joinN {K : PySem.W.Frag} {σ : L2.St} {H : Hp} {to te : TE} {a : Str} {ys : List Str} (h0 : Ev to σ H (.str a)) (h : EvL te σ H (ys.map V.str)) (hz : (ys.map (·.length)).sum + ys.length * a.length ≤ 16777216) :
    Ev (tM1 (fun x xs H Q => ∃ a p, ∃ ys : List Str, x = .str a ∧ xs = [.ref p] ∧ (SqL K H p (ys.map V.str) ∨ SqT K H p (ys.map V.str)) ∧ (ys.map (·.length)).sum + ys.length * a.length ≤ 16777216 ∧ Q (.str (Txt.join a ys)) H) to te) σ H (.str (Txt.join a ys)) :=
  fun H1 e Q q => h0 H1 e _ fun H2 e2 => ⟨⟨a, rfl⟩, h H2 (e.trans e2) _ fun p H3 hp e3 hl => ⟨a, p, ys, rfl, rfl, .inl (sq_of hl), hz, q H3 (e2.trans e3)⟩⟩
theorem given_all {n : Nat} {v : Nat → V} {xs : List V} (hn : xs.length = n) (h : ∀ i, i < n → xs[i]? = some (v i)) : given n (fun _ => true) v = xs := by
  unfold given
  rw [List.filter_eq_self.mpr (fun _ _ => rfl)]
  refine List.ext_getElem? fun i => ?_
  rw [List.getElem?_map]
  by_cases hi : i < n
  · rw [List.getElem?_range hi, h i hi] <;> rfl
  · rw [List.getElem?_eq_none (by rw [List.length_range]; omega), List.getElem?_eq_none (by omega)] <;> rfl
/-- [f(x) for x in a new list of ints] -/
theorem el_mapN {K : PySem.W.Frag} {σ : L2.St} {H : Hp} {tl te : TE} {j : Nat} {vs : List Nat} {ns : List Int} {f : Int → V} (h : EvL tl σ H (ns.map V.int)) (hz : ns.length ≤ 40000) (hw : ∀ x, wipe ((wipe σ vs).set j (some x)) vs = wipe σ vs)
    (he : ∀ n ∈ ns, ∀ H1, Ex H H1 → Ev te ((wipe σ vs).set j (some (.int n))) H1 (f n)) : EvL (tLc (iList K tl) (gName j) tYes te vs) σ H (ns.map f) := by
  have g : given (ns.map V.int).length (fun _ => true) (fun i => f (ns.getD i 0)) = ns.map f := given_all (by rw [List.length_map, List.length_map]) fun i hi => by
    rw [List.length_map] at hi
    rw [List.getElem?_map, List.getElem?_eq_getElem hi, List.getD_eq_getElem?_getD, List.getElem?_eq_getElem hi] <;> rfl
  rw [← g]
  refine el_lcNL (fun _ => true) (fun i => f (ns.getD i 0)) h (by rw [List.length_map]; exact hz) hw (fun i x H1 e1 hx => ?_) (fun i x H1 e1 hx _ => ?_)
  · exact fun H2 e2 Q q => q H2 (Ex.refl H2)
  · rw [List.getElem?_map] at hx
    cases e : ns[i]? with
    | none =>
      rw [e] at hx
      cases hx
    | some n =>
      rw [e] at hx
      have ex : x = .int n := (Option.some.inj hx).symm
      rw [ex, List.getD_eq_getElem?_getD, e]
      exact he n (List.mem_of_getElem? e) H1 e1
theorem atI_of {xs : List V} {n : Int} {v : V} (h0 : 0 ≤ n) (h : xs[n.toNat]? = some v) : atI xs n = some v := by
  have e : n = ((n.toNat : Nat) : Int) := by omega
  rw [e]
  exact atI_nat (by simpa using h)
theorem at_cps {z : Str} {l : List Nat} (h : z.cps.toList = l) {n : Int} (h0 : 0 ≤ n) (h1 : n < l.length) : atI z.cps.toList n = some (l.getD n.toNat 0) := by
  rw [h]
  have e : n = ((n.toNat : Nat) : Int) := by omega
  have h3 : n.toNat < l.length := by omega
  have h4 : ixN l.length n = some n.toNat := by rw [e]; exact ixN_nat (by omega)
  unfold atI
  rw [h4]
  show l[n.toNat]? = some (l.getD n.toNat 0)
  rw [List.getElem?_eq_getElem h3, List.getD_eq_getElem?_getD, List.getElem?_eq_getElem h3]
  all_goals rfl

/-- the join of texts by their codes -/
theorem join_codes (l : List (List Nat)) : Txt.join (Str.ofString "") (l.map fun c => (⟨c.toArray⟩ : Str)) = ⟨l.flatten.toArray⟩ := by
  rw [TL.join_eq]
  refine str_ext ?_
  have key : ∀ l : List (List Nat), TL.joinL [] l = l.flatten := fun l => by
    induction l with
    | nil => rfl
    | cons a r ih =>
      cases r with
      | nil => simp [TL.joinL]
      | cons b r =>
        show a ++ ([] ++ TL.joinL [] (b :: r)) = (a :: b :: r).flatten
        rw [ih, List.nil_append]
        exact List.flatten_cons.symm
  have h := TL.tl_join (Str.ofString "") (l.map fun c => (⟨c.toArray⟩ : Str))
  have e1 : TL.tl (Str.ofString "") = [] := by decide +kernel
  have e2 : (l.map fun c => (⟨c.toArray⟩ : Str)).map TL.tl = l := by
    rw [List.map_map]
    exact List.map_id l
  rw [e1, e2] at h
  exact h.trans (key l)
theorem sum_codes (l : List (List Nat)) : ((l.map fun c => (⟨c.toArray⟩ : Str)).map (·.length)).sum = l.flatten.length := by
  induction l with
  | nil => rfl
  | cons a r ih =>
    rw [List.map_cons, List.map_cons, List.sum_cons, ih, List.flatten_cons, List.length_append] <;> rfl
/-- [f(x) for x in a tuple] -/
theorem el_mapT {K : PySem.W.Frag} {σ : L2.St} {H : Hp} {tl te : TE} {j : Nat} {vs : List Nat} {a : Addr} {xs ys : List V} (h : Ev tl σ H (.ref a)) (hx : SqT K H a xs) (hz : xs.length ≤ 40000) (hw : ∀ x, wipe ((wipe σ vs).set j (some x)) vs = wipe σ vs) (hl : ys.length = xs.length)
    (he : ∀ (i : Nat) (x y : V), xs[i]? = some x → ys[i]? = some y → ∀ H1, Ex H H1 → Ev te ((wipe σ vs).set j (some x)) H1 y) : EvL (tLc (iTup K tl) (gName j) tYes te vs) σ H ys := by
  intro H0 e Q q
  refine h H0 e _ fun H1 e1 => ⟨a, rfl, ⟨xs, ex_t (e.trans e1) hx⟩, fun Dl hD => ?_⟩
  refine lc_tup (xs := xs) (fun i H' => H1 Dl = none ∧ Ex H1 H' ∧ H' Dl = some (.lst (ys.take i))) ⟨hD, Ex.new hD, upd_same⟩ (fun i H' _ p => ex_t ((e.trans e1).trans p.2.1) hx) (fun i x H' hi p => ⟨hw x, ?_⟩) (fun H' p => ?_)
  · obtain ⟨p1, p2, p3⟩ := p
    have hi2 : i < ys.length := by
      have := (List.getElem?_eq_some_iff.mp hi).1
      omega
    have hy : ys[i]? = some ys[i] := List.getElem?_eq_getElem hi2
    show te ((wipe σ vs).set j (some x)) H' _
    refine he i x ys[i] hi hy H1 (e.trans e1) H' p2 _ fun H4 e4 => ⟨ys.take i, e4 Dl _ p3, sz_lt (by rw [List.length_take]; omega), p1, (p2.trans e4).mut p1, ?_⟩
    rw [upd_same, List.take_add_one, hy] <;> rfl
  · obtain ⟨p1, p2, p3⟩ := p
    rw [← hl, List.take_length] at p3
    exact q Dl H' (fresh_back e1 p1) (e1.trans p2) p3
/-- [f(x) for x in a list] -/
theorem el_mapL {K : PySem.W.Frag} {σ : L2.St} {H : Hp} {tl te : TE} {j : Nat} {vs : List Nat} {a : Addr} {xs ys : List V} (h : Ev tl σ H (.ref a)) (hx : SqL K H a xs) (hz : xs.length ≤ 40000) (hw : ∀ x, wipe ((wipe σ vs).set j (some x)) vs = wipe σ vs) (hl : ys.length = xs.length)
    (he : ∀ (i : Nat) (x y : V), xs[i]? = some x → ys[i]? = some y → ∀ H1, Ex H H1 → Ev te ((wipe σ vs).set j (some x)) H1 y) : EvL (tLc (iList K tl) (gName j) tYes te vs) σ H ys := by
  intro H0 e Q q
  refine h H0 e _ fun H1 e1 => ⟨a, rfl, ⟨xs, ex_l (e.trans e1) hx⟩, fun Dl hD => ?_⟩
  refine lc_list (xs := xs) (fun i H' => H1 Dl = none ∧ Ex H1 H' ∧ H' Dl = some (.lst (ys.take i))) ⟨hD, Ex.new hD, upd_same⟩ (fun i H' _ p => ex_l ((e.trans e1).trans p.2.1) hx) (fun i x H' hi p => ⟨hw x, ?_⟩) (fun H' p => ?_)
  · obtain ⟨p1, p2, p3⟩ := p
    have hi2 : i < ys.length := by
      have := (List.getElem?_eq_some_iff.mp hi).1
      omega
    have hy : ys[i]? = some ys[i] := List.getElem?_eq_getElem hi2
    show te ((wipe σ vs).set j (some x)) H' _
    refine he i x ys[i] hi hy H1 (e.trans e1) H' p2 _ fun H4 e4 => ⟨ys.take i, e4 Dl _ p3, sz_lt (by rw [List.length_take]; omega), p1, (p2.trans e4).mut p1, ?_⟩
    rw [upd_same, List.take_add_one, hy] <;> rfl
  · obtain ⟨p1, p2, p3⟩ := p
    rw [← hl, List.take_length] at p3
    exact q Dl H' (fresh_back e1 p1) (e1.trans p2) p3
/-- [f(k) for k in range(n)] -/
theorem el_mapR {σ : L2.St} {H : Hp} {ta : TA} {te : TE} {j : Nat} {vs : List Nat} {n : Nat} {ys : List V} (h : EvA ta σ H [.int (n : Int)]) (hz : n ≤ 40000) (hw : ∀ x, wipe ((wipe σ vs).set j (some x)) vs = wipe σ vs) (hl : ys.length = n)
    (he : ∀ (i : Nat) (y : V), i < n → ys[i]? = some y → ∀ H1, Ex H H1 → Ev te ((wipe σ vs).set j (some (.int (i : Int)))) H1 y) : EvL (tLc (iRng1 ta) (gName j) tYes te vs) σ H ys := by
  have g : given (n : Int).toNat (fun _ => true) (fun i => ys.getD i .non) = ys := given_all (by omega) fun i hi => by
    have hi2 : i < ys.length := by omega
    rw [List.getElem?_eq_getElem hi2, List.getD_eq_getElem?_getD, List.getElem?_eq_getElem hi2] <;> rfl
  rw [← g]
  refine el_lcR1 (fun _ => true) (fun i => ys.getD i .non) h (by omega) hw (fun i H1 e1 hi => ?_) (fun i H1 e1 hi _ => ?_)
  · exact fun H2 e2 Q q => q H2 (Ex.refl H2)
  · have hi2 : i < ys.length := by omega
    have hy : ys[i]? = some (ys.getD i .non) := by rw [List.getElem?_eq_getElem hi2, List.getD_eq_getElem?_getD, List.getElem?_eq_getElem hi2] <;> rfl
    exact he i _ (by omega) hy H1 e1
/-- for c in a text -/
theorem s_forS {σ : L2.St} {H : Hp} {te : TE} {tu : TS} {D : Ends} {j : Nat} {z : Str} (h : Ev te σ H (.str z)) (Pv : Nat → L2.St → Hp → Prop) (h0 : ∀ H1, Ex H H1 → Pv 0 σ H1)
    (hs : ∀ i c σ' H', z.cps.toList[i]? = some c → Pv i σ' H' → tu { D with nx := Pv (i + 1), ct := Pv (i + 1), bk := D.nx } (σ'.set j (some (.str ⟨#[c]⟩))) H') (hd : ∀ σ' H', Pv z.cps.toList.length σ' H' → D.nx σ' H') : tFor (iStr te) (gName j) tu D σ H := by
  refine h H (Ex.refl H) _ fun H1 e => ⟨z, rfl, fun i m σ' H' => m = z.cps.toList.length - i ∧ i ≤ z.cps.toList.length ∧ Pv i σ' H', ⟨_, rfl, Nat.zero_le _, h0 H1 e⟩, ?_⟩
  rintro i m σ' H' ⟨rfl, hi, p⟩
  by_cases hlt : i < z.cps.toList.length
  · refine .inr ⟨(by show i < z.cps.size; simpa using hlt), Pv (i + 1), fun σ2 H2 p2 => ⟨_, by omega, rfl, hlt, p2⟩, fun x H2 y => ?_⟩
    obtain ⟨rfl, c, hc, rfl⟩ := y
    exact hs i c σ' H2 (by simpa using hc) p
  · have ei : i = z.cps.toList.length := by omega
    subst ei
    exact .inl ⟨(by show z.cps.size ≤ z.cps.toList.length; simp), hd σ' H' p⟩
theorem q_forS {σ : L2.St} {H : Hp} {te : TE} {tu tz : TS} {D : Ends} {j : Nat} {z : Str} (h : Ev te σ H (.str z)) (Pv : Nat → L2.St → Hp → Prop) (h0 : ∀ H1, Ex H H1 → Pv 0 σ H1)
    (hs : ∀ i c σ' H', z.cps.toList[i]? = some c → Pv i σ' H' → tu { D with nx := Pv (i + 1), ct := Pv (i + 1), bk := tz D } (σ'.set j (some (.str ⟨#[c]⟩))) H') (hd : ∀ σ' H', Pv z.cps.toList.length σ' H' → tz D σ' H') : tSeq (tFor (iStr te) (gName j) tu) tz D σ H :=
  s_forS (D := { D with nx := tz D }) h Pv h0 hs hd
/-! ### isinstance against a built-in type; f-strings -/
theorem tyx_tup {K : PySem.W.Frag} {H : Hp} {a : Addr} {xs : List V} (h : SqT K H a xs) : TyX K H (.ref a) (.type "tuple") := by
  rcases h with (h | ⟨o, h⟩) | ⟨o, its, n, h, hc, _⟩
  · exact .base (.tup h)
  · exact .fTuple h
  · exact .kTuple h hc
theorem ev_isi {K : PySem.W.Frag} {σ : L2.St} {H : Hp} {te : TE} {x : V} {a b : String} {r : Bool} (h : Ev te σ H x) (ht : ∀ H1, Ex H H1 → TyX K H1 x (.type a)) (hk : kitB a b = some r) : Ev (tCB (rIsi K) (tCons te (tCons (tC (.ty b)) tNil))) σ H (.bl r) := fun H1 e Q q =>
  h H1 e _ fun H2 e2 => ⟨x, .ty b, .type a, .type b, r, rfl, .ty b, ht H2 (e.trans e2), kit_ty hk, q H2 e2⟩
/-- parts that evaluate to texts -/
inductive EvJ (σ : L2.St) (H : Hp) : List TE → List Str → Prop where
  | nil : EvJ σ H [] []
  | cons {t : TE} {ts : List TE} {y : Str} {ys : List Str} (h : Ev t σ H (.str y)) (r : EvJ σ H ts ys) : EvJ σ H (t :: ts) (y :: ys)
theorem evj_run {σ : L2.St} {H : Hp} {ts : List TE} {ys : List Str} (h : EvJ σ H ts ys) : ∀ (acc : Str) (H1 : Hp) (Q : Str → Hp → Prop), Ex H H1 → acc.length + (ys.map (·.length)).sum ≤ 16777216 → (∀ H2, Ex H1 H2 → Q (ys.foldl (· ++ ·) acc) H2) → tJs ts acc σ H1 Q := by
  induction h with
  | nil => exact fun acc H1 Q _ _ q => q H1 (Ex.refl H1)
  | @cons t ts y ys h r ih =>
    intro acc H1 Q e hz q
    rw [List.map_cons, List.sum_cons] at hz
    have el : (acc ++ y).length = acc.length + y.length := by
      show (acc.cps ++ y.cps).size = acc.cps.size + y.cps.size
      exact Array.size_append
    refine h H1 e _ fun H2 e2 => ⟨y, rfl, sizeOk (by rw [el]; omega), ih (acc ++ y) H2 Q (e.trans e2) (by rw [el]; omega) fun H3 e3 => q H3 (e2.trans e3)⟩
theorem ev_joined {σ : L2.St} {H : Hp} {ts : List TE} {ys : List Str} (h : EvJ σ H ts ys) (hz : (ys.map (·.length)).sum ≤ 16777216) : Ev (fun σ H Q => tJs ts Str.empty σ H fun out H1 => Q (.str out) H1) σ H (.str (ys.foldl (· ++ ·) Str.empty)) := fun H1 e Q q =>
  evj_run h Str.empty H1 _ e (by show 0 + _ ≤ _; omega) fun H2 e2 => q H2 e2
theorem ev_fmtS {σ : L2.St} {H : Hp} {te : TE} {y : Str} (h : Ev te σ H (.str y)) (hz : y.length ≤ 16777216) : Ev (tFmt te) σ H (.str y) := fun H1 e Q q => h H1 e _ fun H2 e2 => .inl ⟨y, rfl, sizeOk hz, q H2 e2⟩
theorem ev_fmtI {σ : L2.St} {H : Hp} {te : TE} {i : Int} (h : Ev te σ H (.int i)) (hz : i.natAbs.log2 < 1920) : Ev (tFmt te) σ H (.str (toString i)) := fun H1 e Q q => h H1 e _ fun H2 e2 => .inr ⟨i, rfl, hz, q H2 e2⟩
theorem ev_strI {σ : L2.St} {H : Hp} {te : TE} {i : Int} (h : Ev te σ H (.int i)) (hz : i.natAbs.log2 < 1920) : Ev (tCB (fun xs H Q => ∃ i : Int, xs = [V.int i] ∧ i.natAbs.log2 < 1920 ∧ Q (.str (toString i)) H) (tCons te tNil)) σ H (.str (toString i)) := fun H1 e Q q => h H1 e _ fun H2 e2 => ⟨i, rfl, hz, q H2 e2⟩
theorem ev_ordS {σ : L2.St} {H : Hp} {te : TE} {c : Nat} (h : Ev te σ H (.str ⟨#[c]⟩)) : Ev (tCB (fun xs H Q => ∃ x : Str, xs = [V.str x] ∧ x.length = 1 ∧ Q (.int (x.cps.getD 0 0 : Nat)) H) (tCons te tNil)) σ H (.int (c : Int)) := fun H1 e Q q => h H1 e _ fun H2 e2 => ⟨_, rfl, rfl, q H2 e2⟩
theorem ev_ends {σ : L2.St} {H : Hp} {to te : TE} {a b : Str} (h0 : Ev to σ H (.str a)) (h : Ev te σ H (.str b)) : Ev (tM1 (fun x xs H Q => ∃ a b, x = V.str a ∧ xs = [V.str b] ∧ Q (.bl (Txt.endswith a b)) H) to te) σ H (.bl (Txt.endswith a b)) := fun H1 e Q q =>
  h0 H1 e _ fun H2 e2 => ⟨⟨a, rfl⟩, h H2 (e.trans e2) _ fun H3 e3 => ⟨a, b, rfl, rfl, q H3 (e2.trans e3)⟩⟩
theorem ev_slS {σ : L2.St} {H : Hp} {te : TE} {tl th : TO} {z : Str} {lo hi : Option Int} (h : Ev te σ H (.str z)) (h1 : EvO tl σ H lo) (h2 : EvO th σ H hi) (hz : z.length ≤ 100000) : Ev (tSl rSlS te tl th) σ H (.str (cutS z lo hi)) := fun H1 e Q q =>
  h H1 e _ fun H2 e2 => h1 H2 (e.trans e2) _ fun H3 e3 => h2 H3 ((e.trans e2).trans e3) _ fun H4 e4 => ⟨z, rfl, sz_of hz, q H4 ((e2.trans e3).trans e4)⟩
/-- tuple(a new list) -/
theorem eu_ofN {K : PySem.W.Frag} {σ : L2.St} {H : Hp} {te : TE} {xs : List V} (h : EvL te σ H xs) : EvU (tCB (fun xs H Q => ∃ p ys, xs = [V.ref p] ∧ ((SqL K H p ys ∧ ∀ l, H l = none → Q (.ref l) (upd H l (.tup ys))) ∨ (SqT K H p ys ∧ Q (.ref p) H))) (tCons te tNil)) σ H xs := fun H1 e Q q =>
  h H1 e _ fun p H2 _ e2 hp => ⟨p, xs, rfl, .inl ⟨sq_of hp, fun l hl => q l _ (fresh_back e2 hl) (e2.trans (Ex.new hl)) upd_same⟩⟩
theorem eu_ofL {K : PySem.W.Frag} {σ : L2.St} {H : Hp} {te : TE} {p : Addr} {xs : List V} (h : Ev te σ H (.ref p)) (hx : SqL K H p xs) : EvU (tCB (fun xs H Q => ∃ p ys, xs = [V.ref p] ∧ ((SqL K H p ys ∧ ∀ l, H l = none → Q (.ref l) (upd H l (.tup ys))) ∨ (SqT K H p ys ∧ Q (.ref p) H))) (tCons te tNil)) σ H xs := fun H1 e Q q =>
  h H1 e _ fun H2 e2 => ⟨p, xs, rfl, .inl ⟨ex_l (e.trans e2) hx, fun l hl => q l _ (fresh_back e2 hl) (e2.trans (Ex.new hl)) upd_same⟩⟩
/-- a def that hands back a new tuple -/
def SpU (sp : Sp) (vs : List V) (H : Hp) (xs : List V) : Prop := ∀ H1, Ex H H1 → ∀ Q : VK, (∀ p H2, Ex H1 H2 → H2 p = some (.tup xs) → Q (.ref p) H2) → ∀ E : XK, sp vs H1 Q E
theorem q_callU {sp : Sp} {dvs vs xs : List V} {E : XK} {ta : TA} {σ : L2.St} {H : Hp} {tz : TS} {D : Ends} {i : Nat} (h : EvA ta σ H vs) (hs : SpU sp (vs ++ dvs) H xs) (k : ∀ p H1, Ex H H1 → H1 p = some (.tup xs) → tz D (σ.set i (some (.ref p))) H1) : tSeq (tAsg (tCall sp dvs E ta) (gName i)) tz D σ H :=
  h H (Ex.refl H) _ fun H2 e2 => hs H2 e2 _ (fun p H3 e3 hp => k p H3 (e2.trans e3) hp) E
theorem s_callU {sp : Sp} {dvs vs xs : List V} {E : XK} {ta : TA} {σ : L2.St} {H : Hp} {D : Ends} {i : Nat} (h : EvA ta σ H vs) (hs : SpU sp (vs ++ dvs) H xs) (k : ∀ p H1, Ex H H1 → H1 p = some (.tup xs) → D.nx (σ.set i (some (.ref p))) H1) : tAsg (tCall sp dvs E ta) (gName i) D σ H :=
  h H (Ex.refl H) _ fun H2 e2 => hs H2 e2 _ (fun p H3 e3 hp => k p H3 (e2.trans e3) hp) E
/-- a call whose one argument is a new tuple -/
theorem ev_callU {sp : Sp} {dvs xs : List V} {z : V} {E : XK} {te : TE} {σ : L2.St} {H : Hp} (h : EvU te σ H xs) (hs : ∀ p H1, H1 p = some (.tup xs) → Ex H H1 → SpV sp ([.ref p] ++ dvs) H1 z) : Ev (tCall sp dvs E (tCons te tNil)) σ H z := fun H1 e Q q =>
  h H1 e _ fun p H2 _ e2 hp => hs p H2 hp (e.trans e2) H2 (Ex.refl H2) Q (fun H3 e3 => q H3 (e2.trans e3)) E
/-- written tuples, one behind the other -/
def EvP (ta : TA) (σ : L2.St) (H : Hp) (xss : List (List V)) : Prop := ∀ H1, Ex H H1 → ∀ Q : List V → Hp → Prop, (∀ (ps : List Addr) H2, Ex H1 H2 → Paired (fun p xs => H2 p = some (.tup xs)) ps xss → Q (ps.map V.ref) H2) → ta σ H1 Q
theorem paired_mono {H H' : Hp} (e : Ex H H') : ∀ {ps : List Addr} {xss : List (List V)}, Paired (fun p xs => H p = some (.tup xs)) ps xss → Paired (fun p xs => H' p = some (.tup xs)) ps xss
  | _, _, .nil => .nil
  | _, _, .cons h r => .cons (e _ _ h) (paired_mono e r)
theorem ep_nil {σ : L2.St} {H : Hp} : EvP tNil σ H [] := fun H1 e Q q => q [] H1 (Ex.refl H1) .nil
theorem ep_cons {σ : L2.St} {H : Hp} {te : TE} {tr : TA} {xs : List V} {xss : List (List V)} (h : EvU te σ H xs) (r : EvP tr σ H xss) : EvP (tCons te tr) σ H (xs :: xss) := fun H1 e Q q =>
  h H1 e _ fun p H2 _ e2 hp => r H2 (e.trans e2) _ fun ps H3 e3 hr => q (p :: ps) H3 (e2.trans e3) (.cons (e3 p _ hp) hr)
theorem q_asgLP {ta : TA} {xss : List (List V)} {σ : L2.St} {H : Hp} {tz : TS} {D : Ends} {i : Nat} (h : EvP ta σ H xss) (hz : xss.length ≤ 100000) (k : ∀ p ps H1, Ex H H1 → H1 p = some (.lst (ps.map V.ref)) → Paired (fun p xs => H1 p = some (.tup xs)) ps xss → tz D (σ.set i (some (.ref p))) H1) :
    tSeq (tAsg (tLst ta) (gName i)) tz D σ H := h H (Ex.refl H) _ fun ps H1 e1 hps => by
  have el : ∀ {as : List Addr} {bs : List (List V)}, Paired (fun p xs => H1 p = some (.tup xs)) as bs → as.length = bs.length := fun h => by
    induction h with
    | nil => rfl
    | cons _ _ ih => exact congrArg (· + 1) ih
  exact ⟨sz_of (by rw [List.length_map, el hps]; exact hz), fun p hp => k p ps _ (e1.trans (Ex.new hp)) upd_same (paired_mono (Ex.new hp) hps)⟩
theorem paired_at {H : Hp} : ∀ {ps : List Addr} {xss : List (List V)}, Paired (fun p xs => H p = some (.tup xs)) ps xss → ∀ {i : Nat} {xs : List V}, xss[i]? = some xs → ∃ p, ps[i]? = some p ∧ H p = some (.tup xs)
  | _, _, .cons h _, 0, xs, e => by
    have e := Option.some.inj e
    subst e
    exact ⟨_, rfl, h⟩
  | _, _, .cons _ r, i + 1, xs, e => by
    obtain ⟨p, h1, h2⟩ := paired_at r (i := i) (by simpa using e)
    exact ⟨p, by simpa using h1, h2⟩
theorem paired_len {α β : Type} {R : α → β → Prop} : ∀ {as : List α} {bs : List β}, Paired R as bs → as.length = bs.length
  | _, _, .nil => rfl
  | _, _, .cons _ r => congrArg (· + 1) (paired_len r)
/-- a list that is tracked, and a new one behind it -/
theorem el_catV {K : PySem.W.Frag} {σ : L2.St} {H : Hp} {ta tb : TE} {p : Addr} {xs ys : List V} (ha : Ev ta σ H (.ref p)) (hp : H p = some (.lst xs)) (hb : EvL tb σ H ys) (hz : xs.length + ys.length ≤ 100000) : EvL (tOp rCat ta tb) σ H (xs ++ ys) := fun H1 e Q q =>
  ha H1 e _ fun H2 e2 => hb H2 (e.trans e2) _ fun r H3 hr e3 h3 => ⟨p, r, xs, ys, rfl, rfl, ((e.trans e2).trans e3) p _ hp, h3, sz_of hz, fun l hl => q l _ (fresh_back (e2.trans e3) hl) ((e2.trans e3).trans (Ex.new hl)) upd_same⟩
theorem codes_app {a b : Str} {x y : List Nat} (ha : a.cps.toList = x) (hb : b.cps.toList = y) : (a ++ b).cps.toList = x ++ y := by
  show (a.cps ++ b.cps).toList = x ++ y
  rw [Array.toList_append, ha, hb]
theorem str_len (z : Str) : z.length = z.cps.toList.length := by simp [Str.length]
theorem mk_of {z : Str} {l : List Nat} (h : z.cps.toList = l) : z = ⟨l.toArray⟩ := str_ext h
/-- long texts -/
theorem ev_lenB {σ : L2.St} {H : Hp} {te : TE} {z : Str} (h : Ev te σ H (.str z)) (hz : z.length ≤ 16777216) : Ev (tCB (fun xs H Q => ∃ z, xs = [V.str z] ∧ z.length ≤ sizeLine ∧ Q (.int z.length) H) (tCons te tNil)) σ H (.int (z.length : Int)) := fun H1 e Q q =>
  h H1 e _ fun H2 e2 => ⟨z, rfl, sizeOk hz, q H2 e2⟩
theorem ev_ixB {σ : L2.St} {H : Hp} {ta tb : TE} {z : Str} {i : Int} {c : Nat} (ha : Ev ta σ H (.str z)) (hb : Ev tb σ H (.int i)) (hz : z.length ≤ 16777216) (hi : atI z.cps.toList i = some c) : Ev (tOp rIxS ta tb) σ H (.str ⟨#[c]⟩) :=
  ev_op ha hb fun H1 _ _ q => ⟨z, i, c, rfl, rfl, sizeOk hz, hi, q H1 (Ex.refl H1)⟩
theorem ev_slB {σ : L2.St} {H : Hp} {te : TE} {tl th : TO} {z : Str} {lo hi : Option Int} (h : Ev te σ H (.str z)) (h1 : EvO tl σ H lo) (h2 : EvO th σ H hi) (hz : z.length ≤ 16777216) : Ev (tSl rSlS te tl th) σ H (.str (cutS z lo hi)) := fun H1 e Q q =>
  h H1 e _ fun H2 e2 => h1 H2 (e.trans e2) _ fun H3 e3 => h2 H3 ((e.trans e2).trans e3) _ fun H4 e4 => ⟨z, rfl, sizeOk hz, q H4 ((e2.trans e3).trans e4)⟩
theorem at_natS {l : List Nat} {j c : Nat} (h : l[j]? = some c) : atI l (j : Int) = some c := by
  have hj := (List.getElem?_eq_some_iff.mp h).1
  unfold atI
  rw [ixN_nat hj]
  exact h
theorem q_asgAug {σ : L2.St} {H : Hp} {te : TE} {tz : TS} {D : Ends} {i : Nat} {a b : Int} (hx : σ[i]? = some (some (.int a))) (h : Ev te σ H (.int b)) (k : ∀ H1, Ex H H1 → tz D (σ.set i (some (.int (a + b)))) H1) : tSeq (tAug i te (ipI fun i j => i + j)) tz D σ H := q_aug hx h k
theorem q_callV {sp : Sp} {dvs vs : List V} {E : XK} {ta : TA} {σ : L2.St} {H : Hp} {tz : TS} {D : Ends} {i : Nat} (h : EvA ta σ H vs) (k : ∀ H1, Ex H H1 → sp (vs ++ dvs) H1 (fun v H2 => tz D (σ.set i (some v)) H2) E) : tSeq (tAsg (tCall sp dvs E ta) (gName i)) tz D σ H := h H (Ex.refl H) _ fun H1 e1 => k H1 e1
/-! ### a small tactic: what an expression evaluates to -/
local macro_rules | `(tactic| walk_at "side") => `(tactic| first | assumption | decide | (show (0 : Int) < _; omega) | omega | (show CDivW _ _; exact ⟨by first | decide | omega, by decide⟩) | (show CPow _ _; exact ⟨by decide, by decide, by decide⟩) | (show CMulX _ _; (refine Wd.mul ?_ ?_ <;> walk_at "wd")))
local macro_rules | `(tactic| walk_at "wd") => `(tactic| first | assumption | exact Wd.lit (by decide) | exact Wd.small (by omega) (by omega) | (refine Wd.div ?_; walk_at "wd") | (refine Wd.mod ?_ ?_; (first | decide | omega); (walk_at "wd")) | (refine Wd.neg ?_; walk_at "wd"))
local macro_rules | `(tactic| walk_at "call") => `(tactic| fail "no call")
local macro_rules | `(tactic| walk_at "seq") => `(tactic| first | assumption | (refine ex_l ?_ ?_ <;> assumption) | exact sq_of (by assumption))
local macro_rules | `(tactic| walk_at "ev") => `(tactic| first
  | with_reducible exact ev_c
  | exact ev_var rfl
  | (refine ev_intI ?_; walk_at "ev")
  | (refine ev_bin0 ?_ ?_; (walk_at "ev"); (walk_at "ev"))
  | (refine ev_bin ?_ ?_ ?_; (walk_at "ev"); (walk_at "ev"); (walk_at "side"))
  | (refine ev_eqI ?_ ?_; (walk_at "ev"); (walk_at "ev"))
  | (refine ev_neI ?_ ?_; (walk_at "ev"); (walk_at "ev"))
  | (refine ev_eqS ?_ ?_; (walk_at "ev"); (walk_at "ev"))
  | (refine ev_neS ?_ ?_; (walk_at "ev"); (walk_at "ev"))
  | (refine ev_neg ?_; walk_at "ev")
  | walk_at "call")
local macro_rules | `(tactic| walk_at "et") => `(tactic| first
  | (refine et_test ?_; walk_at "ev")
  | (refine et_B ?_; walk_at "ev")
  | (refine et_not ?_; walk_at "et"))
local macro_rules | `(tactic| walk_at "ea") => `(tactic| first | exact ea_nil | (refine ea_cons ?_ ?_; (walk_at "ev"); (walk_at "ea")))


/-! ### a text times a number -/
theorem foldl_reps (a : Array Nat) : ∀ (m : Nat) (acc : Array Nat), ((List.replicate m a).foldl (· ++ ·) acc).toList = acc.toList ++ (List.replicate m a.toList).flatten
  | 0, acc => by simp
  | m + 1, acc => by
    rw [List.replicate_succ, List.replicate_succ, List.foldl_cons, foldl_reps a m (acc ++ a), Array.toList_append, List.flatten_cons, List.append_assoc]
def repC (z : Str) (n : Nat) : List Nat := (List.replicate n z.cps.toList).flatten
theorem op_repS {X : Cx} : OpR X (binaryOp .Mult) (fun x y H Q => ∃ (z : Str) (k : Int), x = V.str z ∧ y = V.int k ∧ 0 ≤ k ∧ z.length * k.toNat ≤ 16777216 ∧ k < 2 ^ 60 ∧ Q (.str ⟨(repC z k.toNat).toArray⟩) H) := by
  intro pins s σ H x y v u Q I rx ry h
  obtain ⟨z, k, rfl, rfl, h0, hz, hk, q⟩ := h
  obtain ⟨t, rfl⟩ := rx
  obtain ⟨t', rfl⟩ := ry
  have ez : z.length = z.cps.toList.length := by simp [Str.length]
  have hzi : (z.length : Int) * k ≤ 16777216 := by
    have e : ((z.length * k.toNat : Nat) : Int) = (z.length : Int) * k := by
      rw [Int.natCast_mul, Int.toNat_of_nonneg h0]
    omega
  refine PySem.P.mul_str ?_ (fun h1 _ z2 => ?_) (fun h1 _ => ?_) ?_
  · rw [decide_eq_false (by omega), decide_eq_false (by omega)] <;> rfl
  · have h3 : (z.length : Int) ≤ (2 ^ 63 - 1) / k := Int.le_ediv_of_mul_le (by omega) (by omega)
    omega
  · have : ¬ z.length * k.toNat > sizeLine := by
      rw [sizeLine_eq]
      omega
    unfold Builtin.Str.tooLong
    exact decide_eq_false this
  · have e1 : ∀ y : Str, y.cps.toList = repC z k.toNat → y = ⟨(repC z k.toNat).toArray⟩ := fun y hy => by
      obtain ⟨y⟩ := y
      exact congrArg Str.mk (Array.toList_inj.mp (hy.trans rfl))
    have er : (repC z k.toNat).length = k.toNat * z.length := by
      unfold repC
      rw [List.length_flatten, List.map_replicate, List.sum_replicate_nat, ez]
    split
    · have e2 : Str.empty = (⟨(repC z k.toNat).toArray⟩ : Str) := e1 _ (by
        have : k.toNat = 0 := by omega
        unfold repC
        rw [this] <;> rfl)
      refine ⟨by decide, ?_⟩
      rw [e2]
      exact ⟨.str ⟨(repC z k.toNat).toArray⟩, H, I.tok _, ⟨_, rfl⟩, q⟩
    · split
      · rename_i h1 h2
        have e2 : z = (⟨(repC z k.toNat).toArray⟩ : Str) := e1 _ (by
          unfold repC
          rw [Bool.or_eq_true, beq_iff_eq, beq_iff_eq] at h2
          rcases h2 with h2 | h2
          · rw [h2]
            show _ = (List.replicate 1 _).flatten
            simp
          · have : z.cps.toList = [] := List.length_eq_zero_iff.mp (by omega)
            rw [this]
            simp)
        show EP X pins σ Q _ _
        rw [← e2] at q
        exact ⟨.str z, H, I, ⟨t, rfl⟩, q⟩
      · have e2 : (⟨(List.replicate k.toNat z.cps).foldl (· ++ ·) #[]⟩ : Str) = ⟨(repC z k.toNat).toArray⟩ := e1 _ (by
          show ((List.replicate k.toNat z.cps).foldl (· ++ ·) #[]).toList = _
          rw [foldl_reps] <;> rfl)
        rw [e2]
        refine ⟨?_, ⟨.str ⟨(repC z k.toNat).toArray⟩, H, I.tok _, ⟨_, rfl⟩, q⟩⟩
        show (repC z k.toNat).toArray.size ≤ sizeLine
        rw [List.size_toArray, er, sizeLine_eq, Nat.mul_comm]
        exact hz
theorem ev_repS {σ : L2.St} {H : Hp} {ta tb : TE} {z : Str} {n : Nat} (ha : Ev ta σ H (.str z)) (hb : Ev tb σ H (.int (n : Int))) (hz : z.length * n ≤ 16777216) (hn : n ≤ 16777216) : Ev (tOp (fun x y H Q => ∃ (z : Str) (k : Int), x = V.str z ∧ y = V.int k ∧ 0 ≤ k ∧ z.length * k.toNat ≤ 16777216 ∧ k < 2 ^ 60 ∧ Q (.str ⟨(repC z k.toNat).toArray⟩) H) ta tb) σ H (.str ⟨(repC z n).toArray⟩) :=
  ev_op ha hb fun H1 _ Q q => ⟨z, n, rfl, rfl, by omega, hz, by omega, q H1 (Ex.refl H1)⟩


/-! ### len of an own object -/
theorem call_lenO {X : Cx} {C f : Addr} {fd : FuncData} {k : Nat} {sp : Sp} (ml : PySem.W.findIn X.K (.ref C) "__len__" = some (some (.ref f))) (mf : PySem.W.isFn X.K (.ref f) = true) (F : FnOk X.prog X.w X.K X.mg X.base CX0 k f fd ["self"] sp) (hr : Room (k + 1) X.A) (hb : Binds X.K fd ["self"] []) :
    CallR X (.builtin "len") (fun xs H Q => ∃ a dx fs, xs = [V.ref a] ∧ H a = some (.ins C dx fs) ∧ sp [.ref a] H (fun v H' => ∃ n : Int, v = .int n ∧ (0 ≤ n ∧ n < 2 ^ 63) ∧ Q (.int n) H') E0) := by
  intro pins s σ H xs us Q I r h
  obtain ⟨a, dx, fs, rfl, ha, q⟩ := h
  obtain ⟨u, rfl, rx⟩ := vals1 r
  cases (show u = Value.ref a from rx)
  obtain ⟨mA, O, _⟩ := ins_get I.hok ha
  obtain ⟨od, J, _⟩ := O.look
  refine Calls.call_function_entry PySem.kind_len PySem.plain_len PySem.entry_len (PySem.args_len1 _) ?_
  unfold Builtin.«len»
  refine wpAny_bind (wpAny_pure ?_)
  refine wpAny_bind (m := callSpecial? (.ref a) (Str.ofString "__len__")) (PySem.W.special_fn I.kIn J ml (beq_iff_eq.mp mf) ?_)
  refine wpAny_call (codeAny_mono (F.run X.A.in1 X.stack s H ⟨[.ref a], []⟩ [.ref a] [.ref a] _ E0 hr.in1 I.env0.in1 (hb s [.ref a] I.kIn rfl) (.cons rfl .nil) q) fun r s' hq => ?_)
  cases r with
  | error e => exact hq.elim
  | ok fl =>
    cases fl with
    | ret u =>
      obtain ⟨v, H', I', rv, n, rfl, ⟨h0, h1⟩, q⟩ := I.after hq
      obtain ⟨t, rfl⟩ := rv
      refine wpAny_bind (wpAny_holding (wpAny_pure ?_))
      refine wpAny_bind (wpAny_letGo ?_)
      show wpAny _ _ (if n < 0 then _ else _) _ _ _
      rw [if_neg (by omega)]
      show wpAny _ _ (if n ≥ 2 ^ 63 then _ else _) _ _ _
      rw [if_neg (by omega)]
      exact wpAny_bind (wpAny_mkInt (wpAny_pure ⟨_, rfl, ⟨.int n, H', I'.tok _, ⟨_, rfl⟩, q⟩⟩))
    | next => exact False.elim hq
    | brk => exact False.elim hq
    | cont => exact False.elim hq


/-! ### the book -/
abbrev aF (d : Addr) : List (Str × V) := [(("_addresses" : Str), V.ref d)]
theorem aF_get (d : Addr) : (aF d).lookup ("_addresses" : Str) = some (.ref d) := by simp [aF, List.lookup]
theorem aF_no (d : Addr) {m : Str} (h : (m == ("_addresses" : Str)) = false) : (aF d).lookup m = none := by simp [aF, List.lookup, h]
/-- a book stands at p, its dict at d -/
def BkAt (C : Addr) (H : Hp) (p d : Addr) (kvs : List (Key × V)) : Prop := (∃ dx, H p = some (.ins C dx (aF d))) ∧ H d = some (.dK kvs)
/-- what address leaves -/
def addK (kvs : List (Key × V)) (z : Str) : List (Key × V) := match valV kvs (Sum.inr z : Key) with
  | none => putK kvs (Sum.inr z : Key) (.int ((kvs.length : Int) + 1))
  | some _ => kvs
theorem addK_none {kvs : List (Key × V)} {z : Str} (h : valV kvs (Sum.inr z : Key) = none) : addK kvs z = putK kvs (Sum.inr z : Key) (.int ((kvs.length : Int) + 1)) := by
  unfold addK
  rw [h]
theorem addK_some {kvs : List (Key × V)} {z : Str} {v : V} (h : valV kvs (Sum.inr z : Key) = some v) : addK kvs z = kvs := by
  unfold addK
  rw [h]
theorem addK_len (kvs : List (Key × V)) (z : Str) : (addK kvs z).length ≤ kvs.length + 1 := by
  cases h : valV kvs (Sum.inr z : Key) with
  | none => rw [addK_none h, putK_new _ h, List.length_append]; exact Nat.le_refl _
  | some v => rw [addK_some h]; omega
/-- all values are ints -/
def Nums (kvs : List (Key × V)) : Prop := ∀ (k : Key) (v : V), valV kvs k = some v → ∃ i : Int, v = .int i
theorem nums_nil : Nums [] := fun k v h => by cases h
theorem nums_add {kvs : List (Key × V)} (h : Nums kvs) (z : Str) : Nums (addK kvs z) := by
  cases e : valV kvs (Sum.inr z : Key) with
  | none =>
    rw [addK_none e]
    intro k v hv
    rw [valV_put] at hv
    split at hv
    · exact ⟨_, (Option.some.inj hv).symm⟩
    · exact h k v hv
  | some v => rw [addK_some e]; exact h
theorem addK_val {kvs : List (Key × V)} (h : Nums kvs) (z : Str) : ∃ i : Int, valV (addK kvs z) (Sum.inr z : Key) = some (.int i) := by
  cases e : valV kvs (Sum.inr z : Key) with
  | none => exact ⟨_, by rw [addK_none e, valV_put, if_pos rfl]⟩
  | some v =>
    obtain ⟨i, rfl⟩ := h _ _ e
    exact ⟨i, by rw [addK_some e]; exact e⟩
def getK (kvs : List (Key × V)) (z : Str) : V := (valV kvs (Sum.inr z : Key)).getD (.int 0)
theorem getK_int {kvs : List (Key × V)} (h : Nums kvs) (z : Str) : ∃ i : Int, getK kvs z = .int i := by
  unfold getK
  cases e : valV kvs (Sum.inr z : Key) with
  | none => exact ⟨0, rfl⟩
  | some v => exact h _ _ e
theorem szk {n : Nat} (h : n ≤ 1000) : n < sizeLine := small1000 h


/-! ### items and their written form -/
inductive It where
  | non
  | int (i : Int)
  | str (z : Str)
  | tup (xs : List It)
def numC (i : Int) : List Nat := (toString i : Str).cps.toList
mutual
/-- the codes of the written item -/
def encC : It → List Nat
  | .non => [110]
  | .int i => 105 :: (numC i ++ [59])
  | .str z => 116 :: (numC (z.length : Int) ++ (58 :: z.cps.toList))
  | .tup xs => 40 :: (encL xs ++ [41])
def encL : List It → List Nat
  | [] => []
  | d :: ds => encC d ++ encL ds
end
theorem encL_flat : ∀ ds : List It, encL ds = (ds.map encC).flatten
  | [] => rfl
  | d :: ds => by
    show encC d ++ encL ds = _
    rw [encL_flat ds, List.map_cons, List.flatten_cons]
theorem encL_app : ∀ a b : List It, encL (a ++ b) = encL a ++ encL b
  | [], b => rfl
  | x :: a, b => by
    show encC x ++ encL (a ++ b) = encC x ++ encL a ++ encL b
    rw [encL_app a b, List.append_assoc]
theorem encC_pos (d : It) : 1 ≤ (encC d).length := by
  cases d with
  | non => exact Nat.le_refl 1
  | int i => show 1 ≤ (105 :: _).length; simp
  | str z => show 1 ≤ (116 :: _).length; simp
  | tup xs => show 1 ≤ (40 :: _).length; simp
theorem encL_mem : ∀ {ds : List It} {d : It}, d ∈ ds → (encC d).length ≤ (encL ds).length
  | d' :: ds, d, h => by
    show _ ≤ (encC d' ++ encL ds).length
    rw [List.length_append]
    rcases List.mem_cons.mp h with e | e
    · rw [e]; omega
    · have := encL_mem e; omega
mutual
/-- the value v of the heap is the item -/
inductive Dv (K : PySem.W.Frag) (H : Hp) : V → It → Prop
  | non : Dv K H .non .non
  | int (i : Int) : Dv K H (.int i) (.int i)
  | str (z : Str) : Dv K H (.str z) (.str z)
  | tup {a : Addr} {xs : List V} {ds : List It} (h : SqT K H a xs) (r : DvL K H xs ds) : Dv K H (.ref a) (.tup ds)
inductive DvL (K : PySem.W.Frag) (H : Hp) : List V → List It → Prop
  | nil : DvL K H [] []
  | cons {v : V} {vs : List V} {d : It} {ds : List It} (h : Dv K H v d) (r : DvL K H vs ds) : DvL K H (v :: vs) (d :: ds)
end
/-- all but lists stands as it stood -/
def ExN (H H' : Hp) : Prop := ∀ a o, H a = some o → (∀ xs, o ≠ .lst xs) → H' a = some o
theorem exN_t {K : PySem.W.Frag} {H H' : Hp} {a : Addr} {xs : List V} (e : ExN H H') (h : SqT K H a xs) : SqT K H' a xs := by
  rcases h with (h | ⟨o, h⟩) | h
  · exact .inl (.inl (e _ _ h fun _ z => nomatch z))
  · exact .inl (.inr ⟨o, e _ _ h fun _ z => nomatch z⟩)
  · exact .inr h
theorem Ex.n {H H' : Hp} (e : Ex H H') : ExN H H' := fun a o h _ => e a o h
theorem ExN.trans {H H1 H2 : Hp} (a : ExN H H1) (b : ExN H1 H2) : ExN H H2 := fun x o h n => b x o (a x o h n) n
theorem ExN.upd {H : Hp} {p : Addr} {xs : List V} {o : HO} (h : H p = some (.lst xs)) : ExN H (upd H p o) := fun a u e n => by
  rw [upd_ne (fun z => n xs (by rw [z, h] at e; exact (Option.some.inj e).symm))]
  exact e
mutual
theorem Dv.monoN {K : PySem.W.Frag} {H H' : Hp} (e : ExN H H') : ∀ {v : V} {d : It}, Dv K H v d → Dv K H' v d
  | _, _, .non => .non
  | _, _, .int i => .int i
  | _, _, .str z => .str z
  | _, _, .tup h r => .tup (exN_t e h) (DvL.monoN e r)
theorem DvL.monoN {K : PySem.W.Frag} {H H' : Hp} (e : ExN H H') : ∀ {vs : List V} {ds : List It}, DvL K H vs ds → DvL K H' vs ds
  | _, _, .nil => .nil
  | _, _, .cons h r => .cons (Dv.monoN e h) (DvL.monoN e r)
end
theorem Dv.mono {K : PySem.W.Frag} {H H' : Hp} (e : Ex H H') {v : V} {d : It} (h : Dv K H v d) : Dv K H' v d := h.monoN (Ex.n e)
theorem DvL.mono {K : PySem.W.Frag} {H H' : Hp} (e : Ex H H') {vs : List V} {ds : List It} (h : DvL K H vs ds) : DvL K H' vs ds := h.monoN (Ex.n e)
theorem DvL.app {K : PySem.W.Frag} {H : Hp} : ∀ {vs us : List V} {ds es : List It}, DvL K H vs ds → DvL K H us es → DvL K H (vs ++ us) (ds ++ es)
  | _, _, _, _, .nil, h => h
  | _, _, _, _, .cons a r, h => .cons a (r.app h)
theorem DvL.take {K : PySem.W.Frag} {H : Hp} : ∀ {vs : List V} {ds : List It} (n : Nat), DvL K H vs ds → DvL K H (vs.take n) (ds.take n)
  | _, _, 0, _ => .nil
  | _, _, _ + 1, .nil => .nil
  | _, _, n + 1, .cons a r => .cons a (r.take n)
theorem DvL.drop {K : PySem.W.Frag} {H : Hp} : ∀ {vs : List V} {ds : List It} (n : Nat), DvL K H vs ds → DvL K H (vs.drop n) (ds.drop n)
  | _, _, 0, h => h
  | _, _, _ + 1, .nil => .nil
  | _, _, n + 1, .cons _ r => r.drop n
theorem DvL.len {K : PySem.W.Frag} {H : Hp} : ∀ {vs : List V} {ds : List It}, DvL K H vs ds → vs.length = ds.length
  | _, _, .nil => rfl
  | _, _, .cons _ r => congrArg (· + 1) r.len
theorem DvL.at {K : PySem.W.Frag} {H : Hp} : ∀ {vs : List V} {ds : List It}, DvL K H vs ds → ∀ {i : Nat} {v : V} {d : It}, vs[i]? = some v → ds[i]? = some d → Dv K H v d
  | _, _, .cons h _, 0, v, d, e1, e2 => by
    have e1 := Option.some.inj e1
    have e2 := Option.some.inj e2
    subst e1 e2
    exact h
  | _, _, .cons _ r, i + 1, v, d, e1, e2 => r.at (i := i) (by simpa using e1) (by simpa using e2)
/-- depth, width and sizes -/
def It.fit : Nat → It → Prop
  | 0, x => match x with
    | .non => True
    | .int i => -(10 ^ 60) < i ∧ i < 10 ^ 60
    | .str z => z.length ≤ 999999
    | .tup _ => False
  | n + 1, x => match x with
    | .non => True
    | .int i => -(10 ^ 60) < i ∧ i < 10 ^ 60
    | .str z => z.length ≤ 999999
    | .tup xs => xs.length ≤ 1000 ∧ ∀ y ∈ xs, It.fit n y
theorem log60 {i : Int} (h : -(10 ^ 60) < i ∧ i < 10 ^ 60) : i.natAbs.log2 < 1920 := by
  have e60 : (10 : Int) ^ 60 = 1000000000000000000000000000000000000000000000000000000000000 := by decide
  rw [e60] at h
  exact Nat.lt_of_lt_of_le (PySem.Flt.log2_lt_of (k := 256) (by decide) (by omega)) (by decide)
theorem fit_int60 {n : Nat} {i : Int} (h : It.fit n (.int i)) : -(10 ^ 60) < i ∧ i < 10 ^ 60 := by cases n <;> exact h
theorem fit_int {n : Nat} {i : Int} (h : It.fit n (.int i)) : i.natAbs.log2 < 1920 := log60 (fit_int60 h)
theorem fit_str {n : Nat} {z : Str} (h : It.fit n (.str z)) : z.length ≤ 999999 := by cases n <;> exact h
theorem It.fit_mono : ∀ {n m : Nat} {d : It}, It.fit n d → n ≤ m → It.fit m d
  | n, m, .non, _, _ => by cases m <;> trivial
  | n, m, .int i, h, _ => by
    have := fit_int60 h
    cases m <;> exact this
  | n, m, .str z, h, _ => by
    have := fit_str h
    cases m <;> exact this
  | 0, m, .tup xs, h, _ => h.elim
  | n + 1, 0, .tup xs, h, e => by omega
  | n + 1, m + 1, .tup xs, h, e => ⟨h.1, fun y hy => It.fit_mono (h.2 y hy) (by omega)⟩
def spEnc (K : PySem.W.Frag) (n : Nat) : Sp := fun vs H Q _ => ∃ (v : V) (d : It), vs = [v] ∧ Dv K H v d ∧ d.fit n ∧ (encC d).length ≤ 16000000 ∧ ∀ H', Ex H H' → Q (.str ⟨(encC d).toArray⟩) H'
theorem cv_enc {K : PySem.W.Frag} {n : Nat} {v : V} {d : It} {H : Hp} (h : Dv K H v d) (hf : d.fit n) (hz : (encC d).length ≤ 16000000) : SpV (spEnc K n) [v] H (.str ⟨(encC d).toArray⟩) := fun H1 e Q q E => ⟨v, d, rfl, h.mono e, hf, hz, fun H2 e2 => q H2 e2⟩
/-- '(' + ''.join([f(part) for part in item]) + ')' -/
theorem ev_parts {K : PySem.W.Frag} {σ : L2.St} {H : Hp} {te tl : TE} {j : Nat} {vs : List Nat} {a : Addr} {xs : List V} {ds : List It} {n : Nat} (hl : Ev tl σ H (.ref a)) (h : SqT K H a xs) (r : DvL K H xs ds) (hf : It.fit (n + 1) (.tup ds)) (hz : (encC (.tup ds)).length ≤ 16000000)
    (hw : ∀ x, wipe ((wipe σ vs).set j (some x)) vs = wipe σ vs)
    (he : ∀ (x : V) (d : It) H1, Ex H H1 → Dv K H1 x d → d.fit n → (encC d).length ≤ 16000000 → Ev te ((wipe σ vs).set j (some x)) H1 (.str ⟨(encC d).toArray⟩)) :
    Ev (tOp (fun x y H Q => ∃ i j, x = V.str i ∧ y = V.str j ∧ i.length + j.length ≤ sizeLine ∧ Q (.str (i ++ j)) H) (tOp (fun x y H Q => ∃ i j, x = V.str i ∧ y = V.str j ∧ i.length + j.length ≤ sizeLine ∧ Q (.str (i ++ j)) H) (tC (.str (Str.ofString "(")))
      (tM1 (fun x xs H Q => ∃ a p, ∃ ys : List Str, x = .str a ∧ xs = [.ref p] ∧ (SqL K H p (ys.map V.str) ∨ SqT K H p (ys.map V.str)) ∧ (ys.map (·.length)).sum + ys.length * a.length ≤ 16777216 ∧ Q (.str (Txt.join a ys)) H) (tC (.str (Str.ofString ""))) (tLc (iTup K tl) (gName j) tYes te vs)))
      (tC (.str (Str.ofString ")")))) σ H (.str ⟨(encC (.tup ds)).toArray⟩) := by
  have ez : (encC (.tup ds)).length = (encL ds).length + 2 := by
    show (40 :: (encL ds ++ [41])).length = _
    rw [List.length_cons, List.length_append] <;> rfl
  have ef : (encL ds) = (ds.map encC).flatten := encL_flat ds
  have ej : Txt.join (Str.ofString "") ((ds.map encC).map fun c => (⟨c.toArray⟩ : Str)) = ⟨(encL ds).toArray⟩ := by rw [join_codes, ef]
  have e1 : (⟨(encC (.tup ds)).toArray⟩ : Str) = Str.ofString "(" ++ Txt.join (Str.ofString "") ((ds.map encC).map fun c => (⟨c.toArray⟩ : Str)) ++ Str.ofString ")" := by
    refine str_ext ?_
    rw [ej]
    have a1 : (Str.ofString "(").cps.toList = [40] := by decide +kernel
    have a2 : (Str.ofString ")").cps.toList = [41] := by decide +kernel
    rw [codes_app (codes_app a1 rfl) a2]
    show 40 :: (encL ds ++ [41]) = _
    simp
  rw [e1]
  have l1 : (Str.ofString "(").length = 1 := by decide +kernel
  have l2 : (Str.ofString ")").length = 1 := by decide +kernel
  have l3 : (Str.ofString "(" ++ Txt.join (Str.ofString "") ((ds.map encC).map fun c => (⟨c.toArray⟩ : Str))).length = 1 + (encL ds).length := by
    rw [ej, str_len, codes_app (x := [40]) (by decide +kernel) rfl, List.length_append]
    simp
  have l4 : (Txt.join (Str.ofString "") ((ds.map encC).map fun c => (⟨c.toArray⟩ : Str))).length = (encL ds).length := by
    rw [ej, str_len]
  refine ev_addS (ev_addS ev_c (ev_joinN (K := K) ev_c (el_mapT (K := K) hl h ?_ hw ?_ fun i x y hx hy H1 ex => ?_) ?_) ?_) ev_c ?_
  · have := hf.1
    rw [r.len]; omega
  · rw [List.length_map, List.length_map, List.length_map, r.len]
  · rw [List.getElem?_map, List.getElem?_map, List.getElem?_map] at hy
    cases e : ds[i]? with
    | none =>
      rw [e] at hy
      cases hy
    | some d =>
      rw [e] at hy
      have ey : y = .str ⟨(encC d).toArray⟩ := (Option.some.inj hy).symm
      have hm := List.mem_of_getElem? e
      rw [ey]
      have := encL_mem hm
      exact he x d H1 ex ((r.at hx e).mono ex) (hf.2 d hm) (by omega)
  · rw [sum_codes, ← ef]
    show _ + _ * 0 ≤ 16777216
    omega
  · rw [l1, l4]; omega
  · rw [l3, l2]; omega
/-- return f'i{item};' -/
theorem enc_int {n : Nat} {i : Int} {σ : L2.St} {H : Hp} {D : Ends} (hf : It.fit n (.int i)) (hz : (encC (.int i)).length ≤ 16000000) (q : ∀ H1, Ex H H1 → D.rt (.str ⟨(encC (.int i)).toArray⟩) H1) {te : TE} (he : Ev te σ H (.int i) := by exact ev_var rfl) :
    tRet (fun σ H Q => tJs [tC (.str (Str.ofString "i")), tFmt te, tC (.str (Str.ofString ";"))] Str.empty σ H fun out H1 => Q (.str out) H1) D σ H := by
  have a1 : (Str.ofString "i").cps.toList = [105] := by decide +kernel
  have a2 : (Str.ofString ";").cps.toList = [59] := by decide +kernel
  have a0 : (Str.empty).cps.toList = [] := by decide +kernel
  have ey : ([Str.ofString "i", (toString i : Str), Str.ofString ";"].foldl (· ++ ·) Str.empty : Str) = ⟨(encC (.int i)).toArray⟩ := mk_of (by
    show (((Str.empty ++ Str.ofString "i") ++ (toString i : Str)) ++ Str.ofString ";").cps.toList = _
    rw [codes_app (codes_app (codes_app a0 a1) rfl) a2]
    show _ = 105 :: (numC i ++ [59])
    simp [numC])
  refine s_ret (ev_is (ev_joined (.cons ev_c (.cons (ev_fmtI he (fit_int hf)) (.cons ev_c .nil))) ?_) (congrArg V.str ey)) q
  have e1 : (encC (.int i)).length = 2 + (numC i).length := by
    show (105 :: (numC i ++ [59])).length = _
    rw [List.length_cons, List.length_append, List.length_singleton]
    omega
  have e2 : ([Str.ofString "i", (toString i : Str), Str.ofString ";"].map (·.length)).sum = 1 + ((numC i).length + (1 + 0)) := by
    show (Str.ofString "i").length + ((toString i : Str).length + ((Str.ofString ";").length + 0)) = _
    rw [str_len, str_len, str_len, a1, a2] <;> rfl
  omega
/-- return f't{len(item)}:{item}' -/
theorem enc_str {n : Nat} {z : Str} {σ : L2.St} {H : Hp} {D : Ends} (hf : It.fit n (.str z)) (hz : (encC (.str z)).length ≤ 16000000) (q : ∀ H1, Ex H H1 → D.rt (.str ⟨(encC (.str z)).toArray⟩) H1) {te : TE} (he : Ev te σ H (.str z) := by exact ev_var rfl) :
    tRet (fun σ H Q => tJs [tC (.str (Str.ofString "t")), tFmt (tCB (fun xs H Q => ∃ z, xs = [V.str z] ∧ z.length ≤ sizeLine ∧ Q (.int z.length) H) (tCons te tNil)), tC (.str (Str.ofString ":")), tFmt te] Str.empty σ H fun out H1 => Q (.str out) H1) D σ H := by
  have a1 : (Str.ofString "t").cps.toList = [116] := by decide +kernel
  have a2 : (Str.ofString ":").cps.toList = [58] := by decide +kernel
  have a0 : (Str.empty).cps.toList = [] := by decide +kernel
  have hl := fit_str hf
  have hl2 : z.length ≤ sizeLine := sizeOk (by omega)
  have hs : ((z.length : Int)).natAbs.log2 < 1920 := Nat.lt_of_lt_of_le (PySem.Flt.log2_lt_of (k := 64) (by decide) (by omega)) (by decide)
  have ey : ([Str.ofString "t", (toString (z.length : Int) : Str), Str.ofString ":", z].foldl (· ++ ·) Str.empty : Str) = ⟨(encC (.str z)).toArray⟩ := mk_of (by
    show ((((Str.empty ++ Str.ofString "t") ++ (toString (z.length : Int) : Str)) ++ Str.ofString ":") ++ z).cps.toList = _
    rw [codes_app (codes_app (codes_app (codes_app a0 a1) rfl) a2) rfl]
    show _ = 116 :: (numC (z.length : Int) ++ (58 :: z.cps.toList))
    simp [numC])
  refine s_ret (ev_is (ev_joined (.cons ev_c (.cons (ev_fmtI (fun H1 e Q q => he H1 e _ fun H2 e2 => ⟨z, rfl, hl2, q H2 e2⟩) hs) (.cons ev_c (.cons (ev_fmtS he (by omega)) .nil)))) ?_) (congrArg V.str ey)) q
  have e1 : (encC (.str z)).length = 2 + (numC (z.length : Int)).length + z.cps.toList.length := by
    show (116 :: (numC (z.length : Int) ++ (58 :: z.cps.toList))).length = _
    rw [List.length_cons, List.length_append, List.length_cons]
    omega
  have e2 : ([Str.ofString "t", (toString (z.length : Int) : Str), Str.ofString ":", z].map (·.length)).sum = 1 + ((numC (z.length : Int)).length + (1 + (z.cps.toList.length + 0))) := by
    show (Str.ofString "t").length + ((toString (z.length : Int) : Str).length + ((Str.ofString ":").length + (z.length + 0))) = _
    rw [str_len, str_len (toString _ : Str), str_len (Str.ofString ":"), str_len z, a1, a2] <;> rfl
  omega

def rCatS' : R2 := fun x y H Q => ∃ i j, x = V.str i ∧ y = V.str j ∧ i.length + j.length ≤ sizeLine ∧ Q (.str (i ++ j)) H
/-- return 'i' + str(item) + ';' -/
theorem wr_int {n : Nat} {i : Int} {σ : L2.St} {H : Hp} {D : Ends} (hf : It.fit n (.int i)) (hz : (encC (.int i)).length ≤ 16000000) (q : ∀ H1, Ex H H1 → D.rt (.str ⟨(encC (.int i)).toArray⟩) H1) {te : TE} (he : Ev te σ H (.int i) := by exact ev_var rfl) :
    tRet (tOp rCatS' (tOp rCatS' (tC (.str (Str.ofString "i"))) (tCB (fun xs H Q => ∃ i : Int, xs = [V.int i] ∧ i.natAbs.log2 < 1920 ∧ Q (.str (toString i)) H) (tCons te tNil))) (tC (.str (Str.ofString ";")))) D σ H := by
  have a1 : (Str.ofString "i").cps.toList = [105] := by decide +kernel
  have a2 : (Str.ofString ";").cps.toList = [59] := by decide +kernel
  have ey : ((Str.ofString "i" ++ (toString i : Str)) ++ Str.ofString ";") = (⟨(encC (.int i)).toArray⟩ : Str) := mk_of (by
    rw [codes_app (codes_app a1 rfl) a2]
    show _ = 105 :: (numC i ++ [59])
    simp [numC])
  have e1 : (encC (.int i)).length = 2 + (numC i).length := by
    show (105 :: (numC i ++ [59])).length = _
    rw [List.length_cons, List.length_append, List.length_singleton]
    omega
  have e3 : (toString i : Str).length = (numC i).length := str_len _
  have e2 : (Str.ofString "i" ++ (toString i : Str)).length = 1 + (numC i).length := by
    rw [str_len, codes_app a1 rfl, List.length_append] <;> rfl
  have l1 : (Str.ofString "i").length = 1 := by decide +kernel
  have l2 : (Str.ofString ";").length = 1 := by decide +kernel
  refine s_ret (ev_is (ev_addS (ev_addS ev_c (ev_strI he (fit_int hf)) ?_) ev_c ?_) (congrArg V.str ey)) q
  · rw [l1, e3]; omega
  · rw [e2, l2]; omega
/-- return 't' + str(len(item)) + ':' + item -/
theorem wr_str {n : Nat} {z : Str} {σ : L2.St} {H : Hp} {D : Ends} (hf : It.fit n (.str z)) (hz : (encC (.str z)).length ≤ 16000000) (q : ∀ H1, Ex H H1 → D.rt (.str ⟨(encC (.str z)).toArray⟩) H1) {te : TE} (he : Ev te σ H (.str z) := by exact ev_var rfl) :
    tRet (tOp rCatS' (tOp rCatS' (tOp rCatS' (tC (.str (Str.ofString "t"))) (tCB (fun xs H Q => ∃ i : Int, xs = [V.int i] ∧ i.natAbs.log2 < 1920 ∧ Q (.str (toString i)) H) (tCons (tCB (fun xs H Q => ∃ z, xs = [V.str z] ∧ z.length ≤ sizeLine ∧ Q (.int z.length) H) (tCons te tNil)) tNil))) (tC (.str (Str.ofString ":")))) te) D σ H := by
  have a1 : (Str.ofString "t").cps.toList = [116] := by decide +kernel
  have a2 : (Str.ofString ":").cps.toList = [58] := by decide +kernel
  have hl := fit_str hf
  have hl2 : z.length ≤ sizeLine := sizeOk (by omega)
  have hs : ((z.length : Int)).natAbs.log2 < 1920 := Nat.lt_of_lt_of_le (PySem.Flt.log2_lt_of (k := 64) (by decide) (by omega)) (by decide)
  have ey : (((Str.ofString "t" ++ (toString (z.length : Int) : Str)) ++ Str.ofString ":") ++ z) = (⟨(encC (.str z)).toArray⟩ : Str) := mk_of (by
    rw [codes_app (codes_app (codes_app a1 rfl) a2) rfl]
    show _ = 116 :: (numC (z.length : Int) ++ (58 :: z.cps.toList))
    simp [numC])
  have e1 : (encC (.str z)).length = 2 + (numC (z.length : Int)).length + z.cps.toList.length := by
    show (116 :: (numC (z.length : Int) ++ (58 :: z.cps.toList))).length = _
    rw [List.length_cons, List.length_append, List.length_cons]
    omega
  have e3 : (toString (z.length : Int) : Str).length = (numC (z.length : Int)).length := str_len _
  have e2 : (Str.ofString "t" ++ (toString (z.length : Int) : Str)).length = 1 + (numC (z.length : Int)).length := by
    rw [str_len, codes_app a1 rfl, List.length_append] <;> rfl
  have e4 : ((Str.ofString "t" ++ (toString (z.length : Int) : Str)) ++ Str.ofString ":").length = 2 + (numC (z.length : Int)).length := by
    rw [str_len, codes_app (codes_app a1 rfl) a2, List.length_append, List.length_append]
    show 1 + _ + 1 = _
    unfold numC
    omega
  have l1 : (Str.ofString "t").length = 1 := by decide +kernel
  have l2 : (Str.ofString ":").length = 1 := by decide +kernel
  have l4 := str_len z
  refine s_ret (ev_is (ev_addS (ev_addS (ev_addS ev_c (ev_strI (fun H1 e Q q => he H1 e _ fun H2 e2 => ⟨z, rfl, hl2, q H2 e2⟩) hs) ?_) ev_c ?_) he ?_) (congrArg V.str ey)) q
  · rw [l1, e3]; omega
  · rw [e2, l2]; omega
  · rw [e4]; omega
/-! ### sizes -/
theorem numC_len {i : Int} (h : i.natAbs.log2 < 1920) : (numC i).length ≤ 1921 := by
  have e := int_text_length_le (k := 1920) (by decide) h
  have e2 : (numC i).length = (toString i : Str).length := (str_len _).symm
  rw [e2]
  show (Str.ofString (toString i)).length ≤ 1921
  rw [PySem.ofString_length]
  exact e
theorem enc_int_len {i : Int} (h : i.natAbs.log2 < 1920) : (encC (.int i)).length ≤ 1923 := by
  have := numC_len h
  show (105 :: (numC i ++ [59])).length ≤ _
  rw [List.length_cons, List.length_append, List.length_singleton]
  omega
theorem enc_str_len {z : Str} (h : z.length ≤ 1000000) : (encC (.str z)).length ≤ 1923 + z.length := by
  have hs : ((z.length : Int)).natAbs.log2 < 1920 := Nat.lt_of_lt_of_le (PySem.Flt.log2_lt_of (k := 64) (by decide) (by omega)) (by decide)
  have := numC_len hs
  have e := str_len z
  show (116 :: (numC (z.length : Int) ++ (58 :: z.cps.toList))).length ≤ _
  rw [List.length_cons, List.length_append, List.length_cons]
  omega
/-- a value of the document: None, an int below 10 ** 60, a text of some signs -/
def It.sc : It → Prop
  | .non => True
  | .int i => -(10 ^ 60) < i ∧ i < 10 ^ 60
  | .str z => z.length ≤ 200
  | .tup _ => False
def vz : It → V
  | .non => .non
  | .int i => .int i
  | .str z => .str z
  | .tup _ => .non
theorem It.sc_fit {d : It} (h : d.sc) (n : Nat) : d.fit n := by
  cases d with
  | non => cases n <;> trivial
  | int i => cases n <;> exact h
  | str z =>
    have h : z.length ≤ 200 := h
    cases n <;> (show z.length ≤ 999999; omega)
  | tup xs => exact h.elim
theorem It.sc_len {d : It} (h : d.sc) : (encC d).length ≤ 2200 := by
  cases d with
  | non => show 1 ≤ 2200; decide
  | int i => exact Nat.le_trans (enc_int_len (log60 h)) (by decide)
  | str z =>
    have h : z.length ≤ 200 := h
    have := enc_str_len (z := z) (by omega)
    omega
  | tup xs => exact h.elim
theorem Dv.sc {K : PySem.W.Frag} {H : Hp} {d : It} (h : d.sc) : Dv K H (vz d) d := by
  cases d with
  | non => exact .non
  | int i => exact .int i
  | str z => exact .str z
  | tup xs => exact h.elim
theorem DvL.sc {K : PySem.W.Frag} {H : Hp} : ∀ {ds : List It}, (∀ d ∈ ds, d.sc) → DvL K H (ds.map vz) ds
  | [], _ => .nil
  | d :: ds, h => .cons (.sc (h d (List.mem_cons_self ..))) (.sc fun x hx => h x (List.mem_cons_of_mem _ hx))
theorem encL_len : ∀ {ds : List It} {m : Nat}, (∀ d ∈ ds, (encC d).length ≤ m) → (encL ds).length ≤ ds.length * m
  | [], m, _ => Nat.zero_le _
  | d :: ds, m, h => by
    have h1 := h d (List.mem_cons_self ..)
    have h2 := encL_len (ds := ds) (m := m) fun x hx => h x (List.mem_cons_of_mem _ hx)
    show (encC d ++ encL ds).length ≤ (ds.length + 1) * m
    rw [List.length_append, Nat.add_mul]
    omega
theorem enc_tup_len (ds : List It) : (encC (.tup ds)).length = (encL ds).length + 2 := by
  show (40 :: (encL ds ++ [41])).length = _
  rw [List.length_cons, List.length_append] <;> rfl


/-- the digest -/
def digS (t : Int) (c : Nat) : Int := (31 * t + (c : Int)) % 1000003
def digZ (l : List Nat) : Int := l.foldl digS 7
theorem digZ_succ {l : List Nat} {i c : Nat} (h : l[i]? = some c) : digZ (l.take (i + 1)) = (31 * digZ (l.take i) + (c : Int)) % 1000003 := by
  unfold digZ
  rw [List.take_add_one, h]
  show ((l.take i) ++ [c]).foldl digS 7 = _
  rw [List.foldl_append] <;> rfl
theorem digZ_ge : ∀ (l : List Nat), 0 ≤ digZ l ∧ digZ l < 1000003 := by
  intro l
  unfold digZ
  have key : ∀ (l : List Nat) (t : Int), 0 ≤ t ∧ t < 1000003 → 0 ≤ l.foldl digS t ∧ l.foldl digS t < 1000003 := by
    intro l
    induction l with
    | nil => exact fun t h => h
    | cons a r ih => exact fun t _ => ih (digS t a) ⟨Int.emod_nonneg (31 * t + (a : Int)) (by decide : (1000003 : Int) ≠ 0), Int.emod_lt_of_pos (31 * t + (a : Int)) (by decide : (0 : Int) < 1000003)⟩
  exact key l 7 ⟨by decide, by decide⟩
def spDig : Sp := fun vs H Q _ => ∃ z : Str, vs = [.str z] ∧ ∀ H', Ex H H' → Q (.int (digZ z.cps.toList)) H'
theorem cv_dig {z : Str} {H : Hp} : SpV spDig [.str z] H (.int (digZ z.cps.toList)) := fun H1 e Q q E => ⟨z, rfl, fun H2 e2 => q H2 e2⟩


/-! ### what is read back -/
theorem numC_nat (n : Nat) : numC ((n : Nat) : Int) = TL.numL n := TL.tl_num n
theorem neg_text (n : Nat) : (toString (Int.negSucc n) : String) = "-" ++ toString ((n + 1 : Nat) : Int) := rfl
theorem ofString_app (a b : String) : Str.ofString (a ++ b) = Str.ofString a ++ Str.ofString b := by
  refine str_ext ?_
  rw [codes_app (signs_ofString a) (signs_ofString b), signs_ofString, String.toList_append, List.map_append]
theorem numC_neg (n : Nat) : numC (Int.negSucc n) = 45 :: TL.numL (n + 1) := by
  show (Str.ofString (toString (Int.negSucc n))).cps.toList = _
  rw [neg_text, ofString_app, codes_app (x := [45]) (by decide +kernel) rfl]
  exact congrArg (List.cons 45) (numC_nat (n + 1))
/-- digits without a leading zero -/
structure Digs (ds : List Nat) (most : Nat) : Prop where
  all : ∀ c ∈ ds, 48 ≤ c ∧ c ≤ 57
  ne : ds ≠ []
  len : ds.length ≤ most
  lead : ds.length = 1 ∨ ds.head? ≠ some 48
theorem numL_head : ∀ n : Nat, (TL.numL n).length = 1 ∨ (TL.numL n).head? ≠ some 48 := by
  intro n
  induction n using Nat.strongRecOn with
  | _ n ih =>
    by_cases h : n < 10
    · exact .inl (by rw [TL.numL_lt h] <;> rfl)
    · refine .inr ?_
      have h10 : 10 ≤ n := by omega
      rw [TL.numL_step h10]
      have hne := TL.numL_ne (n / 10)
      cases e : TL.numL (n / 10) with
      | nil => exact absurd e hne
      | cons c r =>
        show some c ≠ some 48
        rcases ih (n / 10) (by omega) with h1 | h1
        · rw [e] at h1
          have hr : r = [] := List.length_eq_zero_iff.mp (by simpa using h1)
          subst hr
          have hq : n / 10 < 10 := by
            by_cases hq : n / 10 < 10
            · exact hq
            · rw [TL.numL_step (by omega)] at e
              have := congrArg List.length e
              have h3 := List.length_pos_iff.mpr (TL.numL_ne (n / 10 / 10))
              rw [List.length_append, List.length_singleton, List.length_singleton] at this
              omega
          rw [TL.numL_lt hq] at e
          have e2 : 48 + n / 10 = c := by simpa using e
          intro z
          have := Option.some.inj z
          omega
        · rw [e] at h1
          exact h1
theorem digs_num {n most : Nat} (hm : 0 < most) (h : n < 10 ^ most) : Digs (TL.numL n) most := ⟨TL.numL_digits n, TL.numL_ne n, TL.numL_len hm h, numL_head n⟩
theorem slice_app {l a b c : List Nat} (h : l = a ++ (b ++ c)) : (l.drop a.length).take b.length = b := by
  rw [h, List.drop_left, List.take_left]
/-- text[i:j] of a text that is known there -/
theorem cutS_at {z : Str} {a b c : List Nat} (h : z.cps.toList = a ++ (b ++ c)) : cutS z (some (a.length : Int)) (some ((a.length + b.length : Nat) : Int)) = ⟨b.toArray⟩ := by
  have el : z.length = a.length + (b.length + c.length) := by rw [str_len, h, List.length_append, List.length_append]
  unfold cutS
  rw [HT.sIx_nat, HT.sIx_nat, Nat.min_eq_left (by omega), Nat.min_eq_left (by omega), Nat.add_sub_cancel_left, slice_app h]
theorem int_at {i : Int} (h : -(10 ^ 60) < i ∧ i < 10 ^ 60) : intText? (⟨(numC i).toArray⟩ : Str) = some i ∧ (⟨(numC i).toArray⟩ : Str).length ≤ 640 := by
  have e60 : (10 : Int) ^ 60 = 1000000000000000000000000000000000000000000000000000000000000 := by decide
  have n60 : (10 : Nat) ^ 60 = 1000000000000000000000000000000000000000000000000000000000000 := by decide
  rw [e60] at h
  cases i with
  | ofNat n =>
    have hn : n < 10 ^ 60 := by
      rw [n60]
      have := h.2
      simp at this
      omega
    have hl := TL.numL_len (by decide) hn
    have e : (⟨(numC (Int.ofNat n)).toArray⟩ : Str) = Str.ofString (toString ((n : Nat) : Int)) := str_ext rfl
    refine ⟨?_, ?_⟩
    · rw [e]
      exact TL.int_num (by omega)
    · rw [str_len]
      show (numC ((n : Nat) : Int)).length ≤ 640
      rw [numC_nat]
      omega
  | negSucc n =>
    have hn : n + 1 < 10 ^ 60 := by
      rw [n60]
      have := h.1
      omega
    have hl := TL.numL_len (by decide) hn
    have ec : (⟨(numC (Int.negSucc n)).toArray⟩ : Str).cps.toList = 45 :: TL.numL (n + 1) := numC_neg n
    have ln : (⟨(numC (Int.negSucc n)).toArray⟩ : Str).length = (TL.numL (n + 1)).length + 1 := by rw [str_len, ec] <;> rfl
    refine ⟨?_, by omega⟩
    have := PySem.intText_neg ec (TL.numL_digits _) (TL.numL_ne _) (by omega)
    rw [TL.numL_val] at this
    rw [this]
    exact congrArg some (by omega)
/-! ### a chain of two comparisons of texts -/
theorem le_str1 (a c : Nat) : (!decide ((⟨#[c]⟩ : Str).cps.toList < (⟨#[a]⟩ : Str).cps.toList)) = decide (a ≤ c) := by
  have e : ((⟨#[c]⟩ : Str).cps.toList < (⟨#[a]⟩ : Str).cps.toList) ↔ c < a := by
    show ([c] : List Nat) < [a] ↔ c < a
    constructor
    · intro h
      cases h with
      | rel h => exact h
      | cons h => cases h
    · intro h
      exact List.Lex.rel h
  by_cases h : c < a
  · rw [decide_eq_true (e.mpr h), decide_eq_false (by omega)] <;> rfl
  · rw [decide_eq_false (fun z => h (e.mp z)), decide_eq_true (by omega)] <;> rfl
abbrev rLeS : R2 := fun x y H Q => ∃ i j, x = .str i ∧ y = .str j ∧ Q (.bl (!decide (j.cps.toList < i.cps.toList))) H
theorem et_dig {σ : L2.St} {H : Hp} {tb : TE} {c : Nat} (hb : Ev tb σ H (.str ⟨#[c]⟩)) : EvT (tTest (tChain rLeS rLeS (tC (.str (Str.ofString "0"))) tb (tC (.str (Str.ofString "9"))))) σ H (decide (48 ≤ c ∧ c ≤ 57)) := fun H1 e Q q => by
  have e0 : (Str.ofString "0") = ⟨#[48]⟩ := by decide +kernel
  have e9 : (Str.ofString "9") = ⟨#[57]⟩ := by decide +kernel
  refine hb H1 e _ fun H2 e2 => ⟨_, _, rfl, rfl, decide (48 ≤ c), ?_, ?_⟩
  · rw [e0]
    exact congrArg V.bl (le_str1 48 c)
  · by_cases h : 48 ≤ c
    · rw [decide_eq_true h]
      refine iteT ⟨_, _, rfl, rfl, decide (c ≤ 57), ?_, ?_⟩
      · rw [e9]
        exact congrArg V.bl (le_str1 c 57)
      · have : decide (48 ≤ c ∧ c ≤ 57) = decide (c ≤ 57) := decide_eq_decide.mpr ⟨fun z => z.2, fun z => ⟨h, z⟩⟩
        rw [← this]
        exact q H2 e2
    · rw [decide_eq_false h]
      refine iteF ⟨false, rfl, ?_⟩
      have : decide (48 ≤ c ∧ c ≤ 57) = false := decide_eq_false fun z => h z.1
      rw [← this]
      exact q H2 e2
theorem str1_eq {a c : Nat} : decide ((⟨#[c]⟩ : Str) = ⟨#[a]⟩) = decide (c = a) := decide_eq_decide.mpr ⟨fun h => by
  have := congrArg (fun s : Str => s.cps.toList) h
  simpa using this, fun h => by rw [h]⟩
def spDec (K : PySem.W.Frag) : Sp := fun vs H Q _ => ∃ (z : Str) (d : It), vs = [.str z] ∧ z = ⟨(encC d).toArray⟩ ∧ d.fit 12 ∧ (encC d).length ≤ 16000000 ∧ ∀ v H', Ex H H' → Dv K H' v d → Q v H'


/-! ### kinds -/
def kIn (k : Str) (xs : List String) : Bool := inV (.str k) (xs.map fun x => V.str (Str.ofString x))
def baseT (k : Str) : Str := if kIn k ["int", "int?"] then Str.ofString "int" else Str.ofString "text"
theorem ev_kinU {K : PySem.W.Frag} {σ : L2.St} {H : Hp} {ta tb : TE} {k : Str} {xs : List String} (ha : Ev ta σ H (.str k)) (hb : EvU tb σ H (xs.map fun x => V.str (Str.ofString x))) (hf : (xs.map fun x => V.str (Str.ofString x)).all flatV = true := by rfl) : Ev (tOp (rIn K false) ta tb) σ H (.bl (kIn k xs)) := ev_inU ha hb rfl hf
theorem ev_kinL {K : PySem.W.Frag} {σ : L2.St} {H : Hp} {ta tb : TE} {k : Str} {xs : List String} (ha : Ev ta σ H (.str k)) (hb : EvL tb σ H (xs.map fun x => V.str (Str.ofString x))) (hf : (xs.map fun x => V.str (Str.ofString x)).all flatV = true := by rfl) : Ev (tOp (rIn K false) ta tb) σ H (.bl (kIn k xs)) := ev_opL ha hb fun _ _ h _ => rv_isL (sq_of h) rfl hf
/-- None, an integer or a text -/
inductive Sc : V → Prop
  | non : Sc .non
  | int (i : Int) : Sc (.int i)
  | str (z : Str) : Sc (.str z)
def accB (k : Str) : V → Bool
  | .non => kIn k ["int?", "text?"]
  | .int _ => decide (baseT k = Str.ofString "int")
  | _ => !decide (baseT k = Str.ofString "int")


/-! ### names: a comprehension over a text, all, chains -/
theorem el_lcS {σ : L2.St} {H : Hp} {te tl : TE} {z : Str} {j : Nat} {vs : List Nat} {ys : List V} (h : Ev te σ H (.str z)) (hz : z.cps.toList.length ≤ 40000) (hw : ∀ x, wipe ((wipe σ vs).set j (some x)) vs = wipe σ vs) (hl : ys.length = z.cps.toList.length)
    (he : ∀ (i c : Nat) (y : V), z.cps.toList[i]? = some c → ys[i]? = some y → ∀ H1, Ex H H1 → Ev tl ((wipe σ vs).set j (some (.str ⟨#[c]⟩))) H1 y) : EvL (tLc (iStr te) (gName j) tYes tl vs) σ H ys := fun H0 e Q q => h H0 e _ fun H1 e1 => ⟨z, rfl, fun D hD => by
  have g : given z.cps.toList.length (fun _ => true) (fun i => ys.getD i .non) = ys := given_all hl fun i hi => by
    have hi2 : i < ys.length := by omega
    rw [List.getElem?_eq_getElem hi2, List.getD_eq_getElem?_getD, List.getElem?_eq_getElem hi2] <;> rfl
  refine ⟨fun i m H' => m = z.cps.toList.length - i ∧ i ≤ z.cps.toList.length ∧ Cw H1 (fun _ => true) (fun i => ys.getD i .non) D i H', ⟨_, rfl, Nat.zero_le _, hD, Ex.new hD, upd_same⟩, ?_⟩
  rintro i m H' ⟨rfl, hi, p⟩
  by_cases hlt : i < z.cps.toList.length
  · refine .inr ⟨(by show i < z.cps.size; simpa using hlt), Cw H1 (fun _ => true) (fun i => ys.getD i .non) D (i + 1), fun H2 p2 => ⟨_, by omega, rfl, hlt, p2⟩, fun x H2 y => ?_⟩
    obtain ⟨rfl, c, hc, rfl⟩ := y
    have hc' : z.cps.toList[i]? = some c := by simpa using hc
    have hi2 : i < ys.length := by omega
    have hy : ys[i]? = some (ys.getD i .non) := by rw [List.getElem?_eq_getElem hi2, List.getD_eq_getElem?_getD, List.getElem?_eq_getElem hi2] <;> rfl
    exact ⟨hw _, cw_turn p (by omega) (fun H3 e3 Q q => q H3 (Ex.refl H3)) fun _ => (he i c _ hc' hy H1 (e.trans e1))⟩
  · have ei : i = z.cps.toList.length := by omega
    subst ei
    refine .inl ⟨(by show z.cps.size ≤ z.cps.toList.length; simp), ?_⟩
    have p2 := p.2.2
    rw [g] at p2
    exact q D H' (fresh_back e1 p.1) (e1.trans p.2.1) p2⟩
theorem ev_allN {K : PySem.W.Frag} {σ : L2.St} {H : Hp} {te : TE} {bs : List Bool} (h : EvL te σ H (bs.map V.bl)) : Ev (tCB (rAll K) (tCons te tNil)) σ H (.bl (bs.all id)) := fun H1 e Q q =>
  h H1 e _ fun p H2 _ e2 hp => ⟨p, bs, rfl, sq_of hp, q H2 e2⟩
theorem ev_chainI {f g : Int → Int → V} {σ : L2.St} {H : Hp} {tb : TE} {i j k : Int} {a b : Bool} (hb : Ev tb σ H (.int j)) (hf : f i j = .bl a) (hg : g j k = .bl b) : Ev (tChain (rI0 f) (rI0 g) (tC (.int i)) tb (tC (.int k))) σ H (.bl (a && b)) := fun H1 e Q q =>
  hb H1 e _ fun H2 e2 => ⟨i, j, rfl, rfl, a, hf, by
    cases a with
    | true => exact iteT ⟨j, k, rfl, rfl, by rw [hg]; exact q H2 e2⟩
    | false => exact iteF (q H2 e2)⟩
theorem ev_chainS {σ : L2.St} {H : Hp} {tb : TE} {x y c : Nat} {sx sy : Str} (hx : sx = ⟨#[x]⟩) (hy : sy = ⟨#[y]⟩) (hb : Ev tb σ H (.str ⟨#[c]⟩)) : Ev (tChain rLeS rLeS (tC (.str sx)) tb (tC (.str sy))) σ H (.bl (decide (x ≤ c ∧ c ≤ y))) := fun H1 e Q q => by
  subst hx hy
  refine hb H1 e _ fun H2 e2 => ⟨_, _, rfl, rfl, decide (x ≤ c), congrArg V.bl (le_str1 x c), ?_⟩
  by_cases h : x ≤ c
  · rw [decide_eq_true h]
    refine iteT ⟨_, _, rfl, rfl, ?_⟩
    rw [le_str1 c y]
    have : decide (x ≤ c ∧ c ≤ y) = decide (c ≤ y) := decide_eq_decide.mpr ⟨fun z => z.2, fun z => ⟨h, z⟩⟩
    rw [← this]
    exact q H2 e2
  · rw [decide_eq_false h]
    refine iteF ?_
    have : decide (x ≤ c ∧ c ≤ y) = false := decide_eq_false fun z => h z.1
    rw [← this]
    exact q H2 e2
def lowerC (c : Nat) : Bool := decide (97 ≤ c ∧ c ≤ 122)
def nameB (z : Str) : Bool := decide (1 ≤ z.length ∧ z.length ≤ 12) && z.cps.toList.all lowerC


/-! ### data of the heap -/
mutual
theorem dp_mono {K : PySem.W.Frag} {H H' : Hp} (e : Ex H H') : ∀ {v : V} {d : PyData}, Dp K H v d → Dp K H' v d
  | _, _, .non => .non
  | _, _, .bl b => .bl b
  | _, _, .int i => .int i
  | _, _, .str z => .str z
  | _, _, .lst h r => .lst (ex_l e h) (dpa_mono e r)
  | _, _, .tup h r => .tup (ex_t e h) (dpa_mono e r)
theorem dpa_mono {K : PySem.W.Frag} {H H' : Hp} (e : Ex H H') : ∀ {vs : List V} {ds : List PyData}, DpAll K H vs ds → DpAll K H' vs ds
  | _, _, .nil => .nil
  | _, _, .cons h r => .cons (dp_mono e h) (dpa_mono e r)
end
theorem dpa_len {K : PySem.W.Frag} {H : Hp} : ∀ {vs : List V} {ds : List PyData}, DpAll K H vs ds → vs.length = ds.length
  | _, _, .nil => rfl
  | _, _, .cons _ r => congrArg (· + 1) (dpa_len r)
theorem dpa_app {K : PySem.W.Frag} {H : Hp} : ∀ {vs us : List V} {ds es : List PyData}, DpAll K H vs ds → DpAll K H us es → DpAll K H (vs ++ us) (ds ++ es)
  | _, _, _, _, .nil, h => h
  | _, _, _, _, .cons a r, h => .cons a (dpa_app r h)
theorem dpa_at {K : PySem.W.Frag} {H : Hp} : ∀ {vs : List V} {ds : List PyData}, DpAll K H vs ds → ∀ {i : Nat} {v : V}, vs[i]? = some v → ∃ d, ds[i]? = some d ∧ Dp K H v d
  | _, _, .cons h _, 0, v, e => by
    cases Option.some.inj e
    exact ⟨_, rfl, h⟩
  | _, _, .cons _ r, i + 1, v, e => by
    obtain ⟨d, h1, h2⟩ := dpa_at r (i := i) (by simpa using e)
    exact ⟨d, by simpa using h1, h2⟩
theorem dpa_get {K : PySem.W.Frag} {H : Hp} : ∀ {vs : List V} {ds : List PyData}, DpAll K H vs ds → ∀ {i : Nat} {d : PyData}, ds[i]? = some d → ∃ v, vs[i]? = some v ∧ Dp K H v d
  | _, _, .cons h _, 0, d, e => by
    cases Option.some.inj e
    exact ⟨_, rfl, h⟩
  | _, _, .cons _ r, i + 1, d, e => by
    obtain ⟨v, h1, h2⟩ := dpa_get r (i := i) (by simpa using e)
    exact ⟨v, by simpa using h1, h2⟩
/-- data without lists, bools and dicts, of nesting at most n -/
inductive Fl : Nat → PyData → Prop
  | non (n : Nat) : Fl n .none
  | int (n : Nat) (i : Int) : Fl n (.int i)
  | str (n : Nat) {z : Str} (h : SeqAt.shaped (.str z) = true) : Fl n (.str z)
  | tup {n : Nat} {ds : List PyData} (h : ∀ d ∈ ds, Fl n d) (hl : ds.length ≤ 1000 := by first | decide | simp) : Fl (n + 1) (.tuple ds)
theorem Fl.mono : ∀ {n m : Nat} {d : PyData}, Fl n d → n ≤ m → Fl m d
  | _, _, _, .non _, _ => .non _
  | _, _, _, .int _ i, _ => .int _ i
  | _, _, _, .str _ h, _ => .str _ h
  | n + 1, m + 1, _, .tup h l, e => .tup (fun d hd => (h d hd).mono (by omega)) l
  | n + 1, 0, _, .tup h _, e => by omega
mutual
theorem dp_monoN {K : PySem.W.Frag} {H H' : Hp} (e : ExN H H') : ∀ {n : Nat} {v : V} {d : PyData}, Fl n d → Dp K H v d → Dp K H' v d
  | _, _, _, .non _, .non => .non
  | _, _, _, .int _ i, .int _ => .int i
  | _, _, _, .str _ _, .str z => .str z
  | _ + 1, _, _, .tup f _, .tup h r => .tup (exN_t e h) (dpa_monoN e f r)
theorem dpa_monoN {K : PySem.W.Frag} {H H' : Hp} (e : ExN H H') : ∀ {n : Nat} {vs : List V} {ds : List PyData}, (∀ d ∈ ds, Fl n d) → DpAll K H vs ds → DpAll K H' vs ds
  | _, _, _, _, .nil => .nil
  | _, _, _, f, .cons h r => .cons (dp_monoN e (f _ (List.mem_cons_self ..)) h) (dpa_monoN e (fun d hd => f d (List.mem_cons_of_mem _ hd)) r)
end
theorem q_asgK {te : TE} {σ : L2.St} {H : Hp} {tz : TS} {D : Ends} {i : Nat} (k : te σ H fun v H1 => tz D (σ.set i (some v)) H1) : tSeq (tAsg te (gName i)) tz D σ H := k
theorem q_asgG {te : TE} {g : TG} {σ : L2.St} {H : Hp} {tz : TS} {D : Ends} (k : te σ H fun v H1 => g v σ H1 (tz D)) : tSeq (tAsg te g) tz D σ H := k
/-! ### equality of data -/
/-- no bool, no dict -/
inductive Pl : PyData → Prop
  | non : Pl .none
  | int (i : Int) : Pl (.int i)
  | str (z : Str) : Pl (.str z)
  | lst {ds : List PyData} (h : ∀ d ∈ ds, Pl d) : Pl (.list ds)
  | tup {ds : List PyData} (h : ∀ d ∈ ds, Pl d) : Pl (.tuple ds)
theorem Fl.pl : ∀ {n : Nat} {d : PyData}, Fl n d → Pl d
  | _, _, .non _ => .non
  | _, _, .int _ i => .int i
  | _, _, .str _ _ => .str _
  | _ + 1, _, .tup h _ => .tup fun d hd => (h d hd).pl
mutual
theorem eqv_iff : ∀ (d e : PyData), Pl d → Pl e → (PyData.eqv d e = true ↔ d = e)
  | .none, e, _, he => by cases he <;> simp [PyData.eqv]
  | .int i, e, _, he => by cases he <;> simp [PyData.eqv]
  | .str z, e, _, he => by cases he <;> simp [PyData.eqv]
  | .list xs, e, hd, he => by
    cases hd with
    | lst hd =>
      cases he with
      | lst he =>
        rename_i ys
        rw [show PyData.eqv (.list xs) (.list ys) = PyData.eqvAll xs ys by simp [PyData.eqv], eqvAll_iff xs ys hd he]
        simp
      | _ => simp [PyData.eqv]
  | .tuple xs, e, hd, he => by
    cases hd with
    | tup hd =>
      cases he with
      | tup he =>
        rename_i ys
        rw [show PyData.eqv (.tuple xs) (.tuple ys) = PyData.eqvAll xs ys by simp [PyData.eqv], eqvAll_iff xs ys hd he]
        simp
      | _ => simp [PyData.eqv]
  | .bool _, _, hd, _ => by cases hd
  | .dict _, _, hd, _ => by cases hd
theorem eqvAll_iff : ∀ (xs ys : List PyData), (∀ d ∈ xs, Pl d) → (∀ d ∈ ys, Pl d) → (PyData.eqvAll xs ys = true ↔ xs = ys)
  | [], [], _, _ => by simp [PyData.eqvAll]
  | [], y :: ys, _, _ => by simp [PyData.eqvAll]
  | x :: xs, [], _, _ => by simp [PyData.eqvAll]
  | x :: xs, y :: ys, hx, hy => by
    rw [show PyData.eqvAll (x :: xs) (y :: ys) = (PyData.eqv x y && PyData.eqvAll xs ys) by simp [PyData.eqvAll], Bool.and_eq_true,
      eqv_iff x y (hx x (List.mem_cons_self ..)) (hy y (List.mem_cons_self ..)), eqvAll_iff xs ys (fun d hd => hx d (List.mem_cons_of_mem _ hd)) (fun d hd => hy d (List.mem_cons_of_mem _ hd))]
    simp
end
noncomputable def eqB (d e : PyData) : Bool := PyData.eqv d e
theorem eqv_dec {d e : PyData} (hd : Pl d) (he : Pl e) [Decidable (d = e)] : PyData.eqv d e = decide (d = e) := by
  by_cases h : d = e
  · rw [decide_eq_true h]
    exact (eqv_iff d e hd he).mpr h
  · rw [decide_eq_false h]
    cases x : PyData.eqv d e with
    | false => rfl
    | true => exact absurd ((eqv_iff d e hd he).mp x) h
mutual
theorem canLay_fl : ∀ {n : Nat} {d : PyData}, Fl n d → d.canLay0 = true
  | _, .none, _ => by simp [PyData.canLay0]
  | _, .int _, _ => by simp [PyData.canLay0]
  | _, .str z, h => by
    cases h with
    | str _ h => exact SeqAt.canLay_of_shaped h
  | _, .tuple xs, h => by
    cases h with
    | tup h _ =>
      rw [show (PyData.tuple xs).canLay0 = PyData.canLayAll0 xs by simp [PyData.canLay0]]
      exact canLayAll_fl h
  | _, .bool _, h => by cases h
  | _, .list _, h => by cases h
  | _, .dict _, h => by cases h
theorem canLayAll_fl : ∀ {n : Nat} {ds : List PyData}, (∀ d ∈ ds, Fl n d) → PyData.canLayAll0 ds = true
  | _, [], _ => by simp [PyData.canLayAll0]
  | _, d :: ds, h => by
    rw [show PyData.canLayAll0 (d :: ds) = (d.canLay0 && PyData.canLayAll0 ds) by simp [PyData.canLayAll0], canLay_fl (h d (List.mem_cons_self ..)), canLayAll_fl fun x hx => h x (List.mem_cons_of_mem _ hx)] <;> rfl
end
mutual
theorem depth_fl : ∀ {n : Nat} {d : PyData}, Fl n d → d.depth ≤ n + 1
  | _, .none, _ => by simp [PyData.depth]
  | _, .int _, _ => by simp [PyData.depth]
  | _, .str z, _ => by simp [PyData.depth]
  | _ + 1, .tuple xs, .tup h _ => by
    rw [show (PyData.tuple xs).depth = 1 + PyData.depthAll xs by simp [PyData.depth, Nat.add_comm]]
    have := depthAll_fl h
    omega
  | _, .bool _, h => by cases h
  | _, .list _, h => by cases h
  | _, .dict _, h => by cases h
theorem depthAll_fl : ∀ {n : Nat} {ds : List PyData}, (∀ d ∈ ds, Fl n d) → PyData.depthAll ds ≤ n + 1
  | _, [], _ => by simp [PyData.depthAll]
  | n, d :: ds, h => by
    have h1 := depth_fl (h d (List.mem_cons_self ..))
    have h2 := depthAll_fl fun x hx => h x (List.mem_cons_of_mem _ hx)
    rw [show PyData.depthAll (d :: ds) = max d.depth (PyData.depthAll ds) by simp [PyData.depthAll]]
    omega
end
theorem shaped_fl {n : Nat} {d : PyData} (h : Fl n d) (hn : n ≤ 60) : SeqAt.shaped d = true := by
  have := depth_fl h
  unfold SeqAt.shaped
  rw [canLay_fl h, decide_eq_true (by omega)] <;> rfl
theorem shaped_lst {n : Nat} {ds : List PyData} (h : ∀ d ∈ ds, Fl n d) (hn : n ≤ 60) : SeqAt.shaped (.list ds) = true := by
  have := depthAll_fl h
  unfold SeqAt.shaped
  rw [show (PyData.list ds).canLay0 = PyData.canLayAll0 ds by simp [PyData.canLay0], canLayAll_fl h, decide_eq_true (by
    rw [show (PyData.list ds).depth = 1 + PyData.depthAll ds by simp [PyData.depth, Nat.add_comm]]
    omega)] <;> rfl
/-! ### what evaluates to data -/
def EP (K : PySem.W.Frag) (te : TE) (σ : L2.St) (H : Hp) (R : PyData → Prop) : Prop := ∀ H1, Ex H H1 → ∀ Q : VK, (∀ v d H2, Ex H1 H2 → R d → Dp K H2 v d → Q v H2) → te σ H1 Q
def EPA (K : PySem.W.Frag) (ta : TA) (σ : L2.St) (H : Hp) (R : List PyData → Prop) : Prop := ∀ H1, Ex H H1 → ∀ Q : List V → Hp → Prop, (∀ vs ds H2, Ex H1 H2 → R ds → DpAll K H2 vs ds → Q vs H2) → ta σ H1 Q
/-- a new list -/
def EPL (K : PySem.W.Frag) (te : TE) (σ : L2.St) (H : Hp) (R : List PyData → Prop) : Prop := ∀ H1, Ex H H1 → ∀ Q : VK, (∀ p vs ds H2, H1 p = none → Ex H1 H2 → H2 p = some (.lst vs) → R ds → DpAll K H2 vs ds → Q (.ref p) H2) → te σ H1 Q
section
variable {K : PySem.W.Frag} {σ : L2.St} {H : Hp} {te ta tb : TE}
theorem ep_is {v : V} {d : PyData} {R : PyData → Prop} (h : Ev te σ H v) (hd : Dp K H v d) (hr : R d) : EP K te σ H R := fun H1 e Q q => h H1 e _ fun H2 e2 => q v d H2 e2 hr (dp_mono (e.trans e2) hd)
theorem ep_int {i : Int} (h : Ev te σ H (.int i)) : EP K te σ H (· = .int i) := ep_is h (.int i) rfl
theorem ep_str {z : Str} (h : Ev te σ H (.str z)) : EP K te σ H (· = .str z) := ep_is h (.str z) rfl
theorem ep_non (h : Ev te σ H .non) : EP K te σ H (· = .none) := ep_is h .non rfl
theorem EP.imp {R S : PyData → Prop} (h : EP K te σ H R) (i : ∀ d, R d → S d) : EP K te σ H S := fun H1 e Q q => h H1 e Q fun v d H2 e2 r D => q v d H2 e2 (i d r) D
theorem EP.mono {R : PyData → Prop} {H' : Hp} (e : Ex H H') (h : EP K te σ H R) : EP K te σ H' R := fun H1 e1 => h H1 (e.trans e1)
theorem epa_nil : EPA K tNil σ H (· = []) := fun H1 _ _ q => q [] [] H1 (Ex.refl H1) rfl .nil
theorem epa_cons {tr : TA} {R : PyData → Prop} {S : List PyData → Prop} (h : EP K te σ H R) (r : EPA K tr σ H S) : EPA K (tCons te tr) σ H (fun ds => ∃ d r, ds = d :: r ∧ R d ∧ S r) := fun H1 e Q q =>
  h H1 e _ fun v d H2 e2 hr hd => r H2 (e.trans e2) _ fun vs ds H3 e3 hs hds => q (v :: vs) (d :: ds) H3 (e2.trans e3) ⟨d, ds, rfl, hr, hs⟩ (.cons (dp_mono e3 hd) hds)
theorem epa_c {tr : TA} {d : PyData} {ds : List PyData} (h : EP K te σ H (· = d)) (r : EPA K tr σ H (· = ds)) : EPA K (tCons te tr) σ H (· = d :: ds) := fun H1 e Q q =>
  h H1 e _ fun v d' H2 e2 hr hd => r H2 (e.trans e2) _ fun vs ds' H3 e3 hs hds => q (v :: vs) (d' :: ds') H3 (e2.trans e3) (by rw [hr, hs]) (.cons (dp_mono e3 hd) hds)
theorem ep_tup {ta : TA} {R : PyData → Prop} {S : List PyData → Prop} (h : EPA K ta σ H S) (i : ∀ ds, S ds → ds.length ≤ 100000 ∧ R (.tuple ds)) : EP K (tTup ta) σ H R := fun H1 e Q q =>
  h H1 e _ fun vs ds H2 e2 hs hds => ⟨sz_of (by rw [dpa_len hds]; exact (i ds hs).1), fun p hp => q _ _ _ (e2.trans (Ex.new hp)) (i ds hs).2 (.tup (st_of upd_same) (dpa_mono (Ex.new hp) hds))⟩
theorem ep_t {ta : TA} {ds : List PyData} (h : EPA K ta σ H (· = ds)) (hl : ds.length ≤ 100000) : EP K (tTup ta) σ H (· = .tuple ds) := ep_tup h fun ds' e => by
  rw [e]
  exact ⟨hl, rfl⟩
theorem epl_lst {ta : TA} {S : List PyData → Prop} (h : EPA K ta σ H S) (i : ∀ ds, S ds → ds.length ≤ 100000) : EPL K (tLst ta) σ H S := fun H1 e Q q =>
  h H1 e _ fun vs ds H2 e2 hs hds => ⟨sz_of (by rw [dpa_len hds]; exact i ds hs), fun p hp => q p vs ds _ (fresh_back e2 hp) (e2.trans (Ex.new hp)) upd_same hs (dpa_mono (Ex.new hp) hds)⟩
theorem EPL.ep {R : PyData → Prop} {S : List PyData → Prop} (h : EPL K te σ H S) (i : ∀ ds, S ds → R (.list ds)) : EP K te σ H R := fun H1 e Q q =>
  h H1 e _ fun p vs ds H2 hp e2 h2 hs hds => q _ _ H2 e2 (i ds hs) (.lst (sq_of h2) hds)
theorem s_retP {D : Ends} {R : PyData → Prop} (h : EP K te σ H R) (k : ∀ v d H1, Ex H H1 → R d → Dp K H1 v d → D.rt v H1) : tRet te D σ H := h H (Ex.refl H) _ k
theorem s_retPL {D : Ends} {S : List PyData → Prop} (h : EPL K te σ H S) (k : ∀ p vs ds H1, H p = none → Ex H H1 → H1 p = some (.lst vs) → S ds → DpAll K H1 vs ds → D.rt (.ref p) H1) : tRet te D σ H := h H (Ex.refl H) _ k
theorem q_asgP {D : Ends} {tz : TS} {i : Nat} {R : PyData → Prop} (h : EP K te σ H R) (k : ∀ v d H1, Ex H H1 → R d → Dp K H1 v d → tz D (σ.set i (some v)) H1) : tSeq (tAsg te (gName i)) tz D σ H := h H (Ex.refl H) _ k
theorem q_asgPL {D : Ends} {tz : TS} {i : Nat} {S : List PyData → Prop} (h : EPL K te σ H S) (k : ∀ p vs ds H1, H p = none → Ex H H1 → H1 p = some (.lst vs) → S ds → DpAll K H1 vs ds → tz D (σ.set i (some (.ref p))) H1) : tSeq (tAsg te (gName i)) tz D σ H := h H (Ex.refl H) _ k
theorem s_retTup {ta : TA} {D : Ends} {S : List PyData → Prop} (h : EPA K ta σ H S) (l : ∀ ds, S ds → ds.length ≤ 100000) (k : ∀ p ds H1, H p = none → Ex H H1 → S ds → Dp K H1 (.ref p) (.tuple ds) → D.rt (.ref p) H1) : tRet (tTup ta) D σ H :=
  h H (Ex.refl H) _ fun vs ds H1 e1 hs hds => ⟨sz_of (by rw [dpa_len hds]; exact l ds hs), fun p hp => k p ds _ (fresh_back e1 hp) (e1.trans (Ex.new hp)) hs (.tup (st_of upd_same) (dpa_mono (Ex.new hp) hds))⟩
/-- == and != of data -/
theorem ev_eqP {x y : V} {d e : PyData} {b : Bool} (ha : Ev ta σ H x) (hb : Ev tb σ H y) (hd : Dp K H x d) (he : Dp K H y e) (sd : SeqAt.shaped d = true) (se : SeqAt.shaped e = true) (hv : PyData.eqv d e = b) : Ev (tOp (rEqD K) ta tb) σ H (.bl b) :=
  ev_op ha hb fun H1 e1 _ q => ⟨d, e, dp_mono e1 hd, dp_mono e1 he, sd, se, by rw [hv]; exact q H1 (Ex.refl H1)⟩
theorem ev_neP {x y : V} {d e : PyData} {b : Bool} (ha : Ev ta σ H x) (hb : Ev tb σ H y) (hd : Dp K H x d) (he : Dp K H y e) (sd : SeqAt.shaped d = true) (se : SeqAt.shaped e = true) (hv : (!PyData.eqv d e) = b) : Ev (tOp (rNeD K) ta tb) σ H (.bl b) :=
  ev_op ha hb fun H1 e1 _ q => ⟨d, e, dp_mono e1 hd, dp_mono e1 he, sd, se, by rw [hv]; exact q H1 (Ex.refl H1)⟩
/-- [f(k) for k in range(n)] -/
theorem epl_mapR {ta : TA} {j : Nat} {vs : List Nat} {n : Nat} {R : Nat → PyData → Prop} (h : EvA ta σ H [.int (n : Int)]) (hz : n ≤ 40000) (hw : ∀ x, wipe ((wipe σ vs).set j (some x)) vs = wipe σ vs) {m : Nat} (hf : ∀ i d, R i d → Fl m d)
    (he : ∀ (i : Nat) H1, i < n → Ex H H1 → EP K te ((wipe σ vs).set j (some (.int (i : Int)))) H1 (R i)) : EPL K (tLc (iRng1 ta) (gName j) tYes te vs) σ H (fun ds => ds.length = n ∧ ∀ i d, ds[i]? = some d → R i d) := by
  intro H0 e Q q
  refine h H0 e _ fun H1 e1 => ⟨(n : Int), rfl, by omega, by omega, fun Dl hD => ?_⟩
  rw [show ((n : Int)).toNat = n by omega]
  refine lc_range (n := n) (fun i H' => H1 Dl = none ∧ Ex H1 H' ∧ ∃ us ds, H' Dl = some (.lst us) ∧ DpAll K H' us ds ∧ ds.length = i ∧ ∀ i d, ds[i]? = some d → R i d) ⟨hD, Ex.new hD, [], [], upd_same, .nil, rfl, fun i d z => nomatch z⟩ (fun i H' hi p => ⟨hw _, ?_⟩) (fun H' p => ?_)
  · obtain ⟨p1, p2, us, ds, p3, p4, p5, p6⟩ := p
    show te ((wipe σ vs).set j (some (.int (0 + (i : Int))))) H' _
    rw [Int.zero_add]
    refine he i H1 hi (e.trans e1) H' p2 _ fun v d H4 e4 hr hd => ⟨us, e4 Dl _ p3, sz_lt (by rw [dpa_len p4, p5]; omega), p1, (p2.trans e4).mut p1, us ++ [v], ds ++ [d], upd_same, ?_, by rw [List.length_append, p5] <;> rfl, fun k x hk => ?_⟩
    · exact dpa_app (dpa_monoN (ExN.upd (e4 Dl _ p3)) (fun x hx => by
        obtain ⟨k, hk⟩ := List.getElem?_of_mem hx
        exact hf k x (p6 k x hk)) (dpa_mono e4 p4)) (.cons (dp_monoN (ExN.upd (e4 Dl _ p3)) (hf i d hr) hd) .nil)
    · by_cases hlt : k < ds.length
      · rw [List.getElem?_append_left hlt] at hk
        exact p6 k x hk
      · rw [List.getElem?_append_right (by omega)] at hk
        have hk0 : k - ds.length = 0 := by
          by_cases z : k - ds.length = 0
          · exact z
          · rw [List.getElem?_eq_none (by simp; omega)] at hk
            cases hk
        rw [hk0] at hk
        have ek : k = i := by omega
        rw [ek, ← Option.some.inj hk]
        exact hr
  · obtain ⟨p1, p2, us, ds, p3, p4, p5, p6⟩ := p
    exact q Dl us ds H' (fresh_back e1 p1) (e1.trans p2) p3 ⟨p5, p6⟩ p4
end
section
variable {K : PySem.W.Frag} {σ : L2.St} {H : Hp} {te tl : TE}
theorem acc_add {K : PySem.W.Frag} {H H4 : Hp} {Dl : Addr} {us : List V} {ds : List PyData} {v : V} {d : PyData} {m : Nat} {R : Nat → PyData → Prop} (hf : ∀ i d, R i d → Fl m d) (e4 : Ex H H4) (p3 : H Dl = some (.lst us)) (p4 : DpAll K H us ds) (p6 : ∀ i d, ds[i]? = some d → R i d) (hr : R ds.length d) (hd : Dp K H4 v d) :
    DpAll K (upd H4 Dl (.lst (us ++ [v]))) (us ++ [v]) (ds ++ [d]) ∧ (ds ++ [d]).length = ds.length + 1 ∧ ∀ i x, (ds ++ [d])[i]? = some x → R i x := by
  refine ⟨dpa_app (dpa_monoN (n := m) (ExN.upd (e4 Dl _ p3)) (fun x hx => ?_) (dpa_mono e4 p4)) (.cons (dp_monoN (ExN.upd (e4 Dl _ p3)) (hf _ d hr) hd) .nil), by simp, fun k x hk => ?_⟩
  · obtain ⟨k, hk⟩ := List.getElem?_of_mem hx
    exact hf k x (p6 k x hk)
  · by_cases hlt : k < ds.length
    · rw [List.getElem?_append_left hlt] at hk
      exact p6 k x hk
    · rw [List.getElem?_append_right (by omega)] at hk
      have hk0 : k - ds.length = 0 := by
        by_cases z : k - ds.length = 0
        · exact z
        · rw [List.getElem?_eq_none (by simp; omega)] at hk
          cases hk
      rw [hk0] at hk
      have ek : k = ds.length := by omega
      rw [ek, ← Option.some.inj hk]
      exact hr
/-- [f(x) for x in a tuple] -/
theorem epl_mapT {j : Nat} {vs : List Nat} {a : Addr} {xs : List V} {R : Nat → PyData → Prop} (h : Ev tl σ H (.ref a)) (hx : SqT K H a xs) (hz : xs.length ≤ 40000) (hw : ∀ x, wipe ((wipe σ vs).set j (some x)) vs = wipe σ vs) {m : Nat} (hf : ∀ i d, R i d → Fl m d)
    (he : ∀ (i : Nat) x H1, xs[i]? = some x → Ex H H1 → EP K te ((wipe σ vs).set j (some x)) H1 (R i)) : EPL K (tLc (iTup K tl) (gName j) tYes te vs) σ H (fun ds => ds.length = xs.length ∧ ∀ i d, ds[i]? = some d → R i d) := by
  intro H0 e Q q
  refine h H0 e _ fun H1 e1 => ⟨a, rfl, ⟨xs, ex_t (e.trans e1) hx⟩, fun Dl hD => ?_⟩
  refine lc_tup (xs := xs) (fun i H' => H1 Dl = none ∧ Ex H1 H' ∧ ∃ us ds, H' Dl = some (.lst us) ∧ DpAll K H' us ds ∧ ds.length = i ∧ ∀ i d, ds[i]? = some d → R i d) ⟨hD, Ex.new hD, [], [], upd_same, .nil, rfl, fun i d z => nomatch z⟩ (fun i H' _ p => ex_t ((e.trans e1).trans p.2.1) hx) (fun i x H' hi p => ⟨hw x, ?_⟩) (fun H' p => ?_)
  · obtain ⟨p1, p2, us, ds, p3, p4, p5, p6⟩ := p
    have hi2 := (List.getElem?_eq_some_iff.mp hi).1
    show te ((wipe σ vs).set j (some x)) H' _
    refine he i x H1 hi (e.trans e1) H' p2 _ fun v d H4 e4 hr hd => ⟨us, e4 Dl _ p3, sz_lt (by rw [dpa_len p4, p5]; omega), p1, (p2.trans e4).mut p1, us ++ [v], ds ++ [d], upd_same, ?_⟩
    rw [← p5] at hr ⊢
    exact acc_add hf e4 p3 p4 p6 hr hd
  · obtain ⟨p1, p2, us, ds, p3, p4, p5, p6⟩ := p
    exact q Dl us ds H' (fresh_back e1 p1) (e1.trans p2) p3 ⟨p5, p6⟩ p4
/-- [f(x) for x in a list] -/
theorem epl_mapL {j : Nat} {vs : List Nat} {a : Addr} {xs : List V} {R : Nat → PyData → Prop} (h : Ev tl σ H (.ref a)) (hx : SqL K H a xs) (hz : xs.length ≤ 40000) (hw : ∀ x, wipe ((wipe σ vs).set j (some x)) vs = wipe σ vs) {m : Nat} (hf : ∀ i d, R i d → Fl m d)
    (he : ∀ (i : Nat) x H1, xs[i]? = some x → Ex H H1 → EP K te ((wipe σ vs).set j (some x)) H1 (R i)) : EPL K (tLc (iList K tl) (gName j) tYes te vs) σ H (fun ds => ds.length = xs.length ∧ ∀ i d, ds[i]? = some d → R i d) := by
  intro H0 e Q q
  refine h H0 e _ fun H1 e1 => ⟨a, rfl, ⟨xs, ex_l (e.trans e1) hx⟩, fun Dl hD => ?_⟩
  refine lc_list (xs := xs) (fun i H' => H1 Dl = none ∧ Ex H1 H' ∧ ∃ us ds, H' Dl = some (.lst us) ∧ DpAll K H' us ds ∧ ds.length = i ∧ ∀ i d, ds[i]? = some d → R i d) ⟨hD, Ex.new hD, [], [], upd_same, .nil, rfl, fun i d z => nomatch z⟩ (fun i H' _ p => ex_l ((e.trans e1).trans p.2.1) hx) (fun i x H' hi p => ⟨hw x, ?_⟩) (fun H' p => ?_)
  · obtain ⟨p1, p2, us, ds, p3, p4, p5, p6⟩ := p
    have hi2 := (List.getElem?_eq_some_iff.mp hi).1
    show te ((wipe σ vs).set j (some x)) H' _
    refine he i x H1 hi (e.trans e1) H' p2 _ fun v d H4 e4 hr hd => ⟨us, e4 Dl _ p3, sz_lt (by rw [dpa_len p4, p5]; omega), p1, (p2.trans e4).mut p1, us ++ [v], ds ++ [d], upd_same, ?_⟩
    rw [← p5] at hr ⊢
    exact acc_add hf e4 p3 p4 p6 hr hd
  · obtain ⟨p1, p2, us, ds, p3, p4, p5, p6⟩ := p
    exact q Dl us ds H' (fresh_back e1 p1) (e1.trans p2) p3 ⟨p5, p6⟩ p4
end
/-- tuple(a new list of data) -/
theorem ep_tupOf {K : PySem.W.Frag} {σ : L2.St} {H : Hp} {te : TE} {R : PyData → Prop} {S : List PyData → Prop} (h : EPL K te σ H S) (i : ∀ ds, S ds → R (.tuple ds)) : EP K (tCB (rTupOf K) (tCons te tNil)) σ H R := fun H1 e Q q =>
  h H1 e _ fun p vs ds H2 _ e2 hp hs hds => ⟨p, vs, rfl, .inl ⟨sq_of hp, fun l hl => q _ _ _ (e2.trans (Ex.new hl)) (i ds hs) (.tup (st_of upd_same) (dpa_mono (Ex.new hl) hds))⟩⟩
theorem list_same {ds es : List PyData} (hl : ds.length = es.length) (h : ∀ (i : Nat) (d : PyData), ds[i]? = some d → es[i]? = some d) : ds = es := by
  refine List.ext_getElem? fun i => ?_
  by_cases hi : i < ds.length
  · rw [List.getElem?_eq_getElem hi]
    exact (h i _ (List.getElem?_eq_getElem hi)).symm
  · rw [List.getElem?_eq_none (by omega), List.getElem?_eq_none (by omega)]
/-- isinstance of data against tuple, list -/
def isTup : PyData → Bool
  | .tuple _ => true
  | _ => false
def isLst : PyData → Bool
  | .list _ => true
  | _ => false
def isStrD : PyData → Bool
  | .str _ => true
  | _ => false
def isIntD : PyData → Bool
  | .int _ => true
  | .bool _ => true
  | _ => false
def isBoolD : PyData → Bool
  | .bool _ => true
  | _ => false
theorem tyx_lst {K : PySem.W.Frag} {H : Hp} {a : Addr} {xs : List V} (h : SqL K H a xs) : TyX K H (.ref a) (.type "list") := by
  rcases h with (h | ⟨o, h⟩) | ⟨o, its, n, h, hc, _⟩
  · exact .base (.lst h)
  · exact .base (.frz h)
  · exact .kList h hc
theorem ev_isT {K : PySem.W.Frag} {σ : L2.St} {H : Hp} {te : TE} {x : V} {d : PyData} (h : Ev te σ H x) (hd : Dp K H x d) : Ev (tCB (rIsi K) (tCons te (tCons (tC (.ty "tuple")) tNil))) σ H (.bl (isTup d)) := by
  cases hd with
  | non => exact ev_isi (a := "NoneType") (r := false) h (fun _ _ => .base .non) (by decide +kernel)
  | bl b => exact ev_isi (a := "bool") (r := false) h (fun _ _ => .base (.bl b)) (by decide +kernel)
  | int i => exact ev_isi (a := "int") (r := false) h (fun _ _ => .base (.int i)) (by decide +kernel)
  | str z => exact ev_isi (a := "str") (r := false) h (fun _ _ => .base (.str z)) (by decide +kernel)
  | lst hs _ => exact ev_isi (a := "list") (r := false) h (fun H2 e2 => tyx_lst (ex_l e2 hs)) (by decide +kernel)
  | tup hs _ => exact ev_isi (a := "tuple") (r := true) h (fun H2 e2 => tyx_tup (ex_t e2 hs)) (by decide +kernel)
theorem ev_isL {K : PySem.W.Frag} {σ : L2.St} {H : Hp} {te : TE} {x : V} {d : PyData} (h : Ev te σ H x) (hd : Dp K H x d) : Ev (tCB (rIsi K) (tCons te (tCons (tC (.ty "list")) tNil))) σ H (.bl (isLst d)) := by
  cases hd with
  | non => exact ev_isi (a := "NoneType") (r := false) h (fun _ _ => .base .non) (by decide +kernel)
  | bl b => exact ev_isi (a := "bool") (r := false) h (fun _ _ => .base (.bl b)) (by decide +kernel)
  | int i => exact ev_isi (a := "int") (r := false) h (fun _ _ => .base (.int i)) (by decide +kernel)
  | str z => exact ev_isi (a := "str") (r := false) h (fun _ _ => .base (.str z)) (by decide +kernel)
  | lst hs _ => exact ev_isi (a := "list") (r := true) h (fun H2 e2 => tyx_lst (ex_l e2 hs)) (by decide +kernel)
  | tup hs _ => exact ev_isi (a := "tuple") (r := false) h (fun H2 e2 => tyx_tup (ex_t e2 hs)) (by decide +kernel)
theorem ev_isS {K : PySem.W.Frag} {σ : L2.St} {H : Hp} {te : TE} {x : V} {d : PyData} (h : Ev te σ H x) (hd : Dp K H x d) : Ev (tCB (rIsi K) (tCons te (tCons (tC (.ty "str")) tNil))) σ H (.bl (isStrD d)) := by
  cases hd with
  | non => exact ev_isi (a := "NoneType") (r := false) h (fun _ _ => .base .non) (by decide +kernel)
  | bl b => exact ev_isi (a := "bool") (r := false) h (fun _ _ => .base (.bl b)) (by decide +kernel)
  | int i => exact ev_isi (a := "int") (r := false) h (fun _ _ => .base (.int i)) (by decide +kernel)
  | str z => exact ev_isi (a := "str") (r := true) h (fun _ _ => .base (.str z)) (by decide +kernel)
  | lst hs _ => exact ev_isi (a := "list") (r := false) h (fun H2 e2 => tyx_lst (ex_l e2 hs)) (by decide +kernel)
  | tup hs _ => exact ev_isi (a := "tuple") (r := false) h (fun H2 e2 => tyx_tup (ex_t e2 hs)) (by decide +kernel)
theorem ev_isNum {K : PySem.W.Frag} {σ : L2.St} {H : Hp} {te : TE} {x : V} {d : PyData} (h : Ev te σ H x) (hd : Dp K H x d) : Ev (tCB (rIsi K) (tCons te (tCons (tC (.ty "int")) tNil))) σ H (.bl (isIntD d)) := by
  cases hd with
  | non => exact ev_isi (a := "NoneType") (r := false) h (fun _ _ => .base .non) (by decide +kernel)
  | bl b => exact ev_isi (a := "bool") (r := true) h (fun _ _ => .base (.bl b)) (by decide +kernel)
  | int i => exact ev_isi (a := "int") (r := true) h (fun _ _ => .base (.int i)) (by decide +kernel)
  | str z => exact ev_isi (a := "str") (r := false) h (fun _ _ => .base (.str z)) (by decide +kernel)
  | lst hs _ => exact ev_isi (a := "list") (r := false) h (fun H2 e2 => tyx_lst (ex_l e2 hs)) (by decide +kernel)
  | tup hs _ => exact ev_isi (a := "tuple") (r := false) h (fun H2 e2 => tyx_tup (ex_t e2 hs)) (by decide +kernel)
theorem ev_isBl {K : PySem.W.Frag} {σ : L2.St} {H : Hp} {te : TE} {x : V} {d : PyData} (h : Ev te σ H x) (hd : Dp K H x d) : Ev (tCB (rIsi K) (tCons te (tCons (tC (.ty "bool")) tNil))) σ H (.bl (isBoolD d)) := by
  cases hd with
  | non => exact ev_isi (a := "NoneType") (r := false) h (fun _ _ => .base .non) (by decide +kernel)
  | bl b => exact ev_isi (a := "bool") (r := true) h (fun _ _ => .base (.bl b)) (by decide +kernel)
  | int i => exact ev_isi (a := "int") (r := false) h (fun _ _ => .base (.int i)) (by decide +kernel)
  | str z => exact ev_isi (a := "str") (r := false) h (fun _ _ => .base (.str z)) (by decide +kernel)
  | lst hs _ => exact ev_isi (a := "list") (r := false) h (fun H2 e2 => tyx_lst (ex_l e2 hs)) (by decide +kernel)
  | tup hs _ => exact ev_isi (a := "tuple") (r := false) h (fun H2 e2 => tyx_tup (ex_t e2 hs)) (by decide +kernel)
/-- an item of a list or a tuple -/
def rIxD (K : PySem.W.Frag) : R2 := fun x y H Q => rIxL K x y H Q ∨ rIxT K x y H Q
theorem ix_any {X : Cx} {r1 r2 : R2} (h1 : IxR X r1) (h2 : IxR X r2) : IxR X (fun x y H Q => r1 x y H Q ∨ r2 x y H Q) := fun value slice pins s σ H x y v u Q I rx ry h hs => h.elim (fun h => h1 value slice pins s σ H x y v u Q I rx ry h hs) (fun h => h2 value slice pins s σ H x y v u Q I rx ry h hs)
theorem op_any {X : Cx} {f : Value → Value → Sem Value} {r1 r2 : R2} (h1 : OpR X f r1) (h2 : OpR X f r2) : OpR X f (fun x y H Q => r1 x y H Q ∨ r2 x y H Q) := fun pins s σ H x y v u Q I rx ry h => h.elim (fun h => h1 pins s σ H x y v u Q I rx ry h) (fun h => h2 pins s σ H x y v u Q I rx ry h)


/-! ### version texts -/
def mkS (l : List Nat) : Str := ⟨l.toArray⟩
theorem mkS_inj {a b : List Nat} (h : mkS a = mkS b) : a = b := by
  have := congrArg (fun z : Str => z.cps.toList) h
  simpa [mkS] using this
theorem mkS_codes (z : Str) : z = mkS z.cps.toList := mk_of rfl
theorem mkS_len (l : List Nat) : (mkS l).length = l.length := by rw [str_len] <;> rfl
def stC (c : Nat) : Bool := decide (c = 126 ∨ c = 94)
theorem tw_lt {p : Nat → Bool} : ∀ {l : List Nat} {i : Nat}, i < (l.takeWhile p).length → ∃ c, l[i]? = some c ∧ p c = true
  | [], i, h => by simp at h
  | a :: l, i, h => by
    by_cases ha : p a = true
    · rw [List.takeWhile_cons_of_pos ha] at h
      cases i with
      | zero => exact ⟨a, rfl, ha⟩
      | succ i =>
        obtain ⟨c, h1, h2⟩ := tw_lt (l := l) (i := i) (by simpa using h)
        exact ⟨c, by simpa using h1, h2⟩
    · rw [List.takeWhile_cons_of_neg ha] at h
      simp at h
theorem tw_eq {p : Nat → Bool} : ∀ {l : List Nat} {c : Nat}, l[(l.takeWhile p).length]? = some c → p c = false
  | [], c, h => by simp at h
  | a :: l, c, h => by
    by_cases ha : p a = true
    · rw [List.takeWhile_cons_of_pos ha] at h
      exact tw_eq (l := l) (by simpa using h)
    · rw [List.takeWhile_cons_of_neg ha] at h
      have e : a = c := by simpa using h
      rw [← e]
      simpa using ha
theorem tw_le (p : Nat → Bool) (l : List Nat) : (l.takeWhile p).length ≤ l.length := by
  induction l with
  | nil => simp
  | cons a l ih =>
    by_cases ha : p a = true
    · rw [List.takeWhile_cons_of_pos ha]; simp; exact ih
    · rw [List.takeWhile_cons_of_neg ha]; simp
/-- the length without the steps at the end -/
def rsz (l : List Nat) : Nat := l.length - (l.reverse.takeWhile stC).length
theorem rsz_le (l : List Nat) : rsz l ≤ l.length := Nat.sub_le _ _
theorem rev_at {l : List Nat} {i : Nat} (h : i < l.length) : l.reverse[i]? = l[l.length - 1 - i]? := by
  rw [List.getElem?_reverse h]
/-- what the law's own loop keeps -/
theorem rsz_step {l : List Nat} {k s : Nat} (hk : k < l.length) (hs : s = max (rsz l) (l.length - k)) : (0 < s → ∃ c, l[s - 1]? = some c ∧ (if stC c = true then s - 1 else s) = max (rsz l) (l.length - (k + 1))) ∧ (s = 0 → s = max (rsz l) (l.length - (k + 1))) := by
  have hw := tw_le stC l.reverse
  rw [List.length_reverse] at hw
  unfold rsz at *
  refine ⟨fun h0 => ?_, fun h0 => by omega⟩
  by_cases hkw : k < (l.reverse.takeWhile stC).length
  · obtain ⟨c, h1, h2⟩ := tw_lt hkw
    rw [rev_at hk] at h1
    have e : s - 1 = l.length - 1 - k := by omega
    refine ⟨c, by rw [e]; exact h1, ?_⟩
    rw [if_pos h2]
    omega
  · have hlt : l.length - (l.reverse.takeWhile stC).length - 1 < l.length := by omega
    have es : s = l.length - (l.reverse.takeWhile stC).length := by omega
    have hp : (l.reverse.takeWhile stC).length < l.length := by omega
    have e2 := rev_at hp
    obtain ⟨c, hc⟩ : ∃ c, l[s - 1]? = some c := ⟨_, List.getElem?_eq_getElem (by omega)⟩
    have e3 : l.reverse[(l.reverse.takeWhile stC).length]? = some c := by
      rw [e2, ← hc]
      congr 1
      omega
    have := tw_eq e3
    refine ⟨c, hc, ?_⟩
    rw [if_neg (by rw [this]; exact Bool.false_ne_true)]
    omega
def digC (c : Nat) : Bool := decide (48 ≤ c ∧ c ≤ 57)
def addrB (b : List Nat) : Bool := decide (1 ≤ b.length ∧ b.length ≤ 18) && (!decide (b.head? = some 48) && b.all digC)
def verD (b : List Nat) (s : Str) : Option PyData :=
  if b = [64] then some (.tuple [.str (Str.ofString "head"), .none, .str s])
  else if nameB (mkS b) = true then some (.tuple [.str (Str.ofString "name"), .str (mkS b), .str s])
  else if b.head? = some 47 ∧ nameB (mkS (b.drop 1)) = true then some (.tuple [.str (Str.ofString "far"), .str (mkS (b.drop 1)), .str s])
  else if b.head? = some 58 ∧ addrB (b.drop 1) = true then some (.tuple [.str (Str.ofString "address"), .int (PySem.NumText.digitsVal (b.drop 1) : Nat), .str s])
  else none
def verO (l : List Nat) : Option PyData := if 60 < l.length then none else verD (l.take (rsz l)) (mkS (l.drop (rsz l)))
theorem at_eq : Str.ofString "@" = mkS [64] := by decide +kernel
theorem rstrip_eq (z : Str) : Txt.rstripChars z (Str.ofString "~^") = mkS (z.cps.toList.take (rsz z.cps.toList)) := by
  have ec : (fun c => (Str.ofString "~^").cps.contains c) = stC := by
    funext c
    have e : (Str.ofString "~^").cps = #[126, 94] := by decide +kernel
    rw [e]
    show (#[126, 94] : Array Nat).contains c = decide (c = 126 ∨ c = 94)
    by_cases h : c = 126
    · subst h; simp
    · by_cases h2 : c = 94
      · subst h2; simp
      · rw [decide_eq_false (by omega)]
        simp [Array.contains, h, h2]
  have e0 : stripLo (fun c => (Str.ofString "~^").cps.contains c) false z = 0 := rfl
  have e1 : stripHi (fun c => (Str.ofString "~^").cps.contains c) true z 0 = rsz z.cps.toList := by
    show z.length - ((z.cps.toList.drop 0).reverse.takeWhile _).length = _
    rw [ec, List.drop_zero, str_len] <;> rfl
  show (if stripSame (fun c => (Str.ofString "~^").cps.contains c) false true z = true then z else stripped (fun c => (Str.ofString "~^").cps.contains c) false true z) = _
  unfold stripSame stripped
  rw [e0, e1]
  split
  · rename_i h
    have h2 : rsz z.cps.toList = z.length := by simpa using h
    rw [h2, str_len, List.take_length]
    exact mkS_codes z
  · refine str_ext ?_
    rw [PySem.StrLaws.strSub_toList, List.drop_zero, Nat.sub_zero] <;> rfl
theorem starts_one (b : List Nat) (c : Nat) : Txt.startswith (mkS b) (mkS [c]) = decide (b.head? = some c) := by
  unfold Txt.startswith
  rw [PySem.StrLaws.subAt_eq, mkS_len, mkS_len]
  show (decide (0 + 1 ≤ b.length) && ((b.drop 0).take 1 == [c])) = _
  cases b with
  | nil => rfl
  | cons a r =>
    show (decide (0 + 1 ≤ r.length + 1) && ([a] == [c])) = decide (some a = some c)
    rw [decide_eq_true (by omega), Bool.true_and]
    by_cases h : a = c
    · subst h; simp
    · simp [h]
theorem cutS_from (b : List Nat) (n : Nat) : cutS (mkS b) (some (n : Int)) none = mkS (b.drop n) := by
  refine str_ext ?_
  show (b.drop (HT.sIx (mkS b).length 0 (some (n : Int)))).take _ = b.drop n
  rw [HT.sIx_nat, mkS_len, HT.sIx_none]
  by_cases h : n ≤ b.length
  · rw [Nat.min_eq_left h, List.take_of_length_le (by rw [List.length_drop]; omega)]
  · rw [Nat.min_eq_right (by omega), List.drop_of_length_le (Nat.le_refl _), List.drop_of_length_le (by omega)] <;> simp
theorem cutS_to (b : List Nat) (n : Nat) : cutS (mkS b) none (some (n : Int)) = mkS (b.take n) := by
  refine str_ext ?_
  show (b.drop (HT.sIx (mkS b).length 0 none)).take (HT.sIx (mkS b).length (mkS b).length (some (n : Int)) - HT.sIx (mkS b).length 0 none) = b.take n
  rw [HT.sIx_nat, mkS_len, HT.sIx_none, List.drop_zero, Nat.sub_zero]
  by_cases h : n ≤ b.length
  · rw [Nat.min_eq_left h]
  · rw [Nat.min_eq_right (by omega), List.take_of_length_le (Nat.le_refl _), List.take_of_length_le (by omega)]
theorem take_len {l : List Nat} {n : Nat} (h : n ≤ l.length) : (l.take n).length = n := by rw [List.length_take]; omega
/-! ### comprehensions with a test over a text -/
theorem given_filter {l : List Nat} (p : Nat → Bool) (g : Nat → V) : given l.length (fun i => p (l.getD i 0)) (fun i => g (l.getD i 0)) = (l.filter p).map g := by
  have e : l = (List.range l.length).map fun i => l.getD i 0 := by
    refine List.ext_getElem? fun i => ?_
    rw [List.getElem?_map]
    by_cases hi : i < l.length
    · rw [List.getElem?_range hi, List.getElem?_eq_getElem hi, Option.map_some, List.getD_eq_getElem?_getD, List.getElem?_eq_getElem hi] <;> rfl
    · rw [List.getElem?_eq_none (by omega), List.getElem?_eq_none (by rw [List.length_range]; omega)] <;> rfl
  unfold given
  conv => rhs; rw [e, List.filter_map, List.map_map]
  rfl
theorem el_flS {σ : L2.St} {H : Hp} {te tl : TE} {tt : TT} {z : Str} {j : Nat} {vs : List Nat} {p : Nat → Bool} (h : Ev te σ H (.str z)) (hz : z.cps.toList.length ≤ 40000) (hw : ∀ x, wipe ((wipe σ vs).set j (some x)) vs = wipe σ vs)
    (ht : ∀ (c : Nat), c ∈ z.cps.toList → ∀ H1, Ex H H1 → EvT tt ((wipe σ vs).set j (some (.str ⟨#[c]⟩))) H1 (p c)) (he : ∀ (c : Nat) H1, Ex H H1 → Ev tl ((wipe σ vs).set j (some (.str ⟨#[c]⟩))) H1 (.str ⟨#[c]⟩)) : EvL (tLc (iStr te) (gName j) tt tl vs) σ H ((z.cps.toList.filter p).map fun c => .str ⟨#[c]⟩) := fun H0 e Q q => h H0 e _ fun H1 e1 => ⟨z, rfl, fun D hD => by
  rw [← given_filter (l := z.cps.toList) p fun c => .str ⟨#[c]⟩] at q
  refine ⟨fun i m H' => m = z.cps.toList.length - i ∧ i ≤ z.cps.toList.length ∧ Cw H1 (fun i => p (z.cps.toList.getD i 0)) (fun i => .str ⟨#[z.cps.toList.getD i 0]⟩) D i H', ⟨_, rfl, Nat.zero_le _, hD, Ex.new hD, upd_same⟩, ?_⟩
  rintro i m H' ⟨rfl, hi, pp⟩
  by_cases hlt : i < z.cps.toList.length
  · refine .inr ⟨(by show i < z.cps.size; simpa using hlt), Cw H1 (fun i => p (z.cps.toList.getD i 0)) (fun i => .str ⟨#[z.cps.toList.getD i 0]⟩) D (i + 1), fun H2 p2 => ⟨_, by omega, rfl, hlt, p2⟩, fun x H2 y => ?_⟩
    obtain ⟨rfl, c, hc, rfl⟩ := y
    have hc' : z.cps.toList[i]? = some c := by simpa using hc
    have ed : z.cps.toList.getD i 0 = c := by rw [List.getD_eq_getElem?_getD, hc'] <;> rfl
    have t1 := ht c (List.mem_of_getElem? hc') H1 (e.trans e1)
    have t2 := he c H1 (e.trans e1)
    refine ⟨hw _, cw_turn pp (by omega) (by rw [ed]; exact t1) fun _ => (by rw [ed]; exact t2)⟩
  · have ei : i = z.cps.toList.length := by omega
    subst ei
    exact .inl ⟨(by show z.cps.size ≤ z.cps.toList.length; simp), q D H' (fresh_back e1 pp.1) (e1.trans pp.2.1) pp.2.2⟩⟩
theorem dpa_strs {K : PySem.W.Frag} {H : Hp} : ∀ zs : List Str, DpAll K H (zs.map V.str) (zs.map PyData.str)
  | [] => .nil
  | z :: zs => .cons (.str z) (dpa_strs zs)
/-- a new list == [] -/
theorem ev_eqNil {K : PySem.W.Frag} {σ : L2.St} {H : Hp} {ta : TE} {zs : List Str} (h : EvL ta σ H (zs.map V.str)) (hz : ∀ z ∈ zs, SeqAt.shaped (.str z) = true) : Ev (tOp (rEqD K) ta (tLst tNil)) σ H (.bl zs.isEmpty) := by
  refine ev_opLL h (el_lst ea_nil (by decide)) fun p q H1 hp hq _ => rv_val fun H2 e2 Q k => ⟨_, _, .lst (sq_of (e2 _ _ hp)) (dpa_strs zs), .lst (sq_of (e2 _ _ hq)) .nil, shaped_lst (n := 0) (fun d hd => ?_) (by decide), by decide, ?_⟩
  · obtain ⟨z, hz', rfl⟩ := List.mem_map.mp hd
    exact .str 0 (hz z hz')
  · have e : PyData.eqv (.list (zs.map PyData.str)) (.list []) = zs.isEmpty := by
      cases zs <;> simp [PyData.eqv, PyData.eqvAll]
    rw [e]
    exact k
/-- [f(k) for k in range(n)], n any int -/
theorem el_mapRI {σ : L2.St} {H : Hp} {ta : TA} {te : TE} {j : Nat} {vs : List Nat} {n : Int} {ys : List V} (h : EvA ta σ H [.int n]) (hz : -100000 ≤ n ∧ n ≤ 40000) (hw : ∀ x, wipe ((wipe σ vs).set j (some x)) vs = wipe σ vs) (hl : ys.length = n.toNat)
    (he : ∀ (i : Nat) (y : V), (i : Int) < n → ys[i]? = some y → ∀ H1, Ex H H1 → Ev te ((wipe σ vs).set j (some (.int (i : Int)))) H1 y) : EvL (tLc (iRng1 ta) (gName j) tYes te vs) σ H ys := by
  intro H0 e Q q
  refine h H0 e _ fun H1 e1 => ⟨n, rfl, by omega, by omega, fun Dl hD => ?_⟩
  refine lc_range (n := n.toNat) (fun i H' => H1 Dl = none ∧ Ex H1 H' ∧ H' Dl = some (.lst (ys.take i))) ⟨hD, Ex.new hD, upd_same⟩ (fun i H' hi p => ⟨hw _, ?_⟩) (fun H' p => ?_)
  · obtain ⟨p1, p2, p3⟩ := p
    have hi2 : i < ys.length := by omega
    have hy : ys[i]? = some ys[i] := List.getElem?_eq_getElem hi2
    show te ((wipe σ vs).set j (some (.int (0 + (i : Int))))) H' _
    rw [Int.zero_add]
    refine he i ys[i] (by omega) hy H1 (e.trans e1) H' p2 _ fun H4 e4 => ⟨ys.take i, e4 Dl _ p3, sz_lt (by rw [List.length_take]; omega), p1, (p2.trans e4).mut p1, ?_⟩
    rw [upd_same, List.take_add_one, hy] <;> rfl
  · obtain ⟨p1, p2, p3⟩ := p
    rw [← hl, List.take_length] at p3
    exact q Dl H' (fresh_back e1 p1) (e1.trans p2) p3
/-- texts that the law makes -/
def TxOk (n : Nat) (z : Str) : Prop := z.length ≤ n ∧ ∀ c ∈ z.cps.toList, c ≤ 1000
theorem TxOk.sh {n : Nat} {z : Str} (h : TxOk n z) : SeqAt.shaped (.str z) = true := by
  unfold SeqAt.shaped
  have e : PyData.strOk z = true := by
    unfold PyData.strOk
    rw [Array.all_eq_true']
    intro c hc
    have := h.2 c (by simpa using hc)
    simp only [decide_eq_true_eq]
    omega
  rw [show (PyData.str z).canLay0 = PyData.strOk z by simp [PyData.canLay0], e] <;> rfl
theorem TxOk.app {n m : Nat} {a b : Str} (h : TxOk n a) (k : TxOk m b) : TxOk (n + m) (a ++ b) := by
  refine ⟨?_, fun c hc => ?_⟩
  · rw [str_len, codes_app rfl rfl, List.length_append, ← str_len, ← str_len]
    have := h.1
    have := k.1
    omega
  · rw [codes_app (x := a.cps.toList) (y := b.cps.toList) rfl rfl] at hc
    rcases List.mem_append.mp hc with z | z
    · exact h.2 c z
    · exact k.2 c z
theorem TxOk.cut {n : Nat} {z : Str} (h : TxOk n z) (lo hi : Option Int) : TxOk n (cutS z lo hi) := by
  refine ⟨Nat.le_trans (cutS_length z lo hi) h.1, fun c hc => h.2 c ?_⟩
  exact List.mem_of_mem_drop (List.mem_of_mem_take (by exact hc))
theorem TxOk.mono {n m : Nat} {z : Str} (h : TxOk n z) (e : n ≤ m) : TxOk m z := ⟨Nat.le_trans h.1 e, h.2⟩
theorem TxOk.one {c : Nat} (h : c ≤ 1000) : TxOk 1 ⟨#[c]⟩ := ⟨Nat.le_refl 1, fun d hd => by
  have : d = c := by simpa using hd
  omega⟩
/-- a join of signs -/
theorem ev_joinS {K : PySem.W.Frag} {σ : L2.St} {H : Hp} {te : TE} {l : List Nat} (h : EvL te σ H (l.map fun c => V.str ⟨#[c]⟩)) (hz : l.length ≤ 100000) :
    Ev (tM1 (fun x xs H Q => ∃ a p, ∃ ys : List Str, x = .str a ∧ xs = [.ref p] ∧ (SqL K H p (ys.map V.str) ∨ SqT K H p (ys.map V.str)) ∧ (ys.map (·.length)).sum + ys.length * a.length ≤ 16777216 ∧ Q (.str (Txt.join a ys)) H) (tC (.str (Str.ofString ""))) te) σ H (.str (mkS l)) := by
  have e : (l.map fun c => V.str ⟨#[c]⟩) = (l.map fun c => (⟨#[c]⟩ : Str)).map V.str := by rw [List.map_map] <;> rfl
  rw [e] at h
  refine ev_is (ev_joinN (K := K) ev_c h ?_) (congrArg V.str (join_signs l))
  rw [sum_ones, List.length_map]
  have : (Str.ofString "").length = 0 := by decide +kernel
  rw [this]
  omega
theorem ev_starts {σ : L2.St} {H : Hp} {to te : TE} {a b : Str} (h0 : Ev to σ H (.str a)) (h : Ev te σ H (.str b)) : Ev (tM1 (fun x xs H Q => ∃ a b, x = V.str a ∧ xs = [V.str b] ∧ Q (.bl (Txt.startswith a b)) H) to te) σ H (.bl (Txt.startswith a b)) := fun H1 e Q q =>
  h0 H1 e _ fun H2 e2 => ⟨⟨a, rfl⟩, h H2 (e.trans e2) _ fun H3 e3 => ⟨a, b, rfl, rfl, q H3 (e2.trans e3)⟩⟩
theorem ev_rstrip {σ : L2.St} {H : Hp} {to te : TE} {a b : Str} (h0 : Ev to σ H (.str a)) (h : Ev te σ H (.str b)) (hz : a.length ≤ 16777216) : Ev (tM1 (fun x xs H Q => ∃ a b, x = V.str a ∧ xs = [V.str b] ∧ a.length ≤ sizeLine ∧ Q (.str (Txt.rstripChars a b)) H) to te) σ H (.str (Txt.rstripChars a b)) := fun H1 e Q q =>
  h0 H1 e _ fun H2 e2 => ⟨⟨a, rfl⟩, h H2 (e.trans e2) _ fun H3 e3 => ⟨a, b, rfl, rfl, sizeOk hz, q H3 (e2.trans e3)⟩⟩
theorem ev_intS {σ : L2.St} {H : Hp} {te : TE} {a : Str} {n : Int} (h : Ev te σ H (.str a)) (hn : PySem.intText? a = some n) (hz : a.length ≤ 640) : Ev (tCB (fun xs H Q => ∃ a n, xs = [V.str a] ∧ PySem.intText? a = some n ∧ a.length ≤ 640 ∧ Q (.int n) H) (tCons te tNil)) σ H (.int n) := fun H1 e Q q =>
  h H1 e _ fun H2 e2 => ⟨a, n, rfl, hn, hz, q H2 e2⟩
theorem addr_int {b : List Nat} (h : addrB b = true) : PySem.intText? (mkS b) = some ((PySem.NumText.digitsVal b : Nat) : Int) ∧ (mkS b).length ≤ 640 := by
  unfold addrB at h
  simp only [Bool.and_eq_true, decide_eq_true_eq, List.all_eq_true] at h
  obtain ⟨h1, _, h2⟩ := h
  refine ⟨intText_digits (x := mkS b) (fun c hc => ?_) (fun z => ?_) (by rw [mkS_len]; omega), by rw [mkS_len]; omega⟩
  · have := h2 c hc
    unfold digC at this
    simpa using this
  · have : b = [] := z
    subst this
    simp at h1
theorem ev_intB {σ : L2.St} {H : Hp} {te : TE} {b : Bool} (h : Ev te σ H (.bl b)) : Ev (tCB (fun xs H Q => (∃ i, xs = [V.int i] ∧ Q (.int i) H) ∨ ∃ k, xs = [V.bl k] ∧ Q (.int (if k = true then 1 else 0)) H) (tCons te tNil)) σ H (.int (if b = true then 1 else 0)) := fun H1 e Q q =>
  h H1 e _ fun H2 e2 => .inr ⟨b, rfl, q H2 e2⟩


/-! ### what evaluates to some text -/
def ES (te : TE) (σ : L2.St) (H : Hp) (R : Str → Prop) : Prop := ∀ H1, Ex H H1 → ∀ Q : VK, (∀ z H2, Ex H1 H2 → R z → Q (.str z) H2) → te σ H1 Q
def ESA (ta : TA) (σ : L2.St) (H : Hp) (R : Str → Prop) (n : Nat) : Prop := ∀ H1, Ex H H1 → ∀ Q : List V → Hp → Prop, (∀ (zs : List Str) H2, Ex H1 H2 → zs.length = n → (∀ z ∈ zs, R z) → Q (zs.map V.str) H2) → ta σ H1 Q
section
variable {K : PySem.W.Frag} {σ : L2.St} {H : Hp} {te ta tb : TE} {R R1 R2 : Str → Prop}
theorem es_ev {z : Str} (h : Ev te σ H (.str z)) (r : R z) : ES te σ H R := fun H1 e Q q => h H1 e _ fun H2 e2 => q z H2 e2 r
theorem ES.imp (h : ES te σ H R1) (i : ∀ z, R1 z → R z) : ES te σ H R := fun H1 e Q q => h H1 e Q fun z H2 e2 r => q z H2 e2 (i z r)
theorem ES.mono {H' : Hp} (e : Ex H H') (h : ES te σ H R) : ES te σ H' R := fun H1 e1 => h H1 (e.trans e1)
theorem es_add (ha : ES ta σ H R1) (hb : ES tb σ H R2) (hR : ∀ a b, R1 a → R2 b → a.length + b.length ≤ 16777216 ∧ R (a ++ b)) : ES (tOp (fun x y H Q => ∃ i j, x = V.str i ∧ y = V.str j ∧ i.length + j.length ≤ sizeLine ∧ Q (.str (i ++ j)) H) ta tb) σ H R := fun H1 e Q q =>
  ha H1 e _ fun a H2 e2 ra => hb H2 (e.trans e2) _ fun b H3 e3 rb => ⟨a, b, rfl, rfl, sizeOk (hR a b ra rb).1, q _ H3 (e2.trans e3) (hR a b ra rb).2⟩
theorem esa_nil : ESA tNil σ H R 0 := fun H1 _ _ q => q [] H1 (Ex.refl H1) rfl fun _ z => nomatch z
theorem esa_cons {tr : TA} {n : Nat} (h : ES te σ H R) (r : ESA tr σ H R n) : ESA (tCons te tr) σ H R (n + 1) := fun H1 e Q q =>
  h H1 e _ fun z H2 e2 rz => r H2 (e.trans e2) _ fun zs H3 e3 hl hz => q (z :: zs) H3 (e2.trans e3) (by rw [List.length_cons, hl]) fun y hy => by
    rcases List.mem_cons.mp hy with h | h
    · rw [h]; exact rz
    · exact hz y h
theorem es_ixN {tr : TA} {n : Nat} {i : Int} (h : ESA tr σ H R n) (hi : ∀ H1, Ex H H1 → Ev tb σ H1 (.int i)) (h0 : 0 ≤ i) (h1 : i < n) (hn : n ≤ 100000) : ES (tOp (rIxL K) (tLst tr) tb) σ H R := fun H1 e Q q =>
  h H1 e _ fun zs H2 e2 hl hz => ⟨sz_of (by rw [List.length_map, hl]; exact hn), fun p hp => hi _ (e.trans (e2.trans (Ex.new hp))) _ (Ex.refl _) _ fun H3 e3 => by
    obtain ⟨z, hzz⟩ : ∃ z, zs[i.toNat]? = some z := ⟨_, List.getElem?_eq_getElem (by omega)⟩
    exact ⟨p, zs.map V.str, i, .str z, rfl, rfl, sq_of (e3 _ _ upd_same), atI_of h0 (by rw [List.getElem?_map, hzz] <;> rfl), q z H3 ((e2.trans (Ex.new hp)).trans e3) (hz z (List.mem_of_getElem? hzz))⟩⟩
theorem q_asgS {D : Ends} {tz : TS} {i : Nat} (h : ES te σ H R) (k : ∀ z H1, Ex H H1 → R z → tz D (σ.set i (some (.str z))) H1) : tSeq (tAsg te (gName i)) tz D σ H := h H (Ex.refl H) _ k
theorem s_asgS {D : Ends} {i : Nat} (h : ES te σ H R) (k : ∀ z H1, Ex H H1 → R z → D.nx (σ.set i (some (.str z))) H1) : tAsg te (gName i) D σ H := h H (Ex.refl H) _ k
theorem s_retS {D : Ends} (h : ES te σ H R) (k : ∀ z H1, Ex H H1 → R z → D.rt (.str z) H1) : tRet te D σ H := h H (Ex.refl H) _ k
end
/-- for x in [a, b, c], texts -/
theorem s_forTx {K : PySem.W.Frag} {σ : L2.St} {H : Hp} {ta : TA} {tu : TS} {D : Ends} {j n : Nat} {R : Str → Prop} (h : ESA ta σ H R n) (hn : n ≤ 100000) (Pv : Hp → L2.St → Hp → Prop) (h0 : ∀ H1, Ex H H1 → Pv H1 σ H1) (he : ∀ H1 σ' H', Pv H1 σ' H' → Ex H1 H')
    (hs : ∀ H1 z σ' H', Ex H H1 → R z → Pv H1 σ' H' → tu { D with nx := Pv H1, ct := Pv H1, bk := D.nx } (σ'.set j (some (.str z))) H') (hd : ∀ H1 σ' H', Ex H H1 → Pv H1 σ' H' → D.nx σ' H') : tFor (iList K (tLst ta)) (gName j) tu D σ H := by
  refine h H (Ex.refl H) _ fun zs H2 e2 hl hz => ⟨sz_of (by rw [List.length_map, hl]; exact hn), fun p hp => ⟨p, rfl, ⟨zs.map V.str, sq_of upd_same⟩, ?_⟩⟩
  have e3 := e2.trans (Ex.new (o := .lst (zs.map V.str)) hp)
  refine for_list (xs := zs.map V.str) (fun i σ' H' => Pv (upd H2 p (.lst (zs.map V.str))) σ' H') (h0 _ e3) (fun i σ' H' _ hP => sq_of (he _ _ _ hP p _ upd_same)) (fun i x σ' H' hi hP => ?_) (fun σ' H' hP => hd _ _ _ e3 hP)
  rw [List.getElem?_map] at hi
  cases e : zs[i]? with
  | none => rw [e] at hi; cases hi
  | some z =>
    rw [e] at hi
    have ex : x = .str z := (Option.some.inj hi).symm
    subst ex
    exact hs _ z σ' H' e3 (hz z (List.mem_of_getElem? e)) hP


/-! ### expressions -/
inductive Bop | add | sub | mul | equal | unequal | less | atmost | more | atleast | and | or
  deriving DecidableEq
def Bop.s : Bop → Str
  | .add => "add"
  | .sub => "sub"
  | .mul => "mul"
  | .equal => "equal"
  | .unequal => "unequal"
  | .less => "less"
  | .atmost => "atmost"
  | .more => "more"
  | .atleast => "atleast"
  | .and => "and"
  | .or => "or"
inductive Tr | int (n : Int) | text (z : Str) | col (z : Str) | neg (a : Tr) | null (a : Tr) | not (a : Tr) | bin (o : Bop) (a b : Tr)
def Tr.d : Tr → PyData
  | .int n => .tuple [.str "int", .int n]
  | .text z => .tuple [.str "text", .str z]
  | .col z => .tuple [.str "column", .str z]
  | .neg a => .tuple [.str "neg", a.d]
  | .null a => .tuple [.str "null", a.d]
  | .not a => .tuple [.str "not", a.d]
  | .bin o a b => .tuple [.str o.s, a.d, b.d]
def Tr.h : Tr → Nat
  | .int _ => 0
  | .text _ => 0
  | .col _ => 0
  | .neg a => a.h + 1
  | .null a => a.h + 1
  | .not a => a.h + 1
  | .bin _ a b => max a.h b.h + 1
inductive Kd | int | text | truth
  deriving DecidableEq
def Kd.s : Kd → Str
  | .int => "int"
  | .text => "text"
  | .truth => "truth"
def Bop.ar (o : Bop) : Bool := o = .add ∨ o = .sub ∨ o = .mul
def Bop.lg (o : Bop) : Bool := o = .and ∨ o = .or
/-- the columns: names and kinds -/
abbrev Cols := List (Str × Kd)
inductive Ty (cs : Cols) : Tr → Kd → Prop
  | int {n : Int} (h : 0 ≤ n ∧ n < 10 ^ 18) : Ty cs (.int n) .int
  | text {z : Str} (h : SeqAt.shaped (.str z) = true) : Ty cs (.text z) .text
  | col {z : Str} {k : Kd} (h : SeqAt.shaped (.str z) = true) (hk : k ≠ .truth) (f : (cs.find? fun c => decide (c.1 = z)).map (·.2) = some k) : Ty cs (.col z) k
  | neg {a : Tr} (h : Ty cs a .int) : Ty cs (.neg a) .int
  | null {a : Tr} {k : Kd} (h : Ty cs a k) (hk : k ≠ .truth) : Ty cs (.null a) .truth
  | not {a : Tr} (h : Ty cs a .truth) : Ty cs (.not a) .truth
  | ar {o : Bop} {a b : Tr} (ho : o.ar = true) (h : Ty cs a .int) (h2 : Ty cs b .int) : Ty cs (.bin o a b) .int
  | cmp {o : Bop} {a b : Tr} {k : Kd} (ho : o.ar = false) (ho2 : o.lg = false) (hk : k ≠ .truth) (h : Ty cs a k) (h2 : Ty cs b k) : Ty cs (.bin o a b) .truth
  | lg {o : Bop} {a b : Tr} (ho : o.lg = true) (h : Ty cs a .truth) (h2 : Ty cs b .truth) : Ty cs (.bin o a b) .truth
theorem Ty.fl {cs : Cols} {t : Tr} {k : Kd} (h : Ty cs t k) : Fl (t.h + 1) t.d := by
  have two : ∀ {n : Nat} {a : String} {d : PyData}, SeqAt.shaped (.str (Str.ofString a)) = true → Fl n d → Fl (n + 1) (.tuple [.str a, d]) := fun hs h => .tup fun x hx => by
    simp only [List.mem_cons, List.not_mem_nil, or_false] at hx
    rcases hx with z | z <;> rw [z]
    · exact .str _ hs
    · exact h
  have s : ∀ o : Bop, SeqAt.shaped (.str o.s) = true := by intro o; cases o <;> decide +kernel
  have three : ∀ {o : Bop} {n m : Nat} {d e : PyData}, Fl n d → Fl m e → Fl (max n m + 1) (.tuple [.str o.s, d, e]) := fun {o n m d e} h1 h2 => .tup fun x hx => by
    simp only [List.mem_cons, List.not_mem_nil, or_false] at hx
    rcases hx with z | z | z <;> rw [z]
    · exact .str _ (s o)
    · exact h1.mono (Nat.le_max_left _ _)
    · exact h2.mono (Nat.le_max_right _ _)
  have mx : ∀ {o : Bop} {a b : Tr}, Fl (a.h + 1) a.d → Fl (b.h + 1) b.d → Fl ((Tr.bin o a b).h + 1) (Tr.bin o a b).d := fun {o a b} h1 h2 => (three (o := o) h1 h2).mono (by show _ ≤ max a.h b.h + 1 + 1; omega)
  induction h with
  | int h => exact two (by decide +kernel) (.int 0 _)
  | text h => exact two (by decide +kernel) (.str 0 h)
  | col h _ _ => exact two (by decide +kernel) (.str 0 h)
  | neg _ ih => exact two (by decide +kernel) ih
  | null _ _ ih => exact two (by decide +kernel) ih
  | not _ ih => exact two (by decide +kernel) ih
  | ar _ _ _ i1 i2 => exact mx i1 i2
  | cmp _ _ _ _ _ i1 i2 => exact mx i1 i2
  | lg _ _ _ i1 i2 => exact mx i1 i2
theorem lg_ar {o : Bop} (h : o.ar = true) (h2 : o.lg = true) : False := by cases o <;> simp [Bop.ar, Bop.lg] at h h2
theorem Ty.kd_u {cs : Cols} {t : Tr} {k k' : Kd} (h : Ty cs t k) (h2 : Ty cs t k') : k = k' := by
  cases h with
  | int _ => cases h2; rfl
  | text _ => cases h2; rfl
  | col _ _ f =>
    cases h2 with
    | col _ _ f2 => exact Option.some.inj (f.symm.trans f2)
  | neg _ => cases h2; rfl
  | null _ _ => cases h2; rfl
  | not _ => cases h2; rfl
  | ar ho _ _ =>
    cases h2 with
    | ar _ _ _ => rfl
    | cmp h _ _ _ _ => exact Bool.noConfusion (ho.symm.trans h)
    | lg h _ _ => exact (lg_ar ho h).elim
  | cmp ho ho2 _ _ _ =>
    cases h2 with
    | ar h _ _ => exact Bool.noConfusion (h.symm.trans ho)
    | cmp _ _ _ _ _ => rfl
    | lg h _ _ => exact Bool.noConfusion (h.symm.trans ho2)
  | lg ho _ _ =>
    cases h2 with
    | ar h _ _ => exact (lg_ar h ho).elim
    | cmp _ h _ _ _ => exact Bool.noConfusion (ho.symm.trans h)
    | lg _ _ _ => rfl
/-! ### values -/
def bndV (n : Int) : V := if n.natAbs < 10 ^ 60 then .int n else .non
def colV : Cols → List V → Str → V
  | (c, _) :: cs, v :: vs, z => if c = z then v else colV cs vs z
  | _, _, _ => .non
def cmpV (o : Bop) (x y : V) : V := match x, y with
  | .int i, .int j => (match o with
    | .add => bndV (i + j)
    | .sub => bndV (i - j)
    | .mul => bndV (i * j)
    | .equal => .bl (decide (i = j))
    | .unequal => .bl (!decide (i = j))
    | .less => .bl (decide (i < j))
    | .atmost => .bl (decide (i ≤ j))
    | .more => .bl (decide (j < i))
    | .atleast => .bl (decide (j ≤ i))
    | _ => .non)
  | .str i, .str j => (match o with
    | .equal => .bl (decide (i = j))
    | .unequal => .bl (!decide (i = j))
    | .less => .bl (decide (i.cps.toList < j.cps.toList))
    | .atmost => .bl (!decide (j.cps.toList < i.cps.toList))
    | .more => .bl (decide (j.cps.toList < i.cps.toList))
    | .atleast => .bl (!decide (i.cps.toList < j.cps.toList))
    | _ => .non)
  | _, _ => .non
def andV (x y : V) : V := if x = .bl false ∨ y = .bl false then .bl false else if x = .non ∨ y = .non then .non else .bl true
def orV (x y : V) : V := if x = .bl true ∨ y = .bl true then .bl true else if x = .non ∨ y = .non then .non else .bl false
def evT (cs : Cols) (row : List V) : Tr → V
  | .int n => .int n
  | .text z => .str z
  | .col z => colV cs row z
  | .neg a => match evT cs row a with
    | .int i => bndV (-i)
    | _ => .non
  | .null a => .bl (decide (evT cs row a = .non))
  | .not a => match evT cs row a with
    | .bl b => .bl (!b)
    | _ => .non
  | .bin o a b => if o = .and then andV (evT cs row a) (evT cs row b) else if o = .or then orV (evT cs row a) (evT cs row b) else cmpV o (evT cs row a) (evT cs row b)
/-- a value of that kind -/
inductive VK' : Kd → V → Prop
  | non (k : Kd) : VK' k .non
  | int {i : Int} (h : i.natAbs < 10 ^ 60) : VK' .int (.int i)
  | str (z : Str) : VK' .text (.str z)
  | bl (b : Bool) : VK' .truth (.bl b)
theorem bnd_ok (i : Int) : VK' .int (bndV i) := by
  unfold bndV
  split
  · rename_i h; exact .int h
  · exact .non _
inductive RowOk : Cols → List V → Prop
  | nil : RowOk [] []
  | cons {c : Str} {k : Kd} {cs : Cols} {v : V} {vs : List V} (h : VK' k v) (r : RowOk cs vs) : RowOk ((c, k) :: cs) (v :: vs)
theorem RowOk.len : ∀ {cs : Cols} {vs : List V}, RowOk cs vs → vs.length = cs.length
  | _, _, .nil => rfl
  | _, _, .cons _ r => congrArg (· + 1) r.len
theorem colV_ok : ∀ {cs : Cols} {vs : List V} {z : Str} {k : Kd}, RowOk cs vs → (cs.find? fun c => decide (c.1 = z)).map (·.2) = some k → VK' k (colV cs vs z)
  | _, _, z, k, .cons (c := c) (k := k') (cs := cs) (v := v) (vs := vs) h r, f => by
    rw [List.find?_cons] at f
    unfold colV
    by_cases e : c = z
    · rw [decide_eq_true (show (c, k').1 = z from e)] at f
      rw [if_pos e, ← Option.some.inj f]
      exact h
    · rw [decide_eq_false (show ¬ (c, k').1 = z from e)] at f
      rw [if_neg e]
      exact colV_ok r f
theorem ev_ok {cs : Cols} {row : List V} (hr : RowOk cs row) {t : Tr} {k : Kd} (h : Ty cs t k) : VK' k (evT cs row t) := by
  induction h with
  | int h => exact .int (by omega)
  | text h => exact .str _
  | col h hk f => exact colV_ok hr f
  | @neg a h ih =>
    unfold evT
    generalize evT cs row a = x at ih
    cases ih with
    | non => exact .non _
    | int _ => exact bnd_ok _
  | null h hk ih => exact .bl _
  | @not a h ih =>
    unfold evT
    generalize evT cs row a = x at ih
    cases ih with
    | non => exact .non _
    | bl b => exact .bl _
  | @ar o a b ho h h2 ih ih2 =>
    unfold evT
    rw [if_neg (by intro z; rw [z] at ho; cases ho), if_neg (by intro z; rw [z] at ho; cases ho)]
    generalize evT cs row a = x at ih
    generalize evT cs row b = y at ih2
    cases ih with
    | non => cases ih2 <;> exact .non _
    | int _ =>
      cases ih2 with
      | non => exact .non _
      | int _ => cases o <;> first | exact bnd_ok _ | cases ho
  | @cmp o a b k ho ho2 hk h h2 ih ih2 =>
    unfold evT
    rw [if_neg (by intro z; rw [z] at ho2; cases ho2), if_neg (by intro z; rw [z] at ho2; cases ho2)]
    generalize evT cs row a = x at ih
    generalize evT cs row b = y at ih2
    cases ih with
    | non => cases ih2 <;> exact .non _
    | int _ =>
      cases ih2 with
      | non => exact .non _
      | int _ => cases o <;> first | exact .bl _ | exact .non _ | cases ho | cases ho2
    | str _ =>
      cases ih2 with
      | non => exact .non _
      | str _ => cases o <;> first | exact .bl _ | exact .non _ | cases ho | cases ho2
    | bl _ => exact absurd rfl hk
  | @lg o a b ho h h2 ih ih2 =>
    unfold evT
    by_cases e : o = .and
    · rw [if_pos e]
      unfold andV
      split
      · exact .bl _
      · split
        · exact .non _
        · exact .bl _
    · rw [if_neg e]
      by_cases e2 : o = .or
      · rw [if_pos e2]
        unfold orV
        split
        · exact .bl _
        · split
          · exact .non _
          · exact .bl _
      · cases o <;> first | exact absurd rfl e | exact absurd rfl e2 | cases ho
theorem VK'.flat {k : Kd} {v : V} (h : VK' k v) : flatV v = true := by cases h <;> rfl
def colsD (cs : Cols) : PyData := .tuple (cs.map fun c => .tuple [.str c.1, .str c.2.s])


/-! ### tuples of two and three; slices of tuples; membership of values -/
theorem dp_two {K : PySem.W.Frag} {H : Hp} {v : V} {a : Str} {d : PyData} (h : Dp K H v (.tuple [.str a, d])) : ∃ p x, v = .ref p ∧ SqT K H p [.str a, x] ∧ Dp K H x d := by
  cases h with
  | tup hs hds =>
    cases hds with
    | cons h1 r =>
      cases r with
      | cons h2 r =>
        cases r
        cases h1
        exact ⟨_, _, rfl, hs, h2⟩
theorem dp_three {K : PySem.W.Frag} {H : Hp} {v : V} {a : Str} {d e : PyData} (h : Dp K H v (.tuple [.str a, d, e])) : ∃ p x y, v = .ref p ∧ SqT K H p [.str a, x, y] ∧ Dp K H x d ∧ Dp K H y e := by
  cases h with
  | tup hs hds =>
    cases hds with
    | cons h1 r =>
      cases r with
      | cons h2 r =>
        cases r with
        | cons h3 r =>
          cases r
          cases h1
          exact ⟨_, _, _, rfl, hs, h2, h3⟩
/-- t[1:] of a tuple -/
theorem eu_sl1 {K : PySem.W.Frag} {σ : L2.St} {H : Hp} {te : TE} {tl th : TO} {a : Addr} {x : V} {xs : List V} (h : Ev te σ H (.ref a)) (h1 : EvO tl σ H (some 1)) (h2 : EvO th σ H none) (hx : SqT K H a (x :: xs)) : EvU (tSl (rSlA K) te tl th) σ H xs := fun H0 e Q q =>
  h H0 e _ fun H2 e2 => h1 H2 (e.trans e2) _ fun H3 e3 => h2 H3 ((e.trans e2).trans e3) _ fun H4 e4 => by
    have z1 : HT.sIx (x :: xs).length 0 (some 1) = 1 := by
      show HT.sIx (xs.length + 1) 0 (some ((1 : Nat) : Int)) = 1
      rw [HT.sIx_nat]
      omega
    refine ⟨a, x :: xs, rfl, ex_t (((e.trans e2).trans e3).trans e4) hx, fun z => ?_, fun _ p hp => ?_⟩
    · have := z.1
      rw [z1] at this
      cases this
    · have ec : cutV (x :: xs) (some 1) none = xs := by
        unfold cutV
        rw [z1, HT.sIx_none]
        show (xs.take (xs.length + 1 - 1)) = xs
        exact List.take_of_length_le (Nat.le_refl _)
      rw [ec]
      exact q p _ (fresh_back ((e2.trans e3).trans e4) hp) (((e2.trans e3).trans e4).trans (Ex.new hp)) upd_same
/-- [f(x) for x in a new tuple] -/
theorem el_mapTN {K : PySem.W.Frag} {σ : L2.St} {H : Hp} {tl te : TE} {j : Nat} {vs : List Nat} {xs ys : List V} (h : EvU tl σ H xs) (hz : xs.length ≤ 40000) (hw : ∀ x, wipe ((wipe σ vs).set j (some x)) vs = wipe σ vs) (hl : ys.length = xs.length)
    (he : ∀ (i : Nat) (x y : V), xs[i]? = some x → ys[i]? = some y → ∀ H1, Ex H H1 → Ev te ((wipe σ vs).set j (some x)) H1 y) : EvL (tLc (iTup K tl) (gName j) tYes te vs) σ H ys := by
  intro H0 e Q q
  refine h H0 e _ fun a H1 _ e1 ha => ⟨a, rfl, ⟨xs, st_of ha⟩, fun Dl hD => ?_⟩
  refine lc_tup (xs := xs) (fun i H' => H1 Dl = none ∧ Ex H1 H' ∧ H' Dl = some (.lst (ys.take i))) ⟨hD, Ex.new hD, upd_same⟩ (fun i H' _ p => ex_t p.2.1 (st_of ha)) (fun i x H' hi p => ⟨hw x, ?_⟩) (fun H' p => ?_)
  · obtain ⟨p1, p2, p3⟩ := p
    have hi2 : i < ys.length := by
      have := (List.getElem?_eq_some_iff.mp hi).1
      omega
    have hy : ys[i]? = some ys[i] := List.getElem?_eq_getElem hi2
    show te ((wipe σ vs).set j (some x)) H' _
    refine he i x ys[i] hi hy H1 (e.trans e1) H' p2 _ fun H4 e4 => ⟨ys.take i, e4 Dl _ p3, sz_lt (by rw [List.length_take]; omega), p1, (p2.trans e4).mut p1, ?_⟩
    rw [upd_same, List.take_add_one, hy] <;> rfl
  · obtain ⟨p1, p2, p3⟩ := p
    rw [← hl, List.take_length] at p3
    exact q Dl H' (fresh_back e1 p1) (e1.trans p2) p3
/-- list.index -/
theorem ev_index {K : PySem.W.Frag} {σ : L2.St} {H : Hp} {to te : TE} {ys : List V} {y z : V} {j : Nat} (h : EvL to σ H ys) (hy : ∀ H1, Ex H H1 → Ev te σ H1 y) (fy : flatV y = true) (fs : ys.all flatV = true) (hj : ys[j]? = some z) (hz : eqV z y = true) (hn : ∀ (m : Nat) (z' : V), m < j → ys[m]? = some z' → eqV z' y = false) :
    Ev (tBM K "list" (rIndex K) to (tCons te tNil)) σ H (.int (j : Int)) := fun H1 e Q q =>
  h H1 e _ fun p H2 _ e2 hp => ⟨.inl ⟨rfl, _, sq_of hp⟩, hy H2 (e.trans e2) _ (Ex.refl H2) _ fun H3 e3 => ⟨p, ys, y, j, z, rfl, rfl, sq_of (e3 _ _ hp), fy, fs, hj, hz, hn, q H3 (e2.trans e3)⟩⟩
theorem ev_abs {σ : L2.St} {H : Hp} {te : TE} {i : Int} (h : Ev te σ H (.int i)) : Ev (tCB (fun xs H Q => ∃ i, xs = [V.int i] ∧ Q (.int (if i < 0 then -i else i)) H) (tCons te tNil)) σ H (.int (i.natAbs : Int)) := fun H1 e Q q =>
  h H1 e _ fun H2 e2 => ⟨i, rfl, by
    have : (if i < 0 then -i else i) = (i.natAbs : Int) := by split <;> omega
    rw [this]
    exact q H2 e2⟩
theorem eqS_refl (z : Str) : eqV (.str z) (.str z) = true := by show (z == z) = true; simp
theorem eqS_ne {a b : Str} (h : a ≠ b) : eqV (.str a) (.str b) = false := by
  show (a == b) = false
  simpa using h
theorem in_non {x y : V} : inV .non [x, y] = decide (x = .non ∨ y = .non) := by
  have e : ∀ v : V, eqV v .non = decide (v = .non) := by intro v; cases v <;> rfl
  unfold inV
  simp only [List.any_cons, List.any_nil, Bool.or_false, e]
  by_cases h : x = .non <;> by_cases h2 : y = .non <;> simp [h, h2]
theorem in_non1 {x : V} : inV .non [x] = decide (x = .non) := by
  have e : ∀ v : V, eqV v .non = decide (v = .non) := by intro v; cases v <;> rfl
  unfold inV
  simp only [List.any_cons, List.any_nil, Bool.or_false, e]
theorem in_bl {x y : V} {b : Bool} (hx : VK' .truth x) (hy : VK' .truth y) : inV (.bl b) [x, y] = decide (x = .bl b ∨ y = .bl b) := by
  have e : ∀ v : V, VK' .truth v → eqV v (.bl b) = decide (v = .bl b) := by
    intro v h
    cases h with
    | non => rfl
    | bl c => cases b <;> cases c <;> rfl
  unfold inV
  simp only [List.any_cons, List.any_nil, Bool.or_false, e x hx, e y hy]
  by_cases h : x = .bl b <;> by_cases h2 : y = .bl b <;> simp [h, h2]
theorem kin_bop (o : Bop) : kIn o.s ["int", "text"] = false ∧ decide (o.s = Str.ofString "column") = false ∧ decide (o.s = Str.ofString "null") = false ∧ kIn o.s ["and", "or"] = o.lg ∧ decide (o.s = Str.ofString "or") = decide (o = .or) ∧ decide (o.s = Str.ofString "and") = decide (o = .and) ∧ decide (o.s = Str.ofString "not") = false ∧ kIn o.s ["neg", "add", "sub", "mul"] = o.ar ∧ decide (o.s = Str.ofString "neg") = false ∧ decide (o.s = Str.ofString "add") = decide (o = .add) ∧ decide (o.s = Str.ofString "sub") = decide (o = .sub) ∧ decide (o.s = Str.ofString "mul") = decide (o = .mul) ∧ decide (o.s = Str.ofString "equal") = decide (o = .equal) ∧ decide (o.s = Str.ofString "unequal") = decide (o = .unequal) ∧ decide (o.s = Str.ofString "less") = decide (o = .less) ∧ decide (o.s = Str.ofString "atmost") = decide (o = .atmost) ∧ decide (o.s = Str.ofString "more") = decide (o = .more) := by
  cases o <;> decide +kernel
def spEv (K : PySem.W.Frag) (n : Nat) : Sp := fun vs H Q _ => ∃ (t : Tr) (k : Kd) (cs : Cols) (row : List V) (vt vc : V) (r : Addr), vs = [vt, vc, .ref r] ∧ Dp K H vt t.d ∧ t.h ≤ n ∧ Ty cs t k ∧ Dp K H vc (colsD cs) ∧ SqT K H r row ∧ RowOk cs row ∧ cs.length ≤ 100 ∧ ∀ H', Ex H H' → Q (evT cs row t) H'
theorem cv_ev {K : PySem.W.Frag} {n : Nat} {t : Tr} {k : Kd} {cs : Cols} {row : List V} {vt vc : V} {r : Addr} {H : Hp} (h1 : Dp K H vt t.d) (h2 : t.h ≤ n) (h3 : Ty cs t k) (h4 : Dp K H vc (colsD cs)) (h5 : SqT K H r row) (h6 : RowOk cs row) (h7 : cs.length ≤ 100) : SpV (spEv K n) [vt, vc, .ref r] H (evT cs row t) := fun H1 e Q q E => ⟨t, k, cs, row, vt, vc, r, rfl, dp_mono e h1, h2, h3, dp_mono e h4, ex_t e h5, h6, h7, fun H2 e2 => q H2 e2⟩
/-- the columns in the heap -/
theorem cols_at {K : PySem.W.Frag} {H : Hp} {vc : V} {cs : Cols} (h : Dp K H vc (colsD cs)) : ∃ (c : Addr) (xs : List V), vc = .ref c ∧ SqT K H c xs ∧ xs.length = cs.length ∧ ∀ (i : Nat) (x : V), xs[i]? = some x → ∃ p c, cs[i]? = some c ∧ x = .ref p ∧ SqT K H p [.str c.1, .str c.2.s] := by
  cases h with
  | tup hs hds =>
    refine ⟨_, _, rfl, hs, by rw [dpa_len hds, List.length_map], fun i x hx => ?_⟩
    obtain ⟨d, h1, h2⟩ := dpa_at hds hx
    rw [List.getElem?_map] at h1
    cases e : cs[i]? with
    | none => rw [e] at h1; cases h1
    | some c =>
      rw [e] at h1
      rw [← Option.some.inj h1] at h2
      obtain ⟨p, y, rfl, h3, h4⟩ := dp_two h2
      cases h4
      exact ⟨p, c, rfl, rfl, h3⟩
def plc : Cols → Str → Nat
  | [], _ => 0
  | (c, _) :: cs, z => if c = z then 0 else plc cs z + 1
theorem plc_spec : ∀ {cs : Cols} {z : Str} {k : Kd} {row : List V}, (cs.find? fun c => decide (c.1 = z)).map (·.2) = some k → row.length = cs.length → (∃ c, cs[plc cs z]? = some c ∧ c.1 = z) ∧ row[plc cs z]? = some (colV cs row z) ∧ ∀ (m : Nat) c, m < plc cs z → cs[m]? = some c → c.1 ≠ z
  | (c, k') :: cs, z, k, v :: row, f, hl => by
    rw [List.find?_cons] at f
    unfold plc colV
    by_cases e : c = z
    · rw [if_pos e, if_pos e]
      exact ⟨⟨_, rfl, e⟩, rfl, fun m c h => by omega⟩
    · rw [decide_eq_false (show ¬ (c, k').1 = z from e)] at f
      rw [if_neg e, if_neg e]
      obtain ⟨⟨d, h1, h2⟩, h3, h4⟩ := plc_spec (cs := cs) (row := row) f (by simpa using hl)
      refine ⟨⟨d, by simpa using h1, h2⟩, by simpa using h3, fun m d' hm hd => ?_⟩
      cases m with
      | zero =>
        have : (c, k') = d' := by simpa using hd
        rw [← this]
        exact e
      | succ m => exact h4 m d' (by omega) (by simpa using hd)
  | (c, k') :: cs, z, k, [], f, hl => by simp at hl
  | [], z, k, row, f, hl => by cases f
/-- two ints or two texts -/
def Two (x y : V) : Prop := (∃ i j, x = .int i ∧ y = .int j) ∨ ∃ a b, x = .str a ∧ y = .str b
def rAny2 (f : Int → Int → Bool) (g : Str → Str → Bool) : R2 := fun x y H Q => (rI0 fun i j => .bl (f i j)) x y H Q ∨ (∃ i j, x = .str i ∧ y = .str j ∧ Q (.bl (g i j)) H)
theorem ev_two {σ : L2.St} {H : Hp} {ta tb : TE} {x y v : V} {f : Int → Int → Bool} {g : Str → Str → Bool} (ha : Ev ta σ H x) (hb : Ev tb σ H y) (h : Two x y) (hi : ∀ i j, x = .int i → y = .int j → v = .bl (f i j)) (hs : ∀ i j, x = .str i → y = .str j → v = .bl (g i j)) : Ev (tOp (rAny2 f g) ta tb) σ H v := by
  rcases h with ⟨i, j, rfl, rfl⟩ | ⟨i, j, rfl, rfl⟩
  · rw [hi i j rfl rfl]
    exact ev_op ha hb fun H1 e1 Q q => .inl ⟨i, j, rfl, rfl, q H1 (Ex.refl H1)⟩
  · rw [hs i j rfl rfl]
    exact ev_op ha hb fun H1 e1 Q q => .inr ⟨i, j, rfl, rfl, q H1 (Ex.refl H1)⟩
theorem ev_lt2 {σ : L2.St} {H : Hp} {ta tb : TE} {x y : V} (ha : Ev ta σ H x) (hb : Ev tb σ H y) (h : Two x y) : Ev (tOp (rAny2 (fun i j => decide (i < j)) (fun i j => decide (i.cps.toList < j.cps.toList))) ta tb) σ H (cmpV .less x y) := ev_two ha hb h (fun i j hx hy => by rw [hx, hy] <;> rfl) (fun i j hx hy => by rw [hx, hy] <;> rfl)
theorem less_bl {x y : V} (h : Two x y) : ∃ b, cmpV .less x y = .bl b ∧ cmpV .atleast x y = .bl (!b) ∧ cmpV .more y x = .bl b ∧ cmpV .atmost y x = .bl (!b) := by
  rcases h with ⟨i, j, rfl, rfl⟩ | ⟨i, j, rfl, rfl⟩
  · refine ⟨decide (i < j), rfl, ?_, rfl, ?_⟩
    · show V.bl (decide (j ≤ i)) = V.bl (!decide (i < j))
      rw [show decide (j ≤ i) = !decide (i < j) by by_cases h : i < j <;> simp [h] <;> omega]
    · show V.bl (decide (j ≤ i)) = V.bl (!decide (i < j))
      rw [show decide (j ≤ i) = !decide (i < j) by by_cases h : i < j <;> simp [h] <;> omega]
  · exact ⟨decide (i.cps.toList < j.cps.toList), rfl, rfl, rfl, rfl⟩
theorem Two.symm {x y : V} (h : Two x y) : Two y x := by
  rcases h with ⟨i, j, rfl, rfl⟩ | ⟨i, j, rfl, rfl⟩
  · exact .inl ⟨j, i, rfl, rfl⟩
  · exact .inr ⟨j, i, rfl, rfl⟩
/-- x is True, x is False, x None or a bool -/
def rIsF : R2 := fun x y H Q => ∃ b, y = .bl b ∧ ((x = .non ∧ Q (.bl false) H) ∨ ∃ a, x = .bl a ∧ Q (.bl (decide (a = b))) H)
theorem op_isF {X : Cx} : OpR X (compareOp .Is) rIsF := by
  intro pins s σ H x y v u Q I rx ry h
  obtain ⟨b, rfl, ⟨rfl, q⟩ | ⟨a, rfl, q⟩⟩ := h
  · cases (show v = Value.none from rx)
    cases (show u = Value.bool b from ry)
    exact wpAny_is_other rfl (fun z => nomatch z) ⟨.bl false, H, I, rfl, q⟩
  · exact op_is_bl pins s σ H (.bl a) (.bl b) v u Q I rx ry ⟨a, b, rfl, rfl, q⟩
theorem ev_isF {σ : L2.St} {H : Hp} {te : TE} {v : V} {b : Bool} (h : Ev te σ H v) (hv : VK' .truth v) : Ev (tOp rIsF te (tC (.bl b))) σ H (.bl (decide (v = .bl b))) := fun H1 e Q q => h H1 e _ fun H2 e2 => by
  cases hv with
  | non => exact ⟨b, rfl, .inl ⟨rfl, q H2 e2⟩⟩
  | bl a =>
    refine ⟨b, rfl, .inr ⟨a, rfl, ?_⟩⟩
    have : decide (V.bl a = V.bl b) = decide (a = b) := dec_bl
    rw [← this]
    exact q H2 e2
/-- [x for x in xs if p(x)] -/
theorem el_flL {K : PySem.W.Frag} {σ : L2.St} {H : Hp} {te tl : TE} {tt : TT} {a : Addr} {xs : List V} {j : Nat} {vs : List Nat} {p : V → Bool} (h : Ev te σ H (.ref a)) (hx : SqL K H a xs) (hz : xs.length ≤ 40000) (hw : ∀ x, wipe ((wipe σ vs).set j (some x)) vs = wipe σ vs)
    (ht : ∀ x, x ∈ xs → ∀ H1, Ex H H1 → EvT tt ((wipe σ vs).set j (some x)) H1 (p x)) (he : ∀ x H1, x ∈ xs → Ex H H1 → Ev tl ((wipe σ vs).set j (some x)) H1 x) : EvL (tLc (iList K te) (gName j) tt tl vs) σ H (xs.filter p) := by
  intro H0 e Q q
  refine h H0 e _ fun H1 e1 => ⟨a, rfl, ⟨xs, ex_l (e.trans e1) hx⟩, fun Dl hD => ?_⟩
  refine lc_list (xs := xs) (fun i H' => H1 Dl = none ∧ Ex H1 H' ∧ H' Dl = some (.lst ((xs.take i).filter p))) ⟨hD, Ex.new hD, upd_same⟩ (fun i H' _ z => ex_l ((e.trans e1).trans z.2.1) hx) (fun i x H' hi z => ⟨hw x, ?_⟩) (fun H' z => ?_)
  · obtain ⟨p1, p2, p3⟩ := z
    have hi2 := (List.getElem?_eq_some_iff.mp hi).1
    have hm := List.mem_of_getElem? hi
    have et : (xs.take (i + 1)).filter p = (xs.take i).filter p ++ (if p x = true then [x] else []) := by
      rw [List.take_add_one, hi, List.filter_append]
      show _ ++ [x].filter p = _
      by_cases hp : p x = true
      · rw [if_pos hp, List.filter_cons_of_pos hp] <;> rfl
      · rw [if_neg hp, List.filter_cons_of_neg hp] <;> rfl
    refine ht x hm H1 (e.trans e1) H' p2 _ fun H3 e3 => ?_
    cases hp : p x with
    | true =>
      show tl _ H3 _
      refine he x H1 hm (e.trans e1) H3 (p2.trans e3) _ fun H4 e4 => ⟨_, e4 Dl _ (e3 Dl _ p3), sz_lt ?_, p1, ((p2.trans e3).trans e4).mut p1, ?_⟩
      · have := List.length_filter_le p (xs.take i)
        rw [List.length_take] at this
        omega
      · rw [upd_same, et, if_pos hp]
    | false =>
      show H1 Dl = none ∧ _
      refine ⟨p1, p2.trans e3, ?_⟩
      rw [et, if_neg (by rw [hp]; exact Bool.false_ne_true), List.append_nil]
      exact e3 Dl _ p3
  · obtain ⟨p1, p2, p3⟩ := z
    rw [List.take_length] at p3
    exact q Dl H' (fresh_back e1 p1) (e1.trans p2) p3
theorem dpa_nons {K : PySem.W.Frag} {H : Hp} : ∀ {ys : List V}, (∀ y ∈ ys, y = .non) → DpAll K H ys (ys.map fun _ => PyData.none)
  | [], _ => .nil
  | y :: ys, h => by
    rw [h y (List.mem_cons_self ..)]
    exact .cons .non (dpa_nons fun z hz => h z (List.mem_cons_of_mem _ hz))
theorem ev_neNil {K : PySem.W.Frag} {σ : L2.St} {H : Hp} {ta : TE} {ys : List V} (h : EvL ta σ H ys) (hz : ∀ y ∈ ys, y = .non) : Ev (tOp (rNeD K) ta (tLst tNil)) σ H (.bl (!ys.isEmpty)) := by
  refine ev_opLL h (el_lst ea_nil (by decide)) fun p q H1 hp hq _ => rv_val fun H2 e2 Q k => ⟨_, _, .lst (sq_of (e2 _ _ hp)) (dpa_nons hz), .lst (sq_of (e2 _ _ hq)) .nil, shaped_lst (n := 0) (fun d hd => ?_) (by decide), by decide, ?_⟩
  · obtain ⟨z, hz', rfl⟩ := List.mem_map.mp hd
    exact .non 0
  · have e : PyData.eqv (.list (ys.map fun _ => PyData.none)) (.list []) = ys.isEmpty := by
      cases ys <;> simp [PyData.eqv, PyData.eqvAll]
    rw [e]
    exact k
theorem given_first {n j : Nat} {f : Nat → Bool} {v : Nat → V} (hj : j < n) (hf : f j = true) (hn : ∀ m, m < j → f m = false) : (given n f v)[0]? = some (v j) := by
  unfold given
  rw [List.getElem?_map]
  have : ((List.range n).filter f)[0]? = some j := by
    rw [← List.head?_eq_getElem?, List.head?_filter, List.find?_range_eq_some]
    exact ⟨hf, List.mem_range.mpr hj, fun m hm => by rw [hn m hm] <;> rfl⟩
  rw [this] <;> rfl
theorem et_andF {t u : TT} {σ : L2.St} {H : Hp} (h : EvT t σ H false) : EvT (tAnd t u) σ H false := et_is (et_and (a := false) (b := false) h fun z => nomatch z) rfl


/-- names of at most b letters -/
def Nm (b : Nat) (z : Str) : Prop := 1 ≤ z.length ∧ z.length ≤ b ∧ ∀ c ∈ z.cps.toList, 97 ≤ c ∧ c ≤ 122
theorem Nm.mono {a b : Nat} {z : Str} (h : Nm a z) (e : a ≤ b) : Nm b z := ⟨h.1, Nat.le_trans h.2.1 e, h.2.2⟩
theorem Nm.tx {b : Nat} {z : Str} (h : Nm b z) : TxOk b z := ⟨h.2.1, fun c hc => by have := h.2.2 c hc; omega⟩
def alphaZ : List Nat := (List.range 26).map (· + 97)
theorem alpha_eq : (Str.ofString "abcdefghijklmnopqrstuvwxyz") = ⟨alphaZ.toArray⟩ := by decide +kernel
theorem alpha_at (i : Int) (h : 0 ≤ i ∧ i < 26) : 97 ≤ alphaZ.getD i.toNat 0 ∧ alphaZ.getD i.toNat 0 ≤ 122 := by
  have : ∀ k : Nat, k < 26 → 97 ≤ alphaZ.getD k 0 ∧ alphaZ.getD k 0 ≤ 122 := by decide
  exact this _ (by omega)
theorem alpha_len : alphaZ.length = 26 := by decide
/-- letters[i] -/
theorem ev_letter {σ : L2.St} {H : Hp} {ta tb : TE} {i : Int} (ha : Ev ta σ H (.str (Str.ofString "abcdefghijklmnopqrstuvwxyz"))) (hb : Ev tb σ H (.int i)) (h : 0 ≤ i ∧ i < 26) : Ev (tOp rIxS ta tb) σ H (.str ⟨#[alphaZ.getD i.toNat 0]⟩) :=
  ev_ixB (z := ⟨alphaZ.toArray⟩) (ev_is ha (congrArg V.str alpha_eq)) hb (by decide +kernel) (at_cps (l := alphaZ) rfl h.1 (by rw [alpha_len]; exact h.2))
theorem Nm.one {i : Int} (h : 0 ≤ i ∧ i < 26) : Nm 1 ⟨#[alphaZ.getD i.toNat 0]⟩ := ⟨Nat.le_refl 1, Nat.le_refl 1, fun c hc => by
  have : c = alphaZ.getD i.toNat 0 := by simpa using hc
  rw [this]
  exact alpha_at i h⟩
theorem Nm.app {a b : Nat} {x y : Str} (h : Nm a x) (k : TxOk b y ∧ ∀ c ∈ y.cps.toList, 97 ≤ c ∧ c ≤ 122) : Nm (a + b) (x ++ y) := by
  have hl : (x ++ y).length = x.length + y.length := by rw [str_len, codes_app rfl rfl, List.length_append, ← str_len, ← str_len]
  refine ⟨by have := h.1; omega, by have := h.2.1; have := k.1.1; omega, fun c hc => ?_⟩
  rw [codes_app (x := x.cps.toList) (y := y.cps.toList) rfl rfl] at hc
  rcases List.mem_append.mp hc with z | z
  · exact h.2.2 c z
  · exact k.2 c z
def spNames (K : PySem.W.Frag) : Sp := fun vs H Q _ => ∃ (p : Addr) (cs : List Int), vs = [.ref p] ∧ SqL K H p (cs.map V.int) ∧ cs.length ≤ 12 ∧ (∀ c ∈ cs, Wd c) ∧ ∀ q' (zs : List Str) H', H q' = none → Ex H H' → H' q' = some (.lst (zs.map V.str)) → zs.length = cs.length → (∀ z ∈ zs, Nm 12 z) → Q (.ref q') H'
theorem Nm.cutTo {z : Str} (p : Nat) : cutS z none (some (p : Int)) = mkS (z.cps.toList.take p) := by
  rw [mkS_codes z]
  exact cutS_to _ p
theorem Nm.cutFrom {z : Str} (p : Nat) : cutS z (some (p : Int)) none = mkS (z.cps.toList.drop p) := by
  rw [mkS_codes z]
  exact cutS_from _ p
/-- one letter put in another's place -/
theorem Nm.spoil {b : Nat} {z c : Str} {p : Nat} (h : Nm b z) (hp : p < z.length) (hc : Nm 1 c) : Nm b (cutS z none (some (p : Int)) ++ c ++ cutS z (some ((p + 1 : Nat) : Int)) none) := by
  rw [Nm.cutTo, Nm.cutFrom]
  obtain ⟨h1, h2, h3⟩ := h
  have hl := str_len z
  have hcl := str_len c
  have e : (mkS (z.cps.toList.take p) ++ c ++ mkS (z.cps.toList.drop (p + 1))).cps.toList = (z.cps.toList.take p ++ c.cps.toList) ++ z.cps.toList.drop (p + 1) := by
    rw [codes_app (x := z.cps.toList.take p ++ c.cps.toList) (y := z.cps.toList.drop (p + 1)) (codes_app rfl rfl) rfl]
  refine ⟨?_, ?_, fun d hd => ?_⟩
  · rw [str_len, e, List.length_append, List.length_append, ← hcl]
    have := hc.1
    omega
  · rw [str_len, e, List.length_append, List.length_append, ← hcl, List.length_take, List.length_drop]
    have := hc.2.1
    omega
  · rw [e] at hd
    rcases List.mem_append.mp hd with k | k
    · rcases List.mem_append.mp k with k | k
      · exact h3 d (List.mem_of_mem_take k)
      · exact hc.2.2 d k
    · exact h3 d (List.mem_of_mem_drop k)
/-- a list as a test -/
theorem et_lst {K : PySem.W.Frag} {σ : L2.St} {H : Hp} {te : TE} {p : Addr} {xs : List V} (h : Ev te σ H (.ref p)) (hS : ∀ H1, Ex H H1 → SqL K H1 p xs) : EvT (fun σ H Q => te σ H fun x H' => ∃ k, TruV K x H' k ∧ Q k H') σ H (!xs.isEmpty) := fun H1 e Q q =>
  h H1 e _ fun H2 e2 => ⟨!xs.isEmpty, .inl ⟨xs, hS H2 (e.trans e2), rfl⟩, q H2 e2⟩
theorem ev_inStrs {K : PySem.W.Frag} {σ : L2.St} {H : Hp} {ta tb : TE} {z : Str} {p : Addr} {zs : List Str} (ha : Ev ta σ H (.str z)) (hb : Ev tb σ H (.ref p)) (h : SqL K H p (zs.map V.str)) : Ev (tOp (rIn K false) ta tb) σ H (.bl (inV (.str z) (zs.map V.str))) := ev_op ha hb (rv_isL h rfl (by rw [List.all_map]; exact List.all_eq_true.mpr fun _ _ => rfl))
theorem inS_mem {z : Str} {zs : List Str} : inV (.str z) (zs.map V.str) = decide (z ∈ zs) := by
  have e : ∀ a b : Str, eqV (.str a) (.str b) = decide (a = b) := fun a b => by
    by_cases h : a = b
    · rw [h, eqS_refl, decide_eq_true rfl]
    · rw [eqS_ne h, decide_eq_false h]
  unfold inV
  rw [List.any_map]
  induction zs with
  | nil => rfl
  | cons y ys ih =>
    rw [List.any_cons, ih]
    simp only [Function.comp_apply, e]
    by_cases h1 : z = y
    · subst h1
      simp
    · by_cases h2 : z ∈ ys
      · simp [h2]
      · have h3 : ¬ y = z := fun k => h1 k.symm
        simp [h1, h2, h3]
theorem pigeon {f : Nat → Str} : ∀ (n : Nat) (l : List Str), (∀ j, j < n → f j ∈ l) → (∀ j k, j < n → k < n → f j = f k → j = k) → n ≤ l.length
  | 0, _, _, _ => Nat.zero_le _
  | n + 1, l, h, inj => by
    have hm := h n (Nat.lt_succ_self n)
    have hl := List.length_pos_of_mem hm
    have := pigeon n (l.erase (f n)) (fun j hj => (List.mem_erase_of_ne fun e => by
      have := inj j n (by omega) (by omega) e
      omega).mpr (h j (by omega))) fun j k hj hk => inj j k (by omega) (by omega)
    rw [List.length_erase_of_mem hm] at this
    omega
def candZ (k : Nat) : Str := Str.ofString "z" ++ (⟨#[alphaZ.getD ((k : Int) / 26).toNat 0]⟩ : Str) ++ (⟨#[alphaZ.getD ((k : Int) % 26).toNat 0]⟩ : Str)
theorem cand_inj : ∀ j, j < 13 → ∀ k, k < 13 → candZ j = candZ k → j = k := by decide +kernel


/-- the law's signs -/
def signsZ : List Nat := [32, 33, 34, 35, 36] ++ (List.range 89).map (· + 38)
theorem signs_len : signsZ.length = 94 := by decide +kernel
theorem signs_ok : ∀ c ∈ signsZ, 32 ≤ c ∧ c ≤ 126 ∧ c ≠ 37 := by decide +kernel
theorem signs_eq : (Str.ofString " !\"#$&'()*+,-./0123456789:;<=>?@ABCDEFGHIJKLMNOPQRSTUVWXYZ[\\]^_`" ++ Str.ofString "abcdefghijklmnopqrstuvwxyz{|}~" : Str) = ⟨signsZ.toArray⟩ := by decide +kernel
theorem shaped_signs {z : Str} (h : ∀ c ∈ z.cps.toList, c ∈ signsZ) : SeqAt.shaped (.str z) = true := by
  unfold SeqAt.shaped
  have e : PyData.strOk z = true := by
    unfold PyData.strOk
    rw [Array.all_eq_true']
    intro c hc
    have := signs_ok c (h c (by simpa using hc))
    simp only [decide_eq_true_eq]
    omega
  rw [show (PyData.str z).canLay0 = PyData.strOk z by simp [PyData.canLay0], e] <;> rfl


/-! ### a lambda as the key of sorted -/
section
open LamX
/-- the function object of a lambda that captures nothing -/
def LamO (f c' : Addr) (q : Str) (params : Arguments) (body : Expr) (scope : Scope) : HO := .ext fun h => ∃ pm ctv, h.get? f = some (PySem.W.kla_obj "<lambda>" q params body scope [] pm c' ctv)
/-- the table of a def with one lambda, once that is made -/
def tabOf (pos : Pos) (c' : Addr) : Array Value := #[rawInt pos.line, rawInt pos.col, .ref c']
/-- the lambda's code object is there -/
def LamTab (H : Hp) (P : Addr) (pos : Pos) (q : Str) : Prop := ∃ c', H P = some (.tbl (tabOf pos c')) ∧ H c' = some (CodeO c' q)
def tLam (P : Addr) (q : Str) (params : Arguments) (body : Expr) (scope : Scope) (pos : Pos) : TE := fun _ H Q =>
  (H P = some (.tbl #[]) ∧ ∀ c' f, H c' = none → H f = none → c' ≠ f → Q (.ref f) (upd (upd (upd H P (.tbl (tabOf pos c'))) c' (CodeO c' q)) f (LamO f c' q params body scope))) ∨
  (∃ c', H P = some (.tbl (tabOf pos c')) ∧ H c' = some (CodeO c' q) ∧ ∀ f, H f = none → Q (.ref f) (upd H f (LamO f c' q params body scope)))
theorem lamO_ok {P : Program} {w : World} {H : Hp} {h : Heap} {f c' : Addr} {q : Str} {params : Arguments} {body : Expr} {scope : Scope} {pm ctv : Value} (e : h.get? f = some (PySem.W.kla_obj "<lambda>" q params body scope [] pm c' ctv)) :
    ObjOk P w (upd H f (LamO f c' q params body scope)) h f (LamO f c' q params body scope) :=
  ⟨⟨pm, ctv, e⟩, ⟨_, e⟩, fun _ _ ⟨a, b, z⟩ st => ⟨a, b, st _ z⟩⟩
theorem among_one {pos : Pos} {c' : Addr} : codeAmong pos (tabOf pos c').toList = some (.ref c') := by
  unfold tabOf rawInt codeAmong
  simp
theorem pe_lam {X : Cx} {params : Arguments} {body : Expr} {scope : Scope} {pos : Pos} {c P : Addr} (TB : TabB X.base X.mg c P) (hcode : X.env.code = .ref c) (hdef : defaultsOf params X.env = ([], []) := by rfl)
    (hfree : ∀ y ∈ scope.names, y.2 = .free → ∃ c, X.env.cells.lookup y.1 = some c) (hclo : cloFrom X.env.cells scope.names [] = []) : PE X (.Lambda params body scope pos) (tLam P (X.env.qual ++ "<lambda>") params body scope pos) := by
  refine ⟨fun pins s σ H Q I h => ?_⟩
  have bP : s.heap.BuiltinsAt X.mg P := TB.bm.keeps I.bk
  refine PySem.W.kla_eval hdef ?_
  rcases h with ⟨hP, h⟩ | ⟨c', hP, hc', h⟩
  · have hP' : s.heap.get? P = some { cls := .none, data := .fields #[] } := I.hok P _ hP
    refine PySem.W.kla_makeFunction (mg := X.mg) (c := c) (P := P) (ps := #[]) (closure_ok hfree) I.ok.glob (I.mod.glob.keeps I.bk) hcode (TB.code.keeps I.bk) hP' trivial rfl TB.gP bP fun c' ctv h' tk hx hge hlt hrec htb => ?_
    obtain ⟨c2, oc, vs, t, e2, hoc, hd, hv⟩ := hrec
    cases e2
    have hsz : s.heap.objs.size ≤ h'.objs.size := Nat.le_trans hge (Nat.le_of_lt hlt)
    have I0 := inv_table (t' := tk) (more := #[rawInt pos.line, rawInt pos.col, .ref c']) (h' := h') I hP (fun b o hb e => hx b o hb e) htb hge ⟨oc, vs, t, hoc, hd, hv⟩
    rw [hclo]
    have hf : (h'.push (PySem.W.kla_obj "<lambda>" (X.env.qual ++ "<lambda>") params body scope [] ((X.mg "__name__").getD .none) c' ctv)).get? h'.objs.size = some _ := Heap.get?_push_size _ rfl
    have I1 := I0.laid (t' := tk) (a := h'.objs.size) (o := LamO h'.objs.size c' (X.env.qual ++ "<lambda>") params body scope) (fun b o e => Heap.get?_push_of_some _ e) (Nat.le_refl _) (lamO_ok hf)
    refine ⟨.ref h'.objs.size, _, I1, rfl, ?_⟩
    have z : (#[] : Array Value) ++ #[rawInt pos.line, rawInt pos.col, Value.ref c'] = tabOf pos c' := by
      unfold tabOf
      simp
    rw [z]
    exact h c' h'.objs.size (I.hok.fresh hge) (I.hok.fresh hsz) (Nat.ne_of_lt hlt)
  · have hP' : s.heap.get? P = some { cls := .none, data := .fields (tabOf pos c') } := I.hok P _ hP
    refine PySem.W.kla_makeFunctionHit (mg := X.mg) (c := c) (P := P) (ps := tabOf pos c') (closure_ok hfree) I.ok.glob (I.mod.glob.keeps I.bk) hcode (TB.code.keeps I.bk) hP' ?ht among_one bP fun ctv h' tk hx hsz => ?_
    case ht =>
      unfold tabOf rawInt
      trivial
    have I0 : Inv X pins σ H { s with heap := h', toks := tk } := I.kept hx
    rw [hclo]
    have hf : (h'.push (PySem.W.kla_obj "<lambda>" (X.env.qual ++ "<lambda>") params body scope [] ((X.mg "__name__").getD .none) c' ctv)).get? h'.objs.size = some _ := Heap.get?_push_size _ rfl
    have I1 := I0.laid (t' := tk) (a := h'.objs.size) (o := LamO h'.objs.size c' (X.env.qual ++ "<lambda>") params body scope) (fun b o e => Heap.get?_push_of_some _ e) (Nat.le_refl _) (lamO_ok hf)
    exact ⟨.ref h'.objs.size, _, I1, rfl, h _ (I.hok.fresh hsz)⟩
end
section
open LamX
/-- x[0] -/
abbrev lamBody (x : Str) (p1 p2 p3 : Pos) (j : Nat) : Expr := .Subscript (.Name x p1) (.Constant (.int 0) j p2) p3
/-- the lambda is called: the first item of a tuple, a text -/
theorem lam_turn {prog : Program} {w : World} {A : Around} {s : Shared} {f c' t : Addr} {q x : Str} {params : Arguments} {scope : Scope} {pm ctv : Value} {p1 p2 p3 : Pos} {j : Nat} {its : List Value} {k : Str} {tk : Tok}
    (hf : s.heap.get? f = some (PySem.W.kla_obj "<lambda>" q params (lamBody x p1 p2 p3 j) scope [] pm c' ctv)) (hc : s.heap.CodeRec (.ref c') q) (ht : IsTup s.heap t its.toArray) (h0 : its[0]? = some (.str k tk))
    (hd : A.depth < recursionLimit) (hlim : s.heap.NoLimit) (hb : bindArgs (PySem.W.kla_fn "<lambda>" q params (lamBody x p1 p2 p3 j) scope [] pm (.ref c') ctv) ⟨[.ref t], []⟩ = pure [(x, .ref t)])
    (hl : scope.names.lookup x = some .local) (hk : scope.kind = .function) (hco : scope.isCoroutine = false) (hgen : scope.isGenerator = false) (hcell : ∀ y ∈ scope.names, y.2 ≠ .cell) (hx : (x == ("__debug__" : Str)) = false) :
    wpAny (model prog w) A (call (.ref f) [.ref t]) (PySem.W.KeyPure (.str k) s) (fun _ _ => False) s := by
  refine wpAny_call (PySem.W.kla_callFunE hd hf rfl hco hgen rfl hc ?_)
  rw [hb]
  refine wpAny_pure (wpAny_newFunctionEnv hcell (fun y hy => by
    rcases List.mem_singleton.mp hy with rfl
    exact hl) (fun h₁ hns hsb => ⟨hlim.fresh _ hsb, ?_⟩) hk)
  have kp : ∀ b o, s.heap.get? b = some o → h₁.get? b = some o := fun b o e => hsb.extBut b o (Nat.ne_of_lt (Heap.lt_size e)) (Heap.get?_push_of_some _ e)
  have ht' : IsTup h₁ t its.toArray := by
    obtain ⟨o, e, r⟩ := ht
    exact ⟨o, kp _ _ e, r⟩
  refine PySem.W.kla_codeExpr (Subscript_ (wpAny_Name (wpAny_loadName_local (m := fun y => [(x, Value.ref t)].reverse.lookup y) (v := .ref t) hk ?_ hns ?_ (wpAny_Constant_int ?_)) hx))
  · exact hl
  · show List.lookup x [(x, Value.ref t)] = some (Value.ref t)
    rw [List.lookup_cons_self]
  · refine item_tupleL (l := its) (j := 0) (x := .str k tk) ht' (by decide) (by decide) ?_ h0 ?_
    · exact seqIndex_of (by decide) (by
        have := (List.getElem?_eq_some_iff.mp h0).1
        show (0 : Int) < _
        omega)
    · exact ⟨h₁, _, rfl, kp, .str k tk⟩
end
/-- a tuple whose first item is a text -/
def KeyAt (K : PySem.W.Frag) (H : Hp) (x : V) (k : Str) : Prop := ∃ (t : Addr) (ys : List V), x = .ref t ∧ SqT K H t (.str k :: ys)
def leK (a b : V × Str) : Bool := decide (a.2.cps.toList ≤ b.2.cps.toList)
section
open LamX
def rSortLam (K : PySem.W.Frag) (q x : Str) (params : Arguments) (scope : Scope) (p1 p2 p3 : Pos) (j : Nat) : List V → List V → Hp → VK → Prop := fun vs zs H Q => ∃ (a f c' : Addr) (zk : List (V × Str)), vs = [V.ref a] ∧ zs = [V.ref f] ∧ SqL K H a (zk.map (·.1)) ∧ (∀ p ∈ zk, KeyAt K H p.1 p.2) ∧
  H f = some (LamO f c' q params (lamBody x p1 p2 p3 j) scope) ∧ H c' = some (CodeO c' q) ∧ ∀ l, H l = none → Q (.ref l) (upd H l (.lst ((zk.mergeSort leK).map (·.1))))
theorem each_vals : ∀ {zk : List (V × Str)} {its : List Value}, Vals (zk.map (·.1)) its → PySem.W.EachIs (fun v (p : V × Str) => RelV p.1 v) its zk
  | [], _, h => by
    cases h
    exact .nil
  | p :: r, _, h => by
    cases h with
    | cons h1 h2 => exact .cons h1 (each_vals h2)
theorem vals_each : ∀ {zk : List (V × Str)} {its : List Value}, PySem.W.EachIs (fun v (p : V × Str) => RelV p.1 v) its zk → Vals (zk.map (·.1)) its
  | [], _, h => by
    cases h
    exact .nil
  | p :: r, _, h => by
    cases h with
    | cons h1 h2 => exact .cons h1 (vals_each h2)
theorem cr_sortLam {X : Cx} {q x : Str} {params : Arguments} {scope : Scope} {p1 p2 p3 : Pos} {j : Nat} (hr : Room 2 X.A)
    (hb : ∀ (pm cv ctv : Value) (v : Value), bindArgs (PySem.W.kla_fn "<lambda>" q params (lamBody x p1 p2 p3 j) scope [] pm cv ctv) ⟨[v], []⟩ = pure [(x, v)])
    (hl : scope.names.lookup x = some .local) (hk : scope.kind = .function) (hco : scope.isCoroutine = false) (hgen : scope.isGenerator = false) (hcell : ∀ y ∈ scope.names, y.2 ≠ .cell) (hx : (x == ("__debug__" : Str)) = false) :
    CallRK X (.builtin "sorted") [Str.ofString "key"] (rSortLam X.K q x params scope p1 p2 p3 j) := by
  intro pins s σ H vs zs us ws Q I r rz h
  obtain ⟨a, f, c', zk, rfl, rfl, hs, hkey, hf, hc, hq⟩ := h
  obtain rfl := Vals.ref1 r
  obtain ⟨w1, rfl, e1⟩ := vals1 rz
  obtain rfl : w1 = Value.ref f := e1
  obtain ⟨its, rv, pl, hz⟩ := I.list hs
  rw [List.length_map] at hz
  obtain ⟨pm, ctv, hfo⟩ := (I.hok f _ hf).1
  obtain ⟨oc, cvs, ct, hco1, hco2, hco3⟩ := (I.hok c' _ hc).1
  have dp := hr.dp
  have un := hr.un
  refine PySem.W.sorted_key_data (β := V × Str) (R := fun v p => RelV p.1 v) (bs := zk) (vs := its) (b := false) (fun p => PyData.str p.2) pl.isList (each_vals rv) (PySem.W.AllAlike.of fun _ _ => rfl) (PySem.W.Sortable.others fun _ => ⟨fun z => (nomatch z), fun _ z => (nomatch z)⟩) hz
    (fun p _ => ?_) (PyProof.Rows.ksk_s1 _ _) (fun _ => PyProof.Rows.ksk_l1 _ _) (fun l => PyProof.Rows.ksk_t1 f l) (fun v p hv hp h tk kp => ?_) (fun out c h' tk kp hn hat hlen he => ?_)
  · show X.A.units + 2 + 0 < cLine
    omega
  · obtain ⟨t, ys, ep, hT⟩ := hkey p hp
    rw [ep] at hv
    obtain rfl : v = Value.ref t := hv
    obtain ⟨its', rv', ht, _⟩ := I.tuple hT
    cases rv' with
    | @cons _ _ _ ir h1 h2 =>
      obtain ⟨tk', rfl⟩ := h1
      have ht' : IsTup h t (Value.str p.2 tk' :: ir).toArray := by
        obtain ⟨o, e, z⟩ := ht
        exact ⟨o, kp _ _ e, z⟩
      refine lam_turn (s := { s with heap := h, toks := tk }) (kp _ _ hfo) ⟨c', oc, cvs, ct, rfl, kp _ _ hco1, hco2, hco3⟩ ht' rfl ?_ (I.nolimit.keeps kp) (hb _ _ _ _) hl hk hco hgen hcell hx
      · show X.A.depth + 0 < recursionLimit
        omega
  · have e0 : PySem.W.dataLe false (fun p : V × Str => PyData.str p.2) = leK := PySem.W.dataLe_str fun p : V × Str => p.2
    rw [e0] at he
    refine ⟨.ref _, _, I.laid (o := .lst ((zk.mergeSort leK).map (·.1))) kp (Nat.le_succ _) ⟨?_, out, c, vals_each he, hat⟩, rfl, hq _ (I.hok.fresh (Nat.le_succ _))⟩
    rw [List.length_map, List.length_mergeSort]
    exact hz
end
section
open LamX
/-- sorted(e, key=lambda x: x[0]) -/
theorem pe_sortLam {X : Cx} {e : Expr} {te : TE} {x : Str} {params : Arguments} {scope : Scope} {p pos kpos lpos p1 p2 p3 : Pos} {j : Nat} {c P : Addr} (hr : Room 2 X.A) (TB : TabB X.base X.mg c P) (hcode : X.env.code = .ref c) (ha : PA X [e] (tCons te tNil)) (hg : Gl X "sorted") (hm : X.mg "sorted" = none)
    (hn : ∀ y ∈ scope.names, y.2 = .local := by decide) (hl : scope.names.lookup x = some .local := by rfl) (hk : scope.kind = .function := by rfl) (hco : scope.isCoroutine = false := by rfl) (hgen : scope.isGenerator = false := by rfl) (hx : (x == ("__debug__" : Str)) = false := by decide)
    (hdef : defaultsOf params X.env = ([], []) := by rfl) (hclo : cloFrom X.env.cells scope.names [] = [] := by rfl)
    (hb : ∀ (q : Str) (pm cv ctv : Value) (v : Value), bindArgs (PySem.W.kla_fn "<lambda>" q params (lamBody x p1 p2 p3 j) scope [] pm cv ctv) ⟨[v], []⟩ = pure [(x, v)] := by intros; rfl)
    (h1 : backTo pos (starEach [e] X.env) = (false, eval e X.env) :: backTo pos (starEach [] X.env) := by rfl) (h2 : (backTo pos (starEach [e] X.env)).any (·.1) = false := by rfl)
    (h3 : (backToKw pos (keywordEach [⟨some (Str.ofString "key"), .Lambda params (lamBody x p1 p2 p3 j) scope lpos, kpos⟩] X.env)).all (·.1.isSome) = true := by rfl) (h4 : (backToKw pos (keywordEach [⟨some (Str.ofString "key"), .Lambda params (lamBody x p1 p2 p3 j) scope lpos, kpos⟩] X.env)).any (·.1.isNone) = false := by rfl)
    (h5 : (backToKw pos (keywordEach [⟨some (Str.ofString "key"), .Lambda params (lamBody x p1 p2 p3 j) scope lpos, kpos⟩] X.env)).filterMap (·.1) = [Str.ofString "key"] := by rfl) :
    PE X (.Call (.Name "sorted" p) [e] [⟨some (Str.ofString "key"), .Lambda params (lamBody x p1 p2 p3 j) scope lpos, kpos⟩] pos)
      (tCKw (rSortLam X.K (X.env.qual ++ "<lambda>") x params scope p1 p2 p3 j) (tCons te tNil) (tCons (tLam P (X.env.qual ++ "<lambda>") params (lamBody x p1 p2 p3 j) scope lpos) tNil)) :=
  pe_callBK (cr_sortLam hr (hb _) hl hk hco hgen (fun y hy z => by rw [hn y hy] at z; cases z) hx) hg hm (by decide +kernel) ha (pk_cons (pe_lam TB hcode hdef (fun y hy z => by rw [hn y hy] at z; cases z) hclo) pk_nil) (by decide) (by decide) h1 h2 h3 h4 h5
end


/-! ### all but tables of code objects stay -/
theorem Ex.xn {H H' : Hp} (e : Ex H H') : LamX.ExtN H H' := fun b o h _ => e b o h
theorem xn_rd {H H' : Hp} {a : Addr} {u : HO} (e : LamX.ExtN H H') (n : ∀ ps, u ≠ .tbl ps) (h : Rd H a u) : Rd H' a u := by
  rcases h with h | ⟨o, h⟩
  · exact .inl (e _ _ h n)
  · exact .inr ⟨o, e _ _ h fun ps z => by cases z⟩
theorem xn_l {K : PySem.W.Frag} {H H' : Hp} {a : Addr} {xs : List V} (e : LamX.ExtN H H') (h : SqL K H a xs) : SqL K H' a xs := by
  rcases h with h | h
  · exact .inl (xn_rd e (fun ps z => by cases z) h)
  · exact .inr h
theorem xn_t {K : PySem.W.Frag} {H H' : Hp} {a : Addr} {xs : List V} (e : LamX.ExtN H H') (h : SqT K H a xs) : SqT K H' a xs := by
  rcases h with h | h
  · exact .inl (xn_rd e (fun ps z => by cases z) h)
  · exact .inr h
mutual
theorem dp_monoX {K : PySem.W.Frag} {H H' : Hp} (e : LamX.ExtN H H') : ∀ {v : V} {d : PyData}, Dp K H v d → Dp K H' v d
  | _, _, .non => .non
  | _, _, .bl b => .bl b
  | _, _, .int i => .int i
  | _, _, .str z => .str z
  | _, _, .lst h r => .lst (xn_l e h) (dpa_monoX e r)
  | _, _, .tup h r => .tup (xn_t e h) (dpa_monoX e r)
theorem dpa_monoX {K : PySem.W.Frag} {H H' : Hp} (e : LamX.ExtN H H') : ∀ {vs : List V} {ds : List PyData}, DpAll K H vs ds → DpAll K H' vs ds
  | _, _, .nil => .nil
  | _, _, .cons h r => .cons (dp_monoX e h) (dpa_monoX e r)
end
/-! ### columns and forms -/
inductive Kn | int | intq | text | textq
  deriving DecidableEq
def Kn.s : Kn → Str
  | .int => "int"
  | .intq => "int?"
  | .text => "text"
  | .textq => "text?"
def Kn.tx : Kn → Bool
  | .int => false
  | .intq => false
  | .text => true
  | .textq => true
def Kn.q : Kn → Bool
  | .int => false
  | .intq => true
  | .text => false
  | .textq => true
theorem kn_last (k : Kn) : atI k.s.cps.toList (-1) = some (if k.q = true then 63 else 116) := by cases k <;> decide +kernel
theorem kn_last_eq (k : Kn) : decide ((⟨#[if k.q = true then 63 else 116]⟩ : Str) = Str.ofString "?") = k.q := by cases k <;> decide +kernel
/-- None, an int, a text -/
inductive ScV : V → PyData → Prop
  | non : ScV .non .none
  | int (i : Int) : ScV (.int i) (.int i)
  | str (z : Str) : ScV (.str z) (.str z)
theorem ScV.dp {K : PySem.W.Frag} {H : Hp} {v : V} {d : PyData} (h : ScV v d) : Dp K H v d := by
  cases h with
  | non => exact .non
  | int i => exact .int i
  | str z => exact .str z
/-- what a kind accepts -/
inductive ValOf (k : Kn) : PyData → Prop
  | non (h : k.q = true) : ValOf k .none
  | int (i : Int) (h : k.tx = false) : ValOf k (.int i)
  | str {z : Str} (h : k.tx = true) (s : SeqAt.shaped (.str z) = true) : ValOf k (.str z)
theorem ValOf.fl {k : Kn} {d : PyData} (h : ValOf k d) : Fl 0 d := by
  cases h with
  | non _ => exact .non 0
  | int i _ => exact .int 0 i
  | str _ s => exact .str 0 s
theorem kn_base (k : Kn) : baseT k.s = if k.tx = true then Str.ofString "text" else Str.ofString "int" := by cases k <;> decide +kernel
theorem kn_cut (k : Kn) : cutS k.s none (some 3) = if k.tx = true then Str.ofString "tex" else Str.ofString "int" := by cases k <;> decide +kernel
theorem kn_sh (k : Kn) : SeqAt.shaped (.str k.s) = true := by cases k <;> decide +kernel
theorem kn_len (k : Kn) : k.s.length ≤ 100000 := by cases k <;> decide +kernel
structure Co where
  nm : Str
  kd : Kn
  df : PyData
  un : Int
  lk : Str
def Co.d (c : Co) : PyData := .tuple [.str c.nm, .str c.kd.s, c.df, .int c.un, .str c.lk]
structure Co.ok (c : Co) : Prop where
  nm : SeqAt.shaped (.str c.nm) = true
  df : Fl 0 c.df
  lk : SeqAt.shaped (.str c.lk) = true
theorem Co.ok.fl {c : Co} (h : c.ok) : Fl 1 c.d := .tup fun x hx => by
  simp only [List.mem_cons, List.not_mem_nil, or_false] at hx
  rcases hx with z | z | z | z | z <;> rw [z]
  · exact .str _ h.nm
  · exact .str _ (kn_sh _)
  · exact h.df
  · exact .int _ _
  · exact .str _ h.lk
theorem Co.ok.sh {c : Co} (h : c.ok) : SeqAt.shaped c.d = true := shaped_fl h.fl (by decide)
theorem co_at {K : PySem.W.Frag} {H : Hp} {v : V} {c : Co} (h : Dp K H v c.d) : ∃ p x, v = .ref p ∧ SqT K H p [.str c.nm, .str c.kd.s, x, .int c.un, .str c.lk] ∧ Dp K H x c.df := by
  cases h with
  | tup hs hds =>
    cases hds with
    | cons h1 r =>
      cases r with
      | cons h2 r =>
        cases r with
        | cons h3 r =>
          cases r with
          | cons h4 r =>
            cases r with
            | cons h5 r =>
              cases r
              cases h1
              cases h2
              cases h4
              cases h5
              exact ⟨_, _, rfl, hs, h3⟩
theorem co_get {K : PySem.W.Frag} {H : Hp} {xs : List V} {cs : List Co} {i : Nat} {x : V} (h : DpAll K H xs (cs.map Co.d)) (hx : xs[i]? = some x) : ∃ c, cs[i]? = some c ∧ Dp K H x c.d := by
  obtain ⟨d, h1, h2⟩ := dpa_at h hx
  rw [List.getElem?_map] at h1
  cases e : cs[i]? with
  | none => rw [e] at h1; cases h1
  | some c =>
    rw [e] at h1
    rw [← Option.some.inj h1] at h2
    exact ⟨c, rfl, h2⟩
theorem co_len {K : PySem.W.Frag} {H : Hp} {xs : List V} {cs : List Co} (h : DpAll K H xs (cs.map Co.d)) : xs.length = cs.length := by rw [dpa_len h, List.length_map]
theorem co_fl {cs : List Co} (h : ∀ c ∈ cs, c.ok) : ∀ d ∈ cs.map Co.d, Fl 1 d := fun d hd => by
  obtain ⟨c, hc, rfl⟩ := List.mem_map.mp hd
  exact (h c hc).fl
def leC (a b : Co) : Bool := decide (a.nm.cps.toList ≤ b.nm.cps.toList)
structure Fm where
  cs : List Co
  ks : List Str
def Fm.d (f : Fm) : PyData := .tuple [.tuple (f.cs.map Co.d), .tuple (f.ks.map PyData.str)]
structure Fm.ok (f : Fm) : Prop where
  cs : ∀ c ∈ f.cs, c.ok
  ln : f.cs.length ≤ 12
  kl : f.ks.length ≤ 2
  ki : ∀ z ∈ f.ks, (z = Str.ofString "id" ∨ z = Str.ofString "key") ∧ ∃ c ∈ f.cs, c.nm = z
  nd : (f.cs.map Co.nm).Nodup
  so : f.cs.Pairwise fun a b => leC a b = true
theorem dpa_strs_eq {K : PySem.W.Frag} {H : Hp} : ∀ {ks : List Str} {ys : List V}, DpAll K H ys (ks.map PyData.str) → ys = ks.map V.str
  | [], _, h => by
    cases h
    rfl
  | k :: r, _, h => by
    cases h with
    | cons h1 h2 =>
      cases h1
      rw [dpa_strs_eq h2] <;> rfl
theorem fm_at {K : PySem.W.Frag} {H : Hp} {v : V} {f : Fm} (h : Dp K H v f.d) : ∃ p a b xs, v = .ref p ∧ SqT K H p [.ref a, .ref b] ∧ SqT K H a xs ∧ DpAll K H xs (f.cs.map Co.d) ∧ SqT K H b (f.ks.map V.str) := by
  cases h with
  | tup hs hds =>
    cases hds with
    | cons h1 r =>
      cases r with
      | cons h2 r =>
        cases r
        cases h1 with
        | tup ha da =>
          cases h2 with
          | tup hb db =>
            rw [dpa_strs_eq db] at hb
            exact ⟨_, _, _, _, rfl, hs, ha, da, hb⟩
theorem fm_mk {K : PySem.W.Frag} {H : Hp} {p : Addr} {va vb : V} {cs : List Co} {ks : List Str} (h : SqT K H p [va, vb]) (ha : Dp K H va (.tuple (cs.map Co.d))) (hb : Dp K H vb (.tuple (ks.map PyData.str))) : Dp K H (.ref p) (Fm.mk cs ks).d := .tup h (.cons ha (.cons hb .nil))
def findC (cs : List Co) (z : Str) : Option Co := cs.find? fun c => decide (c.nm = z)
theorem find_first : ∀ {cs : List Co} {i : Nat} {c : Co} {z : Str}, cs[i]? = some c → c.nm = z → (∀ (k : Nat) d, k < i → cs[k]? = some d → d.nm ≠ z) → findC cs z = some c
  | [], _, _, _, h, _, _ => by cases h
  | d :: cs, 0, c, z, h, e, _ => by
    cases Option.some.inj h
    unfold findC
    rw [List.find?_cons, decide_eq_true e]
  | d :: cs, i + 1, c, z, h, e, n => by
    have h0 := n 0 d (by omega) rfl
    unfold findC
    rw [List.find?_cons, decide_eq_false h0]
    exact find_first (i := i) (by simpa using h) e fun k d' hk hd => n (k + 1) d' (by omega) (by simpa using hd)
theorem find_no {cs : List Co} {z : Str} (h : ∀ c ∈ cs, c.nm ≠ z) : findC cs z = none := List.find?_eq_none.mpr fun c hc => by simpa using h c hc
theorem find_place : ∀ {cs : List Co} {c : Co} {z : Str}, findC cs z = some c → ∃ i : Nat, cs[i]? = some c ∧ c.nm = z ∧ ∀ (k : Nat) d, k < i → cs[k]? = some d → d.nm ≠ z
  | [], _, _, h => by cases h
  | d :: cs, c, z, h => by
    unfold findC at h
    rw [List.find?_cons] at h
    by_cases e : d.nm = z
    · rw [decide_eq_true e] at h
      cases Option.some.inj h
      exact ⟨0, rfl, e, fun k d hk => by omega⟩
    · rw [decide_eq_false e] at h
      obtain ⟨i, h1, h2, h3⟩ := find_place (cs := cs) h
      refine ⟨i + 1, by simpa using h1, h2, fun k d' hk hd => ?_⟩
      cases k with
      | zero =>
        cases Option.some.inj hd
        exact e
      | succ k => exact h3 k d' (by omega) (by simpa using hd)
theorem find_mem {cs : List Co} {c : Co} {z : Str} (h : findC cs z = some c) : c ∈ cs ∧ c.nm = z := by
  obtain ⟨i, h1, h2, _⟩ := find_place h
  exact ⟨List.mem_of_getElem? h1, h2⟩
def optD : Option Co → PyData
  | none => .none
  | some c => c.d
def sortC (cs : List Co) : List Co := cs.mergeSort leC
theorem sortC_mem {cs : List Co} {c : Co} : c ∈ sortC cs ↔ c ∈ cs := List.mem_mergeSort
theorem leC_trans (a b c : Co) (h : leC a b = true) (k : leC b c = true) : leC a c = true := by
  unfold leC at *
  rw [decide_eq_true_eq] at *
  exact List.le_trans h k
theorem leC_total (a b : Co) : (leC a b || leC b a) = true := by
  unfold leC
  rw [Bool.or_eq_true, decide_eq_true_eq, decide_eq_true_eq]
  exact List.le_total _ _
theorem sortC_so (cs : List Co) : (sortC cs).Pairwise fun a b => leC a b = true := List.pairwise_mergeSort leC_trans leC_total cs
theorem sortC_len (cs : List Co) : (sortC cs).length = cs.length := List.length_mergeSort _
theorem sortC_nd {cs : List Co} (h : (cs.map Co.nm).Nodup) : ((sortC cs).map Co.nm).Nodup := ((List.mergeSort_perm cs leC).map Co.nm).nodup_iff.mpr h
theorem nd_inj : ∀ {cs : List Co} {c d : Co}, (cs.map Co.nm).Nodup → c ∈ cs → d ∈ cs → c.nm = d.nm → c = d
  | [], _, _, _, h, _, _ => by cases h
  | e :: cs, c, d, hn, hc, hd, h => by
    rw [List.map_cons, List.nodup_cons] at hn
    rcases List.mem_cons.mp hc with rfl | hc
    · rcases List.mem_cons.mp hd with rfl | hd
      · rfl
      · exact absurd (List.mem_map.mpr ⟨d, hd, h.symm⟩) hn.1
    · rcases List.mem_cons.mp hd with e | hd
      · rw [e] at h
        exact absurd (List.mem_map.mpr ⟨c, hc, h⟩) hn.1
      · exact nd_inj hn.2 hc hd h
theorem nd_fl {cs : List Co} {p : Co → Bool} {d : Co} (h : (cs.map Co.nm).Nodup) (hd : ∀ c ∈ cs, p c = true → c.nm ≠ d.nm) : ((cs.filter p ++ [d]).map Co.nm).Nodup := by
  rw [List.map_append, List.nodup_append]
  refine ⟨h.sublist (List.filter_sublist.map _), by simp, fun x hx y hy => ?_⟩
  obtain ⟨c, hc, rfl⟩ := List.mem_map.mp hx
  rw [List.map_cons, List.map_nil, List.mem_singleton] at hy
  rw [hy]
  exact hd c (List.mem_filter.mp hc).1 (List.mem_filter.mp hc).2
theorem nd_fl0 {cs : List Co} {p : Co → Bool} (h : (cs.map Co.nm).Nodup) : ((cs.filter p).map Co.nm).Nodup := h.sublist (List.filter_sublist.map _)
theorem find_nd2 {cs : List Co} {c : Co} (h : (cs.map Co.nm).Nodup) (hc : c ∈ cs) : findC cs c.nm = some c := by
  cases e : findC cs c.nm with
  | none =>
    have := List.find?_eq_none.mp e c hc
    simp at this
  | some d =>
    obtain ⟨h1, h2⟩ := find_mem e
    rw [nd_inj h h1 hc h2]
/-! ### lists of columns -/
/-- a new list of just these columns -/
def ECL (K : PySem.W.Frag) (te : TE) (σ : L2.St) (H : Hp) (cs : List Co) : Prop := ∀ H1, Ex H H1 → ∀ Q : VK, (∀ p vs H2, H1 p = none → Ex H1 H2 → H2 p = some (.lst vs) → DpAll K H2 vs (cs.map Co.d) → Q (.ref p) H2) → te σ H1 Q
section
variable {K : PySem.W.Frag} {σ : L2.St} {H : Hp} {te ta tb tl : TE} {tt : TT}
/-- [x for x in xs if p(x)] -/
theorem ecl_flL {a : Addr} {xs : List V} {cs : List Co} {j : Nat} {vs : List Nat} {p : Co → Bool} (h : Ev te σ H (.ref a)) (hx : SqL K H a xs) (hd : DpAll K H xs (cs.map Co.d)) (hok : ∀ c ∈ cs, c.ok) (hz : xs.length ≤ 40000) (hw : ∀ x, wipe ((wipe σ vs).set j (some x)) vs = wipe σ vs)
    (ht : ∀ x c, c ∈ cs → ∀ H1, Ex H H1 → Dp K H1 x c.d → EvT tt ((wipe σ vs).set j (some x)) H1 (p c)) (he : ∀ x H1, Ev tl ((wipe σ vs).set j (some x)) H1 x) : ECL K (tLc (iList K te) (gName j) tt tl vs) σ H (cs.filter p) := by
  intro H0 e Q q
  have hl := co_len hd
  refine h H0 e _ fun H1 e1 => ⟨a, rfl, ⟨xs, ex_l (e.trans e1) hx⟩, fun Dl hD => ?_⟩
  refine lc_list (xs := xs) (fun i H' => H1 Dl = none ∧ Ex H1 H' ∧ ∃ us, H' Dl = some (.lst us) ∧ us.length ≤ i ∧ DpAll K H' us (((cs.take i).filter p).map Co.d)) ⟨hD, Ex.new hD, [], upd_same, Nat.le_refl 0, .nil⟩ (fun i H' _ z => ex_l ((e.trans e1).trans z.2.1) hx) (fun i x H' hi z => ⟨hw x, ?_⟩) (fun H' z => ?_)
  · obtain ⟨p1, p2, us, p3, p4, p5⟩ := z
    have hi2 := (List.getElem?_eq_some_iff.mp hi).1
    obtain ⟨c, hc, hdx⟩ := co_get hd hi
    have hm := List.mem_of_getElem? hc
    have et : (cs.take (i + 1)).filter p = (cs.take i).filter p ++ (if p c = true then [c] else []) := by
      rw [List.take_add_one, hc, List.filter_append]
      show _ ++ [c].filter p = _
      by_cases hp : p c = true
      · rw [if_pos hp, List.filter_cons_of_pos hp] <;> rfl
      · rw [if_neg hp, List.filter_cons_of_neg hp] <;> rfl
    refine ht x c hm H' ((e.trans e1).trans p2) (dp_mono ((e.trans e1).trans p2) hdx) H' (Ex.refl H') _ fun H3 e3 => ?_
    cases hp : p c with
    | true =>
      show tl _ H3 _
      refine he x H3 H3 (Ex.refl H3) _ fun H4 e4 => ⟨us, e4 Dl _ (e3 Dl _ p3), sz_lt (by omega), p1, ((p2.trans e3).trans e4).mut p1, us ++ [x], upd_same, by rw [List.length_append]; show us.length + 1 ≤ i + 1; omega, ?_⟩
      rw [et, if_pos hp, List.map_append]
      have E4 := e3.trans e4
      refine dpa_app (dpa_monoN (n := 1) (ExN.upd (E4 Dl _ p3)) (fun d hd' => ?_) (dpa_mono E4 p5)) (.cons (dp_monoN (ExN.upd (E4 Dl _ p3)) (hok c hm).fl (dp_mono (((e.trans e1).trans p2).trans E4) hdx)) .nil)
      obtain ⟨c', hc', rfl⟩ := List.mem_map.mp hd'
      exact (hok c' (List.mem_of_mem_take (List.mem_filter.mp hc').1)).fl
    | false =>
      show H1 Dl = none ∧ _
      refine ⟨p1, p2.trans e3, us, e3 Dl _ p3, by omega, ?_⟩
      rw [et, if_neg (by rw [hp]; exact Bool.false_ne_true), List.append_nil]
      exact dpa_mono e3 p5
  · obtain ⟨p1, p2, us, p3, p4, p5⟩ := z
    rw [hl, List.take_length] at p5
    exact q Dl us H' (fresh_back e1 p1) (e1.trans p2) p3 p5
/-- a + b of new lists -/
theorem ecl_cat {cs ds : List Co} (ha : ECL K ta σ H cs) (hb : ECL K tb σ H ds) (hc : ∀ c ∈ cs, c.ok) (hd : ∀ c ∈ ds, c.ok) (hz : cs.length + ds.length ≤ 100000) : ECL K (tOp rCat ta tb) σ H (cs ++ ds) := fun H1 e Q q =>
  ha H1 e _ fun p vs H2 hp e2 h2 d2 => hb H2 (e.trans e2) _ fun p' us H3 hp' e3 h3 d3 => ⟨p, p', vs, us, rfl, rfl, e3 _ _ h2, h3, sz_of (by rw [co_len d2, co_len d3]; exact hz), fun r hr => q r (vs ++ us) _ (fresh_back (e2.trans e3) hr) ((e2.trans e3).trans (Ex.new hr)) upd_same (by
    rw [List.map_append]
    exact dpa_mono (Ex.new hr) (dpa_app (dpa_mono e3 d2) d3))⟩
/-- [x], a new list of one column -/
theorem ecl_one {c : Co} (h : EP K te σ H (· = c.d)) : ECL K (tLst (tCons te tNil)) σ H [c] := fun H1 e Q q =>
  h H1 e _ fun v d H2 e2 hd hD => ⟨(by show 1 ≤ sizeLine; decide), fun p hp => q p [v] _ (fresh_back e2 hp) (e2.trans (Ex.new hp)) upd_same (.cons (dp_mono (Ex.new hp) (by
    rw [← show d = c.d from hd]
    exact hD)) .nil)⟩
theorem q_asgCL {D : Ends} {tz : TS} {i : Nat} {cs : List Co} (h : ECL K te σ H cs) (k : ∀ p vs H1, H p = none → Ex H H1 → H1 p = some (.lst vs) → DpAll K H1 vs (cs.map Co.d) → tz D (σ.set i (some (.ref p))) H1) : tSeq (tAsg te (gName i)) tz D σ H := h H (Ex.refl H) _ k
theorem s_asgCL {D : Ends} {i : Nat} {cs : List Co} (h : ECL K te σ H cs) (k : ∀ p vs H1, H p = none → Ex H H1 → H1 p = some (.lst vs) → DpAll K H1 vs (cs.map Co.d) → D.nx (σ.set i (some (.ref p))) H1) : tAsg te (gName i) D σ H := h H (Ex.refl H) _ k
/-- list(t) of a tuple -/
theorem el_listT {p : Addr} {xs : List V} (ha : Ev ta σ H (.ref p)) (h : SqT K H p xs) : EvL (tCB (rListS K) (tCons ta tNil)) σ H xs := fun H1 e Q q =>
  ha H1 e _ fun H2 e2 => ⟨p, xs, rfl, .inr (ex_t (e.trans e2) h), fun l hl => q l _ (fresh_back e2 hl) (e2.trans (Ex.new hl)) upd_same⟩
/-- [f(x) for x in a tuple if p(x)], by places -/
theorem el_lcT {a : Addr} {xs : List V} {j : Nat} {vs : List Nat} {f : Nat → Bool} {v : Nat → V} (h : Ev te σ H (.ref a)) (hx : SqT K H a xs) (hz : xs.length ≤ 40000) (hw : ∀ x, wipe ((wipe σ vs).set j (some x)) vs = wipe σ vs)
    (ht : ∀ i x H1, xs[i]? = some x → Ex H H1 → EvT tt ((wipe σ vs).set j (some x)) H1 (f i)) (he : ∀ i x H1, xs[i]? = some x → f i = true → Ex H H1 → Ev tl ((wipe σ vs).set j (some x)) H1 (v i)) : EvL (tLc (iTup K te) (gName j) tt tl vs) σ H (given xs.length f v) := by
  intro H0 e Q q
  refine h H0 e _ fun H1 e1 => ⟨a, rfl, ⟨xs, ex_t (e.trans e1) hx⟩, fun Dl hD => ?_⟩
  refine lc_tup (xs := xs) (fun i H' => H1 Dl = none ∧ Ex H1 H' ∧ H' Dl = some (.lst (given i f v))) ⟨hD, Ex.new hD, upd_same⟩ (fun i H' _ z => ex_t ((e.trans e1).trans z.2.1) hx) (fun i x H' hi z => ⟨hw x, ?_⟩) (fun H' z => ?_)
  · obtain ⟨p1, p2, p3⟩ := z
    have hi2 := (List.getElem?_eq_some_iff.mp hi).1
    refine ht i x H' hi ((e.trans e1).trans p2) H' (Ex.refl H') _ fun H3 e3 => ?_
    cases hp : f i with
    | true =>
      show tl _ H3 _
      refine he i x H3 hi hp (((e.trans e1).trans p2).trans e3) H3 (Ex.refl H3) _ fun H4 e4 => ⟨_, e4 Dl _ (e3 Dl _ p3), sz_lt ?_, p1, ((p2.trans e3).trans e4).mut p1, ?_⟩
      · have := given_len i f v
        omega
      · rw [upd_same, given_yes hp]
    | false =>
      show H1 Dl = none ∧ _
      refine ⟨p1, p2.trans e3, ?_⟩
      rw [given_no hp]
      exact e3 Dl _ p3
  · obtain ⟨p1, p2, p3⟩ := z
    exact q Dl H' (fresh_back e1 p1) (e1.trans p2) p3
/-- a tuple of data as a value -/
theorem ep_var {i : Nat} {x : V} {d : PyData} (h : σ[i]? = some (some x)) (hd : Dp K H x d) : EP K (tVar i) σ H (· = d) := ep_is (ev_var h) hd rfl
end
theorem el_catN {σ : L2.St} {H : Hp} {ta tb : TE} {xs ys : List V} (ha : EvL ta σ H xs) (hb : EvL tb σ H ys) (hz : xs.length + ys.length ≤ 100000) : EvL (tOp rCat ta tb) σ H (xs ++ ys) := fun H1 e Q q =>
  ha H1 e _ fun p H2 hp e2 h2 => hb H2 (e.trans e2) _ fun p' H3 hp' e3 h3 => ⟨p, p', xs, ys, rfl, rfl, e3 _ _ h2, h3, sz_of hz, fun r hr => q r _ (fresh_back (e2.trans e3) hr) ((e2.trans e3).trans (Ex.new hr)) upd_same⟩
/-- xs.append(x), x data -/
theorem s_appP {K : PySem.W.Frag} {σ : L2.St} {H : Hp} {te : TE} {D : Ends} {j : Nat} {l : Addr} {xs : List V} {R : PyData → Prop} (hl : H l = some (.lst xs)) (ha : σ[j]? = some (some (V.ref l))) (h : EP K te σ H R) (hz : xs.length < 100000) (k : ∀ v d H1, Ex H H1 → R d → Dp K H1 v d → D.nx σ (upd H1 l (.lst (xs ++ [v])))) :
    tDrop (tBM K "list" rAppend (tVar j) (tCons te tNil)) D σ H :=
  ⟨_, ha, .inl ⟨rfl, _, sq_of hl⟩, h H (Ex.refl H) _ fun v d H1 e1 hr hd => ⟨l, xs, v, rfl, rfl, e1 _ _ hl, sz_lt hz, k v d H1 e1 hr hd⟩⟩
theorem q_appP {K : PySem.W.Frag} {σ : L2.St} {H : Hp} {te : TE} {tz : TS} {D : Ends} {j : Nat} {l : Addr} {xs : List V} {R : PyData → Prop} (hl : H l = some (.lst xs)) (ha : σ[j]? = some (some (V.ref l))) (h : EP K te σ H R) (hz : xs.length < 100000) (k : ∀ v d H1, Ex H H1 → R d → Dp K H1 v d → tz D σ (upd H1 l (.lst (xs ++ [v])))) :
    tSeq (tDrop (tBM K "list" rAppend (tVar j) (tCons te tNil))) tz D σ H := s_appP (D := { D with nx := tz D }) hl ha h hz k
theorem col_app {K : PySem.W.Frag} {H : Hp} {l : Addr} {xs : List V} {v : V} {cs : List Co} {c : Co} (hl : H l = some (.lst xs)) (hd : DpAll K H xs (cs.map Co.d)) (hok : ∀ c ∈ cs, c.ok) (hv : Dp K H v c.d) (hc : c.ok) :
    DpAll K (upd H l (.lst (xs ++ [v]))) (xs ++ [v]) ((cs ++ [c]).map Co.d) ∧ ∀ x ∈ cs ++ [c], x.ok := by
  refine ⟨?_, fun x hx => ?_⟩
  · rw [List.map_append]
    exact dpa_app (dpa_monoN (n := 1) (ExN.upd hl) (co_fl hok) hd) (.cons (dp_monoN (ExN.upd hl) hc.fl hv) .nil)
  · rcases List.mem_append.mp hx with z | z
    · exact hok x z
    · rw [List.mem_singleton.mp z]
      exact hc
/-- a value of a column -/
theorem ev_co {K : PySem.W.Frag} {σ : L2.St} {H : Hp} {te : TE} {x : V} {c : Co} (h : Ev te σ H x) (hd : Dp K H x c.d) : Ev (tOp (rIxT K) te (tC (.int 0))) σ H (.str c.nm) ∧ Ev (tOp (rIxT K) te (tC (.int 1))) σ H (.str c.kd.s) ∧ Ev (tOp (rIxT K) te (tC (.int 3))) σ H (.int c.un) ∧ Ev (tOp (rIxT K) te (tC (.int 4))) σ H (.str c.lk) := by
  obtain ⟨p, y, rfl, hs, _⟩ := co_at hd
  exact ⟨ev_ixT h ev_c hs (at_nat (j := 0) rfl), ev_ixT h ev_c hs (at_nat (j := 1) rfl), ev_ixT h ev_c hs (at_nat (j := 3) rfl), ev_ixT h ev_c hs (at_nat (j := 4) rfl)⟩
theorem eu_run {te : TE} {σ : L2.St} {H : Hp} {xs : List V} {Q : VK} (h : EvU te σ H xs) (q : ∀ p H2, H p = none → Ex H H2 → H2 p = some (.tup xs) → Q (.ref p) H2) : te σ H Q := h H (Ex.refl H) Q q
theorem cat_run {H : Hp} {p p' : Addr} {vs us : List V} {Q : VK} (h1 : H p = some (.lst vs)) (h2 : H p' = some (.lst us)) (hz : vs.length + us.length ≤ 100000) (q : ∀ r, H r = none → Q (.ref r) (upd H r (.lst (vs ++ us)))) : rCat (.ref p) (.ref p') H Q := ⟨p, p', vs, us, rfl, rfl, h1, h2, sz_of hz, q⟩
theorem ecl_run {K : PySem.W.Frag} {te : TE} {σ : L2.St} {H : Hp} {cs : List Co} {Q : VK} (h : ECL K te σ H cs) (q : ∀ p vs H1, H p = none → Ex H H1 → H1 p = some (.lst vs) → DpAll K H1 vs (cs.map Co.d) → Q (.ref p) H1) : te σ H Q := h H (Ex.refl H) Q q
/-- x is not None -/
theorem ev_isnt {σ : L2.St} {H : Hp} {te : TE} {v : V} (h : Ev te σ H v) : Ev (tOp (fun x y H Q => y = .non ∧ Q (.bl (!decide (x = .non))) H) te (tC .non)) σ H (.bl (!decide (v = .non))) := fun H1 e Q q => h H1 e _ fun H2 e2 => ⟨rfl, q H2 e2⟩
/-- t[:3] of a tuple of five -/
theorem eu_sl3 {K : PySem.W.Frag} {σ : L2.St} {H : Hp} {te : TE} {p : Addr} {a b c d e : V} (h : Ev te σ H (.ref p)) (hx : SqT K H p [a, b, c, d, e]) : EvU (tSl (rSlA K) te tNoPart (tPart (tC (.int 3)))) σ H [a, b, c] := fun H0 e0 Q q =>
  h H0 e0 _ fun H2 e2 => ⟨3, rfl, p, [a, b, c, d, e], rfl, ex_t (e0.trans e2) hx, (fun z => by
    have := z.2
    exact absurd (show HT.sIx 5 5 (some 3) = 5 from this) (by decide)), fun _ r hr => q r _ (fresh_back e2 hr) (e2.trans (Ex.new hr)) upd_same⟩
def spFind (K : PySem.W.Frag) : Sp := fun vs H Q _ => ∃ (f : Fm) (vf : V) (z : Str), vs = [vf, .str z] ∧ Dp K H vf f.d ∧ f.cs.length ≤ 1000 ∧ ∀ v H', Ex H H' → Dp K H' v (optD (findC f.cs z)) → Q v H'
theorem cv_dummy : True := trivial
theorem op_run {r : R2} {ta tb : TE} {σ : L2.St} {H : Hp} {Q : VK} (k : ta σ H fun x H1 => tb σ H1 fun y H2 => r x y H2 Q) : tOp r ta tb σ H Q := k
theorem lst_run {ta : TA} {σ : L2.St} {H : Hp} {Q : VK} (k : ta σ H fun vs H1 => vs.length ≤ sizeLine ∧ ∀ p, H1 p = none → Q (.ref p) (upd H1 p (.lst vs))) : tLst ta σ H Q := k
theorem tup_run {ta : TA} {σ : L2.St} {H : Hp} {Q : VK} (k : ta σ H fun vs H1 => vs.length ≤ sizeLine ∧ ∀ p, H1 p = none → Q (.ref p) (upd H1 p (.tup vs))) : tTup ta σ H Q := k
theorem cons_run {te : TE} {tr : TA} {σ : L2.St} {H : Hp} {Q : List V → Hp → Prop} (k : te σ H fun v H1 => tr σ H1 fun vs H2 => Q (v :: vs) H2) : tCons te tr σ H Q := k
theorem call_run {sp : Sp} {dvs : List V} {E : XK} {ta : TA} {σ : L2.St} {H : Hp} {Q : VK} (k : ta σ H fun vs H1 => sp (vs ++ dvs) H1 Q E) : tCall sp dvs E ta σ H Q := k
theorem asg_run {te : TE} {σ : L2.St} {H : Hp} {D : Ends} {i : Nat} (k : te σ H fun v H1 => D.nx (σ.set i (some v)) H1) : tAsg te (gName i) D σ H := k
theorem ret_run {te : TE} {σ : L2.St} {H : Hp} {D : Ends} (k : te σ H D.rt) : tRet te D σ H := k
theorem c_run {σ : L2.St} {H : Hp} {Q : VK} {v : V} (q : Q v H) : tC v σ H Q := q
theorem if_run {t : TT} {ta tb : TE} {σ : L2.St} {H : Hp} {b : Bool} {Q : VK} (h : EvT t σ H b) (h1 : b = true → ∀ H1, Ex H H1 → ta σ H1 Q) (h2 : b = false → ∀ H1, Ex H H1 → tb σ H1 Q) : tIf t ta tb σ H Q := h H (Ex.refl H) _ fun H1 e => by
  cases b with
  | true => exact h1 rfl H1 e
  | false => exact h2 rfl H1 e
theorem var_run {i : Nat} {σ : L2.St} {H : Hp} {Q : VK} {v : V} (h : σ[i]? = some (some v)) (q : Q v H) : tVar i σ H Q := ⟨v, h, q⟩
/-- an expression read where a bare goal goes on -/
theorem ev_run {te : TE} {σ : L2.St} {H : Hp} {v : V} {Q : VK} (h : Ev te σ H v) (q : ∀ H2, Ex H H2 → Q v H2) : te σ H Q := h H (Ex.refl H) Q q
theorem el_run {te : TE} {σ : L2.St} {H : Hp} {xs : List V} {Q : VK} (h : EvL te σ H xs) (q : ∀ p H2, H p = none → Ex H H2 → H2 p = some (.lst xs) → Q (.ref p) H2) : te σ H Q := h H (Ex.refl H) Q q
/-! ### the lambda's def -/
def lamQ : Str := ((Str.ofString "_law_in_columns") ++ (Str.ofString ".<locals>.")) ++ Str.ofString "<lambda>"
/-- its table: made, or empty -/
def spInCols (K : PySem.W.Frag) (P : Addr) (pos : Pos) : Sp := fun vs H Q _ => ∃ (a : Addr) (xs : List V) (cs : List Co), vs = [.ref a] ∧ SqL K H a xs ∧ DpAll K H xs (cs.map Co.d) ∧ cs.length ≤ 1000 ∧
  ((LamTab H P pos lamQ ∧ ∀ v H', Ex H H' → Dp K H' v (.tuple ((sortC cs).map Co.d)) → Q v H') ∨ (H P = some (.tbl #[]) ∧ ∀ v H', LamX.ExtN H H' → LamTab H' P pos lamQ → Dp K H' v (.tuple ((sortC cs).map Co.d)) → Q v H'))
theorem LamTab.mono {H H' : Hp} {P : Addr} {pos : Pos} {q : Str} (e : Ex H H') (h : LamTab H P pos q) : LamTab H' P pos q := by
  obtain ⟨c, h1, h2⟩ := h
  exact ⟨c, e _ _ h1, e _ _ h2⟩
/-- the code of a def, told -/
theorem fun_code {P : Program} {w : World} {K : PySem.W.Frag} {mg : Str → Option Value} {base : Heap} {x qual : Str} {st : Stmt} {f c : Addr} {fd : FuncData} {N ps : List Str} {k : Nat} {sp : Sp} (F : L2.Fun K x qual st f fd) (hc : fd.code = .ref c)
    (S : FnScope N ps (defScope st)) (ln : ∀ vs H Q E, sp vs H Q E → vs.length = ps.length)
    (hb : ∀ (A : Around) (outer : List Env) (s : Shared) (H : Hp) (vs : List V) (Q : VK) (E : XK), Room k (A.deeper (envOfC qual (defScope st) s.heap.objs.size f (.ref c))) → sp vs H Q E →
      ∃ t, PSs (cxOf CX0 P w K mg base N qual (defScope st) f (.ref c) A outer s H E).nox (defBody st) t ∧ t { nx := fun _ H' => Q .non H', rt := Q } (start N vs) H) :
    FnOk P w K mg base CX0 (k + 1) f fd ps sp := by
  obtain ⟨oc, od, kV, doc, pm, an, cv, ct, osl, e, lk, hcd⟩ := F.ex
  subst e
  have e2 : cv = .ref c := hc
  subst e2
  refine fn_of lk hcd S ln fun A outer s H vs Q E hr h => ?_
  obtain ⟨t, h1, h2⟩ := hb A outer s H vs Q E hr h
  exact ⟨t, h1.nox, h2⟩


/-! ### the chunk store -/
abbrev cF (b : Addr) (r : Int) (t : Addr) : List (Str × V) := [(("book" : Str), V.ref b), (("reads" : Str), V.int r), (("_texts" : Str), V.ref t)]
theorem cF_book (b : Addr) (r : Int) (t : Addr) : (cF b r t).lookup ("book" : Str) = some (.ref b) := by simp [cF, List.lookup]
theorem cF_reads (b : Addr) (r : Int) (t : Addr) : (cF b r t).lookup ("reads" : Str) = some (.int r) := by
  have h : (("reads" : Str) == ("book" : Str)) = false := by decide +kernel
  simp [cF, List.lookup, h]
theorem cF_texts (b : Addr) (r : Int) (t : Addr) : (cF b r t).lookup ("_texts" : Str) = some (.ref t) := by
  have h : (("_texts" : Str) == ("book" : Str)) = false := by decide +kernel
  have h2 : (("_texts" : Str) == ("reads" : Str)) = false := by decide +kernel
  simp [cF, List.lookup, h, h2]
theorem cF_no (b : Addr) (r : Int) (t : Addr) {m : Str} (h : (m == ("book" : Str)) = false) (h1 : (m == ("reads" : Str)) = false) (h2 : (m == ("_texts" : Str)) = false) : (cF b r t).lookup m = none := by simp [cF, List.lookup, h, h1, h2]
theorem cF_put (b : Addr) (r r' : Int) (t : Addr) : putF ("reads" : Str) (V.int r') (cF b r t) = cF b r' t := by
  have h : ¬ (("book" : Str) = ("reads" : Str)) := by decide +kernel
  simp [cF, putF, h]
theorem cF_put0 (b : Addr) : putF ("book" : Str) (V.ref b) [] = [(("book" : Str), V.ref b)] := rfl
theorem cF_put1 (b : Addr) (r : Int) : putF ("reads" : Str) (V.int r) [(("book" : Str), V.ref b)] = [(("book" : Str), V.ref b), (("reads" : Str), V.int r)] := by
  have h : ¬ (("book" : Str) = ("reads" : Str)) := by decide +kernel
  simp [putF, h]
theorem cF_put2 (b : Addr) (r : Int) (t : Addr) : putF ("_texts" : Str) (V.ref t) [(("book" : Str), V.ref b), (("reads" : Str), V.int r)] = cF b r t := by
  have h : ¬ (("book" : Str) = ("_texts" : Str)) := by decide +kernel
  have h2 : ¬ (("reads" : Str) = ("_texts" : Str)) := by decide +kernel
  simp [putF, cF, h, h2]
/-- a store stands at p, over the book at b, its dict at t -/
def CkAt (C : Addr) (H : Hp) (p b t : Addr) (r : Int) (kvs : List (Key × V)) : Prop := (∃ dx, H p = some (.ins C dx (cF b r t))) ∧ H t = some (.dK kvs)
theorem dropK_none {kvs : List (Key × V)} {k : Key} (h : valV kvs k = none) : dropK kvs k = kvs := by
  unfold dropK
  rw [List.filter_eq_self]
  intro kv hkv
  simp only [decide_eq_true_eq]
  intro z
  have := valV_any k kvs
  rw [h] at this
  have h2 : (kvs.any fun kv => decide (kv.1 = k)) = true := List.any_eq_true.mpr ⟨kv, hkv, by rw [z]; simp⟩
  rw [h2] at this
  cases this
/-- only what stands in S may change -/
def But (S : List Addr) (H H' : Hp) : Prop := ∀ c o, H c = some o → c ∉ S → H' c = some o
theorem But.refl {S : List Addr} {H : Hp} : But S H H := fun _ _ h _ => h
theorem But.of {S : List Addr} {H H' : Hp} (h : Ex H H') : But S H H' := fun c o e _ => h c o e
theorem But.trans {S : List Addr} {H H' H'' : Hp} (h : But S H H') (h2 : But S H' H'') : But S H H'' := fun c o e n => h2 c o (h c o e n) n
theorem But.sub {S S' : List Addr} {H H' : Hp} (h : But S H H') (hs : ∀ a ∈ S, a ∈ S') : But S' H H' := fun c o e n => h c o e fun z => n (hs c z)
theorem But.put {S : List Addr} {H : Hp} {a : Addr} {o : HO} (h : a ∈ S) : But S H (upd H a o) := fun c o' e n => by rw [upd_ne (fun z => n (by rw [z]; exact h))]; exact e
theorem But.new {S : List Addr} {H : Hp} {a : Addr} {o : HO} (h : H a = none) : But S H (upd H a o) := fun c o' e _ => by rw [upd_ne (ne_of_none e h)]; exact e
theorem t_joined {σ : L2.St} {H : Hp} {ts : List TE} {ys : List Str} {K : List V → Hp → Prop} (h : EvJ σ H ts ys) (hz : (ys.map (·.length)).sum ≤ 16777216) (k : ∀ H1, Ex H H1 → K [.str (ys.foldl (· ++ ·) Str.empty)] H1) :
    tCons (fun σ H Q => tJs ts Str.empty σ H fun out H1 => Q (.str out) H1) tNil σ H K := by
  show tJs ts Str.empty σ H (fun out H1 => K [V.str out] H1)
  exact ev_joined h hz H (Ex.refl H) (fun v H1 => K [v] H1) fun H1 e1 => k H1 e1
def tMethX (C : Addr) (m : Str) (sp : Sp) (E : L2.St → XK) (ta : TE) (t : TA) : TE := fun σ H Q => ta σ H fun x H1 => ∃ a dx fs, x = .ref a ∧ H1 a = some (.ins C dx fs) ∧ fs.lookup m = none ∧ t σ H1 fun vs H2 => sp (x :: vs) H2 Q (E σ)
/-- o.m(e, ..) that may raise, in a try -/
theorem pe_methX {X : Cx} {CX : CXT} {k : Nat} {C f : Addr} {fd : FuncData} {ps : List Str} {m : Str} {sp : Sp} {E : L2.St → XK} {o e : Expr} {es : List Expr} {ta : TE} {t : TA} {apos pos : Pos} {pl : Sem Bool} (he : PE X o ta) (c : Cls X.K C) (hm : Meth X.K C m f) (F : FnOk X.prog X.w X.K X.mg X.base CX k f fd ps sp) (hr : Room k X.A)
    (hb : Binds X.K fd ps []) (hx : ∀ σ, PassesAt CX X σ (E σ)) (ha : PA X (e :: es) t)
    (hst : starEach (e :: es) X.env = (false, eval e X.env) :: starEach es X.env := by rfl) (hpl : (backTo pos (starEach es X.env)).any (·.1) = false := by rfl)
    (ht : eval (.Call (.Attribute o m apos) (e :: es) [] pos) X.env = (do
      let ov ← eval o X.env
      standAt apos.atName
      let (f, first) ← holding [ov] (getMethod ov m pl)
      callWith pos f first (backTo pos (starEach (e :: es) X.env)) (backToKw pos (keywordEach [] X.env))) := by rfl) :
    PE X (.Call (.Attribute o m apos) (e :: es) [] pos) (tMethX C m sp E ta t) := by
  refine ⟨fun pins s σ H Q I h => ?_⟩
  refine PySem.W.methodCall_KW (pl := pl) (thn (he.run pins s σ H _ I h) fun u s1 ⟨x, H1, I1, rx, a, dx, fs, ex, ea, l, q⟩ => ?_) ht
  subst ex
  obtain rfl : u = Value.ref a := rx
  refine getmeth_ok I1 ea c hm l ?_
  refine PySem.W.callWith_K (first := [.ref a]) (h₀ := X.base) I.ok.mod.kin hm.kp (thn (ha.run pos pins s1 σ H1 _ I1 q) fun us s2 ⟨vs, H2, I2, r, q2⟩ => ⟨I2.kIn, ?_⟩) hst hpl
  exact run_fnS (us := .ref a :: us) (vs := .ref a :: vs) F hr hb (hx σ) I2 (.cons rfl r) q2
theorem ev_din {σ : L2.St} {H : Hp} {te td : TE} {x : Addr} {k : Key} {kvs : List (Key × V)} (h : Ev te σ H (kV k)) (h2 : Ev td σ H (.ref x)) (hx : H x = some (.dK kvs)) : Ev (tDIn te td) σ H (.bl (valV kvs k).isSome) := fun H1 e Q q =>
  h H1 e _ fun H2 e2 => h2 H2 (e.trans e2) _ fun H3 e3 => ⟨x, _, rfl, DGet.k (((e.trans e2).trans e3) _ _ hx), q H3 (e2.trans e3)⟩
theorem ev_dnin {σ : L2.St} {H : Hp} {te td : TE} {x : Addr} {k : Key} {kvs : List (Key × V)} (h : Ev te σ H (kV k)) (h2 : Ev td σ H (.ref x)) (hx : H x = some (.dK kvs)) : Ev (tDNotIn te td) σ H (.bl (!(valV kvs k).isSome)) := fun H1 e Q q =>
  h H1 e _ fun H2 e2 => h2 H2 (e.trans e2) _ fun H3 e3 => ⟨x, _, rfl, DGet.k (((e.trans e2).trans e3) _ _ hx), q H3 (e2.trans e3)⟩
theorem ev_dgetK {σ : L2.St} {H : Hp} {te td : TE} {x : Addr} {k : Key} {kvs : List (Key × V)} {v : V} (h2 : Ev td σ H (.ref x)) (h : Ev te σ H (kV k)) (hx : H x = some (.dK kvs)) (hv : valV kvs k = some v) : Ev (tDGet td te) σ H v := fun H1 e Q q =>
  h2 H1 e _ fun H2 e2 => h H2 (e.trans e2) _ fun H3 e3 => ⟨x, v, rfl, by rw [← hv]; exact DGet.k (((e.trans e2).trans e3) _ _ hx), q H3 (e2.trans e3)⟩
theorem CkAt.mono {C p b t : Addr} {r : Int} {H H' : Hp} {kvs : List (Key × V)} (h : CkAt C H p b t r kvs) (e : Ex H H') : CkAt C H' p b t r kvs := by
  obtain ⟨⟨dx, hp⟩, ht⟩ := h
  exact ⟨⟨dx, e _ _ hp⟩, e _ _ ht⟩
def Strs (kvs : List (Key × V)) : Prop := ∀ (k : Key) (v : V), valV kvs k = some v → ∃ z : Str, v = .str z
theorem ev_callH {sp : Sp} {E : L2.St → XK} {ta : TA} {σ : L2.St} {H : Hp} {vs : List V} {z : V} (h : EvA ta σ H vs) (c : SpV sp vs H z) : Ev (tCallS sp E ta) σ H z := fun H1 e Q q => h H1 e _ fun H2 e2 => c H2 (e.trans e2) Q (fun H3 e3 => q H3 (e2.trans e3)) (E σ)
theorem BkAt.mono {C p d : Addr} {H H' : Hp} {kvs : List (Key × V)} (b : BkAt C H p d kvs) (e : Ex H H') : BkAt C H' p d kvs := by
  obtain ⟨⟨dx, hp⟩, hd⟩ := b
  exact ⟨⟨dx, e _ _ hp⟩, e _ _ hd⟩
theorem s_appZ {K : PySem.W.Frag} {σ : L2.St} {H : Hp} {ta te : TE} {D : Ends} {v : V} {l : Addr} {xs : List V} (hl : H l = some (.lst xs)) (ha : Ev ta σ H (.ref l)) (h : Ev te σ H v) (hz : xs.length < sizeLine) (k : ∀ H1, Ex H H1 → D.nx σ (upd H1 l (.lst (xs ++ [v])))) :
    tDrop (tBM K "list" rAppend ta (tCons te tNil)) D σ H := ha H (Ex.refl H) _ fun H1 e1 =>
  ⟨Or.inl ⟨rfl, xs, sq_of (e1 l _ hl)⟩, h H1 e1 _ fun H2 e2 => ⟨l, xs, v, rfl, rfl, e2 l _ (e1 l _ hl), hz, k H2 (e1.trans e2)⟩⟩


/-! ### loops over a dict's keys (the dict is locked meanwhile) -/
theorem Ex.both {H H' : Hp} (e : Ex H H') (x : Addr) (o : HO) : Ex (upd H x o) (upd H' x o) := fun b v h => by
  by_cases hb : b = x
  · rw [hb, upd_same] at h ⊢; exact h
  · rw [upd_ne hb] at h ⊢; exact e _ _ h
theorem Ex.unlock {H H' : Hp} {x : Addr} {o u : HO} (e : Ex (upd H x o) H') (hx : H x = some u) : Ex H (upd H' x u) := fun b v h => by
  by_cases hb : b = x
  · rw [hb, hx] at h
    rw [hb, upd_same]
    exact h
  · rw [upd_ne hb]; exact e _ _ (by rw [upd_ne hb]; exact h)
theorem DGet.f {H : Hp} {a : Addr} {kvs : List (Key × V)} {k : Key} {o : Obj} (e : H a = some (.frz o (.dK kvs))) : DGet H a (kV k) (valV kvs k) := .inl ⟨kvs, k, .inr ⟨o, e⟩, rfl, rfl⟩
theorem ev_dgetF {σ : L2.St} {H : Hp} {te td : TE} {x : Addr} {k : Key} {kvs : List (Key × V)} {v : V} {o : Obj} (h2 : Ev td σ H (.ref x)) (h : Ev te σ H (kV k)) (hx : H x = some (.frz o (.dK kvs))) (hv : valV kvs k = some v) : Ev (tDGet td te) σ H v := fun H1 e Q q =>
  h2 H1 e _ fun H2 e2 => h H2 (e.trans e2) _ fun H3 e3 => ⟨x, v, rfl, by rw [← hv]; exact DGet.f (((e.trans e2).trans e3) _ _ hx), q H3 (e2.trans e3)⟩
theorem q_forK {σ : L2.St} {H : Hp} {te : TE} {tu tz : TS} {D : Ends} {j : Nat} {x : Addr} {kvs : List (Key × V)} (hx : H x = some (.dK kvs)) (h : ∀ H1, Ev te σ H1 (.ref x)) (Pv : Obj → Nat → L2.St → Hp → Prop)
    (h0 : ∀ od H1, Ex (upd H x (.frz od (.dK kvs))) H1 → Pv od 0 σ H1) (hl : ∀ od i σ' H', Pv od i σ' H' → H' x = some (.frz od (.dK kvs)))
    (hs : ∀ od i k v σ' H' (D' : Ends), kvs[i]? = some (k, v) → Pv od i σ' H' → (∀ σ2 H2, Pv od (i + 1) σ2 H2 → D'.nx σ2 H2) → (∀ σ2 H2, Pv od (i + 1) σ2 H2 → D'.ct σ2 H2) → (∀ v H2, H2 x = some (.frz od (.dK kvs)) → D.rt v (upd H2 x (.dK kvs)) → D'.rt v H2) → tu D' (σ'.set j (some (kV k))) H')
    (hd : ∀ od σ' H', Pv od kvs.length σ' H' → tz D σ' (upd H' x (.dK kvs))) : tSeq (tLock (tFor (iKeys te) (gName j) tu)) tz D σ H := by
  refine ⟨x, .dK kvs, hx, True.intro, fun od => ?_⟩
  refine h _ _ (Ex.refl _) _ fun H1 e1 => ⟨x, od, rfl, .inl ⟨kvs, e1 _ _ upd_same, ?_⟩⟩
  refine ⟨fun i m σ' H' => i + m = kvs.length ∧ Pv od i σ' H', ⟨kvs.length, by omega, h0 od H1 e1⟩, ?_⟩
  rintro i m σ' H' ⟨hm, p⟩
  by_cases hlt : i < kvs.length
  · refine .inr ⟨⟨hl _ _ _ _ p, hlt⟩, Pv od (i + 1), fun σ2 H2 p2 => ⟨m - 1, by omega, by omega, p2⟩, fun y H2 hy => ?_⟩
    obtain ⟨rfl, k, v, hk, rfl⟩ := hy
    exact hs od i k v σ' _ _ hk p (fun _ _ z => z) (fun _ _ z => z) fun v H3 z1 z2 => ⟨z1, z2⟩
  · have ei : i = kvs.length := by omega
    subst ei
    exact .inl ⟨⟨hl _ _ _ _ p, Nat.le_refl _⟩, hl _ _ _ _ p, hd od σ' H' p⟩
theorem el_lcK {σ : L2.St} {H : Hp} {te tl : TE} {x : Addr} {kvs : List (Key × V)} {j : Nat} {vs : List Nat} {ys : List V} (hx : H x = some (.dK kvs)) (h : ∀ H1, Ev te σ H1 (.ref x)) (hz : kvs.length ≤ 40000) (hw : ∀ y, wipe ((wipe σ vs).set j (some y)) vs = wipe σ vs) (hl : ys.length = kvs.length)
    (he : ∀ (od : Obj) (i : Nat) (k : Key) (v y : V), kvs[i]? = some (k, v) → ys[i]? = some y → ∀ H1, Ex (upd H x (.frz od (.dK kvs))) H1 → Ev tl ((wipe σ vs).set j (some (kV k))) H1 y) : EvL (tLockE (tLc (iKeys te) (gName j) tYes tl vs)) σ H ys := fun H0 e Q q => by
  refine ⟨x, .dK kvs, e _ _ hx, True.intro, fun od => h _ _ (Ex.refl _) _ fun H1 e1 => ⟨x, od, rfl, .inl ⟨kvs, e1 _ _ upd_same, fun D hD => ?_⟩⟩⟩
  have g : given kvs.length (fun _ => true) (fun i => ys.getD i .non) = ys := given_all hl fun i hi => by
    have hi2 : i < ys.length := by omega
    rw [List.getElem?_eq_getElem hi2, List.getD_eq_getElem?_getD, List.getElem?_eq_getElem hi2] <;> rfl
  have hDx : D ≠ x := fun z => by
    rw [z] at hD
    have y := e1 _ _ (upd_same (H := H0) (a := x) (o := .frz od (.dK kvs)))
    rw [hD] at y
    cases y
  have hD0 : H0 D = none := by
    have y := fresh_back e1 hD
    rw [upd_ne hDx] at y
    exact y
  refine ⟨fun i m H' => m = kvs.length - i ∧ i ≤ kvs.length ∧ Cw H1 (fun _ => true) (fun i => ys.getD i .non) D i H', ⟨_, rfl, Nat.zero_le _, hD, Ex.new hD, upd_same⟩, ?_⟩
  rintro i m H' ⟨rfl, hi, p⟩
  have hf : H' x = some (.frz od (.dK kvs)) := p.2.1 _ _ (e1 _ _ upd_same)
  by_cases hlt : i < kvs.length
  · refine .inr ⟨⟨hf, hlt⟩, Cw H1 (fun _ => true) (fun i => ys.getD i .non) D (i + 1), fun H2 p2 => ⟨_, by omega, rfl, hlt, p2⟩, fun y H2 hy => ?_⟩
    obtain ⟨rfl, k, v, hk, rfl⟩ := hy
    have hi2 : i < ys.length := by omega
    have hy : ys[i]? = some (ys.getD i .non) := by rw [List.getElem?_eq_getElem hi2, List.getD_eq_getElem?_getD, List.getElem?_eq_getElem hi2] <;> rfl
    exact ⟨hw _, cw_turn p (by omega) (fun H3 e3 Q q => q H3 (Ex.refl H3)) fun _ => (he od i k v _ hk hy H1 ((Ex.both e x _).trans e1))⟩
  · have ei : i = kvs.length := by omega
    subst ei
    refine .inl ⟨⟨hf, Nat.le_refl _⟩, hf, ?_⟩
    have p2 := p.2.2
    rw [g] at p2
    refine q D _ hD0 (Ex.unlock (e1.trans p.2.1) (e _ _ hx)) ?_
    rw [upd_ne hDx]
    exact p2
/-! ### the book's dict as a list of texts -/
def bkL : Int → List Str → List (Key × V)
  | _, [] => []
  | n, z :: r => (Sum.inr z, .int n) :: bkL (n + 1) r
def posZ (z : Str) : List Str → Nat
  | [] => 0
  | y :: r => if y = z then 0 else posZ z r + 1
def addZ (zs : List Str) (z : Str) : List Str := if z ∈ zs then zs else zs ++ [z]
theorem bkL_len : ∀ (n : Int) (zs : List Str), (bkL n zs).length = zs.length
  | _, [] => rfl
  | n, z :: r => by show (bkL (n + 1) r).length + 1 = r.length + 1; rw [bkL_len (n + 1) r]
theorem posZ_lt {z : Str} : ∀ {zs : List Str}, z ∈ zs → posZ z zs < zs.length
  | y :: r, h => by
    unfold posZ
    by_cases e : y = z
    · rw [if_pos e]; simp
    · rw [if_neg e]
      have h2 : z ∈ r := (List.mem_cons.mp h).resolve_left fun q => e q.symm
      have := posZ_lt h2
      simp; exact this
theorem posZ_at {z : Str} : ∀ {zs : List Str}, z ∈ zs → zs[posZ z zs]? = some z
  | y :: r, h => by
    unfold posZ
    by_cases e : y = z
    · rw [if_pos e, e] <;> rfl
    · rw [if_neg e]
      have h2 : z ∈ r := (List.mem_cons.mp h).resolve_left fun q => e q.symm
      rw [List.getElem?_cons_succ]
      exact posZ_at h2
theorem posZ_uniq {z : Str} : ∀ {zs : List Str} {j : Nat}, zs.Nodup → zs[j]? = some z → posZ z zs = j
  | [], _, _, h => by simp at h
  | y :: r, 0, _, h => by
    have e : y = z := by simpa using h
    unfold posZ
    rw [if_pos e]
  | y :: r, j + 1, nd, h => by
    rw [List.getElem?_cons_succ] at h
    have e : ¬ y = z := fun q => (List.nodup_cons.mp nd).1 (by rw [q]; exact List.mem_of_getElem? h)
    unfold posZ
    rw [if_neg e, posZ_uniq (List.nodup_cons.mp nd).2 h]
theorem posZ_app {z : Str} : ∀ {zs : List Str} (ys : List Str), z ∈ zs → posZ z (zs ++ ys) = posZ z zs
  | y :: r, ys, h => by
    rw [List.cons_append]
    unfold posZ
    by_cases e : y = z
    · rw [if_pos e, if_pos e]
    · rw [if_neg e, if_neg e, posZ_app ys ((List.mem_cons.mp h).resolve_left fun q => e q.symm)]
theorem posZ_end {z : Str} : ∀ {zs : List Str}, z ∉ zs → posZ z (zs ++ [z]) = zs.length
  | [], _ => by simp [posZ]
  | y :: r, h => by
    rw [List.cons_append]
    unfold posZ
    rw [if_neg (fun q => h (by rw [q]; exact List.mem_cons_self)), posZ_end (fun q => h (List.mem_cons_of_mem _ q))] <;> rfl
theorem bkL_val (z : Str) : ∀ (n : Int) (zs : List Str), valV (bkL n zs) (Sum.inr z : Key) = if z ∈ zs then some (.int (n + (posZ z zs : Nat))) else none
  | n, [] => by simp [bkL, valV]
  | n, y :: r => by
    by_cases e : y = z
    · subst e
      rw [bkL, valV_pos (p := (Sum.inr y, V.int n)) rfl, if_pos List.mem_cons_self]
      simp [posZ]
    · rw [bkL, valV_neg (p := (Sum.inr y, V.int n)) (fun q => e (Sum.inr.inj q)), bkL_val z (n + 1) r]
      have hm : (z ∈ y :: r) = (z ∈ r) := propext ⟨fun h => (List.mem_cons.mp h).resolve_left fun q => e q.symm, fun h => List.mem_cons_of_mem _ h⟩
      simp only [hm, posZ, if_neg e]
      by_cases h : z ∈ r
      · rw [if_pos h, if_pos h]
        congr 2
        omega
      · rw [if_neg h, if_neg h]
theorem bkL_at : ∀ {n : Int} {zs : List Str} {j : Nat} {z : Str}, zs[j]? = some z → (bkL n zs)[j]? = some (Sum.inr z, .int (n + (j : Nat)))
  | n, y :: r, 0, z, h => by
    have e : y = z := by simpa using h
    rw [e]
    simp [bkL]
  | n, y :: r, j + 1, z, h => by
    rw [List.getElem?_cons_succ] at h
    have := bkL_at (n := n + 1) h
    show (bkL (n + 1) r)[j]? = _
    rw [this]
    congr 3
    push_cast
    omega
theorem bkL_get {n : Int} {zs : List Str} {j : Nat} {k : Key} {v : V} (h : (bkL n zs)[j]? = some (k, v)) : ∃ z, zs[j]? = some z ∧ k = Sum.inr z ∧ v = .int (n + (j : Nat)) := by
  have hj : j < zs.length := by rw [← bkL_len n zs]; exact (List.getElem?_eq_some_iff.mp h).1
  have := bkL_at (n := n) (List.getElem?_eq_getElem hj)
  rw [h] at this
  have e := Option.some.inj this
  exact ⟨_, List.getElem?_eq_getElem hj, congrArg Prod.fst e, congrArg Prod.snd e⟩
theorem bkL_app : ∀ (n : Int) (zs : List Str) (z : Str), bkL n (zs ++ [z]) = bkL n zs ++ [(Sum.inr z, .int (n + (zs.length : Nat)))]
  | n, [], z => by simp [bkL]
  | n, y :: r, z => by
    rw [List.cons_append, bkL, bkL_app (n + 1) r z, bkL, List.cons_append, show n + 1 + ((r.length : Nat) : Int) = n + (((y :: r).length : Nat) : Int) from by rw [List.length_cons]; push_cast; omega]
theorem addK_bk (zs : List Str) (z : Str) : addK (bkL 1 zs) z = bkL 1 (addZ zs z) := by
  unfold addZ
  by_cases h : z ∈ zs
  · rw [if_pos h, addK_some (by rw [bkL_val, if_pos h])]
  · have hv : valV (bkL 1 zs) (Sum.inr z : Key) = none := by rw [bkL_val, if_neg h]
    rw [if_neg h, addK_none hv, putK_new _ hv, bkL_app, bkL_len, Int.add_comm]
theorem putK_bk {zs : List Str} {z : Str} (nd : zs.Nodup) : putK (bkL 1 zs) (Sum.inr z : Key) (.int (1 + (posZ z (addZ zs z) : Nat))) = bkL 1 (addZ zs z) := by
  unfold addZ
  by_cases h : z ∈ zs
  · rw [if_pos h]
    unfold putK
    split
    · refine (List.map_congr_left fun kv hkv => ?_).trans (List.map_id _)
      obtain ⟨j, hj, e⟩ := List.getElem_of_mem hkv
      obtain ⟨y, h1, h2, h3⟩ := bkL_get (n := 1) (zs := zs) (j := j) (k := kv.1) (v := kv.2) (by rw [List.getElem?_eq_getElem hj, e])
      by_cases hk : kv.1 = Sum.inr z
      · rw [if_pos hk]
        have e2 : y = z := Sum.inr.inj (h2.symm.trans hk)
        rw [e2] at h1
        rw [posZ_uniq nd h1, ← h3] <;> rfl
      · rw [if_neg hk] <;> rfl
    · rename_i hn
      exact absurd (by rw [valV_any, bkL_val, if_pos h] <;> rfl) hn
  · rw [if_neg h, posZ_end h, putK_new _ (by rw [bkL_val, if_neg h]), bkL_app]
theorem addZ_nodup {zs : List Str} {z : Str} (nd : zs.Nodup) : (addZ zs z).Nodup := by
  unfold addZ
  by_cases h : z ∈ zs
  · rw [if_pos h]; exact nd
  · rw [if_neg h]
    exact List.nodup_append.mpr ⟨nd, by simp, fun a ha b hb => by
      have e : b = z := by simpa using hb
      exact fun q => h (by rw [← e, ← q]; exact ha)⟩
theorem addZ_mem (zs : List Str) (z : Str) : z ∈ addZ zs z := by
  unfold addZ
  by_cases h : z ∈ zs
  · rw [if_pos h]; exact h
  · rw [if_neg h]; simp
theorem addZ_len (zs : List Str) (z : Str) : (addZ zs z).length ≤ zs.length + 1 := by
  unfold addZ
  by_cases h : z ∈ zs
  · rw [if_pos h]; omega
  · rw [if_neg h]; simp
theorem addZ_old {zs : List Str} {z y : Str} {j : Nat} (h : zs[j]? = some y) : (addZ zs z)[j]? = some y := by
  unfold addZ
  by_cases h2 : z ∈ zs
  · rw [if_pos h2]; exact h
  · rw [if_neg h2, List.getElem?_append_left (List.getElem?_eq_some_iff.mp h).1]; exact h
/-- old texts: the one with that address is that text -/
theorem addZ_eq {zs : List Str} {z y : Str} {j : Nat} (nd : zs.Nodup) (h : zs[j]? = some y) : (y = z) ↔ ((1 : Int) + (j : Nat) = 1 + (posZ z (addZ zs z) : Nat)) := by
  have nd2 := addZ_nodup (z := z) nd
  have h2 := addZ_old (z := z) h
  constructor
  · intro e
    rw [e] at h2
    rw [posZ_uniq nd2 h2]
  · intro e
    have ej : posZ z (addZ zs z) = j := by omega
    have := posZ_at (addZ_mem zs z)
    rw [ej, h2] at this
    exact Option.some.inj this
theorem nums_bk (n : Int) (zs : List Str) : Nums (bkL n zs) := fun k v h => by
  cases k with
  | inr z =>
    rw [bkL_val] at h
    split at h
    · exact ⟨_, (Option.some.inj h).symm⟩
    · cases h
  | inl i =>
    exfalso
    have hn : valV (bkL n zs) (Sum.inl i : Key) = none := by
      clear h
      induction zs generalizing n with
      | nil => rfl
      | cons y r ih =>
        rw [bkL, valV_neg (p := (Sum.inr y, V.int n)) (k := Sum.inl i) (by intro q; cases q)]
        exact ih _
    rw [hn] at h
    cases h


/-! ### raising -/
theorem pmk_retN {X : Cx} {e : Expr} {te : TE} (hx : X.ex = []) (he : PE X e te) :
    L2N.PMk X e (fun σ H Q => te σ H fun x H1 => ∃ a cls, x = .ref a ∧ H1 a = some (ExO cls a) ∧ Fr0 X.H_0 a ∧ Raises X cls ∧ Q cls none (delH H1 a)) := fun pins s σ H Q I h =>
  wpAny_mono (L2.pmk_ret5 hx he pins s σ H Q I h) (fun _ _ z => z.1) fun _ _ x => x
theorem s_raiseV {X : Cx} {te : TE} {v : V} {σ : L2.St} {H H0 : Hp} {C : Addr} {E : XK} (h : Ev te σ H v) (hr : Raises X (.ref C)) (k : ∀ H1, Ex H H1 → Ex H0 H1 ∧ E (.ref C) none H1) :
    te σ H fun _ H1 => ∀ a, H1 a = none → ∃ a' cls, V.ref a = .ref a' ∧ upd H1 a (ExO (.ref C) a) a' = some (ExO cls a') ∧ Fr0 H0 a' ∧ Raises X cls ∧ E cls none (delH (upd H1 a (ExO (.ref C) a)) a') :=
  h H (Ex.refl H) _ fun H1 e1 a ha => ⟨a, _, rfl, upd_same, fr0_none (fresh_back (k H1 e1).1 ha), hr, by rw [delH_new ha]; exact (k H1 e1).2⟩


/-! ### only some things change -/
theorem _root_.L2.FnOk.calm {P : Program} {w : World} {K : PySem.W.Frag} {mg : Str → Option Value} {base : Heap} {k : Nat} {f : Addr} {fd : FuncData} {ps : List Str} {sp0 sp1 : Sp} (F1 : FnOk P w K mg base (L2N.CX P w) k f fd ps sp1) (i : ∀ vs H Q E, sp0 vs H Q E → sp1 vs H Q fun _ _ _ => False) : FnOk P w K mg base CX0 k f fd ps sp0 :=
  ⟨fun vs H Q E h => F1.len vs H Q _ (i _ _ _ _ h), fun A outer s H args us vs Q E hr e0 hb r h => codeAny_mono (F1.run A outer s H args us vs Q (fun _ _ _ => False) hr e0 hb r (i _ _ _ _ h)) fun res s' z => by
    cases res with
    | error e =>
      obtain ⟨a, B, H', cls, d, _, _, _, _, _, _, _, z⟩ := z
      exact z.elim
    | ok f => cases f <;> exact z⟩


/-! ### enumerate of a tuple -/
set_option maxHeartbeats 1000000 in
theorem enum_new1 {v : Value} {o : Obj} {H : Heap → Prop} (B : Begins v o H) :
    Meets (Builtin.«enumerate.__new__» ⟨[.type "enumerate", v], []⟩) (fun _ R s => H s.heap ∧
      R (.ok (.ret (.ref (s.heap.push o).objs.size))) { s with heap := (s.heap.push o).push { cls := .type "enumerate", data := .fields #[.none, .bool false, .ref s.heap.objs.size, rawInt 0, .none, .none] } }) := by
  refine .of_wp fun prog w A R s hR => ?_
  obtain ⟨hp, g, d, tk, os⟩ := s
  obtain ⟨hv, hR⟩ := hR
  have hsub := sub_enumerate
  have it : ∀ {A' : Around} {E Q : Value → Shared → Prop}, Q (.ref hp.objs.size) ⟨hp.push o, g, d, tk, os⟩ → wpAny (model prog w) A' (pyIter v) Q E ⟨hp, g, d, tk, os⟩ := fun q => B.iter prog w _ _ ⟨hp, g, d, tk, os⟩ _ hv q
  wp_walk using it
  refine wpAny_stack_any fun st => wpAny_pure ?_
  split
  · rename_i c _ _ _ _ _
    cases (c == Value.type "enumerate") <;> (wp_walk using it; exact ⟨_, rfl, hR⟩)
  · wp_walk using it
    exact ⟨_, rfl, hR⟩
theorem enum_call1 {prog : Program} {w : World} {A : Around} {E : Value → Shared → Prop} {s : Shared} {v : Value} {o : Obj} {H : Heap → Prop} {Q : Value → Shared → Prop} (B : Begins v o H) (hv : H s.heap)
    (q : ∀ h', IsEnum h' (s.heap.objs.size + 1) s.heap.objs.size 0 .none → h'.get? s.heap.objs.size = some o → (∀ b u, s.heap.get? b = some u → h'.get? b = some u) → Q (.ref (s.heap.objs.size + 1)) { s with heap := h' }) :
    wpAny (model prog w) A (call (.type "enumerate") [v]) Q E s := by
  refine callType_new F.called_enumerate (by decide) (F.typeCall_enumerate_1 _) (F.newCall_enumerate_1 _) (fun obj => F.args_object_init_2 obj _) F.entry_enumerate_new (enum_new1 B) ⟨hv, ?_⟩
  have hz : (s.heap.push o).objs.size = s.heap.objs.size + 1 := Heap.size_push ..
  show _ ∧ _
  rw [hz]
  have he : IsEnum ((s.heap.push o).push { cls := .type "enumerate", data := .fields #[.none, .bool false, .ref s.heap.objs.size, rawInt 0, .none, .none] }) (s.heap.objs.size + 1) s.heap.objs.size 0 .none := by
    have z := Heap.get?_push_size (s.heap.push o) (o := { cls := .type "enumerate", data := .fields #[.none, .bool false, .ref s.heap.objs.size, rawInt 0, .none, .none] }) rfl
    rw [hz] at z
    exact z
  exact ⟨⟨_, he, rfl⟩, q _ he (Heap.get?_push_of_some _ (Heap.get?_push_size _ B.free)) fun b u e => Heap.get?_push_of_some _ (Heap.get?_push_of_some _ e)⟩
/-- an iterator of a tuple that stands at its end -/
theorem draws_end {prog : Program} {w : World} {A : Around} (hh : A.handled = none) {it t : Addr} {items : Array Value} {i : Nat} (hi : items.size ≤ i) :
    Draws prog w A it [it, t] i (fun _ _ => True) (fun j h => j = i ∧ h.IsTupleIter it t j ∧ h.IsTuple t items) where
  live := fun _ _ st => let ⟨o, ho, _⟩ := st.2.1; ⟨o, ho⟩
  frame := fun _ _ _ st hk => ⟨st.1, st.2.1.at fun o e => hk it (by simp) o e, st.2.2.at fun o e => hk t (by simp) o e⟩
  item := fun j s Q E hj st _ => absurd st.1 (Nat.ne_of_lt hj)
  done := fun s Q E st hE => wpAny_nextOf_tuple_end hh st.2.1 st.2.2 (by simpa using hi) hE
/-- the tuple at a, each item in a new pair behind its number -/
def ItEnT (K : PySem.W.Frag) (a : Addr) : L2.It :=
  ⟨fun i H => ∃ (xs : List V) (x : V), SqT K H a xs ∧ xs[i]? = some x, fun i H v H' => ∃ T x, v = .ref T ∧ H T = none ∧ H' = upd H T (.tup [.int (i : Nat), x]) ∧ ∀ xs, SqT K H a xs → xs[i]? = some x, fun i H => ∃ xs : List V, SqT K H a xs ∧ xs.length ≤ i⟩
theorem turn_enT {P : Program} {w : World} {K : PySem.W.Frag} {elts : List Expr} {kk : Nat} {tpos : Pos} {a e it : Addr} (hae : a ≠ e) (hai : a ≠ it) :
    Turn P w K (.Tuple elts kk tpos) (ItEnT K a) [e, it] e (fun i h => (∃ old, IsEnum h e it ((i : Nat) : Int) old) ∧ h.IsTupleIter it a i ∧ e ≠ it) where
  mem := by simp
  obj := fun i h st b hb => by
    obtain ⟨⟨old, he⟩, ⟨o, ho, hc, hd⟩, _⟩ := st
    simp only [List.mem_cons, List.not_mem_nil, or_false] at hb
    rcases hb with rfl | rfl
    · exact ⟨_, he, fun v q => nomatch q⟩
    · exact ⟨o, ho, fun v q => by rw [hd] at q; cases q⟩
  keep := fun i h h' st k => by
    obtain ⟨⟨old, he⟩, hi, hne⟩ := st
    exact ⟨⟨old, k e (by simp) _ he⟩, hi.at fun o q => k it (by simp) o q, hne⟩
  item := by
    intro X hP hw hK hc i pins s σ H E I hf st hg
    subst hP hw hK
    obtain ⟨⟨old, he⟩, hit, hne⟩ := st
    obtain ⟨xs, x, hq, hx⟩ := hg
    obtain ⟨its, rv, p, hz⟩ := I.tuple hq
    obtain ⟨u, hu, ru⟩ := rv.get hx
    have p' : s.heap.IsTuple a its.toArray := p
    have hlt : i < its.toArray.size := by
      have := (List.getElem?_eq_some_iff.mp hu).1
      simpa using this
    have D := Draws.tuple (prog := X.prog) (w := X.w) (A := X.A.in1) (show X.A.in1.handled = none from I.ok.hd hc) it a hai its.toArray
    refine wpAny_pyNext_enum_itemC D he ⟨hit, p'⟩ hlt hne (by simp [hne, Ne.symm hae]) fun y h' tk hy ho hs' hT hsz hk => ?_
    have hy' : y = u := by
      have : its.toArray[i]? = some u := by simpa using hu
      exact Option.some.inj (hy.symm.trans this)
    rw [hy'] at ho hT
    have hel : e < s.heap.objs.size := Heap.lt_size he
    have hil : it < s.heap.objs.size := by
      obtain ⟨_, q, _⟩ := hit
      exact Heap.lt_size q
    refine ⟨_, rfl, wpAny_letOwnedTupleGo_enum (s := { s with heap := h', toks := tk + 1 }) ho fun h'' he' sb => ?_⟩
    have hT2 : h''.get? s.heap.objs.size = some { cls := .type "tuple", data := .seq #[.int i tk, u] } := (sb.2 _ (Nat.ne_of_gt hel)).trans hT
    have I1 : Inv X pins σ (upd H s.heap.objs.size (.tup [.int (i : Nat), x])) { s with heap := h'', toks := tk + 1 } :=
      I.turnedNew (t' := tk + 1) (ch := [e, it]) (ob := .tup [.int (i : Nat), x]) (fun b ob hb q => (sb.2 b (fun z => hb (by simp [z]))).trans (hk b ob (fun z => hb (by simp [z])) (fun z => hb (by simp [z])) q)) hf (Nat.le_refl _)
        ⟨by show 2 ≤ sizeLine; decide, [.int i tk, u], .cons ⟨_, rfl⟩ (.cons ru .nil), ⟨_, hT2, rfl, _, rfl⟩⟩
    refine ⟨.ref s.heap.objs.size, _, I1, rfl, ⟨_, x, rfl, I.hok.fresh (Nat.le_refl _), rfl, fun ys hy => by rw [I.tuple_inj hy hq]; exact hx⟩, ⟨⟨u, ?_⟩, hs'.1.at fun o q => (sb.2 it (Ne.symm hne)).trans q, hne⟩, fun b hb => ?_⟩
    · rw [show ((i + 1 : Nat) : Int) = (i : Int) + 1 by omega]
      exact he'
    · have hb' : b < s.heap.objs.size := by
        simp only [List.mem_cons, List.not_mem_nil, or_false] at hb
        rcases hb with z | z <;> rw [z]
        · exact hel
        · exact hil
      rw [upd_ne (Nat.ne_of_lt hb')]
      exact (hf b hb).1
  done := by
    intro X hP hw hK hc i pins s σ H E I hf st hg
    subst hP hw hK
    obtain ⟨⟨old, he⟩, hit, hne⟩ := st
    obtain ⟨xs, hq, hx⟩ := hg
    obtain ⟨its, rv, p, hz⟩ := I.tuple hq
    obtain ⟨f0, f1, f2, f3, f4, f5⟩ := hf it (by simp)
    have hl := rv.length
    exact wpAny_pyNext_enum_endD (draws_end (A := X.A.in1) (show X.A.in1.handled = none from I.ok.hd hc) (items := its.toArray) (i := i) (by simp; omega)) he ⟨rfl, hit, p⟩ fun h' eb => ⟨rfl, I.turned (t' := s.toks) (fun b o hb q => eb b o hb q) f0 f1 f3 f4 f5⟩
  self := fun A i s Q E st h => by
    obtain ⟨⟨_, he⟩, _⟩ := st
    exact wpAny_pyIter_enum he h
def iEnT (K : PySem.W.Frag) (ta : TA) : TI := fun σ H R => ta σ H fun vs H1 => ∃ a xs, vs = [.ref a] ∧ SqT K H1 a xs ∧ R (ItEnT K a) H1
theorem pi_enT {X : Cx} {e : Expr} {ta : TA} {p pos tpos : Pos} {elts : List Expr} {kk : Nat} (hg : Gl X "enumerate") (hm : X.mg "enumerate" = none) (ha : PA X [e] ta) (hs : starEach [e] X.env = [(false, eval e X.env)] := by rfl) :
    PI X (.Tuple elts kk tpos) (.Call (.Name "enumerate" p) [e] [] pos) (iEnT X.K ta) := by
  refine ⟨fun pins s σ H R I h => Call_ (ld_blt I hg hm boot_enumerate (PyProof.Rows.callWith_type1 (thn (ha.run pos pins s σ H _ I h) fun us s1 z => ?_) hs rfl))⟩
  obtain ⟨vs, H1, I1, r1, a, xs, rfl, hq, q⟩ := z
  cases r1 with
  | cons r rr =>
    cases rr
    cases r
    obtain ⟨its, rv, p', hz⟩ := I1.tuple hq
    have pt : s1.heap.IsTuple a its.toArray := p'
    have hal : a < s1.heap.objs.size := by
      obtain ⟨o, ho, _⟩ := pt
      exact Heap.lt_size ho
    refine enum_call1 (begins_tuple a its.toArray) pt fun h' he ho hk => wpAny_pyIter_enum he ?_
    have I2 : Inv X pins σ H1 { s1 with heap := h' } := I1.kept (t' := s1.toks) hk
    refine ⟨s1.heap.objs.size + 1, [s1.heap.objs.size + 1, s1.heap.objs.size], _, _, H1, rfl, I2, turn_enT (a := a) (Nat.ne_of_lt (Nat.lt_succ_of_lt hal)) (Nat.ne_of_lt hal), ⟨⟨.none, he⟩, ⟨_, ho, rfl, rfl⟩, Nat.succ_ne_self _⟩, fun b hb => ?_, q⟩
    have hle : s1.heap.objs.size ≤ b := by
      simp only [List.mem_cons, List.not_mem_nil, or_false] at hb
      rcases hb with z | z <;> rw [z]
      · exact Nat.le_add_right _ _
      · exact Nat.le_refl _
    exact I1.fpOk hle (I1.hok.fresh hle)
/-- for i, x in enumerate(a new tuple) -/
theorem s_forEU {K : PySem.W.Frag} {σ : L2.St} {H : Hp} {te : TE} {g : TG} {tu : TS} {D : Ends} {xs : List V} (h : EvU te σ H xs) (Pv : Addr → Nat → L2.St → Hp → Prop) (h0 : ∀ p H1, H p = none → Ex H H1 → H1 p = some (.tup xs) → Pv p 0 σ H1) (hl : ∀ p i σ' H', i ≤ xs.length → Pv p i σ' H' → SqT K H' p xs)
    (hs : ∀ p i x T σ' H', xs[i]? = some x → Pv p i σ' H' → H' T = none → g (.ref T) σ' (upd H' T (.tup [.int (i : Nat), x])) fun σ2 H2 => tu { D with nx := Pv p (i + 1), ct := Pv p (i + 1), bk := D.nx } σ2 H2) (hd : ∀ p σ' H', Pv p xs.length σ' H' → D.nx σ' H') : tFor (iEnT K (tCons te tNil)) g tu D σ H := by
  refine h H (Ex.refl H) _ fun p H1 hp e1 h1 => ⟨p, xs, rfl, st_of h1, fun i m σ' H' => m = xs.length - i ∧ i ≤ xs.length ∧ Pv p i σ' H', ⟨_, rfl, Nat.zero_le _, h0 p H1 hp e1 h1⟩, ?_⟩
  rintro i m σ' H' ⟨rfl, hi, hP⟩
  have hq := hl p i σ' H' hi hP
  by_cases hlt : i < xs.length
  · refine .inr ⟨⟨xs, xs[i], hq, List.getElem?_eq_getElem hlt⟩, Pv p (i + 1), fun σ2 H2 p2 => ⟨_, by omega, rfl, hlt, p2⟩, fun v H2 y => ?_⟩
    obtain ⟨T, x, rfl, hT, rfl, hx⟩ := y
    exact hs p i x T σ' H' (hx xs hq) hP hT
  · have ei : i = xs.length := by omega
    subst ei
    exact .inl ⟨⟨xs, hq, Nat.le_refl _⟩, hd p σ' H' hP⟩
theorem q_forEU {K : PySem.W.Frag} {σ : L2.St} {H : Hp} {te : TE} {g : TG} {tu tz : TS} {D : Ends} {xs : List V} (h : EvU te σ H xs) (Pv : Addr → Nat → L2.St → Hp → Prop) (h0 : ∀ p H1, H p = none → Ex H H1 → H1 p = some (.tup xs) → Pv p 0 σ H1) (hl : ∀ p i σ' H', i ≤ xs.length → Pv p i σ' H' → SqT K H' p xs)
    (hs : ∀ p i x T σ' H', xs[i]? = some x → Pv p i σ' H' → H' T = none → g (.ref T) σ' (upd H' T (.tup [.int (i : Nat), x])) fun σ2 H2 => tu { D with nx := Pv p (i + 1), ct := Pv p (i + 1), bk := tz D } σ2 H2) (hd : ∀ p σ' H', Pv p xs.length σ' H' → tz D σ' H') : tSeq (tFor (iEnT K (tCons te tNil)) g tu) tz D σ H :=
  s_forEU (D := { D with nx := tz D }) h Pv h0 hl hs hd


/-! ### enumerate of a dict's values (the dict is locked) -/
section
variable {prog : Program} {w : World} {A : Around}
open PySem Builtin in
set_option maxHeartbeats 1000000 in
theorem nxV_item {E : Value → Shared → Prop} {s : Shared} {it d : Addr} {i ep : Nat} {es : Array DictEntry} {Q : Value → Shared → Prop} (hv : s.heap.IsValIter it d i es.size ep) (hm : s.heap.DictRaw d es ep) (hlt : i < es.size)
    (k : ∀ h', h'.IsValIter it d (i + 1) es.size ep → Heap.SameBut it s.heap h' → Q es[i].val { s with heap := h' }) : wpAny (model prog w) A (SmallTypes.nextOf (.ref it)) Q E s := by
  obtain ⟨ob, h1, h2, h3⟩ := id hv
  obtain ⟨od, d1, _, d3⟩ := id hm
  have own : Dict_items.ownsTuple "dict_valueiterator" = false := by decide
  unfold SmallTypes.nextOf
  refine wpAny_bind (wpAny_callSpecial?_slot (name := Str.ofString "__next__") hv.typeIs F.slot_dict_valueiterator_next (wpAny_call_entry F.slot_dict_valueiterator_next hv.typeIs F.entry_dict_valueiterator_next ?_ (F.args_dict_valueiterator_next_1 _)))
  refine wpAny_bind (wpAny_pure ?_); (refine wpAny_bind ?_); (refine wpAny_bind ?_)
  (first | refine wpAny_bind (wpAny_typeNameOfWhole_valiter hv.typeIs (wpAny_pure ?_)) | refine wpAny_bind (wpAny_typeNameOf_valiter hv.typeIs (wpAny_pure ?_))); refine wpAny_bind (wpAny_fieldsOf h1 h3 ?_)
  simp only [own, Bool.false_eq_true, if_false]; (show wpAny _ _ (if (Value.ref d == Value.none) = true then _ else _) _ _ s); rw [if_neg (show ¬ ((Value.ref d == Value.none) = true) from Bool.false_ne_true)]
  refine wpAny_bind (wpAny_pure (wpAny_bind (wpAny_dictEntries d1 d3 ?_))); rw [if_neg (by simp)]
  refine wpAny_bind (wpAny_pure (wpAny_bind (wpAny_dictEpoch d1 d3 ?_))); rw [if_neg (by simp)]; refine wpAny_pure ?_
  simp only [show ¬ ((i : Int) < 0) from by omega, if_false, Int.toNat_natCast, Array.getElem?_eq_getElem hlt]; refine wpAny_bind ?_
  (first | refine wpAny_bind (wpAny_typeNameOfWhole_valiter hv.typeIs (wpAny_pure ?_)) | refine wpAny_bind (wpAny_typeNameOf_valiter hv.typeIs (wpAny_pure ?_))); refine wpAny_bind (wpAny_isOneOf_valiter hv.typeIs ?_)
  show wpAny _ _ (setField (.ref it) 1 (rawInt ((i : Int) + 1)) >>= _) _ _ s; refine wpAny_bind (wpAny_setField h1 h3 (by simp) ?_)
  have nx : (s.heap.update it (Obj.mapFields (·.setIfInBounds 1 (rawInt ((i : Int) + 1))))).IsValIter it d (i + 1) es.size ep := ⟨_, Heap.get?_update_self _ h1 (Obj.isFreed_of_fields (Obj.data_mapFields h3 _)), (Obj.cls_mapFields ..).trans h2, by (rw [Obj.data_mapFields h3]; simp [rawInt])⟩
  refine wpAny_bind (wpAny_holding ?_); (refine wpAny_bind (wpAny_isOneOf_valiter (s := { s with heap := s.heap.update it (Obj.mapFields (·.setIfInBounds 1 (rawInt ((i : Int) + 1)))) }) nx.typeIs ?_)); (refine wpAny_bind (wpAny_isOneOf_valiter (s := { s with heap := s.heap.update it (Obj.mapFields (·.setIfInBounds 1 (rawInt ((i : Int) + 1)))) }) nx.typeIs ?_))
  (show wpAny _ _ (pure es[i].val) _ _ _); exact wpAny_pure (wpAny_pure ⟨_, rfl, wpAny_pure (k _ nx (Heap.SameBut.update ..))⟩)
open PySem Builtin in
set_option maxHeartbeats 1000000 in
theorem nxV_end {E : Value → Shared → Prop} {s : Shared} {it d : Addr} {i ep : Nat} {es : Array DictEntry} {Q : Value → Shared → Prop} (hh : A.handled = none) (hv : s.heap.IsValIter it d i es.size ep) (hm : s.heap.DictRaw d es ep) (hge : es.size ≤ i)
    (k : ∀ h' e, Heap.ExtBut it s.heap h' → (∃ o, h'.get? e = some o ∧ o.cls = .type "StopIteration") → E (.ref e) { s with heap := h' }) : wpAny (model prog w) A (SmallTypes.nextOf (.ref it)) Q E s := by
  obtain ⟨ob, h1, h2, h3⟩ := id hv
  obtain ⟨od, d1, _, d3⟩ := id hm
  have own : Dict_items.ownsTuple "dict_valueiterator" = false := by decide
  unfold SmallTypes.nextOf
  refine wpAny_bind (wpAny_callSpecial?_slot (name := Str.ofString "__next__") hv.typeIs F.slot_dict_valueiterator_next (wpAny_call_entry F.slot_dict_valueiterator_next hv.typeIs F.entry_dict_valueiterator_next ?_ (F.args_dict_valueiterator_next_1 _)))
  refine wpAny_bind (wpAny_pure ?_); (refine wpAny_bind ?_); (refine wpAny_bind ?_)
  (first | refine wpAny_bind (wpAny_typeNameOfWhole_valiter hv.typeIs (wpAny_pure ?_)) | refine wpAny_bind (wpAny_typeNameOf_valiter hv.typeIs (wpAny_pure ?_))); refine wpAny_bind (wpAny_fieldsOf h1 h3 ?_)
  simp only [own, Bool.false_eq_true, if_false]; (show wpAny _ _ (if (Value.ref d == Value.none) = true then _ else _) _ _ s); rw [if_neg (show ¬ ((Value.ref d == Value.none) = true) from Bool.false_ne_true)]
  refine wpAny_bind (wpAny_pure (wpAny_bind (wpAny_dictEntries d1 d3 ?_))); rw [if_neg (by simp)]
  refine wpAny_bind (wpAny_pure (wpAny_bind (wpAny_dictEpoch d1 d3 ?_))); rw [if_neg (by simp)]; refine wpAny_pure ?_
  simp only [show ¬ ((i : Int) < 0) from by omega, if_false, Int.toNat_natCast, Array.getElem?_eq_none hge]; refine wpAny_bind ?_
  (first | refine wpAny_bind (wpAny_typeNameOfWhole_valiter hv.typeIs (wpAny_pure ?_)) | refine wpAny_bind (wpAny_typeNameOf_valiter hv.typeIs (wpAny_pure ?_))); (show wpAny _ _ (setField (.ref it) 0 .none >>= _) _ _ s); refine wpAny_bind (wpAny_setField h1 h3 (by simp) ?_)
  (show wpAny _ _ (newExc (.type "StopIteration") [] >>= _) _ _ _); (refine wpAny_bind ?_); (simp only [newExc, newTuple]); refine wpAny_bind (wpAny_newObj_type ?_ (by size_fits))
  refine wpAny_bind (m := firstArgMember _ _) (wpAny_of_eq (a := Value.none) (by first | rfl | (simp only [firstArgMember]; rfl)) ?_); (refine wpAny_newObj_type ?_ (by size_fits)); (simp only [raiseNew]); refine wpAny_bind (wpAny_handled ?_)
  (first | rw [show A.in1.handled = none from hh] | rw [hh]); (refine wpAny_bind (wpAny_pure (wpAny_throw ?_))); exact k _ _ (((Heap.SameBut.update ..).extBut.push _).push _) ⟨_, Heap.get?_push_size _ rfl, rfl⟩
theorem drawsV (hh : A.handled = none) (it d : Addr) (hne : d ≠ it) (es : Array DictEntry) (ep : Nat) :
    Draws prog w A it [it, d] es.size (fun i v => ∃ h : i < es.size, es[i].val = v) (fun i h => h.IsValIter it d i es.size ep ∧ h.DictRaw d es ep) where
  live := fun _ _ st => let ⟨o, ho, _⟩ := st.1; ⟨o, ho⟩
  frame := fun _ _ _ st hk => ⟨st.1.at fun o e => hk it (by simp) o e, st.2.at fun o e => hk d (by simp) o e⟩
  item := fun i s Q E hi st hQ => nxV_item st.1 st.2 hi fun h' a b => hQ _ h' s.toks ⟨hi, rfl⟩ ⟨a, st.2.at fun o e => (b.2 d hne).trans e⟩ b
  done := fun s Q E st hE => nxV_end hh st.1 st.2 (Nat.le_refl _) hE
end
open PySem in
theorem begins_valsV (v d : Addr) (es : Array DictEntry) (ep : Nat) : Begins (.ref v) { cls := .type "dict_valueiterator", data := .fields #[.ref d, .int 0 0, .int es.size 0, .int ep 0] } fun h => h.IsValuesView v d ∧ h.DictRaw d es ep where
  iter := fun prog w A E s Q h q => wpAny_pyIter_values_raw h.1 h.2 q
  keeps := fun h h' x hk => ⟨let ⟨o, ho, r⟩ := x.1; ⟨o, hk v o ho, r⟩, x.2.at fun o e => hk d o e⟩
  free := rfl
/-- number and value, a new pair each; the dict at d is locked -/
def ItEnV (d : Addr) (o : Obj) (kvs : List (Key × V)) : L2.It :=
  ⟨fun i H => H d = some (.frz o (.dK kvs)) ∧ i < kvs.length, fun i H v H' => ∃ T k x, v = .ref T ∧ H T = none ∧ H' = upd H T (.tup [.int (i : Nat), x]) ∧ kvs[i]? = some (k, x), fun i H => H d = some (.frz o (.dK kvs)) ∧ kvs.length ≤ i⟩
theorem raw_vals {X : Cx} {pins : List (Addr × Obj)} {s : Shared} {σ : L2.St} {H : Hp} {d : Addr} {o : Obj} {kvs : List (Key × V)} {es : Array DictEntry} {ep : Nat} (I : Inv X pins σ H s) (h : H d = some (.frz o (.dK kvs))) (hod : o.data = .dict es ep) :
    s.heap.DictRaw d es ep ∧ es.size = kvs.length ∧ ∀ (i : Nat) (hi : i < es.size) (k : Key) (x : V), kvs[i]? = some (k, x) → RelV x es[i].val := by
  obtain ⟨hs, hgd, hx, es', ep', vs, hdt, hsz, kv, hm⟩ := I.frzK h
  obtain ⟨rfl, rfl⟩ := dict_ep hod hdt
  refine ⟨⟨o, hgd, hx, hod⟩, hsz, fun i hi k x hk => ?_⟩
  obtain ⟨o2, es2, g1, g2, g3, g4, g5, g6⟩ := hm
  rw [hgd] at g1
  cases g1
  obtain ⟨rfl, _⟩ := dict_ep hdt g3
  obtain ⟨u, hu, ru⟩ := kv_get kv hk
  have := (g5.get? (e := es2[i]) (by simp [hi]) hu).2
  rw [this]
  exact ru
theorem turn_enV {P : Program} {w : World} {K : PySem.W.Frag} {elts : List Expr} {kk : Nat} {tpos : Pos} {d e it : Addr} {o : Obj} {kvs : List (Key × V)} {es : Array DictEntry} {ep : Nat} (hod : o.data = .dict es ep) (hde : d ≠ e) (hdi : d ≠ it) :
    Turn P w K (.Tuple elts kk tpos) (ItEnV d o kvs) [e, it] e (fun i h => (∃ old, IsEnum h e it ((i : Nat) : Int) old) ∧ h.IsValIter it d i es.size ep ∧ e ≠ it) where
  mem := by simp
  obj := fun i h st b hb => by
    obtain ⟨⟨old, he⟩, ⟨o, ho, hc, hd⟩, _⟩ := st
    simp only [List.mem_cons, List.not_mem_nil, or_false] at hb
    rcases hb with rfl | rfl
    · exact ⟨_, he, fun v q => nomatch q⟩
    · exact ⟨o, ho, fun v q => by rw [hd] at q; cases q⟩
  keep := fun i h h' st k => by
    obtain ⟨⟨old, he⟩, hi, hne⟩ := st
    exact ⟨⟨old, k e (by simp) _ he⟩, hi.at fun o q => k it (by simp) o q, hne⟩
  item := by
    intro X hP hw hK hc i pins s σ H E I hf st hg
    subst hP hw hK
    obtain ⟨⟨old, he⟩, hit, hne⟩ := st
    obtain ⟨hd, hi⟩ := hg
    obtain ⟨hr, hsz, hval⟩ := raw_vals I hd hod
    obtain ⟨⟨k, x⟩, hkx⟩ : ∃ y, kvs[i]? = some y := ⟨_, List.getElem?_eq_getElem hi⟩
    have D := drawsV (prog := X.prog) (w := X.w) (A := X.A.in1) (show X.A.in1.handled = none from I.ok.hd hc) it d hdi es ep
    refine wpAny_pyNext_enum_itemC D he ⟨hit, hr⟩ (by omega) hne (by simp [hne, Ne.symm hde]) fun y h' tk hy ho hs' hT hsz' hk => ?_
    obtain ⟨hlt, rfl⟩ := hy
    have ru := hval i hlt k x hkx
    have hel : e < s.heap.objs.size := Heap.lt_size he
    have hil : it < s.heap.objs.size := by
      obtain ⟨_, q, _⟩ := hit
      exact Heap.lt_size q
    refine ⟨_, rfl, wpAny_letOwnedTupleGo_enum (s := { s with heap := h', toks := tk + 1 }) ho fun h'' he' sb => ?_⟩
    have hT2 : h''.get? s.heap.objs.size = some { cls := .type "tuple", data := .seq #[.int i tk, es[i].val] } := (sb.2 _ (Nat.ne_of_gt hel)).trans hT
    have I1 : Inv X pins σ (upd H s.heap.objs.size (.tup [.int (i : Nat), x])) { s with heap := h'', toks := tk + 1 } :=
      I.turnedNew (t' := tk + 1) (ch := [e, it]) (ob := .tup [.int (i : Nat), x]) (fun b ob hb q => (sb.2 b (fun z => hb (by simp [z]))).trans (hk b ob (fun z => hb (by simp [z])) (fun z => hb (by simp [z])) q)) hf (Nat.le_refl _)
        ⟨by show 2 ≤ sizeLine; decide, [.int i tk, es[i].val], .cons ⟨_, rfl⟩ (.cons ru .nil), ⟨_, hT2, rfl, _, rfl⟩⟩
    refine ⟨.ref s.heap.objs.size, _, I1, rfl, ⟨_, k, x, rfl, I.hok.fresh (Nat.le_refl _), rfl, hkx⟩, ⟨⟨es[i].val, ?_⟩, hs'.1.at fun o q => (sb.2 it (Ne.symm hne)).trans q, hne⟩, fun b hb => ?_⟩
    · rw [show ((i + 1 : Nat) : Int) = (i : Int) + 1 by omega]
      exact he'
    · have hb' : b < s.heap.objs.size := by
        simp only [List.mem_cons, List.not_mem_nil, or_false] at hb
        rcases hb with z | z <;> rw [z]
        · exact hel
        · exact hil
      rw [upd_ne (Nat.ne_of_lt hb')]
      exact (hf b hb).1
  done := by
    intro X hP hw hK hc i pins s σ H E I hf st hg
    subst hP hw hK
    obtain ⟨⟨old, he⟩, hit, hne⟩ := st
    obtain ⟨hd, hi⟩ := hg
    obtain ⟨hr, hsz, hval⟩ := raw_vals I hd hod
    obtain ⟨f0, f1, f2, f3, f4, f5⟩ := hf it (by simp)
    have D : Draws X.prog X.w X.A.in1 it [it, d] i (fun _ _ => True) (fun j h => j = i ∧ h.IsValIter it d j es.size ep ∧ h.DictRaw d es ep) :=
      { live := fun _ _ st => let ⟨o, ho, _⟩ := st.2.1; ⟨o, ho⟩
        frame := fun _ _ _ st hk => ⟨st.1, st.2.1.at fun o e => hk it (by simp) o e, st.2.2.at fun o e => hk d (by simp) o e⟩
        item := fun j s Q E hj st _ => absurd st.1 (Nat.ne_of_lt hj)
        done := fun s Q E st hE => nxV_end (show X.A.in1.handled = none from I.ok.hd hc) st.2.1 st.2.2 (by omega) hE }
    exact wpAny_pyNext_enum_endD D he ⟨rfl, hit, hr⟩ fun h' eb => ⟨rfl, I.turned (t' := s.toks) (fun b o hb q => eb b o hb q) f0 f1 f3 f4 f5⟩
  self := fun A i s Q E st h => by
    obtain ⟨⟨_, he⟩, _⟩ := st
    exact wpAny_pyIter_enum he h
def iEnV (td : TE) : TI := fun σ H R => td σ H fun x H1 => ∃ d o kvs, x = .ref d ∧ H1 d = some (.frz o (.dK kvs)) ∧ R (ItEnV d o kvs) H1
theorem pi_enV {X : Cx} {e : Expr} {td : TE} {p q apos pos tpos : Pos} {elts : List Expr} {kk : Nat} (hg : Gl X "enumerate") (hm : X.mg "enumerate" = none) (he : PE X e td) (hbase : attributeBase e "values" X.env (eval e X.env) = eval e X.env := by rfl) (hline : (apos.endLine == q.line) = true := by rfl)
    (hs : starEach [.Call (.Attribute e "values" apos) [] [] q] X.env = [(false, eval (.Call (.Attribute e "values" apos) [] [] q) X.env)] := by rfl) :
    PI X (.Tuple elts kk tpos) (.Call (.Name "enumerate" p) [.Call (.Attribute e "values" apos) [] [] q] [] pos) (iEnV td) := by
  refine ⟨fun pins s σ H R I h => Call_ (ld_blt I hg hm boot_enumerate (PyProof.Rows.callWith_type1 (PyProof.Rows.args_cons ?_ rfl) hs rfl))⟩
  refine wpAny_Call_method (T := "dict") (id := "dict.values") hbase rfl hline F.plainAttrs_dict F.slot_dict_values F.type_dict_values (thn (he.run pins s σ H _ I h) fun u s1 ⟨x, H1, I1, rx, d, o, kvs, ex, hd, qq⟩ => ?_)
  subst ex
  obtain rfl : u = Value.ref d := rx
  obtain ⟨hsys, hgd, hx, es, ep, vs, hdt, hsz, kv, hmm⟩ := I1.frzK hd
  refine ⟨hmm.dictOf.typeIs, hmm.dictOf.mapOf.noDict, ?_⟩
  have I2 : Inv X pins σ H1 { s1 with heap := s1.heap.push { cls := .type "dict_values", data := .fields #[.ref d] } } := I1.kept (t' := s1.toks) fun b ob q => Heap.get?_push_of_some _ q
  have hr : (s1.heap.push { cls := .type "dict_values", data := .fields #[.ref d] }).DictRaw d es ep := ⟨o, Heap.get?_push_of_some _ hgd, hx, hdt⟩
  have hl : d < s1.heap.objs.size := Heap.lt_size hgd
  have hz : (s1.heap.push { cls := .type "dict_values", data := .fields #[.ref d] }).objs.size = s1.heap.objs.size + 1 := Heap.size_push ..
  show wpAny _ _ (callWith q (.builtin "dict.values") [.ref d] [] []) _ X.xe s1
  refine method_meetsIn F.slot_dict_values F.entry_dict_values rfl (PySem.evalArgs_none ⟨rfl, hmm.dictOf.typeIs, F.args_dict_values_1 _, _, meets_dict_values (mixKind X.prog X.w) d hsys, ⟨vs, hmm.dictOf⟩, PyProof.Rows.args_nil ?_⟩)
  refine enum_call1 (begins_valsV s1.heap.objs.size d es ep) ⟨⟨_, Heap.get?_push_size _ rfl, rfl, rfl⟩, hr⟩ fun h' hen ho hk => wpAny_pyIter_enum hen ?_
  have I3 : Inv X pins σ H1 { s1 with heap := h' } := I2.kept (t' := s1.toks) hk
  have hz1 : ∀ {a b : Nat}, a < s1.heap.objs.size → s1.heap.objs.size + 1 ≤ b → a ≠ b := fun h1 h2 => Nat.ne_of_lt (by omega)
  refine ⟨_, [_, _], _, _, H1, rfl, I3, turn_enV (d := d) hdt (hz1 hl (by show s1.heap.objs.size + 1 ≤ _ + 1; rw [hz]; omega)) (hz1 hl (by show s1.heap.objs.size + 1 ≤ _; rw [hz]; exact Nat.le_refl _)), ⟨⟨.none, hen⟩, ⟨_, ho, rfl, by rw [hsz] <;> rfl⟩, Nat.succ_ne_self _⟩, fun b hb => ?_, qq⟩
  have hle : s1.heap.objs.size ≤ b := by
    simp only [List.mem_cons, List.not_mem_nil, or_false] at hb
    rcases hb with z | z <;> rw [z]
    · show _ ≤ _ + 1
      rw [hz]; omega
    · show _ ≤ _
      rw [hz]; omega
  exact I2.fpOk (by
    simp only [List.mem_cons, List.not_mem_nil, or_false] at hb
    rcases hb with z | z <;> rw [z]
    · exact Nat.le_succ _
    · exact Nat.le_refl _) (I1.hok.fresh hle)


section
variable {P : Program} {w : World} {K : PySem.W.Frag} {mg : Str → Option Value} {base : Heap}

/-! ### _law_text -/
def sp_text2 : Sp := fun vs H Q _ => ∃ a b : Int, vs = [.int a, .int b] ∧ (0 ≤ a ∧ a < 2000) ∧ (0 ≤ b ∧ b < 2000) ∧ ∀ (z : Str) H', Ex H H' → z.length ≤ 60 → (∀ c ∈ z.cps.toList, c ∈ signsZ) → Q (.str z) H'
theorem ok_law_text (T : Txt K mg) : FnOk P w K mg base CX0 1 T.f_law_text T.d_law_text ["a", "b"] sp_text2 := by
  refine T.F_law_text.ok sc_law_text (fun vs H Q E h => ?_) (fun cdv A outer s H vs Q E hr h => ?_)
  · obtain ⟨a, b, rfl, _⟩ := h
    rfl
  · obtain ⟨a, b, rfl, ha, hb, q⟩ := h
    refine ⟨_, pss_cons (ps_set (i := 2) sc_law_text.nd rfl (by first | exact Or.inl rfl | exact Or.inr rfl) (pe_str))
      (pss_cons (ps_set (i := 2) sc_law_text.nd rfl (by first | exact Or.inl rfl | exact Or.inr rfl) (pe_op op_add_str (pv 2) (pe_str)))
      (pss_cons (ps_set (i := 3) sc_law_text.nd rfl (by first | exact Or.inl rfl | exact Or.inr rfl) (pe_op op_mod (pv 1) (pe_int)))
      (pss_cut (ps_if (pt_cmpR op_eq (pe_op op_mod (pv 1) (pe_int)) (pe_int) (nomark _))
      (pss_one (ps_set (i := 3) sc_law_text.nd rfl (by first | exact Or.inl rfl | exact Or.inr rfl) (pe_int)))
      (pss_nil))
      (pss_one (ps_ret (pe_join (pe_str) (pe_lc (own := [("k", 4)]) (g := gName 4) (tt := tYes) rfl sc_law_text.nd (pi_range1 (by rfl) T.m_range (pa_cons (pv 3) (pa_nil))) (blkOk_by (N := ["a", "b", "chars", "size", "k"]) (sc := defScope s_law_text) (by decide +kernel)) (fun _ _ _ _ _ => pg_name (i := 4) sc_law_text.nd rfl (Or.inl rfl)) (fun _ _ _ _ _ => pts_nil) (fun _ _ _ _ _ => pe_ix ix_str (pv 2) (pe_op op_mod (pe_op op_add (pv 0) (pe_op op_mulX (pv 4) (pe_op op_add (pe_int) (pe_op op_fdivW (pv 1) (pe_int))))) (pe_int)) (fun _ _ => rfl))))))))), ?_⟩
    refine q_asg ev_c fun H1 e1 => ?_
    refine q_asg (ev_addS (ev_var rfl) ev_c (by decide +kernel)) fun H2 e2 => ?_
    refine q_asg (ev_bin (ev_var rfl) ev_c (by decide)) fun H3 e3 => ?_
    refine q_cut (M := fun σ' H' => ∃ (n : Nat), σ' = [some (.int a), some (.int b), some (.str ⟨signsZ.toArray⟩), some (.int (n : Int)), none] ∧ n ≤ 60 ∧ Ex H H') ?_ fun σ' H' hM => ?_
    · have E3 := (e1.trans e2).trans e3
      refine s_when (b := decide (b % 40 = 39)) (et_test (ev_eqI (ev_bin (ev_var rfl) ev_c (by decide)) ev_c)) (fun hb H4 e4 => ?_) (fun hb H4 e4 => ⟨(b % 5).toNat, by rw [Int.toNat_of_nonneg (by omega), ← signs_eq] <;> rfl, by omega, E3.trans e4⟩)
      exact s_asg ev_c fun H5 e5 => ⟨60, by rw [← signs_eq] <;> rfl, by omega, (E3.trans e4).trans e5⟩
    · obtain ⟨n, rfl, hn, eM⟩ := hM
      refine s_ret (v := .str ⟨((List.range n).map fun (k : Nat) => signsZ.getD ((a + (k : Int) * (1 + b / 5)) % 94).toNat 0).toArray⟩) (ev_is (ev_joinN (K := K) (ys := ((List.range n).map fun (k : Nat) => signsZ.getD ((a + (k : Int) * (1 + b / 5)) % 94).toNat 0).map fun c => (⟨#[c]⟩ : Str)) ev_c ?_ ?_) (congrArg V.str (join_signs _))) fun H4 e4 => q _ _ (eM.trans e4) ?_ ?_
      · refine el_mapR (n := n) (ea_cons (ev_var rfl) ea_nil) (by omega) (fun x => rfl) (by rw [List.length_map, List.length_map, List.length_map, List.length_range]) fun k y hk hy H10 e10 => ?_
        rw [List.getElem?_map, List.getElem?_map, List.getElem?_map, List.getElem?_range hk] at hy
        rw [← Option.some.inj hy]
        have h1 := Int.emod_nonneg (a + (k : Int) * (1 + b / 5)) (by decide : (94 : Int) ≠ 0)
        have h2 := Int.emod_lt_of_pos (a + (k : Int) * (1 + b / 5)) (by decide : (0 : Int) < 94)
        exact ev_ixS (ev_var rfl) (ev_bin (ev_bin0 (ev_var rfl) (ev_bin (ev_var rfl) (ev_bin0 ev_c (ev_bin (ev_var rfl) ev_c ⟨by decide, by decide⟩)) (Wd.mul (Wd.small (by omega) (by omega)) (Wd.small (by omega) (by omega))))) ev_c (by decide)) (by decide +kernel) (at_cps (l := signsZ) rfl h1 (by rw [signs_len]; exact h2))
      · rw [sum_ones, List.length_map, List.length_map, List.length_range]
        show n + n * 0 ≤ 16777216
        omega
      · show ((List.range n).map _).length ≤ 60
        rw [List.length_map, List.length_range]
        exact hn
      · intro c hc
        obtain ⟨k, _, rfl⟩ := List.mem_map.mp hc
        have h1 := Int.emod_nonneg (a + (k : Int) * (1 + b / 5)) (by decide : (94 : Int) ≠ 0)
        have h2 := Int.emod_lt_of_pos (a + (k : Int) * (1 + b / 5)) (by decide : (0 : Int) < 94)
        have h3 : ((a + (k : Int) * (1 + b / 5)) % 94).toNat < signsZ.length := by rw [signs_len]; omega
        rw [List.getD_eq_getElem?_getD, List.getElem?_eq_getElem h3]
        exact List.getElem_mem h3


/-! ### _law_numbers -/
/-- count ints from 0 to 999 -/
def spNumbers : Sp := fun vs H Q _ => ∃ (cell : Int) (count : Nat), vs = [.int cell, .int (count : Int)] ∧ Wd cell ∧ count ≤ 1000 ∧ ∀ p (ns : List Int) H', H p = none → Ex H H' → H' p = some (.lst (ns.map V.int)) → ns.length = count → (∀ n ∈ ns, 0 ≤ n ∧ n < 1000) → Q (.ref p) H'
theorem ok_law_numbers (T : Txt K mg) : FnOk P w K mg base CX0 1 T.f_law_numbers T.d_law_numbers ["cell", "count"] spNumbers := by
  refine T.F_law_numbers.ok sc_law_numbers (fun vs H Q E h => ?_) (fun cdv A outer s H vs Q E hr h => ?_)
  · obtain ⟨c, n, rfl, _⟩ := h
    rfl
  · obtain ⟨c, n, rfl, hW, hn, q⟩ := h
    refine ⟨_, pss_cons (ps_set (i := 2) sc_law_numbers.nd rfl (by first | exact Or.inl rfl | exact Or.inr rfl) (pe_lst (pa_nil)))
      (pss_cons (ps_if (pt_cmpR op_ge (pv 0) (pe_op op_pow (pe_int) (pe_int)) (nomark _))
      (pss_cons (ps_for PassesOwn.never rfl (pi_range1 (by rfl) T.m_range (pa_cons (pv 1) (pa_nil))) (pg_name (i := 3) sc_law_numbers.nd rfl (by first | exact Or.inl rfl | exact Or.inr rfl))
      (pss_cons (ps_expr (pe_bm PySem.F.plainAttrs_list PySem.F.slot_list_append PySem.F.type_list_append mt_append (pv 2) (pa_cons (pe_op op_mod (pe_callTy call_int1 (by rfl) T.m_int (by decide +kernel) (pa_cons (pv 0) (pa_nil))) (pe_int)) (pa_nil))))
      (pss_one (ps_set (i := 0) sc_law_numbers.nd rfl (by first | exact Or.inl rfl | exact Or.inr rfl) (pe_op op_fdivW (pv 0) (pe_int))))))
      (pss_one (ps_ret (pv 2))))
      (pss_nil))
      (pss_cons (ps_set (i := 4) sc_law_numbers.nd rfl (by first | exact Or.inl rfl | exact Or.inr rfl) (pe_op op_mod (pe_callTy call_int1 (by rfl) T.m_int (by decide +kernel) (pa_cons (pv 0) (pa_nil))) (pe_int)))
      (pss_cons (ps_for PassesOwn.never rfl (pi_range1 (by rfl) T.m_range (pa_cons (pv 1) (pa_nil))) (pg_name (i := 3) sc_law_numbers.nd rfl (by first | exact Or.inl rfl | exact Or.inr rfl))
      (pss_cons (ps_set (i := 4) sc_law_numbers.nd rfl (by first | exact Or.inl rfl | exact Or.inr rfl) (pe_op op_mod (pe_callTy call_int1 (by rfl) T.m_int (by decide +kernel) (pa_cons (pe_op op_add (pe_op op_mulX (pv 4) (pe_int)) (pe_op op_mulX (pe_int) (pe_op op_add (pv 3) (pe_int)))) (pa_nil))) (pe_int)))
      (pss_one (ps_expr (pe_bm PySem.F.plainAttrs_list PySem.F.slot_list_append PySem.F.type_list_append mt_append (pv 2) (pa_cons (pe_op op_mod (pe_op op_fdivW (pv 4) (pe_int)) (pe_int)) (pa_nil)))))))
      (pss_one (ps_ret (pv 2)))))), ?_⟩
    refine q_asgL (el_lst ea_nil (by decide)) fun p H1 hp e1 h1 => ?_
    have fin : ∀ {ns : List Int} {H' : Hp}, Ex H H' → H' p = some (.lst (ns.map V.int)) → ns.length = n → (∀ n ∈ ns, 0 ≤ n ∧ n < 1000) → Q (.ref p) H' := fun e h1 h2 h3 => q p _ _ hp e h1 h2 h3
    have add : ∀ {ns : List Int} {x : Int}, (∀ n ∈ ns, 0 ≤ n ∧ n < 1000) → (0 ≤ x ∧ x < 1000) → ∀ n ∈ ns ++ [x], 0 ≤ n ∧ n < 1000 := fun h hx y hy => by
      rcases List.mem_append.mp hy with z | z
      · exact h y z
      · rw [List.mem_singleton.mp z]
        exact hx
    refine q_when (b := decide (10 ^ 18 ≤ c)) (et_test (ev_bin0 (j := 10 ^ 18) (ev_var rfl) (ev_is (ev_bin ev_c ev_c ⟨by decide, by decide, by decide⟩) (by decide)))) (fun hb H2 e2 => ?_) (fun hb H2 e2 => ?_)
    · refine q_forR1 (n := (n : Int)) (ea_cons (ev_var rfl) ea_nil) (by omega) (fun i σ' H' => ∃ (c' : Int) (ns : List Int) (x3 x4 : Option V), σ' = [some (.int c'), some (.int (n : Int)), some (.ref p), x3, x4] ∧ Wd c' ∧ Ex H H' ∧ H' p = some (.lst (ns.map V.int)) ∧ ns.length = i ∧ ∀ n ∈ ns, 0 ≤ n ∧ n < 1000)
        (fun H3 e3 => ⟨c, [], none, none, rfl, hW, (e1.trans e2).trans e3, (e2.trans e3) p _ h1, rfl, fun n hn => nomatch hn⟩) (fun i σ' H' hi hP => ?_) (fun σ' H' hP => ?_)
      · obtain ⟨c', ns, x3, x4, rfl, hW', eH, hl, hlen, hr⟩ := hP
        refine q_app (K := K) hl (ev_var rfl) (ev_bin (ev_intI (ev_var rfl)) ev_c (by decide)) (by rw [List.length_map]; omega) fun H3 e3 => ?_
        refine s_asg (ev_bin (ev_var rfl) ev_c ⟨by decide, by decide⟩) fun H4 e4 => ⟨c' / 1000, ns ++ [c' % 1000], _, _, rfl, Wd.div hW', ((eH.trans e3).mut hp).trans e4, ?_, by rw [List.length_append, hlen] <;> rfl, add hr ⟨by omega, by omega⟩⟩
        rw [e4 p _ upd_same, List.map_append] <;> rfl
      · obtain ⟨c', ns, x3, x4, rfl, hW', eH, hl, hlen, hr⟩ := hP
        exact s_ret (ev_var rfl) fun H3 e3 => fin (eH.trans e3) (e3 p _ hl) (by omega) hr
    · refine q_asg (ev_bin (ev_intI (ev_var rfl)) ev_c (by decide)) fun H3 e3 => ?_
      refine q_forR1 (n := (n : Int)) (ea_cons (ev_var rfl) ea_nil) (by omega) (fun i σ' H' => ∃ (m : Int) (ns : List Int) (x3 : Option V), σ' = [some (.int c), some (.int (n : Int)), some (.ref p), x3, some (.int m)] ∧ (0 ≤ m ∧ m < 2147483647) ∧ Ex H H' ∧ H' p = some (.lst (ns.map V.int)) ∧ ns.length = i ∧ ∀ n ∈ ns, 0 ≤ n ∧ n < 1000)
        (fun H4 e4 => ⟨c % 2147483647, [], none, rfl, by omega, ((e1.trans e2).trans e3).trans e4, ((e2.trans e3).trans e4) p _ h1, rfl, fun n hn => nomatch hn⟩) (fun i σ' H' hi hP => ?_) (fun σ' H' hP => ?_)
      · obtain ⟨m, ns, x3, rfl, hm, eH, hl, hlen, hr⟩ := hP
        have hi2 : i < 1000 := by omega
        refine q_asg (ev_bin (ev_intI (ev_bin0 (ev_bin (ev_var rfl) ev_c (Wd.mul (Wd.small (by omega) (by omega)) (Wd.lit (by decide)))) (ev_bin ev_c (ev_bin0 (ev_var rfl) ev_c) (Wd.mul (Wd.lit (by decide)) (Wd.small (by omega) (by omega)))))) ev_c (by decide)) fun H4 e4 => ?_
        generalize hm2 : (m * 48271 + 69621 * ((i : Int) + 1)) % 2147483647 = m2
        refine s_app (K := K) (e4 p _ hl) (ev_var rfl) (ev_bin (ev_bin (ev_var rfl) ev_c ⟨by decide, by decide⟩) ev_c (by decide)) (by rw [List.length_map]; omega) fun H5 e5 => ⟨m2, ns ++ [m2 / 7 % 1000], _, rfl, by omega, ((eH.trans e4).trans e5).mut hp, ?_, by rw [List.length_append, hlen] <;> rfl, add hr ⟨by omega, by omega⟩⟩
        rw [upd_same, List.map_append] <;> rfl
      · obtain ⟨m, ns, x3, rfl, hm, eH, hl, hlen, hr⟩ := hP
        exact s_ret (ev_var rfl) fun H4 e4 => fin (eH.trans e4) (e4 p _ hl) (by omega) hr


/-! ### StoredFile.__init__ -/
/-! ### loops over a dict's values -/
theorem q_forEV {σ : L2.St} {H : Hp} {te : TE} {tu tz : TS} {D : Ends} {j1 j2 : Nat} {x : Addr} {kvs : List (Key × V)} {K : PySem.W.Frag} (hx : H x = some (.dK kvs)) (h : ∀ H1, (∃ od, H1 x = some (.frz od (.dK kvs)) ∧ Ex (upd H x (.frz od (.dK kvs))) H1) → Ev te σ H1 (.ref x)) (Pv : Obj → Nat → L2.St → Hp → Prop)
    (h0 : ∀ od H1, Ex (upd H x (.frz od (.dK kvs))) H1 → Pv od 0 σ H1) (hl : ∀ od i σ' H', Pv od i σ' H' → H' x = some (.frz od (.dK kvs)))
    (hs : ∀ od i k v T σ' H' (D' : Ends), kvs[i]? = some (k, v) → Pv od i σ' H' → H' T = none → (∀ σ2 H2, Pv od (i + 1) σ2 H2 → D'.nx σ2 H2) → tu D' ((σ'.set j1 (some (.int (i : Nat)))).set j2 (some v)) (upd H' T (.tup [.int (i : Nat), v])))
    (hd : ∀ od σ' H', Pv od kvs.length σ' H' → tz D σ' (upd H' x (.dK kvs))) : tSeq (tLock (tFor (iEnV te) (gTup K 2 (gCons (gName j1) (gCons (gName j2) gNil))) tu)) tz D σ H := by
  refine ⟨x, .dK kvs, hx, True.intro, fun od => ?_⟩
  refine h _ ⟨od, upd_same, Ex.refl _⟩ _ (Ex.refl _) _ fun H1 e1 => ⟨x, od, kvs, rfl, e1 _ _ upd_same, ?_⟩
  refine ⟨fun i m σ' H' => i + m = kvs.length ∧ Pv od i σ' H', ⟨kvs.length, by omega, h0 od H1 e1⟩, ?_⟩
  rintro i m σ' H' ⟨hm, p⟩
  by_cases hlt : i < kvs.length
  · refine .inr ⟨⟨hl _ _ _ _ p, hlt⟩, Pv od (i + 1), fun σ2 H2 p2 => ⟨m - 1, by omega, by omega, p2⟩, fun y H2 hy => ?_⟩
    obtain ⟨T, k, v, rfl, hT, rfl, hk⟩ := hy
    exact ⟨T, _, rfl, st_of upd_same, rfl, _, _, rfl, _, _, rfl, rfl, hs od i k v T σ' H' _ hk p hT (fun _ _ z => z)⟩
  · have ei : i = kvs.length := by omega
    subst ei
    exact .inl ⟨⟨hl _ _ _ _ p, Nat.le_refl _⟩, hl _ _ _ _ p, hd od σ' H' p⟩
theorem el_lcV {σ : L2.St} {H : Hp} {te tl : TE} {x : Addr} {kvs : List (Key × V)} {j : Nat} {vs : List Nat} {ys : List V} (hx : H x = some (.dK kvs)) (h : ∀ H1, (∃ od, H1 x = some (.frz od (.dK kvs)) ∧ Ex (upd H x (.frz od (.dK kvs))) H1) → Ev te σ H1 (.ref x)) (hz : kvs.length ≤ 40000) (hw : ∀ y, wipe ((wipe σ vs).set j (some y)) vs = wipe σ vs) (hl : ys.length = kvs.length)
    (he : ∀ (od : Obj) (i : Nat) (k : Key) (v y : V), kvs[i]? = some (k, v) → ys[i]? = some y → ∀ H1, Ex (upd H x (.frz od (.dK kvs))) H1 → Ev tl ((wipe σ vs).set j (some v)) H1 y) : EvL (tLockE (tLc (iVals te) (gName j) tYes tl vs)) σ H ys := fun H0 e Q q => by
  refine ⟨x, .dK kvs, e _ _ hx, True.intro, fun od => h _ ⟨od, upd_same, Ex.both e x _⟩ _ (Ex.refl _) _ fun H1 e1 => ⟨x, od, kvs, rfl, e1 _ _ upd_same, fun D hD => ?_⟩⟩
  have g : given kvs.length (fun _ => true) (fun i => ys.getD i .non) = ys := given_all hl fun i hi => by
    have hi2 : i < ys.length := by omega
    rw [List.getElem?_eq_getElem hi2, List.getD_eq_getElem?_getD, List.getElem?_eq_getElem hi2] <;> rfl
  have hDx : D ≠ x := fun z => by
    rw [z] at hD
    have y := e1 _ _ (upd_same (H := H0) (a := x) (o := .frz od (.dK kvs)))
    rw [hD] at y
    cases y
  have hD0 : H0 D = none := by
    have y := fresh_back e1 hD
    rw [upd_ne hDx] at y
    exact y
  refine ⟨fun i m H' => m = kvs.length - i ∧ i ≤ kvs.length ∧ Cw H1 (fun _ => true) (fun i => ys.getD i .non) D i H', ⟨_, rfl, Nat.zero_le _, hD, Ex.new hD, upd_same⟩, ?_⟩
  rintro i m H' ⟨rfl, hi, p⟩
  have hf : H' x = some (.frz od (.dK kvs)) := p.2.1 _ _ (e1 _ _ upd_same)
  by_cases hlt : i < kvs.length
  · refine .inr ⟨⟨hf, hlt⟩, Cw H1 (fun _ => true) (fun i => ys.getD i .non) D (i + 1), fun H2 p2 => ⟨_, by omega, rfl, hlt, p2⟩, fun y H2 hy => ?_⟩
    obtain ⟨rfl, k, hk⟩ := hy
    have hi2 : i < ys.length := by omega
    have hy : ys[i]? = some (ys.getD i .non) := by rw [List.getElem?_eq_getElem hi2, List.getD_eq_getElem?_getD, List.getElem?_eq_getElem hi2] <;> rfl
    exact ⟨hw _, cw_turn p (by omega) (fun H3 e3 Q q => q H3 (Ex.refl H3)) fun _ => (he od i k y _ hk hy H1 ((Ex.both e x _).trans e1))⟩
  · have ei : i = kvs.length := by omega
    subst ei
    refine .inl ⟨⟨hf, Nat.le_refl _⟩, hf, ?_⟩
    have p2 := p.2.2
    rw [g] at p2
    refine q D _ hD0 (Ex.unlock (e1.trans p.2.1) (e _ _ hx)) ?_
    rw [upd_ne hDx]
    exact p2
/-! ### texts by their codes -/
def mk (l : List Nat) : Str := ⟨l.toArray⟩
def cds (ys : List Str) : List Nat := (ys.map fun y => y.cps.toList).flatten
theorem mk_cds (y : Str) : mk y.cps.toList = y := rfl
theorem mk_codes (l : List Nat) : (mk l).cps.toList = l := by simp [mk]
theorem jn_cds (ys : List Str) : Txt.join (Str.ofString "") ys = mk (cds ys) := by
  have h := join_codes (ys.map fun y => y.cps.toList)
  have e : (ys.map fun y => y.cps.toList).map (fun c => (⟨c.toArray⟩ : Str)) = ys := by
    rw [List.map_map]
    exact List.map_id ys
  rw [e] at h
  exact h
theorem cds_app (a b : List Str) : cds (a ++ b) = cds a ++ cds b := by simp [cds]
theorem cds_one (l : List Nat) : cds [mk l] = l := by simp [cds, mk]
theorem cds_nil : cds [] = [] := rfl
theorem sum_cds (ys : List Str) : (ys.map (·.length)).sum = (cds ys).length := by
  have h := sum_codes (ys.map fun y => y.cps.toList)
  have e : (ys.map fun y => y.cps.toList).map (fun c => (⟨c.toArray⟩ : Str)) = ys := by
    rw [List.map_map]
    exact List.map_id ys
  rw [e] at h
  exact h
theorem mk_app (a b : List Nat) : mk a ++ mk b = mk (a ++ b) := str_ext (by rw [codes_app (mk_codes a) (mk_codes b), mk_codes])
theorem mk_len (l : List Nat) : (mk l).length = l.length := by rw [str_len, mk_codes]
theorem mk_inj {a b : List Nat} (h : mk a = mk b) : a = b := by rw [← mk_codes a, ← mk_codes b, h]
theorem mk_dec (a b : List Nat) : decide (mk a = mk b) = decide (a = b) := decide_eq_decide.mpr ⟨mk_inj, fun h => by rw [h]⟩
theorem mk_take (l : List Nat) (n : Nat) : cutS (mk l) none (some (n : Int)) = mk (l.take n) := by
  unfold cutS
  rw [HT.sIx_none, HT.sIx_nat, mk_codes, mk_len]
  show mk ((l.drop 0).take (min n l.length - 0)) = _
  rw [List.drop_zero, Nat.sub_zero]
  congr 1
  by_cases h : n ≤ l.length
  · rw [Nat.min_eq_left h]
  · rw [Nat.min_eq_right (by omega), List.take_of_length_le (Nat.le_refl _), List.take_of_length_le (by omega)]
/-! ### stored files, the disk -/
abbrev sF (sv tl : Addr) : List (Str × V) := [(("saved" : Str), V.ref sv), (("tail" : Str), V.ref tl)]
theorem sF_sv (a b : Addr) : (sF a b).lookup ("saved" : Str) = some (.ref a) := by simp [sF, List.lookup]
theorem sF_tl (a b : Addr) : (sF a b).lookup ("tail" : Str) = some (.ref b) := by
  have h : (("tail" : Str) == ("saved" : Str)) = false := by decide +kernel
  simp [sF, List.lookup, h]
theorem sF_p0 (a : Addr) : putF ("saved" : Str) (V.ref a) [] = [(("saved" : Str), V.ref a)] := rfl
theorem sF_p1 (a b : Addr) : putF ("tail" : Str) (V.ref b) [(("saved" : Str), V.ref a)] = sF a b := by
  have h : ¬ (("saved" : Str) = ("tail" : Str)) := by decide +kernel
  simp [putF, sF, h]
theorem sF_ps (a b c : Addr) : putF ("saved" : Str) (V.ref c) (sF a b) = sF c b := by simp [putF, sF]
theorem sF_pt (a b c : Addr) : putF ("tail" : Str) (V.ref c) (sF a b) = sF a c := by
  have h : ¬ (("saved" : Str) = ("tail" : Str)) := by decide +kernel
  simp [putF, sF, h]
abbrev dF (fd : Addr) (pw : Bool) (lf : V) : List (Str × V) := [(("_files" : Str), V.ref fd), (("_powered" : Str), V.bl pw), (("_left" : Str), lf)]
theorem kFP : ¬ (("_files" : Str) = ("_powered" : Str)) ∧ ¬ (("_files" : Str) = ("_left" : Str)) ∧ ¬ (("_powered" : Str) = ("_left" : Str)) := by decide +kernel
theorem dF_f (fd : Addr) (pw : Bool) (lf : V) : (dF fd pw lf).lookup ("_files" : Str) = some (.ref fd) := by simp [dF, List.lookup]
theorem dF_p (fd : Addr) (pw : Bool) (lf : V) : (dF fd pw lf).lookup ("_powered" : Str) = some (.bl pw) := by
  have h : (("_powered" : Str) == ("_files" : Str)) = false := by decide +kernel
  simp [dF, List.lookup, h]
theorem dF_l (fd : Addr) (pw : Bool) (lf : V) : (dF fd pw lf).lookup ("_left" : Str) = some lf := by
  have h : (("_left" : Str) == ("_files" : Str)) = false := by decide +kernel
  have h2 : (("_left" : Str) == ("_powered" : Str)) = false := by decide +kernel
  simp [dF, List.lookup, h, h2]
theorem dF_no (fd : Addr) (pw : Bool) (lf : V) {m : Str} (h : (m == ("_files" : Str)) = false) (h1 : (m == ("_powered" : Str)) = false) (h2 : (m == ("_left" : Str)) = false) : (dF fd pw lf).lookup m = none := by simp [dF, List.lookup, h, h1, h2]
theorem dF_pp (fd : Addr) (pw pw' : Bool) (lf : V) : putF ("_powered" : Str) (V.bl pw') (dF fd pw lf) = dF fd pw' lf := by
  simp [dF, putF, kFP.1]
theorem dF_pl (fd : Addr) (pw : Bool) (lf lf' : V) : putF ("_left" : Str) lf' (dF fd pw lf) = dF fd pw lf' := by
  simp [dF, putF, kFP.2.1, kFP.2.2]
theorem dF_p1 (fd : Addr) (pw : Bool) : putF ("_powered" : Str) (V.bl pw) [(("_files" : Str), V.ref fd)] = [(("_files" : Str), V.ref fd), (("_powered" : Str), V.bl pw)] := by simp [putF, kFP.1]
theorem dF_p2 (fd : Addr) (pw : Bool) (lf : V) : putF ("_left" : Str) lf [(("_files" : Str), V.ref fd), (("_powered" : Str), V.bl pw)] = dF fd pw lf := by simp [putF, dF, kFP.2.1, kFP.2.2]
structure Fi where
  o : Addr
  sv : Addr
  tl : Addr
  S : List Str
  T : List Str
structure FAt (C : Addr) (H : Hp) (f : Fi) : Prop where
  ob : ∃ dx, H f.o = some (.ins C dx (sF f.sv f.tl))
  hs : H f.sv = some (.lst (f.S.map V.str))
  ht : H f.tl = some (.lst (f.T.map V.str))
theorem FAt.mono {C : Addr} {H H' : Hp} {f : Fi} (h : FAt C H f) (e : Ex H H') : FAt C H' f := ⟨let ⟨dx, x⟩ := h.ob; ⟨dx, e _ _ x⟩, e _ _ h.hs, e _ _ h.ht⟩
theorem FAt.but {C : Addr} {S : List Addr} {H H' : Hp} {f : Fi} (h : FAt C H f) (e : But S H H') (h1 : f.o ∉ S) (h2 : f.sv ∉ S) (h3 : f.tl ∉ S) : FAt C H' f := ⟨let ⟨dx, x⟩ := h.ob; ⟨dx, e _ _ x h1⟩, e _ _ h.hs h2, e _ _ h.ht h3⟩
def fK (fs : List (Str × Fi)) : List (Key × V) := fs.map fun x => ((Sum.inr x.1 : Key), V.ref x.2.o)
structure DS (CD CF : Addr) (H : Hp) (p fd : Addr) (pw : Bool) (lf : V) (fs : List (Str × Fi)) (m : Nat) : Prop where
  dk : ∃ dx, H p = some (.ins CD dx (dF fd pw lf))
  di : H fd = some (.dK (fK fs))
  fa : ∀ x ∈ fs, FAt CF H x.2
  nd : (fs.map (·.1)).Nodup
  po : ∀ x ∈ fs, x.2.o ≠ p
  ts : ∀ x ∈ fs, x.2.tl ≠ x.2.sv
  ds : ∀ (i j : Nat) x y, fs[i]? = some x → fs[j]? = some y → i ≠ j → x.2.o ≠ y.2.o ∧ x.2.tl ≠ y.2.tl ∧ x.2.tl ≠ y.2.sv
  sz : fs.length ≤ 10 ∧ ∀ x ∈ fs, (cds x.2.S).length + (cds x.2.T).length + x.2.S.length + x.2.T.length ≤ m

def spSfI (C : Addr) : Sp := fun vs H Q _ => ∃ (o dx : Addr), vs = [.ref o] ∧ H o = some (.ins C dx []) ∧ ∀ (f : Fi) H', f.o = o → f.S = [] → f.T = [] → f.tl ≠ f.sv → H f.sv = none → H f.tl = none → FAt C H' f → But [o] H H' → Q .non H'
theorem ok_StoredFile___init (T : Txt K mg) : FnOk P w K mg base CX0 1 T.f_StoredFile___init T.d_StoredFile___init ["self"] (spSfI T.C_StoredFile) := by
  refine T.F_StoredFile___init.ok sc_StoredFile___init (fun vs H Q E h => ?_) (fun cdv A outer s H vs Q E hr h => ?_)
  · obtain ⟨o, dx, rfl, _⟩ := h
    rfl
  · obtain ⟨o, dx, rfl, ho, q⟩ := h
    refine ⟨_, pss_cons (ps_fld (pv 0) (pe_lst (pa_nil)) rfl)
      (pss_one (ps_fld (pv 0) (pe_lst (pa_nil)) rfl)), ?_⟩
    refine ⟨by show 0 ≤ sizeLine; decide, fun sv hsv => ?_⟩
    have nos : o ≠ sv := ne_of_none ho hsv
    refine ⟨_, rfl, o, T.C_StoredFile, dx, [], rfl, by rw [upd_ne nos]; exact ho, T.cl_StoredFile, T.na_StoredFile_saved, (by show 0 < 1000; decide), ?_⟩
    rw [sF_p0]
    refine ⟨by show 0 ≤ sizeLine; decide, fun tl htl => ?_⟩
    have not : o ≠ tl := fun z => by rw [← z, upd_same] at htl; cases htl
    have nst : tl ≠ sv := fun z => by rw [z, upd_ne nos.symm, upd_same] at htl; cases htl
    have htl0 : H tl = none := by rw [upd_ne not.symm, upd_ne nst] at htl; exact htl
    refine ⟨_, rfl, o, T.C_StoredFile, dx, _, rfl, by rw [upd_ne not]; exact upd_same, T.cl_StoredFile, T.na_StoredFile_tail, (by show 1 < 1000; decide), ?_⟩
    rw [sF_p1]
    refine q ⟨o, sv, tl, [], []⟩ _ rfl rfl rfl nst hsv htl0 ⟨⟨dx, upd_same⟩, ?_, ?_⟩ fun c u h n => ?_
    · show (upd _ o _) sv = _
      rw [upd_ne nos.symm, upd_ne nst.symm, upd_ne nos.symm, upd_same] <;> rfl
    · show (upd _ o _) tl = _
      rw [upd_ne not.symm, upd_same] <;> rfl
    · have hc : c ≠ o := fun z => n (by rw [z]; exact List.mem_singleton.mpr rfl)
      rw [upd_ne hc, upd_ne (ne_of_none h htl0), upd_ne hc, upd_ne (ne_of_none h hsv)]
      exact h


/-! ### Disk.__init__ -/
def spDkI (C : Addr) : Sp := fun vs H Q _ => ∃ (p dx : Addr), vs = [.ref p] ∧ H p = some (.ins C dx []) ∧ ∀ (fd : Addr) H', H fd = none → (∃ dx, H' p = some (.ins C dx (dF fd true .non))) → H' fd = some (.dK []) → But [p] H H' → Q .non H'
theorem ok_Disk___init (T : Txt K mg) : FnOk P w K mg base CX0 1 T.f_Disk___init T.d_Disk___init ["self"] (spDkI T.C_Disk) := by
  refine T.F_Disk___init.ok sc_Disk___init (fun vs H Q E h => ?_) (fun cdv A outer s H vs Q E hr h => ?_)
  · obtain ⟨p, dx, rfl, _⟩ := h
    rfl
  · obtain ⟨p, dx, rfl, hp, q⟩ := h
    refine ⟨_, pss_cons (ps_fld (pv 0) (pe_dnewK) rfl)
      (pss_cons (ps_fld (pv 0) (pe_bl) rfl)
      (pss_one (ps_fld (pv 0) (pe_non) rfl))), ?_⟩
    intro fd hfd
    have n1 : p ≠ fd := ne_of_none hp hfd
    refine ⟨_, rfl, p, T.C_Disk, dx, [], rfl, by rw [upd_ne n1]; exact hp, T.cl_Disk, T.na_Disk__files, (by show 0 < 1000; decide), ?_⟩
    refine ⟨_, rfl, p, T.C_Disk, dx, _, rfl, upd_same, T.cl_Disk, T.na_Disk__powered, (by show 1 < 1000; decide), ?_⟩
    refine ⟨_, rfl, p, T.C_Disk, dx, _, rfl, upd_same, T.cl_Disk, T.na_Disk__left, (by show 2 < 1000; decide), ?_⟩
    refine q fd _ hfd ⟨dx, ?_⟩ ?_ fun c u h n => ?_
    · rw [upd_same, show putF ("_files" : Str) (V.ref fd) [] = [(("_files" : Str), V.ref fd)] from rfl, dF_p1, dF_p2]
    · rw [upd_ne n1.symm, upd_ne n1.symm, upd_ne n1.symm, upd_same]
    · have hc : c ≠ p := fun z => n (by rw [z]; exact List.mem_singleton.mpr rfl)
      rw [upd_ne hc, upd_ne hc, upd_ne hc, upd_ne (ne_of_none h hfd)]
      exact h


/-! ### _text_of -/
def spTo (C : Addr) : Sp := fun vs H Q _ => ∃ (f : Fi) (r : Nat), vs = [.ref f.o] ∧ FAt C H f ∧ f.S.length + f.T.length ≤ 100000 ∧ (cds f.S).length + (cds f.T).length ≤ 16000000 ∧ ∀ H', Ex H H' → Q (.str (mk (cds f.S ++ cds f.T))) H'
theorem cv_to {C : Addr} {H : Hp} {f : Fi} (h : FAt C H f) (h1 : f.S.length + f.T.length ≤ 100000) (h2 : (cds f.S).length + (cds f.T).length ≤ 16000000) : SpV (spTo C) [.ref f.o] H (.str (mk (cds f.S ++ cds f.T))) := fun H1 e Q q E => ⟨f, 0, rfl, h.mono e, h1, h2, fun H2 e2 => q H2 e2⟩
/-- x.saved, x.tail -/
theorem ev_sv {K : PySem.W.Frag} {C : Addr} {f : Fi} {σ : L2.St} {H : Hp} {te : TE} (h : Ev te σ H (.ref f.o)) (c : FAt C H f) (hc : Cls K C) (hn : NoAttr K C "saved") : Ev (tFld K te "saved") σ H (.ref f.sv) := fun H1 e Q q => by
  obtain ⟨dx, hp⟩ := c.ob
  exact h H1 e _ fun H2 e2 => ⟨f.o, C, dx, _, _, rfl, (e.trans e2) _ _ hp, hc, hn, sF_sv _ _, q H2 e2⟩
theorem ev_tl {K : PySem.W.Frag} {C : Addr} {f : Fi} {σ : L2.St} {H : Hp} {te : TE} (h : Ev te σ H (.ref f.o)) (c : FAt C H f) (hc : Cls K C) (hn : NoAttr K C "tail") : Ev (tFld K te "tail") σ H (.ref f.tl) := fun H1 e Q q => by
  obtain ⟨dx, hp⟩ := c.ob
  exact h H1 e _ fun H2 e2 => ⟨f.o, C, dx, _, _, rfl, (e.trans e2) _ _ hp, hc, hn, sF_tl _ _, q H2 e2⟩
/-- x + y of two lists that stand there -/
theorem el_cat2 {σ : L2.St} {H : Hp} {ta tb : TE} {a b : Addr} {xs ys : List V} (ha : Ev ta σ H (.ref a)) (hb : Ev tb σ H (.ref b)) (h1 : H a = some (.lst xs)) (h2 : H b = some (.lst ys)) (hz : xs.length + ys.length ≤ 100000) : EvL (tOp rCat ta tb) σ H (xs ++ ys) := fun H1 e Q q =>
  ha H1 e _ fun H2 e2 => hb H2 (e.trans e2) _ fun H3 e3 => ⟨a, b, xs, ys, rfl, rfl, ((e.trans e2).trans e3) _ _ h1, ((e.trans e2).trans e3) _ _ h2, sz_of hz, fun r hr => q r _ (fresh_back (e2.trans e3) hr) ((e2.trans e3).trans (Ex.new hr)) upd_same⟩
theorem ok_text_of (T : Txt K mg) : FnOk P w K mg base CX0 1 T.f_text_of T.d_text_of ["stored"] (spTo T.C_StoredFile) := by
  refine T.F_text_of.ok sc_text_of (fun vs H Q E h => ?_) (fun cdv A outer s H vs Q E hr h => ?_)
  · obtain ⟨f, r, rfl, _⟩ := h
    rfl
  · obtain ⟨f, _, rfl, hf, h1, h2, q⟩ := h
    refine ⟨_, pss_one (ps_ret (pe_join (pe_str) (pe_op op_cat (pe_fld (pv 0) rfl) (pe_fld (pv 0) rfl)))), ?_⟩
    rw [← cds_app] at q
    have e0 : (Str.ofString "").length = 0 := by decide +kernel
    refine s_ret (ev_is (ev_joinN (K := K) (ys := f.S ++ f.T) ev_c (by rw [List.map_append]; exact el_cat2 (ev_sv (ev_var rfl) hf T.cl_StoredFile T.na_StoredFile_saved) (ev_tl (ev_var rfl) hf T.cl_StoredFile T.na_StoredFile_tail) hf.hs hf.ht (by rw [List.length_map, List.length_map]; omega)) (by rw [sum_cds, cds_app, List.length_append, e0]; omega)) (congrArg V.str (jn_cds _))) q


/-! ### _save -/
def spSave (C : Addr) : Sp := fun vs H Q _ => ∃ (f : Fi) (z : Str), vs = [.ref f.o, .str z] ∧ FAt C H f ∧ ∀ (f' : Fi) H', f'.o = f.o → f'.S = [z] → f'.T = [] → f'.tl ≠ f'.sv → H f'.sv = none → H f'.tl = none → FAt C H' f' → But [f.o] H H' → Q .non H'
theorem ok_save (T : Txt K mg) : FnOk P w K mg base CX0 1 T.f_save T.d_save ["stored", "text"] (spSave T.C_StoredFile) := by
  refine T.F_save.ok sc_save (fun vs H Q E h => ?_) (fun cdv A outer s H vs Q E hr h => ?_)
  · obtain ⟨f, z, rfl, _⟩ := h
    rfl
  · obtain ⟨f, z, rfl, hf, q⟩ := h
    obtain ⟨dx, ho⟩ := hf.ob
    refine ⟨_, pss_cons (ps_fld (pv 0) (pe_lst (pa_cons (pv 1) (pa_nil))) rfl)
      (pss_one (ps_fld (pv 0) (pe_lst (pa_nil)) rfl)), ?_⟩
    refine ⟨_, rfl, by show 1 ≤ sizeLine; decide, fun sv hsv => ?_⟩
    have nos : f.o ≠ sv := ne_of_none ho hsv
    refine ⟨_, rfl, f.o, T.C_StoredFile, dx, _, rfl, by rw [upd_ne nos]; exact ho, T.cl_StoredFile, T.na_StoredFile_saved, (by show 2 < 1000; decide), ?_⟩
    rw [sF_ps]
    refine ⟨by show 0 ≤ sizeLine; decide, fun tl htl => ?_⟩
    have not : f.o ≠ tl := fun z => by rw [← z, upd_same] at htl; cases htl
    have nst : tl ≠ sv := fun z => by rw [z, upd_ne nos.symm, upd_same] at htl; cases htl
    have htl0 : H tl = none := by rw [upd_ne not.symm, upd_ne nst] at htl; exact htl
    refine ⟨_, rfl, f.o, T.C_StoredFile, dx, _, rfl, by rw [upd_ne not]; exact upd_same, T.cl_StoredFile, T.na_StoredFile_tail, (by show 2 < 1000; decide), ?_⟩
    rw [sF_pt]
    refine q ⟨f.o, sv, tl, [z], []⟩ _ rfl rfl rfl nst hsv htl0 ⟨⟨dx, upd_same⟩, ?_, ?_⟩ fun c u h n => ?_
    · show (upd _ f.o _) sv = _
      rw [upd_ne nos.symm, upd_ne nst.symm, upd_ne nos.symm, upd_same] <;> rfl
    · show (upd _ f.o _) tl = _
      rw [upd_ne not.symm, upd_same] <;> rfl
    · have hc : c ≠ f.o := fun z => n (by rw [z]; exact List.mem_singleton.mpr rfl)
      rw [upd_ne hc, upd_ne (ne_of_none h htl0), upd_ne hc, upd_ne (ne_of_none h hsv)]
      exact h


/-! ### Disk._check_power -/
/-! ### what the disk holds -/
abbrev Cn := Str × List Nat × List Nat
def cont (fs : List (Str × Fi)) : List Cn := fs.map fun x => (x.1, cds x.2.S, cds x.2.T)
def lfV : Option Int → V
  | none => .non
  | some n => .int n
def opL (pw : Bool) : Option Int → Bool × Option Int
  | none => (pw, none)
  | some n => if n = 0 then (false, some n) else (pw, some (n - 1))
def DkP (C : Addr) (H : Hp) (p fd : Addr) (pw : Bool) (lf : V) : Prop := ∃ dx, H p = some (.ins C dx (dF fd pw lf))
theorem DkP.mono {C : Addr} {H H' : Hp} {p fd : Addr} {pw : Bool} {lf : V} (h : DkP C H p fd pw lf) (e : Ex H H') : DkP C H' p fd pw lf := let ⟨dx, x⟩ := h; ⟨dx, e _ _ x⟩
theorem ev_dk {K : PySem.W.Frag} {C : Addr} {p fd : Addr} {pw : Bool} {lf v : V} {σ : L2.St} {H : Hp} {te : TE} {n : Str} (h : Ev te σ H (.ref p)) (c : DkP C H p fd pw lf) (hc : Cls K C) (hn : NoAttr K C n) (hl : (dF fd pw lf).lookup n = some v) : Ev (tFld K te n) σ H v := fun H1 e Q q => by
  obtain ⟨dx, hp⟩ := c
  exact h H1 e _ fun H2 e2 => ⟨p, C, dx, _, _, rfl, (e.trans e2) _ _ hp, hc, hn, hl, q H2 e2⟩
def Own (fs : List (Str × Fi)) (c : Addr) : Prop := ∀ x ∈ fs, c ≠ x.2.o ∧ c ≠ x.2.tl ∧ c ≠ x.2.sv
/-- what is not the disk's stays and is not the disk's -/
def Fr (fs fs' : List (Str × Fi)) (p fd : Addr) (H H' : Hp) : Prop := ∀ c u, H c = some u → c ≠ p → c ≠ fd → Own fs c → H' c = some u ∧ Own fs' c
theorem Fr.of {fs : List (Str × Fi)} {p fd : Addr} {H H' : Hp} (h : But [p] H H') : Fr fs fs p fd H H' := fun c u hc h1 _ ho => ⟨h c u hc fun z => h1 (List.mem_singleton.mp z), ho⟩
theorem Fr.ex {fs : List (Str × Fi)} {p fd : Addr} {H H' : Hp} (h : Ex H H') : Fr fs fs p fd H H' := fun c u hc _ _ ho => ⟨h c u hc, ho⟩
theorem Fr.trans {fs fs1 fs2 : List (Str × Fi)} {p fd : Addr} {H H1 H2 : Hp} (a : Fr fs fs1 p fd H H1) (b : Fr fs1 fs2 p fd H1 H2) : Fr fs fs2 p fd H H2 := fun c u hc h1 h2 ho => let ⟨x, y⟩ := a c u hc h1 h2 ho; b c u x h1 h2 y
section
variable {CD CF : Addr} {H H' : Hp} {p fd : Addr} {pw pw' : Bool} {lf lf' : V} {fs : List (Str × Fi)} {m m' : Nat}
theorem DS.mono (h : DS CD CF H p fd pw lf fs m) (e : Ex H H') : DS CD CF H' p fd pw lf fs m := { h with dk := let ⟨dx, x⟩ := h.dk; ⟨dx, e _ _ x⟩, di := e _ _ h.di, fa := fun x hx => (h.fa x hx).mono e }
theorem DS.up (h : DS CD CF H p fd pw lf fs m) (e : m ≤ m') : DS CD CF H' p fd pw lf fs m' → True := fun _ => True.intro
theorem DS.le (h : DS CD CF H p fd pw lf fs m) (e : m ≤ m') : DS CD CF H p fd pw lf fs m' := { h with sz := ⟨h.sz.1, fun x hx => Nat.le_trans (h.sz.2 x hx) e⟩ }
/-- the disk's own fields -/
theorem DS.fld (h : DS CD CF H p fd pw lf fs m) (f : But [p] H H') (k : DkP CD H' p fd pw' lf') : DS CD CF H' p fd pw' lf' fs m := by
  obtain ⟨dx, hp⟩ := h.dk
  have np : ∀ {c : Addr} {u : HO}, H c = some u → (∀ C dx fs, u ≠ .ins C dx fs) → c ∉ [p] := fun hc n z => by
    rw [List.mem_singleton.mp z, hp] at hc
    exact n _ _ _ (Option.some.inj hc).symm
  exact { h with dk := k, di := f _ _ h.di (np h.di (by intro _ _ _ z; cases z)), fa := fun x hx => (h.fa x hx).but f (fun z => h.po x hx (List.mem_singleton.mp z)) (np (h.fa x hx).hs (by intro _ _ _ z; cases z)) (np (h.fa x hx).ht (by intro _ _ _ z; cases z)) }
theorem fK_at {fs : List (Str × Fi)} {i : Nat} {z : Str} {f : Fi} (nd : (fs.map (·.1)).Nodup) (h : fs[i]? = some (z, f)) : valV (fK fs) (Sum.inr z : Key) = some (.ref f.o) := by
  induction fs generalizing i with
  | nil => simp at h
  | cons x r ih =>
    rw [List.map_cons] at nd
    have n := List.nodup_cons.mp nd
    show valV (((Sum.inr x.1 : Key), V.ref x.2.o) :: fK r) (Sum.inr z : Key) = _
    cases i with
    | zero =>
      obtain rfl : x = (z, f) := Option.some.inj h
      rw [valV_pos (p := ((Sum.inr z : Key), V.ref f.o)) rfl]
    | succ i =>
      have h2 : r[i]? = some (z, f) := by simpa using h
      have hm : z ∈ r.map (·.1) := List.mem_map.mpr ⟨_, List.mem_of_getElem? h2, rfl⟩
      rw [valV_neg (p := ((Sum.inr x.1 : Key), V.ref x.2.o)) (fun q => n.1 (by rw [show x.1 = z from Sum.inr.inj q]; exact hm))]
      exact ih n.2 h2
theorem fK_no {fs : List (Str × Fi)} {z : Str} (h : z ∉ fs.map (·.1)) : valV (fK fs) (Sum.inr z : Key) = none := by
  induction fs with
  | nil => rfl
  | cons x r ih =>
    show valV (((Sum.inr x.1 : Key), V.ref x.2.o) :: fK r) (Sum.inr z : Key) = _
    rw [List.map_cons] at h
    rw [valV_neg (p := ((Sum.inr x.1 : Key), V.ref x.2.o)) (fun q => h (by rw [show x.1 = z from Sum.inr.inj q]; exact List.mem_cons_self))]
    exact ih fun q => h (List.mem_cons_of_mem _ q)
/-- a name is a file's, or none's -/
theorem name_cases (fs : List (Str × Fi)) (z : Str) : (z ∉ fs.map (·.1)) ∨ ∃ (i : Nat) (f : Fi), fs[i]? = some (z, f) := by
  by_cases h : z ∈ fs.map (·.1)
  · obtain ⟨⟨y, f⟩, hx, rfl⟩ := List.mem_map.mp h
    obtain ⟨i, hi⟩ := List.getElem?_of_mem hx
    exact .inr ⟨i, f, hi⟩
  · exact .inl h
theorem fK_set {fs : List (Str × Fi)} {i : Nat} {z : Str} {f f' : Fi} (h : fs[i]? = some (z, f)) (ho : f'.o = f.o) : fK (fs.set i (z, f')) = fK fs := by
  unfold fK
  refine List.ext_getElem? fun j => ?_
  rw [List.getElem?_map, List.getElem?_map, List.getElem?_set]
  by_cases e : i = j
  · subst e
    have hl := (List.getElem?_eq_some_iff.mp h).1
    rw [if_pos rfl, if_pos hl, h]
    exact congrArg (fun a => some ((Sum.inr z : Key), V.ref a)) ho
  · rw [if_neg e]
theorem names_set {fs : List (Str × Fi)} {i : Nat} {z : Str} {f f' : Fi} (h : fs[i]? = some (z, f)) : (fs.set i (z, f')).map (·.1) = fs.map (·.1) := by
  refine List.ext_getElem? fun j => ?_
  rw [List.getElem?_map, List.getElem?_map, List.getElem?_set]
  by_cases e : i = j
  · subst e
    have hl := (List.getElem?_eq_some_iff.mp h).1
    rw [if_pos rfl, if_pos hl, h] <;> rfl
  · rw [if_neg e]
/-- one file is another one now -/
theorem DS.set {i : Nat} {z : Str} {f f' : Fi} (h : DS CD CF H p fd pw lf fs m) (hi : fs[i]? = some (z, f)) (ho : f'.o = f.o) (hf : FAt CF H' f') (nt : f'.tl ≠ f'.sv) (ot : ∀ j x, fs[j]? = some x → i ≠ j → FAt CF H' x.2 ∧ f'.tl ≠ x.2.tl ∧ f'.tl ≠ x.2.sv ∧ x.2.tl ≠ f'.sv)
    (hd : H' fd = some (.dK (fK fs))) (hk : ∃ dx, H' p = some (.ins CD dx (dF fd pw lf))) (hm : m ≤ m') (hz : (cds f'.S).length + (cds f'.T).length + f'.S.length + f'.T.length ≤ m') : DS CD CF H' p fd pw lf (fs.set i (z, f')) m' := by
  have hl := (List.getElem?_eq_some_iff.mp hi).1
  have at' : ∀ {j : Nat} {x : Str × Fi}, (fs.set i (z, f'))[j]? = some x → (i = j ∧ x = (z, f')) ∨ (i ≠ j ∧ fs[j]? = some x) := fun {j x} hx => by
    rw [List.getElem?_set] at hx
    by_cases e : i = j
    · subst e
      rw [if_pos rfl, if_pos hl] at hx
      exact .inl ⟨rfl, (Option.some.inj hx).symm⟩
    · rw [if_neg e] at hx
      exact .inr ⟨e, hx⟩
  have mem : ∀ {x : Str × Fi}, x ∈ fs.set i (z, f') → x = (z, f') ∨ ∃ j, i ≠ j ∧ fs[j]? = some x := fun hx => by
    obtain ⟨j, hj⟩ := List.getElem?_of_mem hx
    rcases at' hj with ⟨_, h⟩ | ⟨h1, h2⟩
    · exact .inl h
    · exact .inr ⟨j, h1, h2⟩
  refine ⟨hk, by rw [fK_set hi ho]; exact hd, fun x hx => ?_, by rw [names_set hi]; exact h.nd, fun x hx => ?_, fun x hx => ?_, fun j k x y hx hy hn => ?_, by rw [List.length_set]; exact h.sz.1, fun x hx => ?_⟩
  · rcases mem hx with rfl | ⟨j, h1, h2⟩
    · exact hf
    · exact (ot j x h2 h1).1
  · rcases mem hx with rfl | ⟨j, h1, h2⟩
    · show f'.o ≠ p
      rw [ho]; exact h.po _ (List.mem_of_getElem? hi)
    · exact h.po _ (List.mem_of_getElem? h2)
  · rcases mem hx with rfl | ⟨j, h1, h2⟩
    · exact nt
    · exact h.ts _ (List.mem_of_getElem? h2)
  · rcases at' hx with ⟨e, rfl⟩ | ⟨h1, h2⟩
    · rcases at' hy with ⟨e2, rfl⟩ | ⟨h3, h4⟩
      · exact absurd (e.symm.trans e2) hn
      · have o1 := h.ds i k _ _ hi h4 h3
        have o2 := ot k y h4 h3
        exact ⟨by show f'.o ≠ _; rw [ho]; exact o1.1, o2.2.1, o2.2.2.1⟩
    · rcases at' hy with ⟨e2, rfl⟩ | ⟨h3, h4⟩
      · have o1 := h.ds i j _ _ hi h2 h1
        have o2 := ot j x h2 h1
        exact ⟨by show _ ≠ f'.o; rw [ho]; exact o1.1.symm, o2.2.1.symm, o2.2.2.2⟩
      · exact h.ds j k _ _ h2 h4 hn
  · rcases mem hx with rfl | ⟨j, h1, h2⟩
    · exact hz
    · exact Nat.le_trans (h.sz.2 _ (List.mem_of_getElem? h2)) hm
/-- what is not the disk's has changed -/
theorem DS.but {S : List Addr} (h : DS CD CF H p fd pw lf fs m) (f : But S H H') (n : ∀ c ∈ S, c ≠ p ∧ c ≠ fd ∧ Own fs c) : DS CD CF H' p fd pw lf fs m := by
  obtain ⟨dx, hp⟩ := h.dk
  exact { h with dk := ⟨dx, f _ _ hp fun z => (n _ z).1 rfl⟩, di := f _ _ h.di fun z => (n _ z).2.1 rfl, fa := fun x hx => (h.fa x hx).but f (fun z => ((n _ z).2.2 x hx).1 rfl) (fun z => ((n _ z).2.2 x hx).2.2 rfl) (fun z => ((n _ z).2.2 x hx).2.1 rfl) }
theorem ne_kind {H : Hp} {a b : Addr} {u v : HO} (h1 : H a = some u) (h2 : H b = some v) (n : u ≠ v) : a ≠ b := ne_of h1 h2 n
theorem DS.add {z : Str} {f : Fi} {H2 : Hp} (h : DS CD CF H p fd pw lf fs m) (hz : z ∉ fs.map (·.1)) (hl : fs.length < 10) (hS : f.S = []) (hT : f.T = []) (ho : H f.o = none) (hs : H f.sv = none) (ht : H f.tl = none) (e : Ex H H2) (hf : FAt CF H2 f) (nt : f.tl ≠ f.sv) :
    DS CD CF (upd H2 fd (.dK (fK (fs ++ [(z, f)])))) p fd pw lf (fs ++ [(z, f)]) m := by
  have hd2 := e _ _ h.di
  have st : ∀ {c : Addr} {u : HO}, H2 c = some u → (∀ kvs, u ≠ .dK kvs) → (upd H2 fd (.dK (fK (fs ++ [(z, f)])))) c = some u := fun hc n => by
    rw [upd_ne (fun z => n _ (Option.some.inj (hc.symm.trans (by rw [z]; exact hd2))))]
    exact hc
  have fst : ∀ {g : Fi}, FAt CF H2 g → FAt CF (upd H2 fd (.dK (fK (fs ++ [(z, f)])))) g := fun k => ⟨let ⟨dx, x⟩ := k.ob; ⟨dx, st x (by intro _ z; cases z)⟩, st k.hs (by intro _ z; cases z), st k.ht (by intro _ z; cases z)⟩
  have mem : ∀ {x : Str × Fi}, x ∈ fs ++ [(z, f)] → x ∈ fs ∨ x = (z, f) := fun hx => (List.mem_append.mp hx).imp id List.mem_singleton.mp
  have at' : ∀ {j : Nat} {x : Str × Fi}, (fs ++ [(z, f)])[j]? = some x → (j < fs.length ∧ fs[j]? = some x) ∨ (j = fs.length ∧ x = (z, f)) := fun {j x} hx => by
    by_cases hj : j < fs.length
    · rw [List.getElem?_append_left hj] at hx
      exact .inl ⟨hj, hx⟩
    · have hl2 := (List.getElem?_eq_some_iff.mp hx).1
      rw [List.length_append, List.length_singleton] at hl2
      have ej : j = fs.length := by omega
      subst ej
      rw [List.getElem?_append_right (Nat.le_refl _), Nat.sub_self] at hx
      exact .inr ⟨rfl, (Option.some.inj hx).symm⟩
  obtain ⟨dx, hp⟩ := h.dk
  have old : ∀ {x : Str × Fi}, x ∈ fs → x.2.o ≠ f.o ∧ x.2.tl ≠ f.tl ∧ x.2.tl ≠ f.sv ∧ f.tl ≠ x.2.sv := fun hx => by
    have k := h.fa _ hx
    obtain ⟨dx, k1⟩ := k.ob
    exact ⟨ne_of_none k1 ho, ne_of_none k.ht ht, ne_of_none k.ht hs, (ne_of_none k.hs ht).symm⟩
  refine ⟨⟨dx, st (e _ _ hp) (by intro _ z; cases z)⟩, upd_same, fun x hx => ?_, ?_, fun x hx => ?_, fun x hx => ?_, fun i j x y hx hy hn => ?_, by rw [List.length_append]; exact hl, fun x hx => ?_⟩
  · rcases mem hx with hx | rfl
    · exact fst ((h.fa x hx).mono e)
    · exact fst hf
  · rw [List.map_append]
    exact List.nodup_append.mpr ⟨h.nd, by simp, fun a ha b hb => by
      have eb : b = z := by simpa using hb
      exact fun q => hz (by rw [← eb, ← q]; exact ha)⟩
  · rcases mem hx with hx | rfl
    · exact h.po x hx
    · exact (ne_of_none hp ho).symm
  · rcases mem hx with hx | rfl
    · exact h.ts x hx
    · exact nt
  · rcases at' hx with ⟨h1, hx⟩ | ⟨h1, rfl⟩
    · rcases at' hy with ⟨h2, hy⟩ | ⟨h2, rfl⟩
      · exact h.ds i j x y hx hy hn
      · have k := old (List.mem_of_getElem? hx)
        exact ⟨k.1, k.2.1, k.2.2.1⟩
    · rcases at' hy with ⟨h2, hy⟩ | ⟨h2, rfl⟩
      · have k := old (List.mem_of_getElem? hy)
        exact ⟨k.1.symm, k.2.1.symm, k.2.2.2⟩
      · omega
  · rcases mem hx with hx | rfl
    · exact h.sz.2 x hx
    · show (cds f.S).length + (cds f.T).length + f.S.length + f.T.length ≤ m
      rw [hS, hT]
      exact Nat.zero_le _
end
theorem FAt.dk {C : Addr} {H : Hp} {f : Fi} {fd : Addr} {kvs : List (Key × V)} {u : HO} (hf : FAt C H f) (hd : H fd = some (.dK kvs)) : FAt C (upd H fd u) f := by
  obtain ⟨dx, x⟩ := hf.ob
  exact ⟨⟨dx, by rw [upd_ne (ne_of x hd (by intro z; cases z))]; exact x⟩, by rw [upd_ne (ne_of hf.hs hd (by intro z; cases z))]; exact hf.hs, by rw [upd_ne (ne_of hf.ht hd (by intro z; cases z))]; exact hf.ht⟩
theorem DkP.dk {C : Addr} {H : Hp} {p fd : Addr} {pw : Bool} {lf : V} {kvs : List (Key × V)} {u : HO} (h : DkP C H p fd pw lf) (hd : H fd = some (.dK kvs)) : DkP C (upd H fd u) p fd pw lf := by
  obtain ⟨dx, x⟩ := h
  exact ⟨dx, by rw [upd_ne (ne_of x hd (by intro z; cases z))]; exact x⟩
theorem FAt.dk2 {C : Addr} {H : Hp} {f : Fi} {fd : Addr} {od : Obj} {u v : HO} (hf : FAt C H f) (hd : H fd = some (.frz od u)) : FAt C (upd H fd v) f := by
  obtain ⟨dx, x⟩ := hf.ob
  exact ⟨⟨dx, by rw [upd_ne (ne_of x hd (by intro z; cases z))]; exact x⟩, by rw [upd_ne (ne_of hf.hs hd (by intro z; cases z))]; exact hf.hs, by rw [upd_ne (ne_of hf.ht hd (by intro z; cases z))]; exact hf.ht⟩
theorem FAt.un {C : Addr} {H : Hp} {f : Fi} {fd : Addr} {kvs : List (Key × V)} (hf : FAt C (upd H fd (.dK kvs)) f) : FAt C H f := by
  obtain ⟨dx, x⟩ := hf.ob
  have g : ∀ {a : Addr} {u : HO}, (upd H fd (.dK kvs)) a = some u → (∀ k, u ≠ .dK k) → H a = some u := fun {a u} h n => by
    by_cases e : a = fd
    · rw [e, upd_same] at h
      exact absurd (Option.some.inj h).symm (n _)
    · rw [upd_ne e] at h
      exact h
  exact ⟨⟨dx, g x (by intro _ z; cases z)⟩, g hf.hs (by intro _ z; cases z), g hf.ht (by intro _ z; cases z)⟩
/-- ''.join of a list that stands there -/
theorem ev_joinV {K : PySem.W.Frag} {σ : L2.St} {H : Hp} {to te : TE} {a : Str} {p : Addr} {ys : List Str} (h0 : Ev to σ H (.str a)) (h : Ev te σ H (.ref p)) (hp : H p = some (.lst (ys.map V.str))) (hz : (ys.map (·.length)).sum + ys.length * a.length ≤ 16777216) :
    Ev (tM1 (fun x xs H Q => ∃ a p, ∃ ys : List Str, x = .str a ∧ xs = [.ref p] ∧ (SqL K H p (ys.map V.str) ∨ SqT K H p (ys.map V.str)) ∧ (ys.map (·.length)).sum + ys.length * a.length ≤ 16777216 ∧ Q (.str (Txt.join a ys)) H) to te) σ H (.str (Txt.join a ys)) :=
  fun H1 e Q q => h0 H1 e _ fun H2 e2 => ⟨⟨a, rfl⟩, h H2 (e.trans e2) _ fun H3 e3 => ⟨a, p, ys, rfl, rfl, .inl (sq_of (((e.trans e2).trans e3) _ _ hp)), hz, q H3 (e2.trans e3)⟩⟩
theorem jn_sz {ys : List Str} (h : (cds ys).length ≤ 16000000) : (ys.map (·.length)).sum + ys.length * (Str.ofString "").length ≤ 16777216 := by
  rw [sum_cds, show (Str.ofString "").length = 0 from by decide +kernel]
  omega
/-- one file saved -/
theorem DS.save {CD CF : Addr} {H H' : Hp} {p fd : Addr} {pw : Bool} {lf : V} {fs : List (Str × Fi)} {m i : Nat} {z : Str} {f f' : Fi} {c : List Nat} (D : DS CD CF H p fd pw lf fs m) (hi : fs[i]? = some (z, f)) (fo : f'.o = f.o) (fS : f'.S = [Vt.mk c]) (fT : f'.T = []) (nt : f'.tl ≠ f'.sv) (hsv : H f'.sv = none) (htl : H f'.tl = none) (hf : FAt CF H' f') (fb : But [f.o] H H')
    (hc : c.length ≤ (cds f.S).length + (cds f.T).length) : DS CD CF H' p fd pw lf (fs.set i (z, f')) (m + 1) ∧ Fr fs (fs.set i (z, f')) p fd H H' := by
  have kf := D.fa _ (List.mem_of_getElem? hi)
  obtain ⟨dxo, ho⟩ := kf.ob
  obtain ⟨dxp, hp⟩ := D.dk
  have nl : ∀ {a : Addr} {u : HO}, H a = some u → (∀ C dx fs, u ≠ .ins C dx fs) → a ∉ [f.o] := fun {a u} h n y => by
    obtain rfl := List.mem_singleton.mp y
    exact n _ _ _ (Option.some.inj (h.symm.trans ho))
  have hsz : (cds f.S).length + (cds f.T).length + f.S.length + f.T.length ≤ m := D.sz.2 _ (List.mem_of_getElem? hi)
  refine ⟨D.set hi fo hf nt (fun j y hy hn => ?_) (fb _ _ D.di (nl D.di (by intro _ _ _ y; cases y))) ⟨dxp, fb _ _ hp fun y => D.po _ (List.mem_of_getElem? hi) (List.mem_singleton.mp y).symm⟩ (by omega) ?_, fun a u ha h1 h2 ho' => ?_⟩
  · have o1 := D.ds i j _ _ hi hy hn
    have ky := D.fa _ (List.mem_of_getElem? hy)
    exact ⟨ky.but fb (fun y => o1.1 (List.mem_singleton.mp y).symm) (nl ky.hs (by intro _ _ _ y; cases y)) (nl ky.ht (by intro _ _ _ y; cases y)), (ne_of_none ky.ht htl).symm, (ne_of_none ky.hs htl).symm, ne_of_none ky.ht hsv⟩
  · rw [fS, fT, cds_one, cds_nil]
    show c.length + 0 + 1 + 0 ≤ m + 1
    omega
  · have o1 := ho' _ (List.mem_of_getElem? hi)
    refine ⟨fb _ _ ha fun y => o1.1 (List.mem_singleton.mp y), fun x hx => ?_⟩
    obtain ⟨j, hj⟩ := List.getElem?_of_mem hx
    rw [List.getElem?_set] at hj
    split at hj
    · split at hj
      · obtain rfl := Option.some.inj hj
        exact ⟨by show a ≠ f'.o; rw [fo]; exact o1.1, ne_of_none ha htl, ne_of_none ha hsv⟩
      · cases hj
    · exact ho' x (List.mem_of_getElem? hj)
theorem cont_len_le {CD CF : Addr} {H : Hp} {p fd : Addr} {pw : Bool} {lf : V} {fs : List (Str × Fi)} {m i : Nat} {z : Str} {f : Fi} (D : DS CD CF H p fd pw lf fs m) (hi : fs[i]? = some (z, f)) : (cds f.S).length + (cds f.T).length + f.S.length + f.T.length ≤ m := D.sz.2 _ (List.mem_of_getElem? hi)
/-! ### the disk's deeds on what it holds -/
def upC (cs : List Cn) (z : Str) (F : List Nat → List Nat → List Nat × List Nat) : List Cn := cs.map fun x => if x.1 = z then (x.1, F x.2.1 x.2.2) else x
theorem q_dropK {te : TE} {tz : TS} {σ : L2.St} {H : Hp} {D : Ends} (h : te σ H fun _ H1 => tz D σ H1) : tSeq (tDrop te) tz D σ H := h
theorem upC_set {cs : List Cn} {i : Nat} {z : Str} {a b : List Nat} {F : List Nat → List Nat → List Nat × List Nat} (nd : (cs.map (·.1)).Nodup) (h : cs[i]? = some (z, a, b)) : upC cs z F = cs.set i (z, F a b) := by
  have hn : (cs.map (·.1))[i]? = some z := by rw [List.getElem?_map, h] <;> rfl
  have hl := (List.getElem?_eq_some_iff.mp h).1
  unfold upC
  refine List.ext_getElem? fun j => ?_
  rw [List.getElem?_map, List.getElem?_set]
  by_cases e : i = j
  · subst e
    rw [if_pos rfl, if_pos hl, h]
    show some (if z = z then _ else _) = _
    rw [if_pos rfl]
  · rw [if_neg e]
    cases hj : cs[j]? with
    | none => rfl
    | some x =>
      show some (if x.1 = z then _ else x) = _
      rw [if_neg fun q => e ?_]
      have hnj : (cs.map (·.1))[j]? = some z := by rw [List.getElem?_map, hj, ← q] <;> rfl
      rw [← posZ_uniq nd hn, ← posZ_uniq nd hnj]
theorem upC_no {cs : List Cn} {z : Str} {F : List Nat → List Nat → List Nat × List Nat} (h : z ∉ cs.map (·.1)) : upC cs z F = cs := by
  unfold upC
  refine (List.map_congr_left fun x hx => ?_).trans (List.map_id _)
  rw [if_neg fun q => h (List.mem_map.mpr ⟨x, hx, q⟩)] <;> rfl
theorem cont_names (fs : List (Str × Fi)) : (cont fs).map (·.1) = fs.map (·.1) := by unfold cont; rw [List.map_map] <;> rfl
theorem cont_set {fs : List (Str × Fi)} {i : Nat} {z : Str} {f f' : Fi} {F : List Nat → List Nat → List Nat × List Nat} (nd : (fs.map (·.1)).Nodup) (h : fs[i]? = some (z, f)) (hF : F (cds f.S) (cds f.T) = (cds f'.S, cds f'.T)) : cont (fs.set i (z, f')) = upC (cont fs) z F := by
  rw [upC_set (i := i) (a := cds f.S) (b := cds f.T) (by rw [cont_names]; exact nd) (by unfold cont; rw [List.getElem?_map, h] <;> rfl), hF]
  unfold cont
  rw [List.map_set]
/-- written: a new file, or more at the end -/
def wrC (cs : List Cn) (z : Str) (t : List Nat) : List Cn := if z ∈ cs.map (·.1) then upC cs z (fun a b => (a, b ++ t)) else cs ++ [(z, [], t)]

def spCP (C CP : Addr) : Sp := fun vs H Q E => ∃ (p fd : Addr) (pw : Bool) (lf : V), vs = [.ref p] ∧ DkP C H p fd pw lf ∧ (pw = true → ∀ H', Ex H H' → Q .non H') ∧ (pw = false → ∀ H', Ex H H' → E (.ref CP) none H')
theorem ok_Disk__check_power_any (T : Txt K mg) : FnOk P w K mg base (L2N.CX P w) 1 T.f_Disk__check_power T.d_Disk__check_power ["self"] (spCP T.C_Disk T.C_PowerLost) := by
  refine okN T.F_Disk__check_power sc_Disk__check_power (fun vs H Q E h => ?_) (fun cdv A outer s H vs Q E hr h => ?_)
  · obtain ⟨p, fd, pw, lf, rfl, _⟩ := h
    rfl
  · obtain ⟨p, fd, pw, lf, rfl, hk, q, x⟩ := h
    refine ⟨_, pss_one (ps_if (pt_not (pt_val (pe_fld (pv 0) rfl)))
      (pss_one (L2N.ps_raise rfl (L2N.takes_of rfl rfl rfl rfl) (pmk_retN rfl (pe_exc1 PySem.F.excBase_ValueError T.e_PowerLost.x T.e_PowerLost.g T.e_PowerLost.kp (by rfl) (pe_str)))))
      (pss_nil)), ?_⟩
    refine s_when (b := !pw) (et_not (et_B (ev_dk (ev_var rfl) hk T.cl_Disk T.na_Disk__powered (dF_p _ _ _)))) (fun hb H1 e1 => ?_) (fun hb H1 e1 => q (by simpa using hb) H1 e1)
    exact s_raiseV (v := .str (Str.ofString "the power is off")) ev_c (L2.raises_own T.e_PowerLost.b T.e_PowerLost.t) fun H2 e2 => ⟨e1.trans e2, x (by simpa using hb) H2 (e1.trans e2)⟩


/-! ### Disk._begin_operation -/
def spBO (C CP : Addr) : Sp := fun vs H Q E => ∃ (p fd : Addr) (pw : Bool) (lf : Option Int), vs = [.ref p] ∧ DkP C H p fd pw (lfV lf) ∧ (∀ n, lf = some n → -1000 ≤ n ∧ n ≤ 100000000000) ∧ ((opL pw lf).1 = true → ∀ H', DkP C H' p fd true (lfV (opL pw lf).2) → But [p] H H' → Q .non H') ∧ ((opL pw lf).1 = false → ∀ H', DkP C H' p fd false (lfV (opL pw lf).2) → But [p] H H' → E (.ref CP) none H')
theorem ok_Disk__begin_operation_any (T : Txt K mg) : FnOk P w K mg base (L2N.CX P w) 2 T.f_Disk__begin_operation T.d_Disk__begin_operation ["self"] (spBO T.C_Disk T.C_PowerLost) := by
  refine okN T.F_Disk__begin_operation sc_Disk__begin_operation (fun vs H Q E h => ?_) (fun cdv A outer s H vs Q E hr h => ?_)
  · obtain ⟨p, fd, pw, lf, rfl, _⟩ := h
    rfl
  · obtain ⟨p, fd, pw, lf, rfl, hk, hb, q, x⟩ := h
    refine ⟨_, pss_cons (ps_if (pt_cmpR op_eq (pe_fld (pv 0) rfl) (pe_int) (nomark _))
      (pss_one (ps_fld (pv 0) (pe_bl) rfl))
      (pss_one (ps_if (pt_cmpR op_notN (pe_fld (pv 0) rfl) (pe_non) (nomark _))
      (pss_one (ps_fldaug (pv 0) (pe_int) in_sub))
      (pss_nil))))
      (pss_one (ps_expr (pe_meth0 (pv 0) T.cl_Disk T.me_Disk__check_power (ok_Disk__check_power_any T) (hr.mono (by first | decide | omega)) T.b_Disk__check_power .nil (L2N.passes_call (L2N.takes_of rfl rfl rfl rfl) fun _ _ _ _ h => h)))), ?_⟩
    have dn : ∀ (pw : Bool) (lf : V), (dF fd pw lf).lookup ("_check_power" : Str) = none := fun pw lf => dF_no fd pw lf (by decide +kernel) (by decide +kernel) (by decide +kernel)
    cases lf with
    | none =>
      refine q_if (b := false) (et_is (et_test (ev_op (ev_dk (ev_var rfl) hk T.cl_Disk T.na_Disk__left (dF_l _ _ _)) ev_c (rv_eq rfl))) (by rfl)) (fun z => nomatch z) fun _ H1 e1 => ?_
      refine s_when (b := false) (et_is (et_test (ev_isnt (ev_dk (ev_var rfl) (hk.mono e1) T.cl_Disk T.na_Disk__left (dF_l _ _ _)))) (by rfl)) (fun z => nomatch z) fun _ H2 e2 => ?_
      have hk2 := (hk.mono e1).mono e2
      obtain ⟨dx, hp⟩ := id hk2
      refine ⟨_, rfl, p, dx, _, rfl, hp, dn _ _, p, fd, pw, _, rfl, hk2, fun hw H3 e3 => ?_, fun hw H3 e3 => ?_⟩
      · subst hw
        exact q rfl H3 (hk2.mono e3) (But.of ((e1.trans e2).trans e3))
      · subst hw
        exact x rfl H3 (hk2.mono e3) (But.of ((e1.trans e2).trans e3))
    | some n =>
      have hbn := hb n rfl
      by_cases h0 : n = 0
      · subst h0
        refine q_if (b := true) (et_is (et_test (ev_op (ev_dk (ev_var rfl) hk T.cl_Disk T.na_Disk__left (dF_l _ _ _)) ev_c (rv_eq rfl))) (by rfl)) (fun _ H1 e1 => ?_) (fun z => nomatch z)
        obtain ⟨dx, hp⟩ := hk.mono e1
        refine ⟨_, rfl, p, T.C_Disk, dx, _, rfl, hp, T.cl_Disk, T.na_Disk__powered, (by show 3 < 1000; decide), ?_⟩
        rw [dF_pp]
        have hk2 : DkP T.C_Disk (upd H1 p (.ins T.C_Disk dx (dF fd false (lfV (some 0))))) p fd false (lfV (some 0)) := ⟨dx, upd_same⟩
        refine ⟨_, rfl, p, dx, _, rfl, upd_same, dn _ _, p, fd, false, _, rfl, hk2, (fun z => nomatch z), fun hw H3 e3 => ?_⟩
        exact x rfl H3 (hk2.mono e3) (((But.of e1).trans (But.put (List.mem_singleton.mpr rfl))).trans (But.of e3))
      · have eo : opL pw (some n) = (pw, some (n - 1)) := by simp only [opL, if_neg h0]
        rw [eo] at q x
        refine q_if (b := false) (et_is (et_test (ev_op (ev_dk (ev_var rfl) hk T.cl_Disk T.na_Disk__left (dF_l _ _ _)) ev_c (rv_eq rfl))) (by show decide (V.int n = V.int 0) = false; exact decide_eq_false fun z => h0 (V.int.inj z))) (fun z => nomatch z) fun _ H1 e1 => ?_
        refine s_when (b := true) (et_is (et_test (ev_isnt (ev_dk (ev_var rfl) (hk.mono e1) T.cl_Disk T.na_Disk__left (dF_l _ _ _)))) (by rfl)) (fun _ H2 e2 => ?_) (fun z => nomatch z)
        obtain ⟨dx, hp⟩ := (hk.mono e1).mono e2
        refine ⟨_, rfl, p, T.C_Disk, dx, _, _, rfl, hp, T.cl_Disk, T.na_Disk__left, dF_l _ _ _, n, 1, rfl, rfl, dx, _, hp, (by show 3 < 1000; decide), ?_⟩
        rw [dF_pl]
        have hk2 : DkP T.C_Disk (upd H2 p (.ins T.C_Disk dx (dF fd pw (V.int (n - 1))))) p fd pw (lfV (some (n - 1))) := ⟨dx, upd_same⟩
        have fb : ∀ {H3 : Hp}, Ex (upd H2 p (.ins T.C_Disk dx (dF fd pw (V.int (n - 1))))) H3 → But [p] H H3 := fun e3 => ((But.of (e1.trans e2)).trans (But.put (List.mem_singleton.mpr rfl))).trans (But.of e3)
        refine ⟨_, rfl, p, dx, _, rfl, upd_same, dn _ _, p, fd, pw, _, rfl, hk2, fun hw H3 e3 => ?_, fun hw H3 e3 => ?_⟩
        · subst hw
          exact q rfl H3 (hk2.mono e3) (fb e3)
        · subst hw
          exact x rfl H3 (hk2.mono e3) (fb e3)


/-! ### Disk.write -/
def spWr (CD CF CP : Addr) : Sp := fun vs H Q E => ∃ (p fd : Addr) (pw : Bool) (lf : Option Int) (fs : List (Str × Fi)) (m : Nat) (z : Str) (t : List Nat), vs = [.ref p, .str z, .str (mk t)] ∧ DS CD CF H p fd pw (lfV lf) fs m ∧ (∀ n, lf = some n → -1000 ≤ n ∧ n ≤ 100000000000) ∧ m ≤ 10000 ∧ fs.length < 10 ∧
  ((opL pw lf).1 = true → ∀ fs' H', DS CD CF H' p fd true (lfV (opL pw lf).2) fs' (m + t.length + 1) → cont fs' = wrC (cont fs) z t → Fr fs fs' p fd H H' → Q .non H') ∧ ((opL pw lf).1 = false → ∀ H', DS CD CF H' p fd false (lfV (opL pw lf).2) fs m → But [p] H H' → E (.ref CP) none H')
theorem ok_Disk_write_any (T : Txt K mg) : FnOk P w K mg base (L2N.CX P w) 3 T.f_Disk_write T.d_Disk_write ["self", "name", "text"] (spWr T.C_Disk T.C_StoredFile T.C_PowerLost) := by
  refine okN T.F_Disk_write sc_Disk_write (fun vs H Q E h => ?_) (fun cdv A outer s H vs Q E hr h => ?_)
  · obtain ⟨p, fd, pw, lf, fs, m, z, t, rfl, _⟩ := h
    rfl
  · obtain ⟨p, fd, pw, lf, fs, m, z, t, rfl, hD, hb, hm, hfl, q, x⟩ := h
    have hu := hu_of hr
    refine ⟨_, pss_cons (ps_expr (pe_meth0 (pv 0) T.cl_Disk T.me_Disk__begin_operation (ok_Disk__begin_operation_any T) (hr.mono (by first | decide | omega)) T.b_Disk__begin_operation .nil (L2N.passes_call (L2N.takes_of rfl rfl rfl rfl) fun _ _ _ _ h => h)))
      (pss_cut (ps_if (pt_cmp (pc_dnotin hu (pv 1) (pe_fld (pv 0) rfl)))
      (pss_one (ps_dput hu (pe_fld (pv 0) rfl) (pv 1) (pe_make0 T.mk_StoredFile (ok_StoredFile___init T) (hr.mono (by first | decide | omega)) (by rfl) T.g_StoredFile T.b_StoredFile___init .nil pass0) rfl))
      (pss_nil))
      (pss_one (ps_expr (pe_bm PySem.F.plainAttrs_list PySem.F.slot_list_append PySem.F.type_list_append mt_append (pe_fld (pe_dget hu (pe_fld (pv 0) rfl) (pv 1) (fun _ _ => rfl)) rfl) (pa_cons (pv 2) (pa_nil)))))), ?_⟩
    obtain ⟨dx, hp⟩ := hD.dk
    refine q_dropK ⟨_, rfl, p, dx, _, rfl, hp, dF_no fd pw (lfV lf) (by decide +kernel) (by decide +kernel) (by decide +kernel), p, fd, pw, lf, rfl, ⟨dx, hp⟩, hb, fun ho H1 hk1 f1 => ?_, fun ho H1 hk1 f1 => x ho H1 (hD.fld f1 hk1) f1⟩
    have D1 := hD.fld f1 hk1
    have q1 := q ho
    obtain ⟨lf2, hlf2⟩ : ∃ lf2, lf2 = lfV (opL pw lf).2 := ⟨_, rfl⟩
    rw [← hlf2] at hk1 D1 q1
    refine q_cut (M := fun σ' H' => σ' = [some (.ref p), some (.str z), some (.str (mk t))] ∧ ∃ fs1, DS T.C_Disk T.C_StoredFile H' p fd true lf2 fs1 m ∧ (∃ (i : Nat) (f : Fi), fs1[i]? = some (z, f)) ∧ Fr fs fs1 p fd H H' ∧ upC (cont fs1) z (fun a b => (a, b ++ t)) = wrC (cont fs) z t) ?_ fun σ' H' hM => ?_
    · rcases name_cases fs z with hz | ⟨i, f, hi⟩
      · refine s_when (b := true) (et_B (ev_is (ev_dnin (k := Sum.inr z) (ev_var rfl) (ev_dk (ev_var rfl) D1.dk T.cl_Disk T.na_Disk__files (dF_f _ _ _)) D1.di) (by rw [fK_no hz] <;> rfl))) (fun _ H2 e2 => ?_) (fun z => nomatch z)
        have D2 := D1.mono e2
        intro o dx0 x1 x2 x3
        refine ⟨o, dx0, rfl, upd_same, fun f H3 fo fS fT nt hsv htl hf f3 => ⟨rfl, ?_⟩⟩
        subst fo
        have e3 : Ex H2 H3 := fun c u h => f3 c u (by rw [upd_ne (ne_of_none h x1), upd_ne (ne_of_none h x2)]; exact h) fun y => ne_of_none h x1 (List.mem_singleton.mp y)
        have nn : ∀ {a : Addr} {u v : HO}, (upd (upd H2 dx0 u) f.o v) a = none → H2 a = none := fun {a u v} ha => by
          have h1 : a ≠ f.o := fun y => by rw [y, upd_same] at ha; cases ha
          rw [upd_ne h1] at ha
          have h2 : a ≠ dx0 := fun y => by rw [y, upd_same] at ha; cases ha
          rw [upd_ne h2] at ha
          exact ha
        have D3 := D2.add hz hfl fS fT x1 (nn hsv) (nn htl) e3 hf nt
        obtain ⟨dxp, hp3⟩ := (D2.mono e3).dk
        refine ⟨_, rfl, p, T.C_Disk, dxp, _, _, rfl, hp3, T.cl_Disk, T.na_Disk__files, dF_f _ _ _, _, rfl, fd, _, rfl, DPut.k (k := Sum.inr z) (e3 _ _ D2.di) (szk (by unfold fK; rw [List.length_map]; omega)), ?_⟩
        have ek : putK (fK fs) (Sum.inr z : Key) (.ref f.o) = fK (fs ++ [(z, f)]) := by
          rw [putK_new _ (fK_no hz)]
          unfold fK
          rw [List.map_append] <;> rfl
        rw [ek]
        refine ⟨rfl, fs ++ [(z, f)], D3, ⟨fs.length, f, by rw [List.getElem?_append_right (Nat.le_refl _), Nat.sub_self] <;> rfl⟩, fun c u hc h1 h2 ho => ?_, ?_⟩
        · have hc2 := e2 _ _ (f1 c u hc fun y => h1 (List.mem_singleton.mp y))
          refine ⟨by rw [upd_ne h2]; exact e3 _ _ hc2, fun x hx => ?_⟩
          rcases List.mem_append.mp hx with hx | hx
          · exact ho x hx
          · rw [List.mem_singleton.mp hx]
            exact ⟨ne_of_none hc2 x1, ne_of_none hc2 (nn htl), ne_of_none hc2 (nn hsv)⟩
        · have hzc : z ∉ (cont fs).map (·.1) := by rw [cont_names]; exact hz
          have ec : cont (fs ++ [(z, f)]) = cont fs ++ [(z, [], [])] := by
            unfold cont
            rw [List.map_append]
            show _ ++ [(z, cds f.S, cds f.T)] = _
            rw [fS, fT] <;> rfl
          rw [ec]
          unfold wrC
          rw [if_neg hzc]
          unfold upC
          rw [List.map_append]
          have := upC_no (F := fun a b => (a, b ++ t)) hzc
          unfold upC at this
          rw [this]
          simp
      · refine s_when (b := false) (et_B (ev_is (ev_dnin (k := Sum.inr z) (ev_var rfl) (ev_dk (ev_var rfl) D1.dk T.cl_Disk T.na_Disk__files (dF_f _ _ _)) D1.di) (by rw [fK_at D1.nd hi] <;> rfl))) (fun z => nomatch z) fun _ H2 e2 => ⟨rfl, fs, D1.mono e2, ⟨i, f, hi⟩, (Fr.of f1).trans (Fr.ex e2), ?_⟩
        unfold wrC
        rw [if_pos (by rw [cont_names]; exact List.mem_map.mpr ⟨_, List.mem_of_getElem? hi, rfl⟩)]
    · obtain ⟨rfl, fs1, D, ⟨i, f, hi⟩, hF, hw⟩ := hM
      have kf := D.fa _ (List.mem_of_getElem? hi)
      obtain ⟨dxo, ho⟩ := kf.ob
      have hsz := D.sz.2 _ (List.mem_of_getElem? hi)
      have hsz : (cds f.S).length + (cds f.T).length + f.S.length + f.T.length ≤ m := hsz
      refine s_appZ (K := K) (v := .str (mk t)) kf.ht (ev_tl (ev_dgetK (k := Sum.inr z) (ev_dk (ev_var rfl) D.dk T.cl_Disk T.na_Disk__files (dF_f _ _ _)) (ev_var rfl) D.di (fK_at D.nd hi)) kf T.cl_StoredFile T.na_StoredFile_tail) (ev_var rfl) (sz_lt (by rw [List.length_map]; omega)) fun H5 e5 => ?_
      have D5 := D.mono e5
      obtain ⟨dxp, hp5⟩ := D5.dk
      have kf5 := D5.fa _ (List.mem_of_getElem? hi)
      have fb : But [f.tl] H5 (upd H5 f.tl (.lst (f.T.map V.str ++ [.str (mk t)]))) := But.put (List.mem_singleton.mpr rfl)
      have nl : ∀ {c : Addr} {u : HO}, H5 c = some u → (∀ xs, u ≠ .lst xs) → c ∉ [f.tl] := fun {c u} h n y => by
        obtain rfl := List.mem_singleton.mp y
        exact n _ (Option.some.inj (h.symm.trans kf5.ht))
      have nts := D5.ts _ (List.mem_of_getElem? hi)
      have et : f.T.map V.str ++ [V.str (mk t)] = (f.T ++ [mk t]).map V.str := by rw [List.map_append] <;> rfl
      rw [et] at fb ⊢
      have D6 := D5.set (f' := { f with T := f.T ++ [mk t] }) (H' := upd H5 f.tl (.lst ((f.T ++ [mk t]).map V.str))) (m' := m + t.length + 1) hi rfl
        ⟨let ⟨dx, x⟩ := kf5.ob; ⟨dx, fb _ _ x (nl x (by intro _ y; cases y))⟩, fb _ _ kf5.hs (fun y => nts (List.mem_singleton.mp y).symm), upd_same⟩ nts
        (fun j y hy hn => by
          have o1 := D5.ds i j _ _ hi hy hn
          have o2 := D5.ds j i _ _ hy hi hn.symm
          have ky := D5.fa _ (List.mem_of_getElem? hy)
          obtain ⟨dxy, hoy⟩ := ky.ob
          exact ⟨ky.but fb (nl hoy (by intro _ y; cases y)) (fun y => o1.2.2 (List.mem_singleton.mp y).symm) (fun y => o1.2.1 (List.mem_singleton.mp y).symm), o1.2.1, o1.2.2, o2.2.2⟩)
        (fb _ _ D5.di (nl D5.di (by intro _ y; cases y))) ⟨dxp, fb _ _ hp5 (nl hp5 (by intro _ y; cases y))⟩ (by omega)
        (by
          show (cds f.S).length + (cds (f.T ++ [mk t])).length + f.S.length + (f.T ++ [mk t]).length ≤ _
          rw [cds_app, cds_one, List.length_append, List.length_append, List.length_singleton]
          omega)
      refine q1 _ _ D6 ?_ fun c u hc h1 h2 ho => ?_
      · rw [cont_set (F := fun a b => (a, b ++ t)) D5.nd hi (by show (cds f.S, cds f.T ++ t) = (cds f.S, cds (f.T ++ [mk t])); rw [cds_app, cds_one])]
        exact hw
      · obtain ⟨hc1, ho1⟩ := hF c u hc h1 h2 ho
        have := ho1 _ (List.mem_of_getElem? hi)
        refine ⟨by rw [upd_ne this.2.1]; exact e5 _ _ hc1, fun x hx => ?_⟩
        obtain ⟨j, hj⟩ := List.getElem?_of_mem hx
        rw [List.getElem?_set] at hj
        split at hj
        · split at hj
          · obtain rfl := Option.some.inj hj
            exact this
          · cases hj
        · exact ho1 x (List.mem_of_getElem? hj)
def spWr0 (CD CF : Addr) : Sp := fun vs H Q _ => ∃ (p fd : Addr) (pw : Bool) (lf : Option Int) (fs : List (Str × Fi)) (m : Nat) (z : Str) (t : List Nat), vs = [.ref p, .str z, .str (mk t)] ∧ DS CD CF H p fd pw (lfV lf) fs m ∧ (∀ n, lf = some n → -1000 ≤ n ∧ n ≤ 100000000000) ∧ m ≤ 10000 ∧ fs.length < 10 ∧ (opL pw lf).1 = true ∧
  ∀ fs' H', DS CD CF H' p fd true (lfV (opL pw lf).2) fs' (m + t.length + 1) → cont fs' = wrC (cont fs) z t → Fr fs fs' p fd H H' → Q .non H'
theorem ok_Disk_write (T : Txt K mg) : FnOk P w K mg base CX0 3 T.f_Disk_write T.d_Disk_write ["self", "name", "text"] (spWr0 T.C_Disk T.C_StoredFile) := (ok_Disk_write_any T).calm fun vs H Q E ⟨p, fd, pw, lf, fs, m, z, t, e, hD, hb, hm, hl, hw, q⟩ => ⟨p, fd, pw, lf, fs, m, z, t, e, hD, hb, hm, hl, fun _ => q, fun h => by rw [hw] at h; cases h⟩


/-! ### Disk.sync -/
def spSy (CD CF CP : Addr) : Sp := fun vs H Q E => ∃ (p fd : Addr) (pw : Bool) (lf : Option Int) (fs : List (Str × Fi)) (m : Nat) (z : Str), vs = [.ref p, .str z] ∧ DS CD CF H p fd pw (lfV lf) fs m ∧ (∀ n, lf = some n → -1000 ≤ n ∧ n ≤ 100000000000) ∧ m ≤ 10000 ∧
  ((opL pw lf).1 = true → ∀ fs' H', DS CD CF H' p fd true (lfV (opL pw lf).2) fs' (m + 1) → cont fs' = upC (cont fs) z (fun a b => (a ++ b, [])) → Fr fs fs' p fd H H' → Q .non H') ∧ ((opL pw lf).1 = false → ∀ H', DS CD CF H' p fd false (lfV (opL pw lf).2) fs m → But [p] H H' → E (.ref CP) none H')
theorem ok_Disk_sync_any (T : Txt K mg) : FnOk P w K mg base (L2N.CX P w) 3 T.f_Disk_sync T.d_Disk_sync ["self", "name"] (spSy T.C_Disk T.C_StoredFile T.C_PowerLost) := by
  refine okN T.F_Disk_sync sc_Disk_sync (fun vs H Q E h => ?_) (fun cdv A outer s H vs Q E hr h => ?_)
  · obtain ⟨p, fd, pw, lf, fs, m, z,  rfl, _⟩ := h
    rfl
  · obtain ⟨p, fd, pw, lf, fs, m, z,  rfl, hD, hb, hm, q, x⟩ := h
    have hu := hu_of hr
    refine ⟨_, pss_cons (ps_expr (pe_meth0 (pv 0) T.cl_Disk T.me_Disk__begin_operation (ok_Disk__begin_operation_any T) (hr.mono (by first | decide | omega)) T.b_Disk__begin_operation .nil (L2N.passes_call (L2N.takes_of rfl rfl rfl rfl) fun _ _ _ _ h => h)))
      (pss_one (ps_if (pt_cmp (pc_din hu (pv 1) (pe_fld (pv 0) rfl)))
      (pss_one (ps_expr (pe_call (ok_save T) (hr.mono (by first | decide | omega)) (by rfl) T.g_save T.F_save.kp T.b_save .nil pass0 (pa_cons (pe_dget hu (pe_fld (pv 0) rfl) (pv 1) (fun _ _ => rfl)) (pa_cons (pe_call (ok_text_of T) (hr.mono (by first | decide | omega)) (by rfl) T.g_text_of T.F_text_of.kp T.b_text_of .nil pass0 (pa_cons (pe_dget hu (pe_fld (pv 0) rfl) (pv 1) (fun _ _ => rfl)) (pa_nil))) (pa_nil))))))
      (pss_nil))), ?_⟩
    obtain ⟨dx, hp⟩ := hD.dk
    refine q_dropK ⟨_, rfl, p, dx, _, rfl, hp, dF_no fd pw (lfV lf) (by decide +kernel) (by decide +kernel) (by decide +kernel), p, fd, pw, lf, rfl, ⟨dx, hp⟩, hb, fun ho H1 hk1 f1 => ?_, fun ho H1 hk1 f1 => x ho H1 (hD.fld f1 hk1) f1⟩
    have D1 := hD.fld f1 hk1
    have q1 := q ho
    obtain ⟨lf2, hlf2⟩ : ∃ lf2, lf2 = lfV (opL pw lf).2 := ⟨_, rfl⟩
    rw [← hlf2] at hk1 D1 q1
    rcases name_cases fs z with hz | ⟨i, f, hi⟩
    · refine s_when (b := false) (et_B (ev_is (ev_din (k := Sum.inr z) (ev_var rfl) (ev_dk (ev_var rfl) D1.dk T.cl_Disk T.na_Disk__files (dF_f _ _ _)) D1.di) (by rw [fK_no hz] <;> rfl))) (fun z => nomatch z) fun _ H2 e2 => ?_
      exact q1 fs H2 ((D1.mono e2).le (Nat.le_succ _)) (upC_no (by rw [cont_names]; exact hz)).symm ((Fr.of f1).trans (Fr.ex e2))
    · refine s_when (b := true) (et_B (ev_is (ev_din (k := Sum.inr z) (ev_var rfl) (ev_dk (ev_var rfl) D1.dk T.cl_Disk T.na_Disk__files (dF_f _ _ _)) D1.di) (by rw [fK_at D1.nd hi] <;> rfl))) (fun _ H2 e2 => ?_) (fun z => nomatch z)
      have hsz := cont_len_le D1 hi
      have fl : ∀ {H' : Hp}, Ex H1 H' → Ev (tDGet (tFld K (tVar 0) "_files") (tVar 1)) [some (.ref p), some (.str z)] H' (.ref f.o) := fun e => ev_dgetK (k := Sum.inr z) (ev_dk (ev_var rfl) (D1.mono e).dk T.cl_Disk T.na_Disk__files (dF_f _ _ _)) (ev_var rfl) (D1.mono e).di (fK_at D1.nd hi)
      refine call_run (cons_run (ev_run (fl e2) fun H3 e3 => cons_run (ev_run (ev_call (ea_cons (fl (e2.trans e3)) ea_nil) (cv_to ((D1.mono (e2.trans e3)).fa _ (List.mem_of_getElem? hi)) (by omega) (by omega))) fun H4 e4 => ?_)))
      have E4 := (e2.trans e3).trans e4
      have D4 := D1.mono E4
      refine ⟨f, mk (cds f.S ++ cds f.T), rfl, D4.fa _ (List.mem_of_getElem? hi), fun f' H5 fo fS fT nt hsv htl hf fb => ?_⟩
      obtain ⟨D5, fr5⟩ := D4.save (c := cds f.S ++ cds f.T) hi fo fS fT nt hsv htl hf fb (by rw [List.length_append]; exact Nat.le_refl _)
      refine q1 _ _ D5 (cont_set (F := (fun a b => (a ++ b, []))) D4.nd hi ?_) (((Fr.of f1).trans (Fr.ex E4)).trans fr5)
      show (cds f.S ++ cds f.T, ([] : List Nat)) = _
      rw [fS, fT, cds_one, cds_nil]
def spSy0 (CD CF : Addr) : Sp := fun vs H Q _ => ∃ (p fd : Addr) (pw : Bool) (lf : Option Int) (fs : List (Str × Fi)) (m : Nat) (z : Str), vs = [.ref p, .str z] ∧ DS CD CF H p fd pw (lfV lf) fs m ∧ (∀ n, lf = some n → -1000 ≤ n ∧ n ≤ 100000000000) ∧ m ≤ 10000 ∧ (opL pw lf).1 = true ∧
  ∀ fs' H', DS CD CF H' p fd true (lfV (opL pw lf).2) fs' (m + 1) → cont fs' = upC (cont fs) z (fun a b => (a ++ b, [])) → Fr fs fs' p fd H H' → Q .non H'
theorem ok_Disk_sync (T : Txt K mg) : FnOk P w K mg base CX0 3 T.f_Disk_sync T.d_Disk_sync ["self", "name"] (spSy0 T.C_Disk T.C_StoredFile) := (ok_Disk_sync_any T).calm fun vs H Q E ⟨p, fd, pw, lf, fs, m, z, e, hD, hb, hm, hw, q⟩ => ⟨p, fd, pw, lf, fs, m, z, e, hD, hb, hm, fun _ => q, fun h => by rw [hw] at h; cases h⟩


/-! ### Disk.cut -/
def spCu (CD CF CP : Addr) : Sp := fun vs H Q E => ∃ (p fd : Addr) (pw : Bool) (lf : Option Int) (fs : List (Str × Fi)) (m : Nat) (z : Str) (n : Nat), vs = [.ref p, .str z, .int (n : Int)] ∧ DS CD CF H p fd pw (lfV lf) fs m ∧ (∀ n, lf = some n → -1000 ≤ n ∧ n ≤ 100000000000) ∧ m ≤ 10000 ∧
  ((opL pw lf).1 = true → ∀ fs' H', DS CD CF H' p fd true (lfV (opL pw lf).2) fs' (m + 1) → cont fs' = upC (cont fs) z (fun a b => ((a ++ b).take n, [])) → Fr fs fs' p fd H H' → Q .non H') ∧ ((opL pw lf).1 = false → ∀ H', DS CD CF H' p fd false (lfV (opL pw lf).2) fs m → But [p] H H' → E (.ref CP) none H')
theorem ok_Disk_cut_any (T : Txt K mg) : FnOk P w K mg base (L2N.CX P w) 3 T.f_Disk_cut T.d_Disk_cut ["self", "name", "length"] (spCu T.C_Disk T.C_StoredFile T.C_PowerLost) := by
  refine okN T.F_Disk_cut sc_Disk_cut (fun vs H Q E h => ?_) (fun cdv A outer s H vs Q E hr h => ?_)
  · obtain ⟨p, fd, pw, lf, fs, m, z, n,  rfl, _⟩ := h
    rfl
  · obtain ⟨p, fd, pw, lf, fs, m, z, n,  rfl, hD, hb, hm, q, x⟩ := h
    have hu := hu_of hr
    refine ⟨_, pss_cons (ps_expr (pe_meth0 (pv 0) T.cl_Disk T.me_Disk__begin_operation (ok_Disk__begin_operation_any T) (hr.mono (by first | decide | omega)) T.b_Disk__begin_operation .nil (L2N.passes_call (L2N.takes_of rfl rfl rfl rfl) fun _ _ _ _ h => h)))
      (pss_one (ps_if (pt_cmp (pc_din hu (pv 1) (pe_fld (pv 0) rfl)))
      (pss_one (ps_expr (pe_call (ok_save T) (hr.mono (by first | decide | omega)) (by rfl) T.g_save T.F_save.kp T.b_save .nil pass0 (pa_cons (pe_dget hu (pe_fld (pv 0) rfl) (pv 1) (fun _ _ => rfl)) (pa_cons (pe_slice sl_str (pe_call (ok_text_of T) (hr.mono (by first | decide | omega)) (by rfl) T.g_text_of T.F_text_of.kp T.b_text_of .nil pass0 (pa_cons (pe_dget hu (pe_fld (pv 0) rfl) (pv 1) (fun _ _ => rfl)) (pa_nil))) (po_none) (po_some (pv 2))) (pa_nil))))))
      (pss_nil))), ?_⟩
    obtain ⟨dx, hp⟩ := hD.dk
    refine q_dropK ⟨_, rfl, p, dx, _, rfl, hp, dF_no fd pw (lfV lf) (by decide +kernel) (by decide +kernel) (by decide +kernel), p, fd, pw, lf, rfl, ⟨dx, hp⟩, hb, fun ho H1 hk1 f1 => ?_, fun ho H1 hk1 f1 => x ho H1 (hD.fld f1 hk1) f1⟩
    have D1 := hD.fld f1 hk1
    have q1 := q ho
    obtain ⟨lf2, hlf2⟩ : ∃ lf2, lf2 = lfV (opL pw lf).2 := ⟨_, rfl⟩
    rw [← hlf2] at hk1 D1 q1
    rcases name_cases fs z with hz | ⟨i, f, hi⟩
    · refine s_when (b := false) (et_B (ev_is (ev_din (k := Sum.inr z) (ev_var rfl) (ev_dk (ev_var rfl) D1.dk T.cl_Disk T.na_Disk__files (dF_f _ _ _)) D1.di) (by rw [fK_no hz] <;> rfl))) (fun z => nomatch z) fun _ H2 e2 => ?_
      exact q1 fs H2 ((D1.mono e2).le (Nat.le_succ _)) (upC_no (by rw [cont_names]; exact hz)).symm ((Fr.of f1).trans (Fr.ex e2))
    · refine s_when (b := true) (et_B (ev_is (ev_din (k := Sum.inr z) (ev_var rfl) (ev_dk (ev_var rfl) D1.dk T.cl_Disk T.na_Disk__files (dF_f _ _ _)) D1.di) (by rw [fK_at D1.nd hi] <;> rfl))) (fun _ H2 e2 => ?_) (fun z => nomatch z)
      have hsz := cont_len_le D1 hi
      have fl : ∀ {H' : Hp}, Ex H1 H' → Ev (tDGet (tFld K (tVar 0) "_files") (tVar 1)) [some (.ref p), some (.str z), some (.int (n : Int))] H' (.ref f.o) := fun e => ev_dgetK (k := Sum.inr z) (ev_dk (ev_var rfl) (D1.mono e).dk T.cl_Disk T.na_Disk__files (dF_f _ _ _)) (ev_var rfl) (D1.mono e).di (fK_at D1.nd hi)
      refine call_run (cons_run (ev_run (fl e2) fun H3 e3 => cons_run (ev_run (ev_is (ev_slB (ev_call (ea_cons (fl (e2.trans e3)) ea_nil) (cv_to ((D1.mono (e2.trans e3)).fa _ (List.mem_of_getElem? hi)) (by omega) (by omega))) eo_none (eo_some (ev_var rfl)) (by rw [mk_len, List.length_append]; omega)) (congrArg V.str (mk_take _ n))) fun H4 e4 => ?_)))
      have E4 := (e2.trans e3).trans e4
      have D4 := D1.mono E4
      refine ⟨f, mk ((cds f.S ++ cds f.T).take n), rfl, D4.fa _ (List.mem_of_getElem? hi), fun f' H5 fo fS fT nt hsv htl hf fb => ?_⟩
      obtain ⟨D5, fr5⟩ := D4.save (c := (cds f.S ++ cds f.T).take n) hi fo fS fT nt hsv htl hf fb (by rw [List.length_take, List.length_append]; exact Nat.min_le_right _ _)
      refine q1 _ _ D5 (cont_set (F := (fun a b => ((a ++ b).take n, []))) D4.nd hi ?_) (((Fr.of f1).trans (Fr.ex E4)).trans fr5)
      show ((cds f.S ++ cds f.T).take n, ([] : List Nat)) = _
      rw [fS, fT, cds_one, cds_nil]
def spCu0 (CD CF : Addr) : Sp := fun vs H Q _ => ∃ (p fd : Addr) (pw : Bool) (lf : Option Int) (fs : List (Str × Fi)) (m : Nat) (z : Str) (n : Nat), vs = [.ref p, .str z, .int (n : Int)] ∧ DS CD CF H p fd pw (lfV lf) fs m ∧ (∀ n, lf = some n → -1000 ≤ n ∧ n ≤ 100000000000) ∧ m ≤ 10000 ∧ (opL pw lf).1 = true ∧
  ∀ fs' H', DS CD CF H' p fd true (lfV (opL pw lf).2) fs' (m + 1) → cont fs' = upC (cont fs) z (fun a b => ((a ++ b).take n, [])) → Fr fs fs' p fd H H' → Q .non H'
theorem ok_Disk_cut (T : Txt K mg) : FnOk P w K mg base CX0 3 T.f_Disk_cut T.d_Disk_cut ["self", "name", "length"] (spCu0 T.C_Disk T.C_StoredFile) := (ok_Disk_cut_any T).calm fun vs H Q E ⟨p, fd, pw, lf, fs, m, z, n, e, hD, hb, hm, hw, q⟩ => ⟨p, fd, pw, lf, fs, m, z, n, e, hD, hb, hm, fun _ => q, fun h => by rw [hw] at h; cases h⟩


/-! ### Disk.read -/
def valC (cs : List Cn) (z : Str) : List Nat := match cs.find? fun x => decide (x.1 = z) with
  | some x => x.2.1 ++ x.2.2
  | none => []
theorem valC_no {cs : List Cn} {z : Str} (h : z ∉ cs.map (·.1)) : valC cs z = [] := by
  unfold valC
  rw [List.find?_eq_none.mpr fun x hx q => h (List.mem_map.mpr ⟨x, hx, of_decide_eq_true q⟩)]
theorem valC_at : ∀ {cs : List Cn} {i : Nat} {z : Str} {a b : List Nat}, (cs.map (·.1)).Nodup → cs[i]? = some (z, a, b) → valC cs z = a ++ b
  | x :: r, 0, z, a, b, _, h => by
    obtain rfl : x = (z, a, b) := Option.some.inj h
    unfold valC
    rw [List.find?_cons]
    simp
  | x :: r, i + 1, z, a, b, nd, h => by
    have n := List.nodup_cons.mp (by rw [List.map_cons] at nd; exact nd)
    have h2 : r[i]? = some (z, a, b) := by simpa using h
    have hx : ¬ x.1 = z := fun q => n.1 (by rw [q]; exact List.mem_map.mpr ⟨_, List.mem_of_getElem? h2, rfl⟩)
    have ih := valC_at (cs := r) n.2 h2
    unfold valC at ih ⊢
    rw [List.find?_cons]
    simp only [hx, decide_false]
    exact ih
def spRd (CD CF CP : Addr) : Sp := fun vs H Q E => ∃ (p fd : Addr) (pw : Bool) (lf : V) (fs : List (Str × Fi)) (m : Nat) (z : Str), vs = [.ref p, .str z] ∧ DS CD CF H p fd pw lf fs m ∧ m ≤ 10000 ∧
  (pw = true → ∀ H', Ex H H' → Q (.str (mk (valC (cont fs) z))) H') ∧ (pw = false → ∀ H', Ex H H' → E (.ref CP) none H')
theorem ok_Disk_read_any (T : Txt K mg) : FnOk P w K mg base (L2N.CX P w) 2 T.f_Disk_read T.d_Disk_read ["self", "name"] (spRd T.C_Disk T.C_StoredFile T.C_PowerLost) := by
  refine okN T.F_Disk_read sc_Disk_read (fun vs H Q E h => ?_) (fun cdv A outer s H vs Q E hr h => ?_)
  · obtain ⟨p, fd, pw, lf, fs, m, z, rfl, _⟩ := h
    rfl
  · obtain ⟨p, fd, pw, lf, fs, m, z, rfl, hD, hm, q, x⟩ := h
    have hu := hu_of hr
    refine ⟨_, pss_cons (ps_expr (pe_meth0 (pv 0) T.cl_Disk T.me_Disk__check_power (ok_Disk__check_power_any T) (hr.mono (by first | decide | omega)) T.b_Disk__check_power .nil (L2N.passes_call (L2N.takes_of rfl rfl rfl rfl) fun _ _ _ _ h => h)))
      (pss_one (ps_ret (pe_ifExp (pt_cmp (pc_din hu (pv 1) (pe_fld (pv 0) rfl))) (pe_call (ok_text_of T) (hr.mono (by first | decide | omega)) (by rfl) T.g_text_of T.F_text_of.kp T.b_text_of .nil pass0 (pa_cons (pe_dget hu (pe_fld (pv 0) rfl) (pv 1) (fun _ _ => rfl)) (pa_nil))) (pe_str)))), ?_⟩
    obtain ⟨dx, hp⟩ := hD.dk
    refine q_dropK ⟨_, rfl, p, dx, _, rfl, hp, dF_no fd pw lf (by decide +kernel) (by decide +kernel) (by decide +kernel), p, fd, pw, lf, rfl, ⟨dx, hp⟩, fun ho H1 e1 => ?_, fun ho H1 e1 => x ho H1 e1⟩
    have D1 := hD.mono e1
    rcases name_cases fs z with hz | ⟨i, f, hi⟩
    · rw [valC_no (by rw [cont_names]; exact hz)] at q
      refine s_ret (ev_if (b := false) (v := .str (mk [])) (et_B (ev_is (ev_din (k := Sum.inr z) (ev_var rfl) (ev_dk (ev_var rfl) D1.dk T.cl_Disk T.na_Disk__files (dF_f _ _ _)) D1.di) (by rw [fK_no hz] <;> rfl))) (fun z => nomatch z) fun _ => ev_is ev_c (by show V.str (Str.ofString "") = _; congr 1)) fun H2 e2 => q ho H2 (e1.trans e2)
    · have hsz := cont_len_le D1 hi
      rw [valC_at (i := i) (a := cds f.S) (b := cds f.T) (by rw [cont_names]; exact D1.nd) (by unfold cont; rw [List.getElem?_map, hi] <;> rfl)] at q
      refine s_ret (ev_if (b := true) (et_B (ev_is (ev_din (k := Sum.inr z) (ev_var rfl) (ev_dk (ev_var rfl) D1.dk T.cl_Disk T.na_Disk__files (dF_f _ _ _)) D1.di) (by rw [fK_at D1.nd hi] <;> rfl))) (fun _ => ev_call (ea_cons (ev_dgetK (k := Sum.inr z) (ev_dk (ev_var rfl) D1.dk T.cl_Disk T.na_Disk__files (dF_f _ _ _)) (ev_var rfl) D1.di (fK_at D1.nd hi)) ea_nil) (cv_to (D1.fa _ (List.mem_of_getElem? hi)) (by omega) (by omega))) (fun z => nomatch z)) fun H2 e2 => q ho H2 (e1.trans e2)
def spRd0 (CD CF : Addr) : Sp := fun vs H Q _ => ∃ (p fd : Addr) (lf : V) (fs : List (Str × Fi)) (m : Nat) (z : Str), vs = [.ref p, .str z] ∧ DS CD CF H p fd true lf fs m ∧ m ≤ 10000 ∧ ∀ H', Ex H H' → Q (.str (mk (valC (cont fs) z))) H'
theorem ok_Disk_read (T : Txt K mg) : FnOk P w K mg base CX0 2 T.f_Disk_read T.d_Disk_read ["self", "name"] (spRd0 T.C_Disk T.C_StoredFile) := (ok_Disk_read_any T).calm fun vs H Q E ⟨p, fd, lf, fs, m, z, e, hD, hm, q⟩ => ⟨p, fd, true, lf, fs, m, z, e, hD, hm, fun _ => q, fun h => nomatch h⟩


/-! ### Disk.arm -/
def spArm (CD : Addr) : Sp := fun vs H Q _ => ∃ (p fd : Addr) (pw : Bool) (lf : V) (n : Int), vs = [.ref p, .int n] ∧ DkP CD H p fd pw lf ∧ ∀ H', DkP CD H' p fd pw (.int n) → But [p] H H' → Q .non H'
theorem ok_Disk_arm (T : Txt K mg) : FnOk P w K mg base CX0 1 T.f_Disk_arm T.d_Disk_arm ["self", "count"] (spArm T.C_Disk) := by
  refine T.F_Disk_arm.ok sc_Disk_arm (fun vs H Q E h => ?_) (fun cdv A outer s H vs Q E hr h => ?_)
  · obtain ⟨p, fd, pw, lf, n, rfl, _⟩ := h
    rfl
  · obtain ⟨p, fd, pw, lf, n, rfl, ⟨dx, hp⟩, q⟩ := h
    refine ⟨_, pss_one (ps_fld (pv 0) (pv 1) rfl), ?_⟩
    refine ⟨_, rfl, _, rfl, p, T.C_Disk, dx, _, rfl, hp, T.cl_Disk, T.na_Disk__left, (by show 3 < 1000; decide), ?_⟩
    rw [dF_pl]
    exact q _ ⟨dx, upd_same⟩ (But.put (List.mem_singleton.mpr rfl))


/-! ### Disk.total -/
def totC (cs : List Cn) : Nat := (cs.map fun x => (x.2.1 ++ x.2.2).length).sum
theorem fK_get {fs : List (Str × Fi)} {i : Nat} {k : Key} {v : V} (h : (fK fs)[i]? = some (k, v)) : ∃ z f, fs[i]? = some (z, f) ∧ v = .ref f.o := by
  unfold fK at h
  rw [List.getElem?_map] at h
  cases e : fs[i]? with
  | none => rw [e] at h; cases h
  | some x =>
    rw [e] at h
    have := Option.some.inj h
    exact ⟨x.1, x.2, rfl, (congrArg Prod.snd this).symm⟩
def spTot (CD CF : Addr) : Sp := fun vs H Q _ => ∃ (p fd : Addr) (pw : Bool) (lf : V) (fs : List (Str × Fi)) (m : Nat), vs = [.ref p] ∧ DS CD CF H p fd pw lf fs m ∧ m ≤ 10000 ∧ ∀ H', Ex H H' → Q (.int (totC (cont fs) : Nat)) H'
theorem ok_Disk_total (T : Txt K mg) : FnOk P w K mg base CX0 2 T.f_Disk_total T.d_Disk_total ["self"] (spTot T.C_Disk T.C_StoredFile) := by
  refine T.F_Disk_total.ok sc_Disk_total (fun vs H Q E h => ?_) (fun cdv A outer s H vs Q E hr h => ?_)
  · obtain ⟨p, fd, pw, lf, fs, m, rfl, _⟩ := h
    rfl
  · obtain ⟨p, fd, pw, lf, fs, m, rfl, hD, hm, q⟩ := h
    refine ⟨_, pss_one (ps_ret (pe_callB (cr_sum rfl) (by rfl) T.m_sum (by decide +kernel) (pa_cons (pe_lock (pe_lc (own := [("stored", 1)]) (g := gName 1) (tt := tYes) rfl sc_Disk_total.nd (pi_values (pe_fld (pv 0) rfl)) (blkOk_by (N := ["self", "stored"]) (sc := defScope s_Disk_total) (by decide +kernel)) (fun _ _ _ _ _ => pg_name (i := 1) sc_Disk_total.nd rfl (Or.inl rfl)) (fun _ _ _ _ _ => pts_nil) (fun _ _ _ _ _ => pe_callB call_len_str (by rfl) T.m_len (by decide +kernel) (pa_cons (pe_call (ok_text_of T) (hr.mono (by first | decide | omega)) (by rfl) T.g_text_of T.F_text_of.kp T.b_text_of .nil pass0 (pa_cons (pv 1) (pa_nil))) (pa_nil))))) (pa_nil)))), ?_⟩
    have hl : (fK fs).length = fs.length := by unfold fK; rw [List.length_map]
    have hfl := hD.sz.1
    refine ret_run (cons_run (el_run (el_lcV (ys := ((cont fs).map fun x => (((x.2.1 ++ x.2.2).length : Nat) : Int)).map V.int) hD.di (fun H1 ⟨od, _, e⟩ => ev_dk (ev_var rfl) ((DkP.dk hD.dk hD.di).mono e) T.cl_Disk T.na_Disk__files (dF_f _ _ _)) (by rw [hl]; omega) (fun y => rfl) (by unfold cont; rw [List.length_map, List.length_map, List.length_map, hl]) fun od i k v y hk hy H1 e1 => ?_) fun a H2 _ e2 ha => ?_))
    · obtain ⟨z, f, hi, rfl⟩ := fK_get hk
      have hsz := cont_len_le hD hi
      have ey : y = .int (((cds f.S ++ cds f.T).length : Nat) : Int) := by
        unfold cont at hy
        rw [List.getElem?_map, List.getElem?_map, List.getElem?_map, hi] at hy
        exact (Option.some.inj hy).symm
      rw [ey]
      have hf := ((hD.fa _ (List.mem_of_getElem? hi)).dk (u := .frz od (.dK (fK fs))) hD.di).mono e1
      refine ev_is (ev_lenB (ev_call (ea_cons (ev_var rfl) ea_nil) (cv_to hf (by omega) (by omega))) (by rw [mk_len, List.length_append]; omega)) (by rw [mk_len])
    · refine ⟨a, _, rfl, sq_of ha, ?_⟩
      have es : ∀ cs : List Cn, (cs.map fun x => (((x.2.1 ++ x.2.2).length : Nat) : Int)).sum = (totC cs : Nat) := fun cs => by
        induction cs with
        | nil => rfl
        | cons x r ih =>
          unfold totC at ih ⊢
          rw [List.map_cons, List.sum_cons, ih, List.map_cons, List.sum_cons]
          push_cast
          rfl
      rw [es]
      exact q H2 e2


/-! ### Disk.restart -/
theorem q_asgS2 {te : TE} {σ : L2.St} {H : Hp} {tz : TS} {D : Ends} {i : Nat} {v : V} (σ' : L2.St) (h : Ev te σ H v) (es : σ.set i (some v) = σ') (k : ∀ H1, Ex H H1 → tz D σ' H1) : tSeq (tAsg te (gName i)) tz D σ H := q_asg h fun H1 e => by rw [es]; exact k H1 e
def rsC (cs : List Cn) (ks : List Nat) : List Cn := cs.mapIdx fun i x => (x.1, x.2.1 ++ x.2.2.take (ks.getD i 0), [])
def spRs (CD CF : Addr) : Sp := fun vs H Q _ => ∃ (p fd ka : Addr) (pw : Bool) (lf : V) (fs : List (Str × Fi)) (m : Nat) (ks : List Nat), vs = [.ref p, .ref ka] ∧ DS CD CF H p fd pw lf fs m ∧ m ≤ 10000 ∧ H ka = some (.lst (ks.map fun (n : Nat) => V.int (n : Int))) ∧ ka ≠ fd ∧ Own fs ka ∧
  ∀ fs' H', DS CD CF H' p fd true .non fs' (m + 10) → cont fs' = rsC (cont fs) ks → Fr fs fs' p fd H H' → Q .non H'
theorem ok_Disk_restart (T : Txt K mg) : FnOk P w K mg base CX0 2 T.f_Disk_restart T.d_Disk_restart ["self", "kept"] (spRs T.C_Disk T.C_StoredFile) := by
  refine T.F_Disk_restart.ok sc_Disk_restart (fun vs H Q E h => ?_) (fun cdv A outer s H vs Q E hr h => ?_)
  · obtain ⟨p, fd, ka, pw, lf, fs, m, ks, rfl, _⟩ := h
    rfl
  · obtain ⟨p, fd, ka, pw, lf, fs, m, ks, rfl, hD, hm, hka, hkf, hko, q⟩ := h
    refine ⟨_, pss_cons (ps_lock (ps_for PassesOwn.never rfl (pi_enV (by rfl) T.m_enumerate (pe_fld (pv 0) rfl)) (pg_tup rfl (pgs_cons (pg_name (i := 2) sc_Disk_restart.nd rfl (by first | exact Or.inl rfl | exact Or.inr rfl)) (pgs_cons (pg_name (i := 3) sc_Disk_restart.nd rfl (by first | exact Or.inl rfl | exact Or.inr rfl)) (pgs_nil))))
      (pss_cons (ps_set (i := 4) sc_Disk_restart.nd rfl (by first | exact Or.inl rfl | exact Or.inr rfl) (pe_ifExp (pt_cmpR op_lt (pv 2) (pe_callB (r := rLenQ K) call_len_seq (by rfl) T.m_len (by decide +kernel) (pa_cons (pv 1) (pa_nil))) (nomark _)) (pe_ix (r := rIxL K) ix_list (pv 1) (pv 2) (fun _ _ => rfl)) (pe_int)))
      (pss_one (ps_expr (pe_call (ok_save T) (hr.mono (by first | decide | omega)) (by rfl) T.g_save T.F_save.kp T.b_save .nil pass0 (pa_cons (pv 3) (pa_cons (pe_op op_add_str (pe_join (pe_str) (pe_fld (pv 3) rfl)) (pe_slice sl_str (pe_join (pe_str) (pe_fld (pv 3) rfl)) (po_none) (po_some (pv 4)))) (pa_nil)))))))))
      (pss_cons (ps_fld (pv 0) (pe_bl) rfl)
      (pss_one (ps_fld (pv 0) (pe_non) rfl))), ?_⟩
    have hl : (fK fs).length = fs.length := by unfold fK; rw [List.length_map]
    have hfl := hD.sz.1
    refine q_forEV (K := K) hD.di (fun H1 ⟨od, _, e⟩ => ev_dk (ev_var rfl) ((DkP.dk hD.dk hD.di).mono e) T.cl_Disk T.na_Disk__files (dF_f _ _ _)) (fun od i σ' H' => ∃ (fsI : List (Str × Fi)) (x2 x3 x4 : Option V), σ' = [some (.ref p), some (.ref ka), x2, x3, x4] ∧ i ≤ fs.length ∧ H' fd = some (.frz od (.dK (fK fs))) ∧ DS T.C_Disk T.C_StoredFile (upd H' fd (.dK (fK fs))) p fd pw lf fsI (m + i) ∧ fK fsI = fK fs ∧ (∀ j, i ≤ j → fsI[j]? = fs[j]?) ∧ cont fsI = (cont fs).mapIdx (fun j x => if j < i then (x.1, x.2.1 ++ x.2.2.take (ks.getD j 0), []) else x) ∧ Fr fs fsI p fd H (upd H' fd (.dK (fK fs))))
      (fun od H1 e1 => ?_) (fun od i σ' H' ⟨_, _, _, _, _, _, h, _⟩ => h) (fun od i k v Tu σ' H' D' hk hI hT hn => ?_) (fun od σ' H' hI => ?_)
    · have e2 : Ex H (upd H1 fd (.dK (fK fs))) := Ex.unlock e1 hD.di
      refine ⟨fs, none, none, none, rfl, Nat.zero_le _, e1 _ _ upd_same, hD.mono e2, rfl, fun _ _ => rfl, ?_, Fr.ex e2⟩
      refine List.ext_getElem? fun j => ?_
      rw [List.getElem?_mapIdx]
      cases (cont fs)[j]? with
      | none => rfl
      | some x => show _ = some (if j < 0 then _ else x); rw [if_neg (Nat.not_lt_zero j)]
    · obtain ⟨fsI, x2, x3, x4, rfl, hi, hfd, D, eK, hrest, hc, hF⟩ := hI
      obtain ⟨z, f, hf, rfl⟩ := fK_get hk
      have hil := (List.getElem?_eq_some_iff.mp hf).1
      have hfI : fsI[i]? = some (z, f) := by rw [hrest i (Nat.le_refl _)]; exact hf
      have hsz := cont_len_le D hfI
      have nkp : ka ≠ p := by
        obtain ⟨dx, hp⟩ := hD.dk
        exact ne_of hka hp (by intro z; cases z)
      have hkaI : H' ka = some (.lst (ks.map fun (n : Nat) => V.int (n : Int))) := by
        have := (hF ka _ hka nkp hkf hko).1
        rw [upd_ne hkf] at this
        exact this
      have e0 := Ex.new (o := .tup [.int ((i : Nat) : Int), .ref f.o]) hT
      show tSeq _ _ D' [some (.ref p), some (.ref ka), some (.int ((i : Nat) : Int)), some (.ref f.o), x4] (upd H' Tu (.tup [.int ((i : Nat) : Int), .ref f.o]))
      generalize upd H' Tu (.tup [.int ((i : Nat) : Int), .ref f.o]) = H0 at e0 ⊢
      have zS : (cds f.S).length ≤ 16000000 := by omega
      have zT : (cds f.T).length ≤ 16000000 := by omega
      have zST : (cds f.S).length + (cds f.T).length ≤ 16000000 := by omega
      have zm : min (ks.getD i 0) (cds f.T).length ≤ (cds f.T).length := Nat.min_le_right _ _
      have hkl : (ks.map fun (n : Nat) => V.int (n : Int)).length = ks.length := List.length_map ..
      refine q_asgS2 [some (.ref p), some (.ref ka), some (.int ((i : Nat) : Int)), some (.ref f.o), some (.int ((ks.getD i 0 : Nat) : Int))] (v := .int ((ks.getD i 0 : Nat) : Int)) (ev_if (b := decide (i < ks.length)) (et_is (et_test (ev_bin0 (ev_var rfl) (ev_lenQ (K := K) (ev_var rfl) (sq_of (e0 _ _ hkaI))))) (by rw [hkl]; exact decide_eq_decide.mpr ⟨fun h => by omega, fun h => by omega⟩)) (fun hb => ev_ixL (K := K) (ev_var rfl) (ev_var rfl) (sq_of (e0 _ _ hkaI)) (at_nat (by
        have hb := of_decide_eq_true hb
        rw [List.getElem?_map, List.getD_eq_getElem?_getD, List.getElem?_eq_getElem hb] <;> rfl))) (fun hb => ev_is ev_c (by
        have hb := of_decide_eq_false hb
        rw [List.getD_eq_getElem?_getD, List.getElem?_eq_none (by omega)] <;> rfl))) rfl fun H3 e3 => ?_
      have E3 := e0.trans e3
      have f3 := (FAt.un (D.fa _ (List.mem_of_getElem? hfI))).mono E3
      refine call_run (cons_run (var_run rfl (cons_run (ev_run (ev_is (ev_addS (ev_joinV (K := K) ev_c (ev_sv (ev_var rfl) f3 T.cl_StoredFile T.na_StoredFile_saved) f3.hs (jn_sz zS)) (ev_is (ev_slB (ev_joinV (K := K) ev_c (ev_tl (ev_var rfl) f3 T.cl_StoredFile T.na_StoredFile_tail) f3.ht (jn_sz zT)) eo_none (eo_some (ev_var rfl)) (by rw [jn_cds, mk_len]; exact Nat.le_trans zT (by decide))) (congrArg V.str (show cutS (Txt.join (Str.ofString "") f.T) none (some ((ks.getD i 0 : Nat) : Int)) = mk ((cds f.T).take (ks.getD i 0)) by rw [jn_cds, mk_take]))) (by rw [jn_cds, mk_len, mk_len, List.length_take]; exact Nat.le_trans (Nat.add_le_add_left zm _) (Nat.le_trans zST (by decide)))) (congrArg V.str (by rw [jn_cds, mk_app]))) fun H4 e4 => ?_))))
      have E4 := E3.trans e4
      have D4 := D.mono (Ex.both E4 fd (.dK (fK fs)))
      have hfd4 := E4 _ _ hfd
      refine ⟨f, _, rfl, f3.mono e4, fun f' H5 fo fS fT nt hsv htl hf' fb => ?_⟩
      have nof : f.o ≠ fd := by
        obtain ⟨dxo, ho⟩ := (f3.mono e4).ob
        exact ne_of ho hfd4 (by intro z; cases z)
      have hfd5 := fb _ _ hfd4 (fun y => nof (List.mem_singleton.mp y).symm)
      have fu : ∀ {a : Addr}, H4 a = none → (upd H4 fd (.dK (fK fs))) a = none := fun {a} ha => by
        rw [upd_ne (fun y => by rw [y, hfd4] at ha; cases ha)]
        exact ha
      obtain ⟨D5, fr5⟩ := D4.save (H' := upd H5 fd (.dK (fK fs))) (c := cds f.S ++ (cds f.T).take (ks.getD i 0)) hfI fo fS fT nt (fu hsv) (fu htl) (hf'.dk2 hfd5) (fun c u hc nc => by
        by_cases e : c = fd
        · rw [e, upd_same] at hc ⊢; exact hc
        · rw [upd_ne e] at hc ⊢; exact fb _ _ hc nc) (by rw [List.length_append, List.length_take]; omega)
      refine hn _ _ ⟨fsI.set i (z, f'), _, _, _, rfl, by omega, hfd5, D5, by rw [fK_set hfI fo]; exact eK, fun j hj => by rw [List.getElem?_set, if_neg (by omega)]; exact hrest j (by omega), ?_, (hF.trans (Fr.ex (Ex.both E4 fd _))).trans fr5⟩
      refine List.ext_getElem? fun j => ?_
      have e1 : (cont (fsI.set i (z, f')))[j]? = if i = j then some (z, cds f.S ++ (cds f.T).take (ks.getD i 0), []) else (cont fsI)[j]? := by
        unfold cont
        rw [List.map_set, List.getElem?_set]
        have hl2 := (List.getElem?_eq_some_iff.mp hfI).1
        by_cases e : i = j
        · rw [if_pos e, if_pos e, if_pos (by rw [List.length_map]; exact hl2)]
          show some (z, cds f'.S, cds f'.T) = _
          rw [fS, fT, cds_one, cds_nil]
        · rw [if_neg e, if_neg e]
      rw [e1, List.getElem?_mapIdx, hc, List.getElem?_mapIdx]
      by_cases e : i = j
      · subst e
        rw [if_pos rfl]
        have : (cont fs)[i]? = some (z, cds f.S, cds f.T) := by unfold cont; rw [List.getElem?_map, hf] <;> rfl
        rw [this]
        show _ = some (if i < i + 1 then _ else _)
        rw [if_pos (Nat.lt_succ_self i)]
      · rw [if_neg e]
        cases (cont fs)[j]? with
        | none => rfl
        | some x =>
          show some (if j < i then _ else _) = some (if j < i + 1 then _ else _)
          by_cases h : j < i
          · rw [if_pos h, if_pos (by omega)]
          · rw [if_neg h, if_neg (by omega)]
    · obtain ⟨fsI, x2, x3, x4, rfl, hi, hfd, D, eK, hrest, hc, hF⟩ := hI
      generalize upd H' fd (.dK (fK fs)) = H6 at D hF ⊢
      obtain ⟨dx, hp⟩ := D.dk
      have hc2 : cont fsI = rsC (cont fs) ks := by
        rw [hc]
        unfold rsC
        refine List.ext_getElem? fun j => ?_
        rw [List.getElem?_mapIdx, List.getElem?_mapIdx]
        cases e : (cont fs)[j]? with
        | none => rfl
        | some x =>
          have hj := (List.getElem?_eq_some_iff.mp e).1
          have hcl : (cont fs).length = fs.length := by unfold cont; rw [List.length_map]
          show some (if j < (fK fs).length then _ else _) = _
          rw [if_pos (by omega)] <;> rfl
      refine ⟨_, rfl, p, T.C_Disk, dx, _, rfl, hp, T.cl_Disk, T.na_Disk__powered, (by show 3 < 1000; decide), ?_⟩
      rw [dF_pp]
      refine ⟨_, rfl, p, T.C_Disk, dx, _, rfl, upd_same, T.cl_Disk, T.na_Disk__left, (by show 3 < 1000; decide), ?_⟩
      rw [dF_pl]
      have fb : But [p] H6 (upd (upd H6 p (.ins T.C_Disk dx (dF fd true lf))) p (.ins T.C_Disk dx (dF fd true .non))) := (But.put (List.mem_singleton.mpr rfl)).trans (But.put (List.mem_singleton.mpr rfl))
      exact q fsI _ ((D.fld fb ⟨dx, upd_same⟩).le (by omega)) hc2 (hF.trans (Fr.of fb))


/-! ### _law_is_integer -/
def spIsI : Sp := fun vs H Q _ => ∃ (n : Int), vs = [.int n] ∧ ∀ H', Ex H H' → Q (.bl true) H'
theorem ok_law_is_integer (T : Txt K mg) : FnOk P w K mg base CX0 1 T.f_law_is_integer T.d_law_is_integer ["actual"] spIsI := by
  refine T.F_law_is_integer.ok sc_law_is_integer (fun vs H Q E h => ?_) (fun cdv A outer s H vs Q E hr h => ?_)
  · obtain ⟨n, rfl, _⟩ := h
    rfl
  · obtain ⟨n, rfl, q⟩ := h
    refine ⟨_, pss_one (ps_ret (pe_and (pe_callB (r := rIsi K) call_isi (by rfl) T.m_isinstance (by decide +kernel) (pa_cons (pv 0) (pa_cons (pe_bltn (v := .ty "int") (by rfl) T.m_int (by decide +kernel) rfl) (pa_nil)))) (pe_one (pe_not (pe_callB (r := rIsi K) call_isi (by rfl) T.m_isinstance (by decide +kernel) (pa_cons (pv 0) (pa_cons (pe_bltn (v := .ty "bool") (by rfl) T.m_bool (by decide +kernel) rfl) (pa_nil)))))))), ?_⟩
    exact s_ret (ev_is (ev_andV (a := true) (ev_isi (K := K) (a := "int") (ev_var rfl) (fun _ _ => .base (.int n)) (by decide +kernel)) fun _ => ev_is (ev_notV (ev_isi (K := K) (a := "int") (r := false) (ev_var rfl) (fun _ _ => .base (.int n)) (by decide +kernel))) rfl) rfl) q


/-! ### _law_operates -/
/-! ### the law's own disk -/
abbrev mdL (ol ml : Addr) (lf : V) (lo : Bool) : List (Key × V) := [((Sum.inr (Str.ofString "order") : Key), V.ref ol), ((Sum.inr (Str.ofString "files") : Key), V.ref ml), ((Sum.inr (Str.ofString "left") : Key), lf), ((Sum.inr (Str.ofString "lost") : Key), V.bl lo)]
theorem mdNe : ¬ ((Sum.inr (Str.ofString "order") : Key) = Sum.inr (Str.ofString "files")) ∧ ¬ ((Sum.inr (Str.ofString "order") : Key) = Sum.inr (Str.ofString "left")) ∧ ¬ ((Sum.inr (Str.ofString "order") : Key) = Sum.inr (Str.ofString "lost")) ∧ ¬ ((Sum.inr (Str.ofString "files") : Key) = Sum.inr (Str.ofString "left")) ∧ ¬ ((Sum.inr (Str.ofString "files") : Key) = Sum.inr (Str.ofString "lost")) ∧ ¬ ((Sum.inr (Str.ofString "left") : Key) = Sum.inr (Str.ofString "lost")) := by decide +kernel
theorem md_o (ol ml : Addr) (lf : V) (lo : Bool) : valV (mdL ol ml lf lo) (Sum.inr (Str.ofString "order") : Key) = some (.ref ol) := valV_pos rfl
theorem md_f (ol ml : Addr) (lf : V) (lo : Bool) : valV (mdL ol ml lf lo) (Sum.inr (Str.ofString "files") : Key) = some (.ref ml) := by rw [valV_neg mdNe.1, valV_pos rfl]
theorem md_l (ol ml : Addr) (lf : V) (lo : Bool) : valV (mdL ol ml lf lo) (Sum.inr (Str.ofString "left") : Key) = some lf := by rw [valV_neg mdNe.2.1, valV_neg mdNe.2.2.2.1, valV_pos rfl]
theorem md_s (ol ml : Addr) (lf : V) (lo : Bool) : valV (mdL ol ml lf lo) (Sum.inr (Str.ofString "lost") : Key) = some (.bl lo) := by rw [valV_neg mdNe.2.2.1, valV_neg mdNe.2.2.2.2.1, valV_neg mdNe.2.2.2.2.2, valV_pos rfl]
theorem md_pl (ol ml : Addr) (lf lf' : V) (lo : Bool) : putK (mdL ol ml lf lo) (Sum.inr (Str.ofString "left") : Key) lf' = mdL ol ml lf' lo := by
  have h := mdNe
  simp only [putK, mdL, List.any_cons, List.map_cons, List.map_nil]
  simp [h.2.1, h.2.2.2.1, Ne.symm (a := (Sum.inr (Str.ofString "left") : Key)) h.2.2.2.2.2]
theorem md_ps (ol ml : Addr) (lf : V) (lo lo' : Bool) : putK (mdL ol ml lf lo) (Sum.inr (Str.ofString "lost") : Key) (.bl lo') = mdL ol ml lf lo' := by
  have h := mdNe
  simp only [putK, mdL, List.any_cons, List.map_cons, List.map_nil]
  simp [h.2.2.1, h.2.2.2.2.1, h.2.2.2.2.2]
def gK (gs : List (Str × Addr)) : List (Key × V) := gs.map fun x => ((Sum.inr x.1 : Key), V.ref x.2)
structure MS (H : Hp) (md ol ml : Addr) (lf : Option Int) (lo : Bool) (gs : List (Str × Addr)) (cs : List Cn) : Prop where
  d : H md = some (.dK (mdL ol ml (lfV lf) lo))
  o : H ol = some (.lst (cs.map fun x => V.str x.1))
  f : H ml = some (.dK (gK gs))
  n : gs.map (·.1) = cs.map (·.1)
  e : ∀ (i : Nat) (z : Str) (a : Addr), gs[i]? = some (z, a) → ∃ s t, cs[i]? = some (z, s, t) ∧ H a = some (.lst [.str (mk s), .str (mk t)]) ∧ a ≠ ol
  nd : (cs.map (·.1)).Nodup
  nm : md ≠ ml
def mA (md ol ml : Addr) (gs : List (Str × Addr)) : List Addr := md :: ol :: ml :: gs.map (·.2)
theorem MS.mono {H H' : Hp} {md ol ml : Addr} {lf : Option Int} {lo : Bool} {gs : List (Str × Addr)} {cs : List Cn} (h : MS H md ol ml lf lo gs cs) (e : Ex H H') : MS H' md ol ml lf lo gs cs := { h with d := e _ _ h.d, o := e _ _ h.o, f := e _ _ h.f, e := fun i z a hi => let ⟨s, t, h1, h2, h3⟩ := h.e i z a hi; ⟨s, t, h1, e _ _ h2, h3⟩ }
theorem MS.keep {H H' : Hp} {md ol ml : Addr} {lf : Option Int} {lo : Bool} {gs : List (Str × Addr)} {cs : List Cn} (h : MS H md ol ml lf lo gs cs) (k : ∀ c ∈ mA md ol ml gs, ∀ u, H c = some u → H' c = some u) : MS H' md ol ml lf lo gs cs :=
  { h with d := k _ (by simp [mA]) _ h.d, o := k _ (by simp [mA]) _ h.o, f := k _ (by simp [mA]) _ h.f, e := fun i z a hi => let ⟨s, t, h1, h2, h3⟩ := h.e i z a hi; ⟨s, t, h1, k a (by
      have := List.mem_of_getElem? hi
      simp only [mA, List.mem_cons, List.mem_map]
      exact .inr (.inr (.inr ⟨_, this, rfl⟩))) _ h2, h3⟩ }
theorem q_dputE {td ty tv : TE} {D : Ends} {σ : L2.St} {H : Hp} {v : V} (h : Ev tv σ H v) (k : ∀ H1, Ex H H1 → td σ H1 fun x H2 => ty σ H2 fun y H3 => ∃ a H4, x = .ref a ∧ DPut H3 a y v H4 ∧ D.nx σ H4) : sDPut td ty tv D σ H := h H (Ex.refl H) _ k
theorem gK_at {gs : List (Str × Addr)} {i : Nat} {z : Str} {a : Addr} (nd : (gs.map (·.1)).Nodup) (h : gs[i]? = some (z, a)) : valV (gK gs) (Sum.inr z : Key) = some (.ref a) := by
  induction gs generalizing i with
  | nil => simp at h
  | cons x r ih =>
    rw [List.map_cons] at nd
    have n := List.nodup_cons.mp nd
    show valV (((Sum.inr x.1 : Key), V.ref x.2) :: gK r) (Sum.inr z : Key) = _
    cases i with
    | zero =>
      obtain rfl : x = (z, a) := Option.some.inj h
      rw [valV_pos (p := ((Sum.inr z : Key), V.ref a)) rfl]
    | succ i =>
      have h2 : r[i]? = some (z, a) := by simpa using h
      have hm : z ∈ r.map (·.1) := List.mem_map.mpr ⟨_, List.mem_of_getElem? h2, rfl⟩
      rw [valV_neg (p := ((Sum.inr x.1 : Key), V.ref x.2)) (fun q => n.1 (by rw [show x.1 = z from Sum.inr.inj q]; exact hm))]
      exact ih n.2 h2
theorem gK_no {gs : List (Str × Addr)} {z : Str} (h : z ∉ gs.map (·.1)) : valV (gK gs) (Sum.inr z : Key) = none := by
  induction gs with
  | nil => rfl
  | cons x r ih =>
    show valV (((Sum.inr x.1 : Key), V.ref x.2) :: gK r) (Sum.inr z : Key) = _
    rw [List.map_cons] at h
    rw [valV_neg (p := ((Sum.inr x.1 : Key), V.ref x.2)) (fun q => h (by rw [show x.1 = z from Sum.inr.inj q]; exact List.mem_cons_self))]
    exact ih fun q => h (List.mem_cons_of_mem _ q)
theorem gK_put {gs : List (Str × Addr)} {i : Nat} {z : Str} {a a' : Addr} (nd : (gs.map (·.1)).Nodup) (h : gs[i]? = some (z, a)) : putK (gK gs) (Sum.inr z : Key) (.ref a') = gK (gs.set i (z, a')) := by
  have hy : ((gK gs).any fun kv => decide (kv.1 = (Sum.inr z : Key))) = true := by rw [valV_any, gK_at nd h] <;> rfl
  have hz : (gs.map (·.1))[i]? = some z := by rw [List.getElem?_map, h] <;> rfl
  unfold putK
  rw [if_pos hy]
  unfold gK
  refine List.ext_getElem? fun j => ?_
  rw [List.getElem?_map, List.getElem?_map, List.getElem?_map, List.getElem?_set]
  by_cases e : i = j
  · subst e
    have hl := (List.getElem?_eq_some_iff.mp h).1
    rw [if_pos rfl, if_pos hl, h]
    show some (if (Sum.inr z : Key) = Sum.inr z then _ else _) = _
    rw [if_pos rfl] <;> rfl
  · rw [if_neg e]
    cases hj : gs[j]? with
    | none => rfl
    | some x =>
      show some (if (Sum.inr x.1 : Key) = Sum.inr z then _ else _) = _
      rw [if_neg fun q => e ?_]
      · rfl
      · have hnj : (gs.map (·.1))[j]? = some z := by rw [List.getElem?_map, hj, ← (show x.1 = z from Sum.inr.inj q)] <;> rfl
        rw [← posZ_uniq nd hz, ← posZ_uniq nd hnj]
section
variable {H H' H2 : Hp} {md ol ml : Addr} {lf : Option Int} {lo : Bool} {gs : List (Str × Addr)} {cs : List Cn}
theorem MS.gnd (h : MS H md ol ml lf lo gs cs) : (gs.map (·.1)).Nodup := by rw [h.n]; exact h.nd
theorem MS.ndf (h : MS H md ol ml lf lo gs cs) : ol ≠ ml ∧ ol ≠ md := ⟨ne_of h.o h.f (by intro z; cases z), ne_of h.o h.d (by intro z; cases z)⟩
/-- one file told anew: a new list of two texts -/
theorem MS.set (h : MS H md ol ml lf lo gs cs) {i : Nat} {z : Str} {a a' : Addr} {s t s' t' : List Nat} (hi : gs[i]? = some (z, a)) (hc : cs[i]? = some (z, s, t)) (e : Ex H H2) (hn : H a' = none) (ha : H2 a' = some (.lst [.str (Vt.mk s'), .str (Vt.mk t')])) :
    MS (upd H2 ml (.dK (gK (gs.set i (z, a'))))) md ol ml lf lo (gs.set i (z, a')) (cs.set i (z, s', t')) := by
  have hl := (List.getElem?_eq_some_iff.mp hi).1
  have hlc := (List.getElem?_eq_some_iff.mp hc).1
  have nx := h.ndf
  have en : (cs.set i (z, s', t')).map (·.1) = cs.map (·.1) := by
    refine List.ext_getElem? fun j => ?_
    rw [List.getElem?_map, List.getElem?_map, List.getElem?_set]
    by_cases e : i = j
    · subst e; rw [if_pos rfl, if_pos hlc, hc] <;> rfl
    · rw [if_neg e]
  have eg : (gs.set i (z, a')).map (·.1) = gs.map (·.1) := by
    refine List.ext_getElem? fun j => ?_
    rw [List.getElem?_map, List.getElem?_map, List.getElem?_set]
    by_cases e : i = j
    · subst e; rw [if_pos rfl, if_pos hl, hi] <;> rfl
    · rw [if_neg e]
  have eo : (cs.set i (z, s', t')).map (fun x => V.str x.1) = cs.map fun x => V.str x.1 := by
    have := congrArg (List.map V.str) en
    rw [List.map_map, List.map_map] at this
    exact this
  have lml : ∀ {c : Addr} {xs : List V}, H2 c = some (.lst xs) → c ≠ ml := fun hc => ne_of hc (e _ _ h.f) (by intro z; cases z)
  refine ⟨by rw [upd_ne h.nm]; exact e _ _ h.d, by rw [upd_ne nx.1, eo]; exact e _ _ h.o, upd_same, by rw [eg, en]; exact h.n, fun j y b hj => ?_, by rw [en]; exact h.nd, h.nm⟩
  rw [List.getElem?_set] at hj
  by_cases ej : i = j
  · subst ej
    rw [if_pos rfl, if_pos hl] at hj
    cases Option.some.inj hj
    exact ⟨s', t', by rw [List.getElem?_set, if_pos rfl, if_pos hlc], by rw [upd_ne (lml ha)]; exact ha, (ne_of_none h.o hn).symm⟩
  · rw [if_neg ej] at hj
    obtain ⟨s1, t1, h1, h2, h3⟩ := h.e j y b hj
    exact ⟨s1, t1, by rw [List.getElem?_set, if_neg ej]; exact h1, by rw [upd_ne (lml (e _ _ h2))]; exact e _ _ h2, h3⟩
theorem MS.add (h : MS H md ol ml lf lo gs cs) {z : Str} {a : Addr} (hz : z ∉ cs.map (·.1)) (hn : H a = none) (f : But [ol] H H2) (ho : H2 ol = some (.lst ((cs.map fun x => V.str x.1) ++ [.str z]))) (ha : H2 a = some (.lst [.str (Vt.mk []), .str (Vt.mk [])])) :
    MS (upd H2 ml (.dK (gK (gs ++ [(z, a)])))) md ol ml lf lo (gs ++ [(z, a)]) (cs ++ [(z, [], [])]) := by
  have nx := h.ndf
  have hf2 := f _ _ h.f (fun y => nx.1 (List.mem_singleton.mp y).symm)
  have lml : ∀ {c : Addr} {xs : List V}, H2 c = some (.lst xs) → c ≠ ml := fun hc => ne_of hc hf2 (by intro z; cases z)
  have hgl : gs.length = cs.length := by have := congrArg List.length h.n; rw [List.length_map, List.length_map] at this; exact this
  refine ⟨by rw [upd_ne h.nm]; exact f _ _ h.d (fun y => nx.2 (List.mem_singleton.mp y).symm), by rw [upd_ne nx.1, List.map_append]; exact ho, upd_same, by rw [List.map_append, List.map_append, h.n] <;> rfl, fun j y b hj => ?_, ?_, h.nm⟩
  · by_cases hl : j < gs.length
    · rw [List.getElem?_append_left hl] at hj
      obtain ⟨s1, t1, h1, h2, h3⟩ := h.e j y b hj
      have h4 := f _ _ h2 (fun y => h3 (List.mem_singleton.mp y))
      exact ⟨s1, t1, by rw [List.getElem?_append_left (by omega)]; exact h1, by rw [upd_ne (lml h4)]; exact h4, h3⟩
    · have hl2 := (List.getElem?_eq_some_iff.mp hj).1
      rw [List.length_append, List.length_singleton] at hl2
      have ej : j = gs.length := by omega
      subst ej
      rw [List.getElem?_append_right (Nat.le_refl _), Nat.sub_self] at hj
      cases Option.some.inj hj
      exact ⟨[], [], by rw [hgl, List.getElem?_append_right (Nat.le_refl _), Nat.sub_self] <;> rfl, by rw [upd_ne (lml ha)]; exact ha, (ne_of_none h.o hn).symm⟩
  · rw [List.map_append]
    exact List.nodup_append.mpr ⟨h.nd, by simp, fun a ha b hb => by
      have eb : b = z := by simpa using hb
      exact fun q => hz (by rw [← eb, ← q]; exact ha)⟩
theorem MS.name_cases (h : MS H md ol ml lf lo gs cs) (z : Str) : (z ∉ cs.map (·.1)) ∨ ∃ (i : Nat) (a : Addr) (s t : List Nat), gs[i]? = some (z, a) ∧ cs[i]? = some (z, s, t) ∧ H a = some (.lst [.str (Vt.mk s), .str (Vt.mk t)]) ∧ a ≠ ol := by
  by_cases hz : z ∈ cs.map (·.1)
  · rw [← h.n] at hz
    obtain ⟨⟨y, a⟩, hx, rfl⟩ := List.mem_map.mp hz
    obtain ⟨i, hi⟩ := List.getElem?_of_mem hx
    obtain ⟨s, t, h1, h2, h3⟩ := h.e i _ _ hi
    exact .inr ⟨i, a, s, t, hi, h1, h2, h3⟩
  · exact .inl hz
end
theorem ev_ninStrs {K : PySem.W.Frag} {σ : L2.St} {H : Hp} {ta tb : TE} {z : Str} {p : Addr} {zs : List Str} (ha : Ev ta σ H (.str z)) (hb : Ev tb σ H (.ref p)) (h : SqL K H p (zs.map V.str)) : Ev (tOp (rIn K true) ta tb) σ H (.bl (!decide (z ∈ zs))) := ev_is (ev_op ha hb (rv_niL h rfl (by rw [List.all_map]; exact List.all_eq_true.mpr fun _ _ => rfl))) (by rw [inS_mem])
theorem s_dputL {td ty tv : TE} {D : Ends} {σ : L2.St} {H : Hp} {xs : List V} (h : EvL tv σ H xs) (k : ∀ a H1, H a = none → Ex H H1 → H1 a = some (.lst xs) → td σ H1 fun x H2 => ty σ H2 fun y H3 => ∃ b H4, x = .ref b ∧ DPut H3 b y (.ref a) H4 ∧ D.nx σ H4) : sDPut td ty tv D σ H := h H (Ex.refl H) _ k
theorem but_none {S : List Addr} {H H' : Hp} {a : Addr} (f : But S H H') (h : H' a = none) (n : a ∉ S) : H a = none := by
  cases e : H a with
  | none => rfl
  | some u => rw [f _ _ e n] at h; cases h

section
variable {X : L2.Cx}
/-- a join within a comprehension: the tree doesn't name the block's context -/
theorem pe_joinK {K' : PySem.W.Frag} {o e : Expr} {to te : TE} {apos pos : Pos} (hK : X.K = K') (ho : PE X o to) (he : PE X e te) (hs : starEach [e] X.env = [(false, eval e X.env)] := by rfl) (hbase : attributeBase o "join" X.env (eval o X.env) = eval o X.env := by rfl) (hline : (apos.endLine == pos.line) = true := by rfl) :
    PE X (.Call (.Attribute o "join" apos) [e] [] pos) (tM1 (fun x xs H Q => ∃ a p, ∃ ys : List Str, x = .str a ∧ xs = [.ref p] ∧ (SqL K' H p (ys.map V.str) ∨ SqT K' H p (ys.map V.str)) ∧
      (ys.map (·.length)).sum + ys.length * a.length ≤ 16777216 ∧ Q (.str (Txt.join a ys)) H) to te) := by
  subst hK
  exact pe_join ho he hs hbase hline
end

def spOpm : Sp := fun vs H Q _ => ∃ (md ol ml : Addr) (lf : Option Int) (lo : Bool), vs = [.ref md] ∧ H md = some (.dK (mdL ol ml (lfV lf) lo)) ∧ (lo = true → lf = some 0) ∧
  ∀ H', H' md = some (.dK (mdL ol ml (lfV (opL (!lo) lf).2) (!(opL (!lo) lf).1))) → But [md] H H' → Q (.bl (opL (!lo) lf).1) H'
theorem ok_law_operates (T : Txt K mg) : FnOk P w K mg base CX0 1 T.f_law_operates T.d_law_operates ["m"] spOpm := by
  refine T.F_law_operates.ok sc_law_operates (fun vs H Q E h => ?_) (fun cdv A outer s H vs Q E hr h => ?_)
  · obtain ⟨md, ol, ml, lf, lo, rfl, _⟩ := h
    rfl
  · obtain ⟨md, ol, ml, lf, lo, rfl, hd, hlo, q⟩ := h
    have hu := hu_of hr
    refine ⟨_, pss_cons (ps_if (pt_cmpR op_eq (pe_dget hu (pv 0) (pe_str) (fun _ _ => rfl)) (pe_int) (nomark _))
      (pss_one (ps_dput hu (pv 0) (pe_str) (pe_bl) rfl))
      (pss_nil))
      (pss_cons (ps_if (PW.pt (pw_and (pt_cmpR op_notN (pe_dget hu (pv 0) (pe_str) (fun _ _ => rfl)) (pe_non) (nomark _)) (pw_and1 (pt_not (pt_val (pe_dget hu (pv 0) (pe_str) (fun _ _ => rfl)))))))
      (pss_one (ps_dput hu (pv 0) (pe_str) (pe_op op_sub (pe_dget hu (pv 0) (pe_str) (fun _ _ => rfl)) (pe_int)) rfl))
      (pss_nil))
      (pss_one (ps_ret (pe_not (pe_dget hu (pv 0) (pe_str) (fun _ _ => rfl)))))), ?_⟩
    have gl : ∀ {H' : Hp} {lf : V} {lo : Bool}, H' md = some (.dK (mdL ol ml lf lo)) → Ev (tDGet (tVar 0) (tC (.str (Str.ofString "left")))) [some (.ref md)] H' lf := fun h => ev_dgetK (k := Sum.inr (Str.ofString "left")) (ev_var rfl) ev_c h (md_l _ _ _ _)
    have gs : ∀ {H' : Hp} {lf : V} {lo : Bool}, H' md = some (.dK (mdL ol ml lf lo)) → Ev (tDGet (tVar 0) (tC (.str (Str.ofString "lost")))) [some (.ref md)] H' (.bl lo) := fun h => ev_dgetK (k := Sum.inr (Str.ofString "lost")) (ev_var rfl) ev_c h (md_s _ _ _ _)
    cases lf with
    | none =>
      have el : lo = false := by
        cases lo with
        | false => rfl
        | true => cases hlo rfl
      subst el
      refine q_when (b := false) (et_is (et_test (ev_op (gl hd) ev_c (rv_eq rfl))) (by rfl)) (fun z => nomatch z) fun _ H1 e1 => ?_
      have hd1 := e1 _ _ hd
      refine q_when (b := false) (et_and (a := false) (b := true) (et_is (et_test (ev_isnt (gl hd1))) (by rfl)) (fun z => nomatch z)) (fun z => nomatch z) fun _ H2 e2 => ?_
      have hd2 := e2 _ _ hd1
      exact s_ret (ev_is (ev_notV (gs hd2)) rfl) fun H3 e3 => q H3 (e3 _ _ hd2) (But.of ((e1.trans e2).trans e3))
    | some n =>
      by_cases h0 : n = 0
      · subst h0
        refine q_when (b := true) (et_is (et_test (ev_op (gl hd) ev_c (rv_eq rfl))) (by rfl)) (fun _ H1 e1 => ?_) (fun z => nomatch z)
        have hd1 := e1 _ _ hd
        refine ⟨_, rfl, md, _, rfl, DPut.k (k := Sum.inr (Str.ofString "lost")) hd1 (by show 4 < sizeLine; decide), ?_⟩
        rw [md_ps]
        have hd2 : (upd H1 md (.dK (mdL ol ml (lfV (some 0)) true))) md = some (.dK (mdL ol ml (lfV (some 0)) true)) := upd_same
        have f2 : But [md] H (upd H1 md (.dK (mdL ol ml (lfV (some 0)) true))) := (But.of e1).trans (But.put (List.mem_singleton.mpr rfl))
        show tSeq _ _ _ _ (upd H1 md (.dK (mdL ol ml (lfV (some 0)) true)))
        generalize upd H1 md (.dK (mdL ol ml (lfV (some 0)) true)) = H2 at hd2 f2 ⊢
        refine q_when (b := false) (et_is (et_and (a := true) (b := false) (et_is (et_test (ev_isnt (gl hd2))) (by rfl)) fun _ => et_is (et_not (et_B (gs hd2))) rfl) rfl) (fun z => nomatch z) fun _ H3 e3 => ?_
        have hd3 := e3 _ _ hd2
        exact s_ret (ev_is (ev_notV (gs hd3)) rfl) fun H4 e4 => q H4 (e4 _ _ hd3) (f2.trans (But.of (e3.trans e4)))
      · have el : lo = false := by
          cases lo with
          | false => rfl
          | true => exact absurd (Option.some.inj (hlo rfl)) h0
        subst el
        have eo : opL (!false) (some n) = (true, some (n - 1)) := by simp only [opL, if_neg h0]; rfl
        rw [eo] at q
        refine q_when (b := false) (et_is (et_test (ev_op (gl hd) ev_c (rv_eq rfl))) (by show decide (V.int n = V.int 0) = false; exact decide_eq_false fun z => h0 (V.int.inj z))) (fun z => nomatch z) fun _ H1 e1 => ?_
        have hd1 := e1 _ _ hd
        refine q_when (b := true) (et_is (et_and (a := true) (b := true) (et_is (et_test (ev_isnt (gl hd1))) (by rfl)) fun _ => et_is (et_not (et_B (gs hd1))) rfl) rfl) (fun _ H2 e2 => ?_) (fun z => nomatch z)
        have hd2 := e2 _ _ hd1
        refine q_dputE (ev_bin0 (gl hd2) ev_c) fun H3 e3 => ⟨_, rfl, md, _, rfl, DPut.k (k := Sum.inr (Str.ofString "left")) (e3 _ _ hd2) (by show 4 < sizeLine; decide), ?_⟩
        rw [md_pl]
        have hd4 : (upd H3 md (.dK (mdL ol ml (V.int (n - 1)) false))) md = some (.dK (mdL ol ml (V.int (n - 1)) false)) := upd_same
        have f4 : But [md] H (upd H3 md (.dK (mdL ol ml (V.int (n - 1)) false))) := (But.of ((e1.trans e2).trans e3)).trans (But.put (List.mem_singleton.mpr rfl))
        generalize upd H3 md (.dK (mdL ol ml (V.int (n - 1)) false)) = H4 at hd4 f4 ⊢
        exact s_ret (ev_is (ev_notV (gs hd4)) rfl) fun H5 e5 => q H5 (e5 _ _ hd4) (f4.trans (But.of e5))


/-! ### _law_called -/
def deedC (d : Int) (cs : List Cn) (z : Str) (t : List Nat) (n : Nat) : List Cn := if d < 2 then wrC cs z t else if d = 2 then upC cs z (fun a b => (a ++ b, [])) else upC cs z (fun a b => ((a ++ b).take n, []))
def spCal (CD CF : Addr) : Sp := fun vs H Q _ => ∃ (p fd : Addr) (pw : Bool) (lf : Option Int) (fs : List (Str × Fi)) (m : Nat) (d : Int) (z : Str) (t : List Nat) (n : Nat), vs = [.ref p, .int d, .str z, .str (mk t), .int (n : Int)] ∧ DS CD CF H p fd pw (lfV lf) fs m ∧ (∀ n, lf = some n → -1000 ≤ n ∧ n ≤ 100000000000) ∧ m ≤ 10000 ∧ fs.length < 10 ∧ (0 ≤ d ∧ d ≤ 4) ∧
  (d < 4 → (opL pw lf).1 = true → ∀ fs' H', DS CD CF H' p fd true (lfV (opL pw lf).2) fs' (m + t.length + 1) → cont fs' = deedC d (cont fs) z t n → Fr fs fs' p fd H H' → Q (.str (mk [])) H') ∧
  (d < 4 → (opL pw lf).1 = false → ∀ H', DS CD CF H' p fd false (lfV (opL pw lf).2) fs m → But [p] H H' → Q (.int 0) H') ∧
  (d = 4 → pw = true → ∀ H', Ex H H' → Q (.str (mk (valC (cont fs) z))) H') ∧ (d = 4 → pw = false → ∀ H', Ex H H' → Q (.int 0) H')
theorem ok_law_called (T : Txt K mg) : FnOk P w K mg base CX0 4 T.f_law_called T.d_law_called ["disk", "deed", "name", "text", "length"] (spCal T.C_Disk T.C_StoredFile) := by
  refine T.F_law_called.ok sc_law_called (fun vs H Q E h => ?_) (fun cdv A outer s H vs Q E hr h => ?_)
  · obtain ⟨p, fd, pw, lf, fs, m, d, z, t, n, rfl, _⟩ := h
    rfl
  · obtain ⟨p, fd, pw, lf, fs, m, d, z, t, n, rfl, hD, hb, hm, hfl, hd, q1, q2, q3, q4⟩ := h
    have dn : ∀ (pw : Bool) (lf : V) {x : Str}, (x == ("_files" : Str)) = false → (x == ("_powered" : Str)) = false → (x == ("_left" : Str)) = false → (dF fd pw lf).lookup x = none := fun pw lf {x} a b c => dF_no fd pw lf a b c
    obtain ⟨dx, hp⟩ := id hD.dk
    have e0 : Str.ofString "" = mk [] := by decide +kernel
    by_cases hgood : (d < 4 ∧ (opL pw lf).1 = true) ∨ (d = 4 ∧ pw = true)
    · refine ⟨_, pss_one (ps_try_thru0 (pss_cons (ps_if (pt_cmpR op_lt (pv 1) (pe_int) (nomark _))
      (pss_one (ps_set (i := 5) sc_law_called.nd rfl (by first | exact Or.inl rfl | exact Or.inr rfl) (pe_meth (pv 0) T.cl_Disk T.me_Disk_write (ok_Disk_write T) (hr.mono (by first | decide | omega)) T.b_Disk_write .nil pass0 (pa_cons (pv 2) (pa_cons (pv 3) (pa_nil))))))
      (pss_one (ps_if (pt_cmpR op_eq (pv 1) (pe_int) (nomark _))
      (pss_one (ps_set (i := 5) sc_law_called.nd rfl (by first | exact Or.inl rfl | exact Or.inr rfl) (pe_meth (pv 0) T.cl_Disk T.me_Disk_sync (ok_Disk_sync T) (hr.mono (by first | decide | omega)) T.b_Disk_sync .nil pass0 (pa_cons (pv 2) (pa_nil)))))
      (pss_one (ps_if (pt_cmpR op_eq (pv 1) (pe_int) (nomark _))
      (pss_one (ps_set (i := 5) sc_law_called.nd rfl (by first | exact Or.inl rfl | exact Or.inr rfl) (pe_meth (pv 0) T.cl_Disk T.me_Disk_cut (ok_Disk_cut T) (hr.mono (by first | decide | omega)) T.b_Disk_cut .nil pass0 (pa_cons (pv 2) (pa_cons (pv 4) (pa_nil))))))
      (pss_one (ps_ret (pe_meth (pv 0) T.cl_Disk T.me_Disk_read (ok_Disk_read T) (hr.mono (by first | decide | omega)) T.b_Disk_read .nil pass0 (pa_cons (pv 2) (pa_nil))))))))))
      (pss_one (ps_ret (pe_ix (r := rIxL K) ix_list (pe_lst (pa_cons (pe_str) (pa_cons (pe_non) (pa_nil)))) (pe_callTy call_int1 (by rfl) T.m_int (by decide +kernel) (pa_cons (pe_cmpR op_notN (pv 5) (pe_non) (nomark _)) (pa_nil))) (fun _ _ => rfl)))))), ?_⟩
      have fin : ∀ {H1 : Hp}, (∀ H', Ex H1 H' → Q (.str (mk [])) H') → tRet (tOp (rIxL K) (tLst (tCons (tC (.str (Str.ofString ""))) (tCons (tC .non) tNil))) (tCB (fun xs H Q => (∃ i, xs = [V.int i] ∧ Q (.int i) H) ∨ ∃ k, xs = [V.bl k] ∧ Q (.int (if k = true then 1 else 0)) H) (tCons (tOp (fun x y H Q => y = .non ∧ Q (.bl (!decide (x = .non))) H) (tVar 5) (tC .non)) tNil))) { nx := fun _ H' => Q .non H', rt := Q } [some (.ref p), some (.int d), some (.str z), some (.str (mk t)), some (.int (n : Int)), some .non, none] H1 := fun h => by
        refine s_ret (v := .str (mk [])) (ev_ixN (K := K) (xs := [.str (mk []), .non]) (i := 0) (by rw [← e0]; exact el_lst (ea_cons ev_c (ea_cons ev_c ea_nil)) (by decide)) (fun H2 e2 => ev_intB (b := false) (ev_is (ev_isnt (ev_var rfl)) rfl)) rfl) h
      by_cases h4 : d = 4
      · have hpw : pw = true := by
          rcases hgood with h | h
          · omega
          · exact h.2
        subst h4
        subst hpw
        refine q_if (b := false) (et_is (et_test (ev_bin0 (ev_var rfl) ev_c)) (by decide)) (fun z => nomatch z) fun _ H1 e1 => ?_
        refine s_if (b := false) (et_is (et_test (ev_eqI (ev_var rfl) ev_c)) (by decide)) (fun z => nomatch z) fun _ H2 e2 => ?_
        refine s_if (b := false) (et_is (et_test (ev_eqI (ev_var rfl) ev_c)) (by decide)) (fun z => nomatch z) fun _ H3 e3 => ?_
        have E3 := (e1.trans e2).trans e3
        refine ret_run ⟨_, rfl, p, dx, _, rfl, E3 _ _ hp, dn _ _ (by decide +kernel) (by decide +kernel) (by decide +kernel), _, rfl, p, fd, _, fs, m, z, rfl, hD.mono E3, hm, fun H4 e4 => q3 rfl rfl H4 (E3.trans e4)⟩
      · have hg : (opL pw lf).1 = true := by
          rcases hgood with h | h
          · exact h.2
          · exact absurd h.1 h4
        have q1' := q1 (by omega) hg
        by_cases h2 : d < 2
        · have ed : deedC d (cont fs) z t n = wrC (cont fs) z t := by unfold deedC; rw [if_pos h2]
          rw [ed] at q1'
          refine q_if (b := true) (et_is (et_test (ev_bin0 (ev_var rfl) ev_c)) (decide_eq_true h2)) (fun _ H1 e1 => ?_) (fun z => nomatch z)
          exact ⟨_, rfl, p, dx, _, rfl, e1 _ _ hp, dn _ _ (by decide +kernel) (by decide +kernel) (by decide +kernel), _, rfl, _, rfl, p, fd, pw, lf, fs, m, z, t, rfl, hD.mono e1, hb, hm, hfl, hg, fun fs' H2 D2 c2 f2 => fin fun H3 e3 => q1' fs' H3 (D2.mono e3) c2 (((Fr.ex e1).trans f2).trans (Fr.ex e3))⟩
        · refine q_if (b := false) (et_is (et_test (ev_bin0 (ev_var rfl) ev_c)) (decide_eq_false h2)) (fun z => nomatch z) fun _ H1 e1 => ?_
          by_cases h3 : d = 2
          · have ed : deedC d (cont fs) z t n = upC (cont fs) z (fun a b => (a ++ b, [])) := by unfold deedC; rw [if_neg h2, if_pos h3]
            rw [ed] at q1'
            refine s_if (b := true) (et_is (et_test (ev_eqI (ev_var rfl) ev_c)) (decide_eq_true h3)) (fun _ H2 e2 => ?_) (fun z => nomatch z)
            have E2 := e1.trans e2
            exact ⟨_, rfl, p, dx, _, rfl, E2 _ _ hp, dn _ _ (by decide +kernel) (by decide +kernel) (by decide +kernel), _, rfl, p, fd, pw, lf, fs, m, z, rfl, hD.mono E2, hb, hm, hg, fun fs' H3 D3 c3 f3 => fin fun H4 e4 => q1' fs' H4 ((D3.mono e4).le (by omega)) c3 (((Fr.ex E2).trans f3).trans (Fr.ex e4))⟩
          · have hd3 : d = 3 := by omega
            have ed : deedC d (cont fs) z t n = upC (cont fs) z (fun a b => ((a ++ b).take n, [])) := by unfold deedC; rw [if_neg h2, if_neg h3]
            rw [ed] at q1'
            refine s_if (b := false) (et_is (et_test (ev_eqI (ev_var rfl) ev_c)) (decide_eq_false h3)) (fun z => nomatch z) fun _ H2 e2 => ?_
            refine s_if (b := true) (et_is (et_test (ev_eqI (ev_var rfl) ev_c)) (decide_eq_true hd3)) (fun _ H3 e3 => ?_) (fun z => nomatch z)
            have E3 := (e1.trans e2).trans e3
            exact ⟨_, rfl, p, dx, _, rfl, E3 _ _ hp, dn _ _ (by decide +kernel) (by decide +kernel) (by decide +kernel), _, rfl, _, rfl, p, fd, pw, lf, fs, m, z, n, rfl, hD.mono E3, hb, hm, hg, fun fs' H4 D4 c4 f4 => fin fun H5 e5 => q1' fs' H5 ((D4.mono e5).le (by omega)) c4 (((Fr.ex E3).trans f4).trans (Fr.ex e5))⟩
    · refine ⟨_, pss_one (L2N.ps_try_as (i := 6) (c := .ref T.C_PowerLost) (Wout := fun _ _ _ _ => False) rfl rfl sc_law_called.nd rfl rfl ⟨rfl, by decide, .inl T.e_PowerLost.g⟩ takes0N
        (fun W pn xe tk _ => pss_cons (ps_if (pt_cmpR op_lt (pv 1) (pe_int) (nomark _))
      (pss_one (ps_set (i := 5) sc_law_called.nd rfl (by first | exact Or.inl rfl | exact Or.inr rfl) (pe_methX (pv 0) T.cl_Disk T.me_Disk_write (ok_Disk_write_any T) (hr.mono (by first | decide | omega)) T.b_Disk_write (fun σ => L2N.passAt tk σ) (pa_cons (pv 2) (pa_cons (pv 3) (pa_nil))))))
      (pss_one (ps_if (pt_cmpR op_eq (pv 1) (pe_int) (nomark _))
      (pss_one (ps_set (i := 5) sc_law_called.nd rfl (by first | exact Or.inl rfl | exact Or.inr rfl) (pe_methX (pv 0) T.cl_Disk T.me_Disk_sync (ok_Disk_sync_any T) (hr.mono (by first | decide | omega)) T.b_Disk_sync (fun σ => L2N.passAt tk σ) (pa_cons (pv 2) (pa_nil)))))
      (pss_one (ps_if (pt_cmpR op_eq (pv 1) (pe_int) (nomark _))
      (pss_one (ps_set (i := 5) sc_law_called.nd rfl (by first | exact Or.inl rfl | exact Or.inr rfl) (pe_methX (pv 0) T.cl_Disk T.me_Disk_cut (ok_Disk_cut_any T) (hr.mono (by first | decide | omega)) T.b_Disk_cut (fun σ => L2N.passAt tk σ) (pa_cons (pv 2) (pa_cons (pv 4) (pa_nil))))))
      (pss_one (ps_ret (pe_methX (pv 0) T.cl_Disk T.me_Disk_read (ok_Disk_read_any T) (hr.mono (by first | decide | omega)) T.b_Disk_read (fun σ => L2N.passAt tk σ) (pa_cons (pv 2) (pa_nil))))))))))
      (pss_one (ps_ret (pe_ix (r := rIxL K) ix_list (pe_lst (pa_cons (pe_str) (pa_cons (pe_non) (pa_nil)))) (pe_callTy call_int1 (by rfl) T.m_int (by decide +kernel) (pa_cons (pe_cmpR op_notN (pv 5) (pe_non) (nomark _)) (pa_nil))) (fun _ _ => rfl)))))
        (fun a oe cls d pn hz0 hf => pss_given (P := cls = .ref T.C_PowerLost) fun pc => have hz := zc1 pc hz0; pss_one (ps_ret (pe_ix (r := rIxL K) ix_list (pe_lst (pa_cons (pe_non) (pa_cons (pe_int) (pa_nil)))) (pe_callTy call_int1 (by rfl) T.m_int (by decide +kernel) (pa_cons (pe_callB (call_isEi T.e_PowerLost.is hz hf) (by rfl) T.m_isinstance (by decide +kernel) (pa_cons (pv 6) (pa_cons (pe_glob (v := .ref T.C_VersionError) rfl T.g_VersionError rfl) (pa_nil)))) (pa_nil))) (fun _ _ => rfl))))), ?_⟩
      have hbad : ¬ (d < 4 ∧ (opL pw lf).1 = true) ∧ ¬ (d = 4 ∧ pw = true) := ⟨fun h => hgood (.inl h), fun h => hgood (.inr h)⟩
      by_cases h4 : d = 4
      · have hpw : pw = false := by
          cases pw with
          | false => rfl
          | true => exact absurd ⟨h4, rfl⟩ hbad.2
        subst h4
        subst hpw
        refine q_if (b := false) (et_is (et_test (ev_bin0 (ev_var rfl) ev_c)) (by decide)) (fun z => nomatch z) fun _ H1 e1 => ?_
        refine s_if (b := false) (et_is (et_test (ev_eqI (ev_var rfl) ev_c)) (by decide)) (fun z => nomatch z) fun _ H2 e2 => ?_
        refine s_if (b := false) (et_is (et_test (ev_eqI (ev_var rfl) ev_c)) (by decide)) (fun z => nomatch z) fun _ H3 e3 => ?_
        have E3 := (e1.trans e2).trans e3
        exact ⟨_, rfl, p, dx, _, rfl, E3 _ _ hp, dn _ _ (by decide +kernel) (by decide +kernel) (by decide +kernel), _, rfl, p, fd, false, _, fs, m, z, rfl, hD.mono E3, hm, (fun z => nomatch z), fun _ H4 e4 => ⟨true, T.e_PowerLost.self, fun _ a ha => ⟨rfl, s_ret (ev_ixN (K := K) (xs := [.non, .int 0]) (i := 1) (el_lst (ea_cons ev_c (ea_cons ev_c ea_nil)) (by decide)) (fun H7 e7 => ev_intB (b := true) (ev_isEi (b := true) (ev_var rfl) (fun d z => nomatch z) (cv := .ref T.C_VersionError) (fun u h => h) T.ku_PowerLost_VersionError)) rfl) fun H8 e8 => q4 rfl rfl H8 ((E3.trans e4).trans e8)⟩, fun z => nomatch z⟩⟩
      · have hg : (opL pw lf).1 = false := by
          cases e : (opL pw lf).1 with
          | false => rfl
          | true => exact absurd ⟨by omega, e⟩ hbad.1
        have q2' := q2 (by omega) hg
        have no : ∀ {C : Prop}, (opL pw lf).1 = true → C := fun h => by rw [hg] at h; cases h
        by_cases h2 : d < 2
        · refine q_if (b := true) (et_is (et_test (ev_bin0 (ev_var rfl) ev_c)) (decide_eq_true h2)) (fun _ H1 e1 => ?_) (fun z => nomatch z)
          exact ⟨_, rfl, p, dx, _, rfl, e1 _ _ hp, dn _ _ (by decide +kernel) (by decide +kernel) (by decide +kernel), _, rfl, _, rfl, p, fd, pw, lf, fs, m, z, t, rfl, hD.mono e1, hb, hm, hfl, (fun h => no h), fun _ H2 D2 f2 => ⟨true, T.e_PowerLost.self, fun _ a ha => ⟨rfl, s_ret (ev_ixN (K := K) (xs := [.non, .int 0]) (i := 1) (el_lst (ea_cons ev_c (ea_cons ev_c ea_nil)) (by decide)) (fun H7 e7 => ev_intB (b := true) (ev_isEi (b := true) (ev_var rfl) (fun d z => nomatch z) (cv := .ref T.C_VersionError) (fun u h => h) T.ku_PowerLost_VersionError)) rfl) fun H8 e8 => q2' H8 (D2.mono e8) (((But.of e1).trans f2).trans (But.of e8))⟩, fun z => nomatch z⟩⟩
        · refine q_if (b := false) (et_is (et_test (ev_bin0 (ev_var rfl) ev_c)) (decide_eq_false h2)) (fun z => nomatch z) fun _ H1 e1 => ?_
          by_cases h3 : d = 2
          · refine s_if (b := true) (et_is (et_test (ev_eqI (ev_var rfl) ev_c)) (decide_eq_true h3)) (fun _ H2 e2 => ?_) (fun z => nomatch z)
            have e1 := e1.trans e2
            exact ⟨_, rfl, p, dx, _, rfl, e1 _ _ hp, dn _ _ (by decide +kernel) (by decide +kernel) (by decide +kernel), _, rfl, p, fd, pw, lf, fs, m, z, rfl, hD.mono e1, hb, hm, (fun h => no h), fun _ H2 D2 f2 => ⟨true, T.e_PowerLost.self, fun _ a ha => ⟨rfl, s_ret (ev_ixN (K := K) (xs := [.non, .int 0]) (i := 1) (el_lst (ea_cons ev_c (ea_cons ev_c ea_nil)) (by decide)) (fun H7 e7 => ev_intB (b := true) (ev_isEi (b := true) (ev_var rfl) (fun d z => nomatch z) (cv := .ref T.C_VersionError) (fun u h => h) T.ku_PowerLost_VersionError)) rfl) fun H8 e8 => q2' H8 (D2.mono e8) (((But.of e1).trans f2).trans (But.of e8))⟩, fun z => nomatch z⟩⟩
          · have hd3 : d = 3 := by omega
            refine s_if (b := false) (et_is (et_test (ev_eqI (ev_var rfl) ev_c)) (decide_eq_false h3)) (fun z => nomatch z) fun _ H2 e2 => ?_
            refine s_if (b := true) (et_is (et_test (ev_eqI (ev_var rfl) ev_c)) (decide_eq_true hd3)) (fun _ H3 e3 => ?_) (fun z => nomatch z)
            have e1 := (e1.trans e2).trans e3
            exact ⟨_, rfl, p, dx, _, rfl, e1 _ _ hp, dn _ _ (by decide +kernel) (by decide +kernel) (by decide +kernel), _, rfl, _, rfl, p, fd, pw, lf, fs, m, z, n, rfl, hD.mono e1, hb, hm, (fun h => no h), fun _ H2 D2 f2 => ⟨true, T.e_PowerLost.self, fun _ a ha => ⟨rfl, s_ret (ev_ixN (K := K) (xs := [.non, .int 0]) (i := 1) (el_lst (ea_cons ev_c (ea_cons ev_c ea_nil)) (by decide)) (fun H7 e7 => ev_intB (b := true) (ev_isEi (b := true) (ev_var rfl) (fun d z => nomatch z) (cv := .ref T.C_VersionError) (fun u h => h) T.ku_PowerLost_VersionError)) rfl) fun H8 e8 => q2' H8 (D2.mono e8) (((But.of e1).trans f2).trans (But.of e8))⟩, fun z => nomatch z⟩⟩


/-! ### _law_changes -/
def spChg : Sp := fun vs H Q _ => ∃ (md ol ml : Addr) (lf : Option Int) (lo : Bool) (gs : List (Str × Addr)) (cs : List Cn) (d : Int) (z : Str) (t : List Nat) (n : Nat), vs = [.ref md, .int d, .str z, .str (mk t), .int (n : Int)] ∧ MS H md ol ml lf lo gs cs ∧ cs.length < 10 ∧ (∀ x ∈ cs, x.2.1.length + x.2.2.length ≤ 100000) ∧ t.length ≤ 100000 ∧ (0 ≤ d ∧ d ≤ 3) ∧
  ∀ gs' H', MS H' md ol ml lf lo gs' (deedC d cs z t n) → (∀ x ∈ gs', x ∈ gs ∨ H x.2 = none) → But [ol, ml] H H' → Q .non H'
theorem ok_law_changes (T : Txt K mg) : FnOk P w K mg base CX0 1 T.f_law_changes T.d_law_changes ["m", "deed", "name", "text", "length"] spChg := by
  refine T.F_law_changes.ok sc_law_changes (fun vs H Q E h => ?_) (fun cdv A outer s H vs Q E hr h => ?_)
  · obtain ⟨md, ol, ml, lf, lo, gs, cs, d, z, t, n, rfl, _⟩ := h
    rfl
  · obtain ⟨md, ol, ml, lf, lo, gs, cs, d, z, t, n, rfl, hM, hcl, hsz, htl, hd, q⟩ := h
    have hu := hu_of hr
    refine ⟨_, pss_one (ps_if (pt_cmpR op_lt (pv 1) (pe_int) (nomark _))
      (pss_cut (ps_if (pt_cmpR (r := rIn K true) op_notIn_seq (pv 2) (pe_dget hu (pv 0) (pe_str) (fun _ _ => rfl)) (by rfl))
      (pss_cons (ps_expr (pe_bm PySem.F.plainAttrs_list PySem.F.slot_list_append PySem.F.type_list_append mt_append (pe_dget hu (pv 0) (pe_str) (fun _ _ => rfl)) (pa_cons (pv 2) (pa_nil))))
      (pss_one (ps_dput hu (pe_dget hu (pv 0) (pe_str) (fun _ _ => rfl)) (pv 2) (pe_lst (pa_cons (pe_str) (pa_cons (pe_str) (pa_nil)))) rfl)))
      (pss_nil))
      (pss_one (ps_dput hu (pe_dget hu (pv 0) (pe_str) (fun _ _ => rfl)) (pv 2) (pe_lst (pa_cons (pe_ix (r := rIxL K) ix_list (pe_dget hu (pe_dget hu (pv 0) (pe_str) (fun _ _ => rfl)) (pv 2) (fun _ _ => rfl)) (pe_int) (fun _ _ => rfl)) (pa_cons (pe_op op_add_str (pe_ix (r := rIxL K) ix_list (pe_dget hu (pe_dget hu (pv 0) (pe_str) (fun _ _ => rfl)) (pv 2) (fun _ _ => rfl)) (pe_int) (fun _ _ => rfl)) (pv 3)) (pa_nil)))) rfl)))
      (pss_one (ps_if (pt_cmpR (r := rIn K false) op_in_seq (pv 2) (pe_dget hu (pv 0) (pe_str) (fun _ _ => rfl)) (by rfl))
      (pss_cons (ps_set (i := 5) sc_law_changes.nd rfl (by first | exact Or.inl rfl | exact Or.inr rfl) (pe_op op_add_str (pe_ix (r := rIxL K) ix_list (pe_dget hu (pe_dget hu (pv 0) (pe_str) (fun _ _ => rfl)) (pv 2) (fun _ _ => rfl)) (pe_int) (fun _ _ => rfl)) (pe_ix (r := rIxL K) ix_list (pe_dget hu (pe_dget hu (pv 0) (pe_str) (fun _ _ => rfl)) (pv 2) (fun _ _ => rfl)) (pe_int) (fun _ _ => rfl))))
      (pss_cut (ps_if (pt_cmpR op_eq (pv 1) (pe_int) (nomark _))
      (pss_one (ps_set (i := 5) sc_law_changes.nd rfl (by first | exact Or.inl rfl | exact Or.inr rfl) (pe_slice sl_str (pv 5) (po_none) (po_some (pv 4)))))
      (pss_nil))
      (pss_one (ps_dput hu (pe_dget hu (pv 0) (pe_str) (fun _ _ => rfl)) (pv 2) (pe_lst (pa_cons (pv 5) (pa_cons (pe_str) (pa_nil)))) rfl))))
      (pss_nil)))), ?_⟩
    have eo : ∀ cs : List Cn, (cs.map fun x => V.str x.1) = (cs.map (·.1)).map V.str := fun cs => by rw [List.map_map] <;> rfl
    have e0 : Str.ofString "" = mk [] := by decide +kernel
    have go : ∀ {H' : Hp} {σ : L2.St}, H' md = some (.dK (mdL ol ml (lfV lf) lo)) → σ[0]? = some (some (V.ref md)) → Ev (tDGet (tVar 0) (tC (.str (Str.ofString "order")))) σ H' (.ref ol) := fun h e => ev_dgetK (k := Sum.inr (Str.ofString "order")) (ev_var e) ev_c h (md_o _ _ _ _)
    have gf : ∀ {H' : Hp} {σ : L2.St}, H' md = some (.dK (mdL ol ml (lfV lf) lo)) → σ[0]? = some (some (V.ref md)) → Ev (tDGet (tVar 0) (tC (.str (Str.ofString "files")))) σ H' (.ref ml) := fun h e => ev_dgetK (k := Sum.inr (Str.ofString "files")) (ev_var e) ev_c h (md_f _ _ _ _)
    have ge : ∀ {H' : Hp} {gs : List (Str × Addr)} {cs : List Cn} {σ : L2.St} {i : Nat} {a : Addr}, MS H' md ol ml lf lo gs cs → σ[0]? = some (some (V.ref md)) → σ[2]? = some (some (V.str z)) → gs[i]? = some (z, a) → Ev (tDGet (tDGet (tVar 0) (tC (.str (Str.ofString "files")))) (tVar 2)) σ H' (.ref a) := fun h e e2 hi => ev_dgetK (k := Sum.inr z) (gf h.d e) (ev_var e2) h.f (gK_at h.gnd hi)
    refine s_if (b := decide (d < 2)) (et_test (ev_bin0 (ev_var rfl) ev_c)) (fun hb H1 e1 => ?_) (fun hb H1 e1 => ?_)
    · have h2 := of_decide_eq_true hb
      have ed : deedC d cs z t n = wrC cs z t := by unfold deedC; rw [if_pos h2]
      rw [ed] at q
      have M1 := hM.mono e1
      refine q_cut (M := fun σ' H' => σ' = [some (.ref md), some (.int d), some (.str z), some (.str (mk t)), some (.int (n : Int)), none] ∧ ∃ (gs1 : List (Str × Addr)) (cs1 : List Cn) (i : Nat) (a : Addr) (s1 t1 : List Nat), MS H' md ol ml lf lo gs1 cs1 ∧ gs1[i]? = some (z, a) ∧ cs1[i]? = some (z, s1, t1) ∧ H' a = some (.lst [.str (mk s1), .str (mk t1)]) ∧ t1.length ≤ 100000 ∧ upC cs1 z (fun a b => (a, b ++ t)) = wrC cs z t ∧ (∀ x ∈ gs1, x ∈ gs ∨ H x.2 = none) ∧ But [ol, ml] H H' ∧ gs1.length ≤ 20) ?_ fun σ' H' hI => ?_
      · have hgl : gs.length = cs.length := by have := congrArg List.length hM.n; rw [List.length_map, List.length_map] at this; exact this
        rcases M1.name_cases z with hz | ⟨i, a, s1, t1, hi, hc, ha, hao⟩
        · refine s_if (b := true) (et_test (ev_is (ev_ninStrs (K := K) (zs := cs.map (·.1)) (ev_var rfl) (go M1.d rfl) (sq_of (by rw [← eo]; exact M1.o))) (by rw [decide_eq_false hz] <;> rfl))) (fun _ H2 e2 => ?_) (fun z => nomatch z)
          have M2 := M1.mono e2
          refine q_app (K := K) M2.o (go M2.d rfl) (ev_var rfl) (by rw [List.length_map]; omega) fun H3 e3 => ?_
          have M3 := M2.mono e3
          have f4 : But [ol] H3 (upd H3 ol (.lst ((cs.map fun x => V.str x.1) ++ [.str z]))) := But.put (List.mem_singleton.mpr rfl)
          have hd4 := f4 _ _ M3.d (fun y => M3.ndf.2 (List.mem_singleton.mp y).symm)
          have hm4 := f4 _ _ M3.f (fun y => M3.ndf.1 (List.mem_singleton.mp y).symm)
          have ho4 : (upd H3 ol (.lst ((cs.map fun x => V.str x.1) ++ [.str z]))) ol = some (.lst ((cs.map fun x => V.str x.1) ++ [.str z])) := upd_same
          have fr4 : ∀ {c : Addr}, (upd H3 ol (.lst ((cs.map fun x => V.str x.1) ++ [.str z]))) c = none → H3 c = none := fun {c} h => by
            rw [upd_ne (fun y => by rw [y, upd_same] at h; cases h)] at h
            exact h
          refine s_dputL (el_lst (ea_cons ev_c (ea_cons ev_c ea_nil)) (by decide)) fun a H5 ha e5 ha5 => ?_
          refine (gf (e5 _ _ hd4) rfl) H5 (Ex.refl _) _ fun H6 e6 => ⟨_, rfl, ml, _, rfl, DPut.k (k := Sum.inr z) (e6 _ _ (e5 _ _ hm4)) (szk (by unfold gK; rw [List.length_map]; omega)), ?_⟩
          have hzg : z ∉ gs.map (·.1) := by rw [hM.n]; exact hz
          have ek : putK (gK gs) (Sum.inr z : Key) (.ref a) = gK (gs ++ [(z, a)]) := by
            rw [putK_new _ (gK_no hzg)]
            unfold gK
            rw [List.map_append] <;> rfl
          rw [ek]
          rw [e0] at ha5
          have f6 : But [ol] H3 H6 := f4.trans (But.of (e5.trans e6))
          have M6 := M3.add hz (fr4 ha) f6 (e6 _ _ (e5 _ _ ho4)) (e6 _ _ ha5)
          have hzc : z ∉ cs.map (·.1) := hz
          refine ⟨rfl, gs ++ [(z, a)], cs ++ [(z, [], [])], gs.length, a, [], [], M6, by rw [List.getElem?_append_right (Nat.le_refl _), Nat.sub_self] <;> rfl, by rw [hgl, List.getElem?_append_right (Nat.le_refl _), Nat.sub_self] <;> rfl, ?_, Nat.zero_le _, ?_, fun x hx => ?_, ((But.of ((e1.trans e2).trans e3)).trans (f6.sub (by simp))).trans (But.put (by simp)), by rw [List.length_append, List.length_singleton]; omega⟩
          · rw [upd_ne (ne_of (e6 _ _ ha5) (e6 _ _ (e5 _ _ hm4)) (by intro z; cases z))]
            exact e6 _ _ ha5
          · unfold wrC
            rw [if_neg hzc]
            unfold upC
            rw [List.map_append]
            have := upC_no (F := fun a b => (a, b ++ t)) hzc
            unfold upC at this
            rw [this]
            simp
          · rcases List.mem_append.mp hx with h | h
            · exact .inl h
            · rw [List.mem_singleton.mp h]
              exact .inr (fresh_back ((e1.trans e2).trans e3) (fr4 ha))
        · have hin : z ∈ cs.map (·.1) := List.mem_map.mpr ⟨_, List.mem_of_getElem? hc, rfl⟩
          have hs1 := hsz _ (List.mem_of_getElem? hc)
          have hs1 : s1.length + t1.length ≤ 100000 := hs1
          refine s_if (b := false) (et_test (ev_is (ev_ninStrs (K := K) (zs := cs.map (·.1)) (ev_var rfl) (go M1.d rfl) (sq_of (by rw [← eo]; exact M1.o))) (by rw [decide_eq_true hin] <;> rfl))) (fun z => nomatch z) fun _ H2 e2 => ?_
          exact ⟨rfl, gs, cs, i, a, s1, t1, M1.mono e2, hi, hc, e2 _ _ ha, by omega, by unfold wrC; rw [if_pos hin], fun x hx => .inl hx, But.of (e1.trans e2), by omega⟩
      · obtain ⟨rfl, gs1, cs1, i, a, s1, t1, M, hi, hc, ha, ht1, ew, hg, fb, hgl⟩ := hI
        refine s_dputL (xs := [.str (mk s1), .str (mk (t1 ++ t))]) (el_lst (ea_cons (ev_ixL (K := K) (ge M rfl rfl hi) ev_c (sq_of ha) (at_nat (j := 0) rfl)) (ea_cons (ev_is (ev_addS (ev_ixL (K := K) (v := .str (mk t1)) (ge M rfl rfl hi) ev_c (sq_of ha) (at_nat (j := 1) rfl)) (ev_var rfl) (by rw [mk_len, mk_len]; omega)) (congrArg V.str (mk_app t1 t))) ea_nil)) (by show 2 ≤ 100000; decide)) fun a' H5 ha' e5 ha5 => ?_
        refine (gf ((M.mono e5).d) rfl) H5 (Ex.refl _) _ fun H6 e6 => ⟨_, rfl, ml, _, rfl, DPut.k (k := Sum.inr z) (e6 _ _ (M.mono e5).f) (szk (by unfold gK; rw [List.length_map]; omega)), ?_⟩
        rw [gK_put M.gnd hi]
        have M7 := M.set hi hc (e5.trans e6) ha' (e6 _ _ ha5)
        rw [← upC_set (F := fun a b => (a, b ++ t)) M.nd hc, ew] at M7
        refine q _ _ M7 (fun x hx => ?_) ((fb.trans (But.of (e5.trans e6))).trans (But.put (by simp)))
        obtain ⟨j, hj⟩ := List.getElem?_of_mem hx
        rw [List.getElem?_set] at hj
        split at hj
        · split at hj
          · obtain rfl := Option.some.inj hj
            refine .inr (but_none fb ha' ?_)
            simp only [List.mem_cons, List.not_mem_nil, or_false, not_or]
            exact ⟨(ne_of_none M.o ha').symm, (ne_of_none M.f ha').symm⟩
          · cases hj
        · exact hg x (List.mem_of_getElem? hj)
    · have h2 := of_decide_eq_false hb
      obtain ⟨F, hF, ed⟩ : ∃ F : List Nat → List Nat → List Nat × List Nat, (∀ a b, F a b = (if d = 3 then (a ++ b).take n else a ++ b, [])) ∧ deedC d cs z t n = upC cs z F := by
        by_cases h3 : d = 3
        · refine ⟨fun a b => ((a ++ b).take n, []), fun a b => by rw [if_pos h3], ?_⟩
          unfold deedC
          rw [if_neg h2, if_neg (by omega)]
        · refine ⟨fun a b => (a ++ b, []), fun a b => by rw [if_neg h3], ?_⟩
          unfold deedC
          rw [if_neg h2, if_pos (by omega)]
      rw [ed] at q
      have M1 := hM.mono e1
      have hgl : gs.length = cs.length := by have := congrArg List.length hM.n; rw [List.length_map, List.length_map] at this; exact this
      rcases M1.name_cases z with hz | ⟨i, a, s1, t1, hi, hc, ha, hao⟩
      · refine s_when (b := false) (et_test (ev_is (ev_inStrs (K := K) (zs := cs.map (·.1)) (ev_var rfl) (go M1.d rfl) (sq_of (by rw [← eo]; exact M1.o))) (by rw [inS_mem, decide_eq_false hz]))) (fun z => nomatch z) fun _ H2 e2 => ?_
        have M2 := M1.mono e2
        refine q gs H2 ?_ (fun x hx => .inl hx) (But.of (e1.trans e2))
        rw [upC_no hz]
        exact M2
      · have hin : z ∈ cs.map (·.1) := List.mem_map.mpr ⟨_, List.mem_of_getElem? hc, rfl⟩
        have hs1 := hsz _ (List.mem_of_getElem? hc)
        have hs1 : s1.length + t1.length ≤ 100000 := hs1
        refine s_when (b := true) (et_test (ev_is (ev_inStrs (K := K) (zs := cs.map (·.1)) (ev_var rfl) (go M1.d rfl) (sq_of (by rw [← eo]; exact M1.o))) (by rw [inS_mem, decide_eq_true hin]))) (fun _ H2 e2 => ?_) (fun z => nomatch z)
        have M2 := M1.mono e2
        have ha2 := e2 _ _ ha
        refine q_asgS2 [some (.ref md), some (.int d), some (.str z), some (.str (mk t)), some (.int (n : Int)), some (.str (mk (s1 ++ t1)))] (v := .str (mk (s1 ++ t1))) (ev_is (ev_addS (ev_ixL (K := K) (v := .str (mk s1)) (ge M2 rfl rfl hi) ev_c (sq_of ha2) (at_nat (j := 0) rfl)) (ev_ixL (K := K) (v := .str (mk t1)) (ge M2 rfl rfl hi) ev_c (sq_of ha2) (at_nat (j := 1) rfl)) (by rw [mk_len, mk_len]; omega)) (congrArg V.str (mk_app s1 t1))) rfl fun H3 e3 => ?_
        refine q_cut (M := fun σ' H' => σ' = [some (.ref md), some (.int d), some (.str z), some (.str (mk t)), some (.int (n : Int)), some (.str (mk (F s1 t1).1))] ∧ Ex H2 H') ?_ fun σ' H' hI => ?_
        · refine s_if (b := decide (d = 3)) (et_test (ev_eqI (ev_var rfl) ev_c)) (fun hb H4 e4 => ?_) (fun hb H4 e4 => ?_)
          · have h3 := of_decide_eq_true hb
            have eF : (F s1 t1).1 = (s1 ++ t1).take n := by rw [hF, if_pos h3]
            rw [eF]
            exact s_asg (ev_is (ev_slB (ev_var rfl) eo_none (eo_some (ev_var rfl)) (by rw [mk_len, List.length_append]; omega)) (congrArg V.str (mk_take _ n))) fun H5 e5 => ⟨rfl, (e3.trans e4).trans e5⟩
          · have h3 := of_decide_eq_false hb
            have eF : (F s1 t1).1 = s1 ++ t1 := by rw [hF, if_neg h3]
            rw [eF]
            exact ⟨rfl, e3.trans e4⟩
        · obtain ⟨rfl, e4⟩ := hI
          have M4 := M2.mono e4
          refine s_dputL (xs := [.str (mk (F s1 t1).1), .str (mk (F s1 t1).2)]) (by rw [show (F s1 t1).2 = [] from by rw [hF], ← e0]; exact el_lst (ea_cons (ev_var rfl) (ea_cons ev_c ea_nil)) (by show 2 ≤ 100000; decide)) fun a' H5 ha' e5 ha5 => ?_
          refine (gf ((M4.mono e5).d) rfl) H5 (Ex.refl _) _ fun H6 e6 => ⟨_, rfl, ml, _, rfl, DPut.k (k := Sum.inr z) (e6 _ _ (M4.mono e5).f) (szk (by unfold gK; rw [List.length_map]; omega)), ?_⟩
          rw [gK_put M4.gnd hi]
          have M7 := M4.set hi hc (e5.trans e6) ha' (e6 _ _ ha5)
          have M7' : MS _ md ol ml lf lo _ (cs.set i (z, F s1 t1)) := M7
          rw [← upC_set (F := F) M4.nd hc] at M7'
          have E4 := (e1.trans e2).trans e4
          refine q _ _ M7' (fun x hx => ?_) ((But.of (E4.trans (e5.trans e6))).trans (But.put (by simp)))
          obtain ⟨j, hj⟩ := List.getElem?_of_mem hx
          rw [List.getElem?_set] at hj
          split at hj
          · split at hj
            · obtain rfl := Option.some.inj hj
              exact .inr (fresh_back E4 ha')
            · cases hj
          · exact .inl (List.mem_of_getElem? hj)


/-! ### _law_deed -/
/-! ### the disk and the law's own one -/
def N3 : List Str := [Str.ofString "left", Str.ofString "l", Str.ofString "right"]
theorem nd_lenS : ∀ {xs ys : List Str}, xs.Nodup → (∀ x ∈ xs, x ∈ ys) → xs.length ≤ ys.length
  | [], _, _, _ => Nat.zero_le _
  | x :: xs, ys, nd, h => by
    have n := List.nodup_cons.mp nd
    have hx := h x List.mem_cons_self
    have := nd_lenS (xs := xs) (ys := ys.erase x) n.2 fun y hy => (List.mem_erase_of_ne (fun e => n.1 (by rw [← e]; exact hy))).mpr (h y (List.mem_cons_of_mem _ hy))
    rw [List.length_erase_of_mem hx] at this
    have h2 := List.length_pos_of_mem hx
    rw [List.length_cons]
    omega
structure LS (CD CF : Addr) (H : Hp) (p fd md ol ml : Addr) (lf : Option Int) (lo : Bool) (fs : List (Str × Fi)) (gs : List (Str × Addr)) (m : Nat) : Prop where
  ds : DS CD CF H p fd (!lo) (lfV lf) fs m
  ms : MS H md ol ml lf lo gs (cont fs)
  ow : ∀ c ∈ mA md ol ml gs, c ≠ p ∧ c ≠ fd ∧ Own fs c
  l0 : lo = true → lf = some 0
  bd : ∀ n, lf = some n → 0 ≤ n ∧ n ≤ 1000
  nm : ∀ x ∈ cont fs, x.1 ∈ N3
/-- what is neither the disk's nor the law's own one's stays so -/
def Gr (fs fs' : List (Str × Fi)) (p fd md ol ml : Addr) (H H' : Hp) : Prop := ∀ c u, H c = some u → c ≠ p → c ≠ fd → Own fs c → c ≠ md → c ≠ ol → c ≠ ml → H' c = some u ∧ Own fs' c
section
variable {CD CF : Addr} {H H' H'' : Hp} {p fd md ol ml : Addr} {lf lf' : Option Int} {lo lo' : Bool} {fs fs' fs'' : List (Str × Fi)} {gs gs' : List (Str × Addr)} {m m' : Nat} {cs : List Cn}
theorem LS.mono (h : LS CD CF H p fd md ol ml lf lo fs gs m) (e : Ex H H') : LS CD CF H' p fd md ol ml lf lo fs gs m := { h with ds := h.ds.mono e, ms := h.ms.mono e }
theorem LS.le (h : LS CD CF H p fd md ol ml lf lo fs gs m) (e : m ≤ m') : LS CD CF H p fd md ol ml lf lo fs gs m' := { h with ds := h.ds.le e }
theorem LS.len (h : LS CD CF H p fd md ol ml lf lo fs gs m) : fs.length ≤ 3 := by
  have := nd_lenS (ys := N3) h.ms.nd fun x hx => by
    obtain ⟨y, hy, rfl⟩ := List.mem_map.mp hx
    exact h.nm y hy
  rw [List.length_map] at this
  unfold cont at this
  rw [List.length_map] at this
  exact this
theorem LS.sz (h : LS CD CF H p fd md ol ml lf lo fs gs m) : ∀ x ∈ cont fs, x.2.1.length + x.2.2.length ≤ m := fun x hx => by
  unfold cont at hx
  obtain ⟨y, hy, rfl⟩ := List.mem_map.mp hx
  have := h.ds.sz.2 y hy
  show (cds y.2.S).length + (cds y.2.T).length ≤ m
  omega
theorem Gr.of (h : But [md] H H') : Gr fs fs p fd md ol ml H H' := fun c u hc _ _ ho h1 _ _ => ⟨h c u hc fun z => h1 (List.mem_singleton.mp z), ho⟩
theorem Gr.of2 (h : But [ol, ml] H H') : Gr fs fs p fd md ol ml H H' := fun c u hc _ _ ho _ h2 h3 => ⟨h c u hc fun z => by
  simp only [List.mem_cons, List.not_mem_nil, or_false] at z
  exact z.elim h2 h3, ho⟩
theorem Gr.fr (h : Fr fs fs' p fd H H') : Gr fs fs' p fd md ol ml H H' := fun c u hc h1 h2 ho _ _ _ => h c u hc h1 h2 ho
theorem Gr.ex (h : Ex H H') : Gr fs fs p fd md ol ml H H' := fun c u hc _ _ ho _ _ _ => ⟨h c u hc, ho⟩
theorem Gr.trans (a : Gr fs fs' p fd md ol ml H H') (b : Gr fs' fs'' p fd md ol ml H' H'') : Gr fs fs'' p fd md ol ml H H'' := fun c u hc h1 h2 ho h3 h4 h5 => let ⟨x, y⟩ := a c u hc h1 h2 ho h3 h4 h5; b c u x h1 h2 y h3 h4 h5
theorem MS.chg (h : MS H md ol ml lf lo gs cs) (f : But [md] H H') (d : H' md = some (.dK (mdL ol ml (lfV lf') lo'))) : MS H' md ol ml lf' lo' gs cs := by
  have nx := h.ndf
  refine ⟨d, f _ _ h.o fun z => nx.2 (List.mem_singleton.mp z), f _ _ h.f fun z => h.nm (List.mem_singleton.mp z).symm, h.n, fun i z a hi => ?_, h.nd, h.nm⟩
  obtain ⟨s, t, h1, h2, h3⟩ := h.e i z a hi
  exact ⟨s, t, h1, f _ _ h2 fun y => ne_of h2 h.d (by intro z; cases z) (List.mem_singleton.mp y), h3⟩
/-- a deed of the disk leaves the law's own one -/
theorem LS.fr (ms : MS H md ol ml lf lo gs cs) (ow : ∀ c ∈ mA md ol ml gs, c ≠ p ∧ c ≠ fd ∧ Own fs c) (f : Fr fs fs' p fd H H') : MS H' md ol ml lf lo gs cs ∧ ∀ c ∈ mA md ol ml gs, c ≠ p ∧ c ≠ fd ∧ Own fs' c := by
  have ex : ∀ c ∈ mA md ol ml gs, ∃ u, H c = some u := fun c hc => by
    simp only [mA, List.mem_cons, List.mem_map] at hc
    rcases hc with rfl | rfl | rfl | ⟨x, hx, rfl⟩
    · exact ⟨_, ms.d⟩
    · exact ⟨_, ms.o⟩
    · exact ⟨_, ms.f⟩
    · obtain ⟨i, hi⟩ := List.getElem?_of_mem hx
      obtain ⟨s, t, _, h2, _⟩ := ms.e i x.1 x.2 hi
      exact ⟨_, h2⟩
  refine ⟨ms.keep fun c hc u hu => (f c u hu (ow c hc).1 (ow c hc).2.1 (ow c hc).2.2).1, fun c hc => ?_⟩
  obtain ⟨u, hu⟩ := ex c hc
  exact ⟨(ow c hc).1, (ow c hc).2.1, (f c u hu (ow c hc).1 (ow c hc).2.1 (ow c hc).2.2).2⟩
/-- the law's own new lists are not the disk's -/
theorem ow_new (ds : DS CD CF H p fd (!lo) (lfV lf) fs m) (ow : ∀ c ∈ mA md ol ml gs, c ≠ p ∧ c ≠ fd ∧ Own fs c) (h : ∀ x ∈ gs', x ∈ gs ∨ H x.2 = none) : ∀ c ∈ mA md ol ml gs', c ≠ p ∧ c ≠ fd ∧ Own fs c := fun c hc => by
  simp only [mA, List.mem_cons, List.mem_map] at hc
  rcases hc with rfl | rfl | rfl | ⟨x, hx, rfl⟩
  · exact ow _ (by simp [mA])
  · exact ow _ (by simp [mA])
  · exact ow _ (by simp [mA])
  · rcases h x hx with hx | hn
    · refine ow _ ?_
      simp only [mA, List.mem_cons, List.mem_map]
      exact .inr (.inr (.inr ⟨x, hx, rfl⟩))
    · obtain ⟨dx, hp⟩ := ds.dk
      refine ⟨(ne_of_none hp hn).symm, (ne_of_none ds.di hn).symm, fun y hy => ?_⟩
      have k := ds.fa y hy
      obtain ⟨dy, ho⟩ := k.ob
      exact ⟨(ne_of_none ho hn).symm, (ne_of_none k.ht hn).symm, (ne_of_none k.hs hn).symm⟩
end
theorem upC_names {cs : List Cn} {z : Str} {F : List Nat → List Nat → List Nat × List Nat} {x : Cn} (h : x ∈ upC cs z F) : ∃ y ∈ cs, y.1 = x.1 := by
  unfold upC at h
  obtain ⟨y, hy, e⟩ := List.mem_map.mp h
  refine ⟨y, hy, ?_⟩
  rw [← e]
  split <;> rfl
theorem deedC_names {d : Int} {cs : List Cn} {z : Str} {t : List Nat} {n : Nat} {x : Cn} (h : x ∈ deedC d cs z t n) : (∃ y ∈ cs, y.1 = x.1) ∨ x.1 = z := by
  unfold deedC at h
  split at h
  · unfold wrC at h
    split at h
    · exact .inl (upC_names h)
    · rcases List.mem_append.mp h with h | h
      · exact .inl ⟨x, h, rfl⟩
      · rw [List.mem_singleton.mp h]
        exact .inr rfl
  · split at h
    · exact .inl (upC_names h)
    · exact .inl (upC_names h)
abbrev eS (p md np : Addr) (d : Int) (z : Str) (t : List Nat) (n : Nat) (x7 x8 x9 x10 x11 x12 x13 x14 x15 : Option V) : L2.St := [some (.ref p), some (.ref md), some (.ref np), some (.int d), some (.str z), some (.str (mk t)), some (.int (n : Int)), x7, x8, x9, x10, x11, x12, x13, x14, x15]

/-- ''.join(d.get(name, [])) -/
theorem ev_joinG {K : PySem.W.Frag} {σ : L2.St} {H : Hp} {to td ty : TE} {a : Str} {ml : Addr} {kvs : List (Key × V)} {z : Str} {ys : List Str} (h0 : Ev to σ H (.str a)) (h : Ev td σ H (.ref ml)) (h2 : Ev ty σ H (.str z)) (hm : H ml = some (.dK kvs))
    (hp : (∃ p, valV kvs (Sum.inr z : Key) = some (.ref p) ∧ H p = some (.lst (ys.map V.str))) ∨ (valV kvs (Sum.inr z : Key) = none ∧ ys = [])) (hz : (ys.map (·.length)).sum + ys.length * a.length ≤ 16777216) :
    Ev (tM1 (fun x xs H Q => ∃ a p, ∃ ys : List Str, x = .str a ∧ xs = [.ref p] ∧ (SqL K H p (ys.map V.str) ∨ SqT K H p (ys.map V.str)) ∧ (ys.map (·.length)).sum + ys.length * a.length ≤ 16777216 ∧ Q (.str (Txt.join a ys)) H) to (tDGet2 td ty (tLst tNil))) σ H (.str (Txt.join a ys)) :=
  fun H1 e Q q => h0 H1 e _ fun H2 e2 => ⟨⟨a, rfl⟩, h H2 (e.trans e2) _ fun H3 e3 => ⟨ml, rfl, .inl ⟨kvs, .inl (((e.trans e2).trans e3) _ _ hm)⟩, h2 H3 ((e.trans e2).trans e3) _ fun H4 e4 => (el_lst ea_nil (by decide) : EvL (tLst tNil) σ H []) H4 (((e.trans e2).trans e3).trans e4) _ fun b H5 hb e5 hb5 => by
    have E5 := (((e.trans e2).trans e3).trans e4).trans e5
    refine ⟨valV kvs (Sum.inr z : Key), DGet.k (k := Sum.inr z) (E5 _ _ hm), ?_⟩
    rcases hp with ⟨p, hv, hp⟩ | ⟨hv, rfl⟩
    · rw [hv]
      exact ⟨a, p, ys, rfl, rfl, .inl (sq_of (E5 _ _ hp)), hz, q H5 (((e2.trans e3).trans e4).trans e5)⟩
    · rw [hv]
      exact ⟨a, b, [], rfl, rfl, .inl (sq_of hb5), hz, q H5 (((e2.trans e3).trans e4).trans e5)⟩⟩⟩
theorem dpa_natsD {K : PySem.W.Frag} {H : Hp} : ∀ zs : List Nat, DpAll K H (zs.map fun (n : Nat) => V.int (n : Int)) (zs.map fun (n : Nat) => PyData.int (n : Int))
  | [] => .nil
  | z :: r => .cons (.int z) (dpa_natsD r)
/-- two lists of the same numbers differ not -/
theorem ev_neSame {K : PySem.W.Frag} {σ : L2.St} {H : Hp} {ta tb : TE} {p q : Addr} {kl : List Nat} (ha : Ev ta σ H (.ref p)) (hb : Ev tb σ H (.ref q)) (hp : H p = some (.lst (kl.map fun (n : Nat) => V.int (n : Int)))) (hq : H q = some (.lst (kl.map fun (n : Nat) => V.int (n : Int)))) : Ev (tOp (rNeD K) ta tb) σ H (.bl false) := by
  have fl : ∀ d ∈ (kl.map fun (n : Nat) => PyData.int (n : Int)), Fl 0 d := fun d hd => by
    obtain ⟨n, _, rfl⟩ := List.mem_map.mp hd
    exact .int 0 _
  have sh : SeqAt.shaped (.list (kl.map fun (n : Nat) => PyData.int (n : Int))) = true := shaped_lst fl (by decide)
  have e : PyData.eqvAll (kl.map fun (n : Nat) => PyData.int (n : Int)) (kl.map fun (n : Nat) => PyData.int (n : Int)) = true := by
    clear fl sh hp hq
    induction kl with
    | nil => simp [PyData.eqvAll]
    | cons x r ih => simp only [List.map_cons, PyData.eqvAll, ih, PyData.eqv]; simp
  refine ev_neP ha hb (.lst (sq_of hp) (dpa_natsD kl)) (.lst (sq_of hq) (dpa_natsD kl)) sh sh ?_
  simp only [PyData.eqv, e]
  rfl
theorem keep_at (kl : List Nat) {k : Nat} (h : k < 3) : ((kl.map fun (n : Nat) => V.int (n : Int)) ++ [V.int 0, V.int 0, V.int 0])[k]? = some (.int ((kl.getD k 0 : Nat) : Int)) := by
  by_cases hk : k < kl.length
  · rw [List.getElem?_append_left (by rw [List.length_map]; exact hk), List.getElem?_map, List.getD_eq_getElem?_getD, List.getElem?_eq_getElem hk] <;> rfl
  · have e : kl.getD k 0 = 0 := by rw [List.getD_eq_getElem?_getD, List.getElem?_eq_none (by omega)] <;> rfl
    rw [e, List.getElem?_append_right (by rw [List.length_map]; omega), List.length_map]
    have : k - kl.length = 0 ∨ k - kl.length = 1 ∨ k - kl.length = 2 := by omega
    rcases this with h | h | h <;> rw [h] <;> rfl
theorem cut4 {n0 n1 n2 n3 n4 n5 n6 n7 n8 r : Int} (h0 : 0 ≤ r) (h1 : r < 5) : ∃ kx : List Int, cutV (([n0, n1, n2, n3, n4, n5, n6, n7, n8] : List Int).map V.int) (some 4) (some (4 + r)) = kx.map V.int ∧ kx.length ≤ 4 := by
  have h : r = 0 ∨ r = 1 ∨ r = 2 ∨ r = 3 ∨ r = 4 := by omega
  rcases h with h | h | h | h | h <;> subst h
  · exact ⟨[], rfl, by decide⟩
  · exact ⟨[n4], rfl, by show 1 ≤ 4; decide⟩
  · exact ⟨[n4, n5], rfl, by show 2 ≤ 4; decide⟩
  · exact ⟨[n4, n5, n6], rfl, by show 3 ≤ 4; decide⟩
  · exact ⟨[n4, n5, n6, n7], rfl, by show 4 ≤ 4; decide⟩
def rsS (cs : List Cn) (kl : List Nat) (i : Nat) : List Cn := cs.mapIdx fun j x => if j < i then (x.1, x.2.1 ++ x.2.2.take (kl.getD j 0), []) else x
theorem rsS_get (cs : List Cn) (kl : List Nat) (i j : Nat) : (rsS cs kl i)[j]? = (cs[j]?).map fun x => if j < i then (x.1, x.2.1 ++ x.2.2.take (kl.getD j 0), []) else x := by
  unfold rsS
  rw [List.getElem?_mapIdx]
theorem rsS_0 (cs : List Cn) (kl : List Nat) : rsS cs kl 0 = cs := List.ext_getElem? fun j => by
  rw [rsS_get]
  cases cs[j]? with
  | none => rfl
  | some x => show some (if j < 0 then _ else x) = _; rw [if_neg (Nat.not_lt_zero j)]
theorem rsS_at {cs : List Cn} {kl : List Nat} {i : Nat} {x : Cn} (h : cs[i]? = some x) : (rsS cs kl i)[i]? = some x := by
  rw [rsS_get, h]
  show some (if i < i then _ else x) = _
  rw [if_neg (Nat.lt_irrefl i)]
theorem rsS_step {cs : List Cn} {kl : List Nat} {i : Nat} {z : Str} {s t : List Nat} (h : cs[i]? = some (z, s, t)) : (rsS cs kl i).set i (z, s ++ t.take (kl.getD i 0), []) = rsS cs kl (i + 1) := by
  have hl := (List.getElem?_eq_some_iff.mp (rsS_at (kl := kl) h)).1
  refine List.ext_getElem? fun j => ?_
  rw [List.getElem?_set, rsS_get, rsS_get]
  by_cases e : i = j
  · subst e
    rw [if_pos rfl, if_pos hl, h]
    show _ = some (if i < i + 1 then _ else _)
    rw [if_pos (Nat.lt_succ_self i)]
  · rw [if_neg e]
    cases cs[j]? with
    | none => rfl
    | some x =>
      show some (if j < i then _ else _) = some (if j < i + 1 then _ else _)
      by_cases h : j < i
      · rw [if_pos h, if_pos (by omega)]
      · rw [if_neg h, if_neg (by omega)]
theorem rsS_end {cs : List Cn} {kl : List Nat} {i : Nat} (h : cs.length ≤ i) : rsS cs kl i = rsC cs kl := List.ext_getElem? fun j => by
  rw [rsS_get]
  unfold rsC
  rw [List.getElem?_mapIdx]
  cases e : cs[j]? with
  | none => rfl
  | some x =>
    have := (List.getElem?_eq_some_iff.mp e).1
    show some (if j < i then _ else x) = _
    rw [if_pos (by omega)] <;> rfl
theorem rsC_names {cs : List Cn} {kl : List Nat} {x : Cn} (h : x ∈ rsC cs kl) : ∃ y ∈ cs, y.1 = x.1 := by
  unfold rsC at h
  obtain ⟨j, hj⟩ := List.getElem?_of_mem h
  rw [List.getElem?_mapIdx] at hj
  cases e : cs[j]? with
  | none => rw [e] at hj; cases hj
  | some y =>
    rw [e] at hj
    exact ⟨y, List.mem_of_getElem? e, by rw [← Option.some.inj hj]⟩
theorem rsS_len (cs : List Cn) (kl : List Nat) (i : Nat) : (rsS cs kl i).length = cs.length := by unfold rsS; rw [List.length_mapIdx]
theorem q_asgLS {te : TE} {σ : L2.St} {H : Hp} {tz : TS} {D : Ends} {i : Nat} {xs : List V} (σ' : Addr → L2.St) (h : EvL te σ H xs) (hs : ∀ p, σ.set i (some (.ref p)) = σ' p) (k : ∀ p H1, H p = none → Ex H H1 → H1 p = some (.lst xs) → tz D (σ' p) H1) : tSeq (tAsg te (gName i)) tz D σ H := q_asgL h fun p H1 a b c => by rw [hs]; exact k p H1 a b c
theorem q_dputK {td ty tv : TE} {tz : TS} {D : Ends} {σ : L2.St} {H : Hp} (h : tv σ H fun v H1 => td σ H1 fun x H2 => ty σ H2 fun y H3 => ∃ a H4, x = .ref a ∧ DPut H3 a y v H4 ∧ tz D σ H4) : tSeq (sDPut td ty tv) tz D σ H := h
theorem totC_sum : ∀ cs : List Cn, (cs.map fun x => (((x.2.1 ++ x.2.2).length : Nat) : Int)).sum = (totC cs : Nat)
  | [] => rfl
  | x :: r => by
    have ih := totC_sum r
    unfold totC at ih ⊢
    rw [List.map_cons, List.sum_cons, ih, List.map_cons, List.sum_cons]
    push_cast
    rfl
/-- the sum of a new list of ints -/
theorem ev_sumN {K : PySem.W.Frag} {σ : L2.St} {H : Hp} {tl : TE} {ns : List Int} {n : Int} (h : EvL tl σ H (ns.map V.int)) (hn : ns.sum = n) : Ev (tCB (rSum K) (tCons tl tNil)) σ H (.int n) := fun H1 e Q q => h H1 e _ fun a H2 _ e2 ha => ⟨a, ns, rfl, sq_of ha, by rw [hn]; exact q H2 e2⟩
theorem own_new {CD CF : Addr} {H : Hp} {p fd : Addr} {pw : Bool} {lf : V} {fs : List (Str × Fi)} {m : Nat} {a : Addr} (D : DS CD CF H p fd pw lf fs m) (ha : H a = none) : a ≠ p ∧ a ≠ fd ∧ Own fs a := by
  obtain ⟨dx, hp⟩ := D.dk
  refine ⟨(ne_of_none hp ha).symm, (ne_of_none D.di ha).symm, fun y hy => ?_⟩
  have k := D.fa y hy
  obtain ⟨dy, ho⟩ := k.ob
  exact ⟨(ne_of_none ho ha).symm, (ne_of_none k.ht ha).symm, (ne_of_none k.hs ha).symm⟩
theorem opL_l0 {lo : Bool} {lf : Option Int} (h : lo = true → lf = some 0) (e : (opL (!lo) lf).1 = false) : (opL (!lo) lf).2 = some 0 := by
  cases lo with
  | true => rw [h rfl] <;> rfl
  | false =>
    cases lf with
    | none => cases e
    | some n =>
      unfold opL at e ⊢
      by_cases h0 : n = 0
      · simp only [h0, if_true]
      · simp only [h0, if_false, Bool.not_false] at e
        cases e
theorem opL_bd {pw : Bool} {lf : Option Int} (h : ∀ n, lf = some n → 0 ≤ n ∧ n ≤ 1000) : ∀ n, (opL pw lf).2 = some n → 0 ≤ n ∧ n ≤ 1000 := fun n e => by
  cases lf with
  | none => cases e
  | some k =>
    have hk := h k rfl
    unfold opL at e
    by_cases h0 : k = 0
    · simp only [h0, if_true] at e
      have := Option.some.inj e
      omega
    · simp only [h0, if_false] at e
      have := Option.some.inj e
      omega
def spDeed (CD CF : Addr) : Sp := fun vs H Q _ => ∃ (p fd md ol ml np : Addr) (lf : Option Int) (lo : Bool) (fs : List (Str × Fi)) (gs : List (Str × Addr)) (m : Nat) (ns : List Int), vs = [.ref p, .ref md, .ref np] ∧ LS CD CF H p fd md ol ml lf lo fs gs m ∧ m ≤ 8000 ∧ H np = some (.lst (ns.map V.int)) ∧ np ≠ ol ∧ Own fs np ∧ ns.length = 9 ∧ (∀ n ∈ ns, 0 ≤ n ∧ n < 1000) ∧
  ∀ lf' lo' fs' gs' H', LS CD CF H' p fd md ol ml lf' lo' fs' gs' (m + 100) → Gr fs fs' p fd md ol ml H H' → Q (.bl true) H'
set_option maxHeartbeats 4000000 in
theorem ok_law_deed (T : Txt K mg) : FnOk P w K mg base CX0 5 T.f_law_deed T.d_law_deed ["disk", "m", "numbers"] (spDeed T.C_Disk T.C_StoredFile) := by
  refine T.F_law_deed.ok sc_law_deed (fun vs H Q E h => ?_) (fun cdv A outer s H vs Q E hr h => ?_)
  · obtain ⟨p, fd, md, ol, ml, np, lf, lo, fs, gs, m, ns, rfl, _⟩ := h
    rfl
  · obtain ⟨p, fd, md, ol, ml, np, lf, lo, fs, gs, m, ns, rfl, L, hm, hnp, hno, hown, hlen, hrng, q⟩ := h
    have hu := hu_of hr
    have e00 : Str.ofString "" = mk [] := by decide +kernel
    refine ⟨_, pss_cons (ps_set (i := 3) sc_law_deed.nd rfl (by first | exact Or.inl rfl | exact Or.inr rfl) (pe_op op_mod (pe_ix (r := rIxL K) ix_list (pv 2) (pe_int) (fun _ _ => rfl)) (pe_int)))
      (pss_cons (ps_set (i := 4) sc_law_deed.nd rfl (by first | exact Or.inl rfl | exact Or.inr rfl) (pe_ix (r := rIxL K) ix_list (pe_lst (pa_cons (pe_str) (pa_cons (pe_str) (pa_cons (pe_str) (pa_nil))))) (pe_op op_mod (pe_ix (r := rIxL K) ix_list (pv 2) (pe_int) (fun _ _ => rfl)) (pe_int)) (fun _ _ => rfl)))
      (pss_cons (ps_set (i := 5) sc_law_deed.nd rfl (by first | exact Or.inl rfl | exact Or.inr rfl) (pe_call (ok_law_text T) (hr.mono (by first | decide | omega)) (by rfl) T.g_law_text T.F_law_text.kp T.b_law_text .nil pass0 (pa_cons (pe_ix (r := rIxL K) ix_list (pv 2) (pe_int) (fun _ _ => rfl)) (pa_cons (pe_ix (r := rIxL K) ix_list (pv 2) (pe_int) (fun _ _ => rfl)) (pa_nil)))))
      (pss_cons (ps_set (i := 6) sc_law_deed.nd rfl (by first | exact Or.inl rfl | exact Or.inr rfl) (pe_op op_mod (pe_ix (r := rIxL K) ix_list (pv 2) (pe_int) (fun _ _ => rfl)) (pe_int)))
      (pss_cons (ps_if (pt_cmpR op_lt (pv 3) (pe_int) (nomark _))
      (pss_cons (ps_set (i := 7) sc_law_deed.nd rfl (by first | exact Or.inl rfl | exact Or.inr rfl) (pe_call (ok_law_operates T) (hr.mono (by first | decide | omega)) (by rfl) T.g_law_operates T.F_law_operates.kp T.b_law_operates .nil pass0 (pa_cons (pv 1) (pa_nil))))
      (pss_cons (ps_set (i := 8) sc_law_deed.nd rfl (by first | exact Or.inl rfl | exact Or.inr rfl) (pe_call (ok_law_called T) (hr.mono (by first | decide | omega)) (by rfl) T.g_law_called T.F_law_called.kp T.b_law_called .nil pass0 (pa_cons (pv 0) (pa_cons (pv 3) (pa_cons (pv 4) (pa_cons (pv 5) (pa_cons (pv 6) (pa_nil))))))))
      (pss_cons (ps_if (pt_val (pv 7))
      (pss_one (ps_expr (pe_call (ok_law_changes T) (hr.mono (by first | decide | omega)) (by rfl) T.g_law_changes T.F_law_changes.kp T.b_law_changes .nil pass0 (pa_cons (pv 1) (pa_cons (pv 3) (pa_cons (pv 4) (pa_cons (pv 5) (pa_cons (pv 6) (pa_nil)))))))))
      (pss_nil))
      (pss_one (ps_ret (pe_cmpR op_eq (pv 8) (pe_ix (r := rIxL K) ix_list (pe_lst (pa_cons (pe_str) (pa_cons (pe_int) (pa_nil)))) (pe_callTy call_int1 (by rfl) T.m_int (by decide +kernel) (pa_cons (pe_not (pv 7)) (pa_nil))) (fun _ _ => rfl)) (nomark _)))))))
      (pss_nil))
      (pss_cons (ps_if (pt_cmpR op_eq (pv 3) (pe_int) (nomark _))
      (pss_cons (ps_set (i := 8) sc_law_deed.nd rfl (by first | exact Or.inl rfl | exact Or.inr rfl) (pe_call (ok_law_called T) (hr.mono (by first | decide | omega)) (by rfl) T.g_law_called T.F_law_called.kp T.b_law_called .nil pass0 (pa_cons (pv 0) (pa_cons (pv 3) (pa_cons (pv 4) (pa_cons (pv 5) (pa_cons (pv 6) (pa_nil))))))))
      (pss_cons (ps_if (pt_val (pe_dget hu (pv 1) (pe_str) (fun _ _ => rfl)))
      (pss_one (ps_ret (pe_cmpR op_eq (pv 8) (pe_int) (nomark _))))
      (pss_nil))
      (pss_one (ps_ret (pe_and (pe_callB (r := rIsi K) call_isi (by rfl) T.m_isinstance (by decide +kernel) (pa_cons (pv 8) (pa_cons (pe_bltn (v := .ty "str") (by rfl) T.m_str (by decide +kernel) rfl) (pa_nil)))) (pe_one (pe_cmpR op_eq (pv 8) (pe_join (pe_str) (pe_dget2 hu (pe_dget hu (pv 1) (pe_str) (fun _ _ => rfl)) (pv 4) (pe_lst (pa_nil)) ⟨rfl, rfl, rfl, rfl⟩)) (nomark _))))))))
      (pss_nil))
      (pss_cons (ps_if (pt_cmpR op_eq (pv 3) (pe_int) (nomark _))
      (pss_cons (ps_if (pt_not (pt_val (pe_dget hu (pv 1) (pe_str) (fun _ _ => rfl))))
      (pss_cons (ps_if (pt_cmpR op_notN (pe_meth (pv 0) T.cl_Disk T.me_Disk_arm (ok_Disk_arm T) (hr.mono (by first | decide | omega)) T.b_Disk_arm .nil pass0 (pa_cons (pe_op op_mod (pe_ix (r := rIxL K) ix_list (pv 2) (pe_int) (fun _ _ => rfl)) (pe_int)) (pa_nil))) (pe_non) (nomark _))
      (pss_one (ps_ret (pe_bl)))
      (pss_nil))
      (pss_one (ps_dput hu (pv 1) (pe_str) (pe_op op_mod (pe_ix (r := rIxL K) ix_list (pv 2) (pe_int) (fun _ _ => rfl)) (pe_int)) rfl)))
      (pss_nil))
      (pss_one (ps_ret (pe_bl))))
      (pss_nil))
      (pss_cons (ps_if (pt_cmpR op_eq (pv 3) (pe_int) (nomark _))
      (pss_cons (ps_setLc (i := 9) (own := [("number", 10)]) (g := gName 10) (tt := tYes) (by rfl) sc_law_deed.nd rfl rfl (sw_true rfl rfl rfl (by decide +kernel)) (pi_list (pe_slice (r := rSlL K) sl_list (pv 2) (po_some (pe_int)) (po_some (pe_op op_add (pe_int) (pe_op op_mod (pe_ix (r := rIxL K) ix_list (pv 2) (pe_int) (fun _ _ => rfl)) (pe_int)))))) (blkOk_by (N := ["disk", "m", "numbers", "deed", "name", "text", "length", "good", "told", "kept", "number", "given", "k", "entry", "keep", "total"]) (sc := defScope s_law_deed) (by decide +kernel)) (fun _ _ _ _ _ => pg_name (i := 10) sc_law_deed.nd rfl (Or.inl rfl)) (fun _ _ _ _ _ => pts_nil) (fun _ _ _ _ _ => pe_op op_mod (pv 10) (pe_int)))
      (pss_cons (ps_set (i := 11) sc_law_deed.nd rfl (by first | exact Or.inl rfl | exact Or.inr rfl) (pe_callTy call_list_of (by rfl) T.m_list (by decide +kernel) (pa_cons (pv 9) (pa_nil))))
      (pss_cons (ps_if (PW.pt (pw_or (pt_cmpR op_notN (pe_meth (pv 0) T.cl_Disk T.me_Disk_restart (ok_Disk_restart T) (hr.mono (by first | decide | omega)) T.b_Disk_restart .nil pass0 (pa_cons (pv 11) (pa_nil))) (pe_non) (nomark _)) (pw_or1 (pt_cmpR (r := rNeD K) (op_neD hr.units) (pv 11) (pv 9) (nomark _)))))
      (pss_one (ps_ret (pe_bl)))
      (pss_nil))
      (pss_cons (ps_for PassesOwn.never rfl (pi_range1 (by rfl) T.m_range (pa_cons (pe_callB (r := rLenQ K) call_len_seq (by rfl) T.m_len (by decide +kernel) (pa_cons (pe_dget hu (pv 1) (pe_str) (fun _ _ => rfl)) (pa_nil))) (pa_nil))) (pg_name (i := 12) sc_law_deed.nd rfl (by first | exact Or.inl rfl | exact Or.inr rfl))
      (pss_cons (ps_set (i := 13) sc_law_deed.nd rfl (by first | exact Or.inl rfl | exact Or.inr rfl) (pe_dget hu (pe_dget hu (pv 1) (pe_str) (fun _ _ => rfl)) (pe_ix (r := rIxL K) ix_list (pe_dget hu (pv 1) (pe_str) (fun _ _ => rfl)) (pv 12) (fun _ _ => rfl)) (fun _ _ => rfl)))
      (pss_cons (ps_set (i := 14) sc_law_deed.nd rfl (by first | exact Or.inl rfl | exact Or.inr rfl) (pe_ix (r := rIxL K) ix_list (pe_op op_cat (pv 9) (pe_lst (pa_cons (pe_int) (pa_cons (pe_int) (pa_cons (pe_int) (pa_nil)))))) (pv 12) (fun _ _ => rfl)))
      (pss_one (ps_dput hu (pe_dget hu (pv 1) (pe_str) (fun _ _ => rfl)) (pe_ix (r := rIxL K) ix_list (pe_dget hu (pv 1) (pe_str) (fun _ _ => rfl)) (pv 12) (fun _ _ => rfl)) (pe_lst (pa_cons (pe_op op_add_str (pe_ix (r := rIxL K) ix_list (pv 13) (pe_int) (fun _ _ => rfl)) (pe_slice sl_str (pe_ix (r := rIxL K) ix_list (pv 13) (pe_int) (fun _ _ => rfl)) (po_none) (po_some (pv 14)))) (pa_cons (pe_str) (pa_nil)))) rfl)))))
      (pss_cons (ps_dput hu (pv 1) (pe_str) (pe_non) rfl)
      (pss_cons (ps_dput hu (pv 1) (pe_str) (pe_bl) rfl)
      (pss_one (ps_ret (pe_bl)))))))))
      (pss_nil))
      (pss_cons (ps_set (i := 15) sc_law_deed.nd rfl (by first | exact Or.inl rfl | exact Or.inr rfl) (pe_meth0 (pv 0) T.cl_Disk T.me_Disk_total (ok_Disk_total T) (hr.mono (by first | decide | omega)) T.b_Disk_total .nil pass0))
      (pss_one (ps_ret (pe_and (pe_call (ok_law_is_integer T) (hr.mono (by first | decide | omega)) (by rfl) T.g_law_is_integer T.F_law_is_integer.kp T.b_law_is_integer .nil pass0 (pa_cons (pv 15) (pa_nil))) (pe_one (pe_cmpR op_eq (pv 15) (pe_callB (cr_sum rfl) (by rfl) T.m_sum (by decide +kernel) (pa_cons (pe_lc (own := [("name", 4)]) (g := gName 4) (tt := tYes) rfl sc_law_deed.nd (pi_list (pe_dget hu (pv 1) (pe_str) (fun _ _ => rfl))) (blkOk_by (N := ["disk", "m", "numbers", "deed", "name", "text", "length", "good", "told", "kept", "number", "given", "k", "entry", "keep", "total"]) (sc := defScope s_law_deed) (by decide +kernel)) (fun _ _ _ _ _ => pg_name (i := 4) sc_law_deed.nd rfl (Or.inl rfl)) (fun _ _ _ _ _ => pts_nil) (fun _ _ _ _ _ => pe_callB call_len_str (by rfl) T.m_len (by decide +kernel) (pa_cons (pe_joinK (K' := K) rfl (pe_str) (pe_dget (by exact hu) (pe_dget (by exact hu) (pv 1) (pe_str) (fun _ _ => rfl)) (pv 4) (fun _ _ => rfl))) (pa_nil)))) (pa_nil))) (nomark _)))))))))))))), ?_⟩
    obtain ⟨n0, n1, n2, n3, n4, n5, n6, n7, n8, rfl⟩ : ∃ a b c d e f g h i, ns = [a, b, c, d, e, f, g, h, i] := by
      match ns, hlen with
      | [a, b, c, d, e, f, g, h, i], _ => exact ⟨a, b, c, d, e, f, g, h, i, rfl⟩
    have r2 := hrng n2 (by simp)
    have r3 := hrng n3 (by simp)
    have r4 := hrng n4 (by simp)
    have ix : ∀ {H' : Hp} {σ : L2.St} {j : Nat} {x : Int}, H' np = some (.lst (([n0, n1, n2, n3, n4, n5, n6, n7, n8] : List Int).map V.int)) → σ[2]? = some (some (.ref np)) → ([n0, n1, n2, n3, n4, n5, n6, n7, n8] : List Int)[j]? = some x → Ev (tOp (rIxL K) (tVar 2) (tC (.int (j : Int)))) σ H' (.int x) := fun h e hj => ev_ixL (K := K) (ev_var e) ev_c (sq_of h) (at_nat (by rw [List.getElem?_map, hj] <;> rfl))
    refine q_asg (ev_bin (ix (j := 0) hnp rfl rfl) ev_c (by decide)) fun H1 e1 => ?_
    obtain ⟨z, hz, hzat⟩ : ∃ z, z ∈ N3 ∧ atI (N3.map V.str) (n1 % 3) = some (.str z) := by
      have h3 : n1 % 3 = 0 ∨ n1 % 3 = 1 ∨ n1 % 3 = 2 := by omega
      rcases h3 with h | h | h <;> rw [h]
      · exact ⟨_, by simp [N3], rfl⟩
      · exact ⟨_, List.mem_cons_of_mem _ List.mem_cons_self, rfl⟩
      · exact ⟨_, List.mem_cons_of_mem _ (List.mem_cons_of_mem _ List.mem_cons_self), rfl⟩
    refine q_asg (ev_ixN (K := K) (xs := N3.map V.str) (el_lst (ea_cons ev_c (ea_cons ev_c (ea_cons ev_c ea_nil))) (by decide)) (fun H2 e2 => ev_bin (ix (j := 1) (e2 _ _ (e1 _ _ hnp)) rfl rfl) ev_c (by decide)) hzat) fun H2 e2 => ?_
    have hnp2 := e2 _ _ (e1 _ _ hnp)
    refine q_asgK (call_run (cons_run (ev_run (ix (j := 2) hnp2 rfl rfl) fun H3 e3 => cons_run (ev_run (ix (j := 3) (e3 _ _ hnp2) rfl rfl) fun H4 e4 => ⟨n2, n3, rfl, by omega, by omega, fun zt H5 e5 hzt _ => ?_⟩))))
    have E5 := (((e1.trans e2).trans e3).trans e4).trans e5
    have hnp5 := E5 _ _ hnp
    obtain ⟨t, rfl⟩ : ∃ t, zt = mk t := ⟨_, (mk_cds zt).symm⟩
    rw [mk_len] at hzt
    obtain ⟨n, hn, hn50⟩ : ∃ n : Nat, n4 % 50 = (n : Int) ∧ n < 50 := ⟨(n4 % 50).toNat, by omega, by omega⟩
    obtain ⟨d, hd, hd9⟩ : ∃ d : Int, n0 % 9 = d ∧ (0 ≤ d ∧ d < 9) := ⟨_, rfl, by omega⟩
    rw [hd]
    refine q_asgS2 (eS p md np d z t n none none none none none none none none none) (v := .int (n : Int)) (ev_is (ev_bin (ix (j := 4) hnp5 rfl rfl) ev_c (by decide)) (congrArg V.int hn)) rfl fun H6 e6 => ?_
    have E6 := E5.trans e6
    have L6 := L.mono E6
    have hnp6 := E6 _ _ hnp
    have q6 : ∀ lf' lo' fs' gs' H', LS T.C_Disk T.C_StoredFile H' p fd md ol ml lf' lo' fs' gs' (m + 100) → Gr fs fs' p fd md ol ml H6 H' → Q (.bl true) H' := fun lf' lo' fs' gs' H' l g => q lf' lo' fs' gs' H' l ((Gr.ex E6).trans g)
    clear q L hnp hnp2 hnp5
    have hcl : (cont fs).length ≤ 3 := by
      have := L6.len
      unfold cont
      rw [List.length_map]
      exact this
    refine q_if (b := decide (d < 4)) (et_test (ev_bin0 (ev_var rfl) ev_c)) (fun hb H7 e7 => ?_) (fun hb H7 e7 => ?_)
    · have h4 := of_decide_eq_true hb
      have L7 := L6.mono e7
      refine q_asgK (call_run (cons_run (var_run rfl ⟨md, ol, ml, lf, lo, rfl, L7.ms.d, L7.l0, fun H8 hd8 fb8 => ?_⟩)))
      generalize hg : (opL (!lo) lf).1 = g at hd8
      have l1 : g = false → (opL (!lo) lf).2 = some 0 := fun h => opL_l0 L7.l0 (by rw [hg]; exact h)
      have b1 : ∀ n, (opL (!lo) lf).2 = some n → 0 ≤ n ∧ n ≤ 1000 := opL_bd L7.bd
      have M8 := L7.ms.chg (lf' := (opL (!lo) lf).2) fb8 hd8
      have D8 := L7.ds.but fb8 fun c hc => L7.ow c (by rw [List.mem_singleton.mp hc]; simp [mA])
      have np7 := e7 _ _ hnp6
      refine q_asgK (call_run (cons_run (var_run rfl (cons_run (var_run rfl (cons_run (var_run rfl (cons_run (var_run rfl (cons_run (var_run rfl ⟨p, fd, !lo, lf, fs, m, d, z, t, n, rfl, D8, fun n hn => by have := L7.bd n hn; omega, by omega, by have := L7.len; omega, by omega, fun _ hg2 fs' H9 D9 c9 f9 => ?_, fun _ hg2 H9 D9 f9 => ?_, fun h => absurd h (by omega), fun h => absurd h (by omega)⟩)))))))))))
      · rw [hg] at hg2
        subst hg2
        have fr := LS.fr M8 L7.ow f9
        refine q_if (b := true) (et_B (ev_var rfl)) (fun _ H10 e10 => ?_) (fun z => nomatch z)
        refine call_run (cons_run (var_run rfl (cons_run (var_run rfl (cons_run (var_run rfl (cons_run (var_run rfl (cons_run (var_run rfl ⟨md, ol, ml, _, _, gs, cont fs, d, z, t, n, rfl, fr.1.mono e10, by omega, fun x hx => by have := L7.sz x hx; omega, by omega, by omega, fun gs' H11 M11 g11 f11 => ?_⟩))))))))))
        refine s_ret (ev_is (ev_eqS (i := mk []) (j := mk []) (ev_var rfl) (ev_ixN (K := K) (xs := [.str (mk []), .int 0]) (i := 0) (by rw [← e00]; exact el_lst (ea_cons ev_c (ea_cons ev_c ea_nil)) (by show 2 ≤ 100000; decide)) (fun H2 e2 => ev_intB (b := false) (ev_is (ev_notV (ev_var rfl)) rfl)) rfl)) (congrArg V.bl (decide_eq_true rfl))) fun H12 e12 => ?_
        have D10 := D9.mono e10
        have nd : ∀ c ∈ [ol, ml], c ≠ p ∧ c ≠ fd ∧ Own fs' c := fun c hc => fr.2 c (by
          simp only [List.mem_cons, List.not_mem_nil, or_false] at hc
          rcases hc with rfl | rfl
          · simp [mA]
          · simp [mA])
        refine q6 _ false fs' gs' H12 ⟨((D10.but f11 nd).mono e12).le (by omega), by rw [c9]; exact M11.mono e12, ow_new (lo := false) D10 fr.2 g11, (fun z => nomatch z), b1, fun x hx => ?_⟩ ((((((Gr.ex e7).trans (Gr.of fb8)).trans (Gr.fr f9)).trans (Gr.ex e10)).trans (Gr.of2 f11)).trans (Gr.ex e12))
        rw [c9] at hx
        rcases deedC_names hx with ⟨y, hy, e⟩ | e
        · rw [← e]; exact L7.nm y hy
        · rw [e]; exact hz
      · rw [hg] at hg2
        subst hg2
        have el := l1 rfl
        rw [el] at M8 D9 b1
        have fr := LS.fr M8 L7.ow (Fr.of f9)
        refine q_if (b := false) (et_B (ev_var rfl)) (fun z => nomatch z) fun _ H10 e10 => ?_
        refine s_ret (ev_is (ev_eqI (i := 0) (j := 0) (ev_var rfl) (ev_ixN (K := K) (xs := [.str (mk []), .int 0]) (i := 1) (by rw [← e00]; exact el_lst (ea_cons ev_c (ea_cons ev_c ea_nil)) (by show 2 ≤ 100000; decide)) (fun H2 e2 => ev_intB (b := true) (ev_is (ev_notV (ev_var rfl)) rfl)) rfl)) (congrArg V.bl (decide_eq_true rfl))) fun H12 e12 => ?_
        have E12 := e10.trans e12
        exact q6 (some 0) true fs gs H12 ⟨(D9.mono E12).le (by omega), fr.1.mono E12, fr.2, fun _ => rfl, b1, L7.nm⟩ (((((Gr.ex e7).trans (Gr.of fb8)).trans (Gr.fr (Fr.of f9))).trans (Gr.ex E12)))
    refine q_if (b := decide (d = 4)) (et_test (ev_eqI (ev_var rfl) ev_c)) (fun hb8 H8 e8 => ?_) (fun hb8 H8 e8 => ?_)
    · have h4 := of_decide_eq_true hb8
      have E8 := e7.trans e8
      have L8 := L6.mono E8
      refine q_asgK (call_run (cons_run (var_run rfl (cons_run (var_run rfl (cons_run (var_run rfl (cons_run (var_run rfl (cons_run (var_run rfl ⟨p, fd, !lo, lf, fs, m, d, z, t, n, rfl, L8.ds, fun n hn => by have := L8.bd n hn; omega, by omega, by have := L8.len; omega, by omega, fun h => absurd h (by omega), fun h => absurd h (by omega), fun _ hpw H9 e9 => ?_, fun _ hpw H9 e9 => ?_⟩)))))))))))
      · obtain rfl : lo = false := by cases lo with | true => cases hpw | false => rfl
        have L9 := L8.mono e9
        refine q_if (b := false) (et_B (ev_dgetK (k := Sum.inr (Str.ofString "lost")) (ev_var rfl) ev_c L9.ms.d (md_s _ _ _ _))) (fun z => nomatch z) fun _ H10 e10 => ?_
        have L10 := L9.mono e10
        have M := L10.ms
        have gf : Ev (tDGet (tVar 1) (tC (.str (Str.ofString "files")))) (eS p md np d z t n none (some (.str (mk (valC (cont fs) z)))) none none none none none none none) H10 (.ref ml) := ev_dgetK (k := Sum.inr (Str.ofString "files")) (ev_var rfl) ev_c M.d (md_f _ _ _ _)
        obtain ⟨ys, hys, ey, hsy⟩ : ∃ ys : List Str, ((∃ p, valV (gK gs) (Sum.inr z : Key) = some (.ref p) ∧ H10 p = some (.lst (ys.map V.str))) ∨ (valV (gK gs) (Sum.inr z : Key) = none ∧ ys = [])) ∧ cds ys = valC (cont fs) z ∧ (cds ys).length ≤ 16000000 := by
          rcases M.name_cases z with hn | ⟨i, a, s1, t1, hi, hc, ha, hao⟩
          · exact ⟨[], .inr ⟨gK_no (by rw [M.n]; exact hn), rfl⟩, (valC_no hn).symm, Nat.zero_le _⟩
          · refine ⟨[mk s1, mk t1], .inl ⟨a, gK_at M.gnd hi, ha⟩, ?_, ?_⟩
            · rw [valC_at M.nd hc]
              simp [cds, mk_codes]
            · have := L10.sz _ (List.mem_of_getElem? hc)
              have e : cds [mk s1, mk t1] = s1 ++ t1 := by simp [cds, mk_codes]
              rw [e, List.length_append]
              have h2 : s1.length + t1.length ≤ m := this
              omega
        refine s_ret (ev_is (ev_andV (a := true) (b := true) (ev_isi (K := K) (a := "str") (ev_var rfl) (fun _ _ => .base (.str _)) (by decide +kernel)) fun _ => ev_is (ev_eqS (j := Txt.join (Str.ofString "") ys) (ev_var rfl) (ev_joinG (K := K) (ys := ys) ev_c gf (ev_var rfl) M.f hys (jn_sz hsy))) (congrArg V.bl (by rw [jn_cds, ey]; exact decide_eq_true rfl))) rfl) fun H11 e11 => ?_
        exact q6 lf false fs gs H11 ((L10.mono e11).le (by omega)) (Gr.ex (((E8.trans e9).trans e10).trans e11))
      · obtain rfl : lo = true := by cases lo with | true => rfl | false => cases hpw
        have L9 := L8.mono e9
        refine q_if (b := true) (et_B (ev_dgetK (k := Sum.inr (Str.ofString "lost")) (ev_var rfl) ev_c L9.ms.d (md_s _ _ _ _))) (fun _ H10 e10 => ?_) (fun z => nomatch z)
        refine s_ret (ev_is (ev_eqI (i := 0) (j := 0) (ev_var rfl) ev_c) (congrArg V.bl (decide_eq_true rfl))) fun H11 e11 => ?_
        exact q6 lf true fs gs H11 ((L9.mono (e10.trans e11)).le (by omega)) (Gr.ex (((E8.trans e9).trans e10).trans e11))
    have E8 := e7.trans e8
    clear e7 e8
    refine q_if (b := decide (d = 5)) (et_test (ev_eqI (ev_var rfl) ev_c)) (fun hb9 H9 e9 => ?_) (fun hb9 H9 e9 => ?_)
    · have E9 := E8.trans e9
      have L9 := L6.mono E9
      have np9 := E9 _ _ hnp6
      cases lo with
      | true =>
        refine q_if (b := false) (et_is (et_not (et_B (ev_dgetK (k := Sum.inr (Str.ofString "lost")) (ev_var rfl) ev_c L9.ms.d (md_s _ _ _ _)))) rfl) (fun z => nomatch z) fun _ H10 e10 => ?_
        unfold tNext
        dsimp only
        refine s_ret ev_c fun H11 e11 => ?_
        exact q6 lf true fs gs H11 ((L9.mono (e10.trans e11)).le (by omega)) (Gr.ex ((E9.trans e10).trans e11))
      | false =>
        refine q_if (b := true) (et_is (et_not (et_B (ev_dgetK (k := Sum.inr (Str.ofString "lost")) (ev_var rfl) ev_c L9.ms.d (md_s _ _ _ _)))) rfl) (fun _ H10 e10 => ?_) (fun z => nomatch z)
        have E10 := E9.trans e10
        have L10 := L9.mono e10
        obtain ⟨dx, hp⟩ := id L10.ds.dk
        refine ⟨_, rfl, p, dx, _, rfl, hp, dF_no _ _ _ (by decide +kernel) (by decide +kernel) (by decide +kernel), ev_run (ev_bin (ix (j := 2) (E10 _ _ hnp6) rfl rfl) ev_c (by decide)) fun H11 e11 => ⟨p, fd, _, _, _, rfl, ⟨dx, e11 _ _ hp⟩, fun H12 D12 f12 => ⟨rfl, false, rfl, ?_⟩⟩⟩
        have fr := LS.fr (L10.ms.mono e11) L10.ow (Fr.of f12)
        simp only [Bool.false_eq_true, if_false]
        unfold tNext
        dsimp only
        refine q_dputE (v := .int (n2 % 12)) (ev_bin (ix (j := 2) (by
          have o := L10.ow
          have k := e11 _ _ (E10 _ _ hnp6)
          exact f12 _ _ k fun y => ne_of k (e11 _ _ hp) (by intro z; cases z) (List.mem_singleton.mp y)) rfl rfl) ev_c (by decide)) fun H13 e13 => ?_
        have M13 := fr.1.mono e13
        refine var_run rfl (c_run ⟨md, _, rfl, DPut.k (k := Sum.inr (Str.ofString "left")) M13.d (szk (by show 4 ≤ _; omega)), ?_⟩)
        rw [md_pl]
        have f14 : But [md] H13 (upd H13 md (.dK (mdL ol ml (.int (n2 % 12)) false))) := But.put (List.mem_singleton.mpr rfl)
        dsimp only
        refine s_ret ev_c fun H15 e15 => ?_
        have M14 : MS _ md ol ml (some (n2 % 12)) false gs (cont fs) := M13.chg (lf' := some (n2 % 12)) (lo' := false) f14 upd_same
        have D12' : DS T.C_Disk T.C_StoredFile H12 p fd true (lfV (some (n2 % 12))) fs m := (L10.ds.mono e11).fld f12 D12
        have D14 := (D12'.mono e13).but f14 fun c hc => fr.2 c (by rw [List.mem_singleton.mp hc]; simp [mA])
        exact q6 (some (n2 % 12)) false fs gs H15 ⟨(D14.mono e15).le (by omega), M14.mono e15, fr.2, (fun z => nomatch z), fun n hn => by have := Option.some.inj hn; omega, L10.nm⟩ (((((Gr.ex (E10.trans e11)).trans (Gr.fr (Fr.of f12))).trans (Gr.ex e13)).trans (Gr.of f14)).trans (Gr.ex e15))
    have E9 := E8.trans e9
    clear E8 e9
    refine q_if (b := decide (d = 6)) (et_test (ev_eqI (ev_var rfl) ev_c)) (fun hb10 H10 e10 => ?_) (fun hb10 H10 e10 => ?_)
    · have E10 := E9.trans e10
      have L10 := L6.mono E10
      have np10 := E10 _ _ hnp6
      obtain ⟨kx, hkx, hkl⟩ := cut4 (n0 := n0) (n1 := n1) (n2 := n2) (n3 := n3) (n4 := n4) (n5 := n5) (n6 := n6) (n7 := n7) (n8 := n8) (r := n3 % 5) (by omega) (by omega)
      generalize hkk : (kx.map fun x => (x % 70).toNat) = kl
      have ekl : (kx.map fun x => V.int (x % 70)) = kl.map fun (n : Nat) => V.int (n : Int) := by
        rw [← hkk, List.map_map]
        refine List.map_congr_left fun x _ => ?_
        show V.int (x % 70) = V.int (((x % 70).toNat : Nat) : Int)
        rw [Int.toNat_of_nonneg (by omega)]
      have hkl4 : kl.length ≤ 4 := by rw [← hkk, List.length_map]; exact hkl
      refine q_asgLS (fun ka => eS p md np d z t n none none (some (.ref ka)) none none none none none none) (xs := kl.map fun (n : Nat) => V.int (n : Int)) (by rw [← ekl]; exact el_mapN (K := K) (ns := kx) (f := fun x => V.int (x % 70)) (by rw [← hkx]; exact el_sl (K := K) (ev_var rfl) (eo_some ev_c) (eo_some (ev_bin0 ev_c (ev_bin (ix (j := 3) np10 rfl rfl) ev_c (by decide)))) (sq_of np10)) (by omega) (fun y => rfl) (fun x hx H11 e11 => ev_bin (ev_var rfl) ev_c (by decide))) (fun _ => rfl) fun ka H11 hka e11 hka11 => ?_
      refine q_asgLS (fun kb => eS p md np d z t n none none (some (.ref ka)) none (some (.ref kb)) none none none none) (el_list (K := K) (ev_var rfl) (sq_of hka11)) (fun _ => rfl) fun kb H12 hkb e12 hkb12 => ?_
      have L11 := L10.mono e11
      have L12 := L11.mono e12
      have oa := own_new L10.ds hka
      have ob := own_new L11.ds hkb
      have hka12 := e12 _ _ hka11
      obtain ⟨dx, hp⟩ := id L12.ds.dk
      refine ⟨_, rfl, p, dx, _, rfl, hp, dF_no _ _ _ (by decide +kernel) (by decide +kernel) (by decide +kernel), _, rfl, p, fd, kb, _, _, fs, m, kl, rfl, L12.ds, by omega, hkb12, ob.2.1, ob.2.2, fun fs' H13 D13 c13 f13 => ⟨rfl, false, rfl, ?_⟩⟩
      simp only [Bool.false_eq_true, if_false]
      have ka13 := f13 _ _ hka12 oa.1 oa.2.1 oa.2.2
      have kb13 := f13 _ _ hkb12 ob.1 ob.2.1 ob.2.2
      refine (et_test (ev_neSame (K := K) (kl := kl) (ev_var rfl) (ev_var rfl) kb13.1 ka13.1)) H13 (Ex.refl _) _ fun H14 e14 => ?_
      simp only [Bool.false_eq_true, if_false]
      unfold tNext
      dsimp only
      have E14 := ((E10.trans e11).trans e12)
      have fr := LS.fr L12.ms L12.ow f13
      have M14 := fr.1.mono e14
      have D14 := D13.mono e14
      have ka14 := e14 _ _ ka13.1
      have hlen : (cont fs).length ≤ 3 := hcl
      have go : ∀ {H' : Hp} {σ : L2.St} {gs' : List (Str × Addr)} {cs' : List Cn}, MS H' md ol ml lf lo gs' cs' → σ[1]? = some (some (V.ref md)) → Ev (tDGet (tVar 1) (tC (.str (Str.ofString "order")))) σ H' (.ref ol) := fun h e => ev_dgetK (k := Sum.inr (Str.ofString "order")) (ev_var e) ev_c h.d (md_o _ _ _ _)
      have gf : ∀ {H' : Hp} {σ : L2.St} {gs' : List (Str × Addr)} {cs' : List Cn}, MS H' md ol ml lf lo gs' cs' → σ[1]? = some (some (V.ref md)) → Ev (tDGet (tVar 1) (tC (.str (Str.ofString "files")))) σ H' (.ref ml) := fun h e => ev_dgetK (k := Sum.inr (Str.ofString "files")) (ev_var e) ev_c h.d (md_f _ _ _ _)
      have gn : ∀ {H' : Hp} {σ : L2.St} {gs' : List (Str × Addr)} {cs' : List Cn} {i : Nat} {x : Cn}, MS H' md ol ml lf lo gs' cs' → σ[1]? = some (some (V.ref md)) → σ[12]? = some (some (V.int (i : Int))) → cs'[i]? = some x → Ev (tOp (rIxL K) (tDGet (tVar 1) (tC (.str (Str.ofString "order")))) (tVar 12)) σ H' (.str x.1) := fun h e e2 hi => ev_ixL (K := K) (go h e) (ev_var e2) (sq_of h.o) (at_nat (by rw [List.getElem?_map, hi] <;> rfl))
      have nml : ka ≠ ml := ne_of ka14 M14.f (by intro z; cases z)
      refine q_forR1 (n := ((cont fs).length : Nat)) (ea_cons (ev_is (ev_lenQ (K := K) (go M14 rfl) (sq_of M14.o)) (by rw [List.length_map])) ea_nil) (by omega) (fun i σ' H' => i ≤ (cont fs).length ∧ ∃ (x12 x13 x14 : Option V) (gsI : List (Str × Addr)), σ' = eS p md np d z t n none none (some (.ref ka)) none (some (.ref kb)) x12 x13 x14 none ∧ MS H' md ol ml lf lo gsI (rsS (cont fs) kl i) ∧ (∀ x ∈ gsI, x ∈ gs ∨ H14 x.2 = none) ∧ But [ml] H14 H') (fun H15 e15 => ⟨Nat.zero_le _, none, none, none, gs, rfl, by rw [rsS_0]; exact M14.mono e15, fun x hx => .inl hx, But.of e15⟩) (fun i σ' H' hi hI => ?_) (fun σ' H' hI => ?_)
      · obtain ⟨hi0, x12, x13, x14, gsI, rfl, M, hg, fb⟩ := hI
        have hi : i < (cont fs).length := by omega
        obtain ⟨⟨y, s1, t1⟩, hc⟩ : ∃ x, (cont fs)[i]? = some x := ⟨_, List.getElem?_eq_getElem hi⟩
        have hsz : s1.length + t1.length ≤ m := L12.sz _ (List.mem_of_getElem? hc)
        have hcI := rsS_at (kl := kl) hc
        obtain ⟨a, hgi⟩ : ∃ a, gsI[i]? = some (y, a) := by
          have h := M.n
          have h2 : ((rsS (cont fs) kl i).map (·.1))[i]? = some y := by rw [List.getElem?_map, hcI] <;> rfl
          rw [← h, List.getElem?_map] at h2
          cases e : gsI[i]? with
          | none => rw [e] at h2; cases h2
          | some x =>
            rw [e] at h2
            exact ⟨x.2, by rw [← (Option.some.inj h2 : x.1 = y)]⟩
        obtain ⟨s2, t2, hc2, ha, hao⟩ := M.e i y a hgi
        obtain ⟨rfl, rfl⟩ : s1 = s2 ∧ t1 = t2 := by
          have := Option.some.inj (hcI.symm.trans hc2)
          exact ⟨congrArg (fun x : Cn => x.2.1) this, congrArg (fun x : Cn => x.2.2) this⟩
        have kaI := fb _ _ ka14 (fun y => nml (List.mem_singleton.mp y))
        refine q_asgS2 (eS p md np d z t n none none (some (.ref ka)) none (some (.ref kb)) (some (.int (i : Int))) (some (.ref a)) x14 none) (ev_dgetK (k := Sum.inr y) (gf M rfl) (gn M rfl rfl hcI) M.f (gK_at M.gnd hgi)) rfl fun H15 e15 => ?_
        refine q_asgS2 (eS p md np d z t n none none (some (.ref ka)) none (some (.ref kb)) (some (.int (i : Int))) (some (.ref a)) (some (.int ((kl.getD i 0 : Nat) : Int))) none) (ev_ixN (K := K) (el_catV (K := K) (ev_var rfl) (e15 _ _ kaI) (el_lst (ea_cons ev_c (ea_cons ev_c (ea_cons ev_c ea_nil))) (by show 3 ≤ 100000; decide)) (by rw [List.length_map]; show _ + 3 ≤ 100000; omega)) (fun H e => ev_var rfl) (at_nat (keep_at kl (by omega)))) rfl fun H16 e16 => ?_
        have E16 := e15.trans e16
        have M16 := M.mono E16
        have ha16 := E16 _ _ ha
        have hs1 : s1.length ≤ m := by omega
        refine s_dputL (xs := [.str (mk (s1 ++ t1.take (kl.getD i 0))), .str (mk [])]) (by rw [← e00]; exact el_lst (ea_cons (ev_is (ev_addS (ev_ixL (K := K) (v := .str (mk s1)) (ev_var rfl) ev_c (sq_of ha16) (at_nat (j := 0) rfl)) (ev_is (ev_slB (ev_ixL (K := K) (v := .str (mk t1)) (ev_var rfl) ev_c (sq_of ha16) (at_nat (j := 1) rfl)) eo_none (eo_some (ev_var rfl)) (by rw [mk_len]; omega)) (congrArg V.str (mk_take t1 (kl.getD i 0)))) (by rw [mk_len, mk_len, List.length_take]; omega)) (congrArg V.str (mk_app _ _))) (ea_cons ev_c ea_nil)) (by show 2 ≤ 100000; decide)) fun a' H17 ha' e17 ha17 => ?_
        have M17 := M16.mono e17
        refine (gf M17 rfl) H17 (Ex.refl _) _ fun H18 e18 => (gn (M17.mono e18) rfl rfl hcI) H18 (Ex.refl _) _ fun H19 e19 => ⟨ml, _, rfl, DPut.k (k := Sum.inr y) (e19 _ _ (e18 _ _ M17.f)) (szk (by unfold gK; rw [List.length_map]; have := congrArg List.length M.n; rw [List.length_map, List.length_map, rsS_len] at this; omega)), ?_⟩
        rw [gK_put M.gnd hgi]
        have M20 := M16.set hgi hcI ((e17.trans e18).trans e19) ha' (e19 _ _ (e18 _ _ ha17))
        rw [rsS_step hc] at M20
        refine ⟨by omega, _, _, _, _, rfl, M20, fun x hx => ?_, (fb.trans (But.of (E16.trans ((e17.trans e18).trans e19)))).trans (But.put (List.mem_singleton.mpr rfl))⟩
        obtain ⟨j, hj⟩ := List.getElem?_of_mem hx
        rw [List.getElem?_set] at hj
        split at hj
        · split at hj
          · obtain rfl := Option.some.inj hj
            refine .inr (but_none fb (fresh_back E16 ha') fun z => ?_)
            exact (ne_of_none M16.f ha').symm (List.mem_singleton.mp z)
          · cases hj
        · exact hg _ (List.mem_of_getElem? hj)
      · obtain ⟨_, x12, x13, x14, gsI, rfl, M, hg, fb⟩ := hI
        rw [rsS_end (by omega)] at M
        refine q_dputK (c_run (var_run rfl (c_run ⟨md, _, rfl, DPut.k (k := Sum.inr (Str.ofString "left")) M.d (szk (by show 4 ≤ _; omega)), ?_⟩)))
        rw [md_pl]
        refine q_dputK (c_run (var_run rfl (c_run ⟨md, _, rfl, DPut.k (k := Sum.inr (Str.ofString "lost")) (kvs := mdL ol ml .non lo) upd_same (szk (by show 4 ≤ _; omega)), ?_⟩)))
        rw [md_ps]
        have f2 : But [md] H' (upd (upd H' md (.dK (mdL ol ml .non lo))) md (.dK (mdL ol ml .non false))) := (But.put (List.mem_singleton.mpr rfl)).trans (But.put (List.mem_singleton.mpr rfl))
        refine s_ret ev_c fun H17 e17 => ?_
        have M16 : MS _ md ol ml none false gsI (rsC (cont fs) kl) := M.chg (lf' := none) (lo' := false) f2 upd_same
        have o14 := ow_new (lf := none) (lo := false) D14 fr.2 hg
        have D16 := (D14.but fb fun c hc => fr.2 c (by rw [List.mem_singleton.mp hc]; simp [mA])).but f2 fun c hc => fr.2 c (by rw [List.mem_singleton.mp hc]; simp [mA])
        refine q6 none false fs' gsI H17 ⟨(D16.mono e17).le (by omega), by rw [c13]; exact M16.mono e17, o14, (fun z => nomatch z), (fun n hn => nomatch hn), fun x hx => ?_⟩ ((((((Gr.ex E14).trans (Gr.fr f13)).trans (Gr.ex e14)).trans (Gr.of2 (fb.sub fun c hc => by rw [List.mem_singleton.mp hc]; simp))).trans (Gr.of f2)).trans (Gr.ex e17))
        rw [c13] at hx
        obtain ⟨x0, hx0, e⟩ := rsC_names hx
        rw [← e]
        exact L12.nm _ hx0
    have E11 := E9.trans e10
    have L11 := L6.mono E11
    obtain ⟨dx, hp⟩ := id L11.ds.dk
    unfold tNext
    dsimp only
    refine q_asgK ?_
    refine ⟨_, rfl, p, dx, _, rfl, hp, dF_no _ _ _ (by decide +kernel) (by decide +kernel) (by decide +kernel), p, fd, _, _, fs, m, rfl, L11.ds, by omega, fun H11 e11 => ?_⟩
    have L12 := L11.mono e11
    have M := L12.ms
    refine s_ret (ev_is (ev_andV (a := true) (b := true) (ev_call (ea_cons (ev_var rfl) ea_nil) (fun H1 e Q q E => ⟨_, rfl, fun H' e' => q H' e'⟩)) fun _ => ev_is (ev_eqI (i := (totC (cont fs) : Nat)) (j := (totC (cont fs) : Nat)) (ev_var rfl) (ev_sumN (K := K) (ns := (cont fs).map fun x => (((x.2.1 ++ x.2.2).length : Nat) : Int)) (el_mapL (K := K) (xs := (cont fs).map fun x => V.str x.1) (ev_dgetK (k := Sum.inr (Str.ofString "order")) (ev_var rfl) ev_c M.d (md_o _ _ _ _)) (sq_of M.o) (by rw [List.length_map]; omega) (fun y => rfl) (by rw [List.length_map, List.length_map, List.length_map]) fun i x y hx hy H2 e2 => ?_) (totC_sum _))) (congrArg V.bl (decide_eq_true rfl))) rfl) fun H12 e12 => q6 lf lo fs gs H12 ((L12.mono e12).le (by omega)) (Gr.ex ((E11.trans e11).trans e12))
    rw [List.getElem?_map] at hx
    rw [List.getElem?_map, List.getElem?_map] at hy
    cases hc : (cont fs)[i]? with
    | none => rw [hc] at hx; cases hx
    | some x0 =>
      rw [hc] at hx hy
      obtain rfl := Option.some.inj hx
      obtain rfl := Option.some.inj hy
      obtain ⟨y, s1, t1⟩ := x0
      have hsz : s1.length + t1.length ≤ m := L12.sz _ (List.mem_of_getElem? hc)
      obtain ⟨a, hgi⟩ : ∃ a, gs[i]? = some (y, a) := by
        have h := M.n
        have h2 : ((cont fs).map (·.1))[i]? = some y := by rw [List.getElem?_map, hc] <;> rfl
        rw [← h, List.getElem?_map] at h2
        cases e : gs[i]? with
        | none => rw [e] at h2; cases h2
        | some x =>
          rw [e] at h2
          exact ⟨x.2, by rw [← (Option.some.inj h2 : x.1 = y)]⟩
      obtain ⟨s2, t2, hc2, ha, hao⟩ := M.e i y a hgi
      obtain ⟨rfl, rfl⟩ : s1 = s2 ∧ t1 = t2 := by
        have := Option.some.inj (hc.symm.trans hc2)
        exact ⟨congrArg (fun x : Cn => x.2.1) this, congrArg (fun x : Cn => x.2.2) this⟩
      have ec : cds [mk s1, mk t1] = s1 ++ t1 := by simp [cds, mk_codes]
      have M2 := M.mono e2
      refine ev_is (ev_lenB (ev_joinV (K := K) (ys := [mk s1, mk t1]) ev_c (ev_dgetK (k := Sum.inr y) (ev_dgetK (k := Sum.inr (Str.ofString "files")) (ev_var rfl) ev_c M2.d (md_f _ _ _ _)) (ev_var rfl) M2.f (gK_at M2.gnd hgi)) (e2 _ _ ha) (jn_sz (by rw [ec, List.length_append]; omega))) (by rw [jn_cds, mk_len, ec, List.length_append]; omega)) ?_
      rw [jn_cds, mk_len, ec]


/-! ### law -/
theorem q_disk {C : Addr} {E : XK} {σ : L2.St} {H : Hp} {tz : TS} {D : Ends} {i : Nat} (k : ∀ p fd H', Ex H H' → H p = none → H fd = none → p ≠ fd → DkP C H' p fd true .non → H' fd = some (.dK []) → tz D (σ.set i (some (.ref p))) H') : tSeq (tAsg (tMake C (spDkI C) [] E tNil) (gName i)) tz D σ H := by
  intro p0 dx0 x1 x2 x3
  refine ⟨p0, dx0, rfl, upd_same, fun d0 H2 x4 hp0 hd0 kp0 => ⟨rfl, ?_⟩⟩
  have e2 : Ex H H2 := fun b o e => kp0 b o (by rw [upd_ne (ne_of_none e x1), upd_ne (ne_of_none e x2)]; exact e) (fun z => ne_of_none e x1 (List.mem_singleton.mp z))
  have y1 : d0 ≠ p0 := fun z => by rw [z, upd_same] at x4; cases x4
  have y0 : H d0 = none := by
    cases hh : H d0 with
    | none => rfl
    | some o =>
      by_cases hx : d0 = dx0
      · rw [hx, x2] at hh; cases hh
      · rw [upd_ne y1, upd_ne hx, hh] at x4; cases x4
  exact k p0 d0 H2 e2 x1 y0 y1.symm hp0 hd0
theorem s_ifNB {te : TE} {tu tw : TS} {D : Ends} {σ : L2.St} {H : Hp} (h : te σ H fun v H1 => ∃ b, v = .bl b ∧ (if (!b) = true then tu D σ H1 else tw D σ H1)) : tIfS (tNot (tB te)) tu tw D σ H := h
theorem sq_keep {K : PySem.W.Frag} {H H' : Hp} {a : Addr} {xs : List V} (h : SqL K H a xs) (k : ∀ u, H a = some u → H' a = some u) : SqL K H' a xs := by
  rcases h with (h | ⟨o, h⟩) | h
  · exact .inl (.inl (k _ h))
  · exact .inl (.inr ⟨o, k _ h⟩)
  · exact .inr h
theorem ev_methV {C : Addr} {m : Str} {sp : Sp} {E : XK} {to : TE} {ta : TA} {σ : L2.St} {H : Hp} {p dx : Addr} {fs : List (Str × V)} {vs : List V} {z : V} (h : Ev to σ H (.ref p)) (ha : EvA ta σ H vs) (hp : H p = some (.ins C dx fs)) (hn : fs.lookup m = none) (c : SpV sp (.ref p :: vs) H z) : Ev (tMeth C m sp [] E to ta) σ H z := fun H1 e Q q =>
  h H1 e _ fun H2 e2 => ⟨p, dx, fs, rfl, (e.trans e2) _ _ hp, hn, ha H2 (e.trans e2) _ fun H3 e3 => by
    rw [List.append_nil]
    exact c H3 ((e.trans e2).trans e3) Q (fun H4 e4 => q H4 ((e2.trans e3).trans e4)) E⟩
theorem ev_minI {ta : TA} {σ : L2.St} {H : Hp} {i j : Int} (ha : EvA ta σ H [.int i, .int j]) : Ev (tCB (fun xs H Q => ∃ i j, xs = [V.int i, V.int j] ∧ Q (V.int (if j < i then j else i)) H) ta) σ H (.int (if j < i then j else i)) := fun H1 e Q q => ha H1 e _ fun H2 e2 => ⟨i, j, rfl, q H2 e2⟩
theorem mdL_made (ol ml : Addr) : mergeK [] (mdL ol ml .non false) = mdL ol ml .non false := by
  have h := mdNe
  simp only [mergeK, mdL, List.foldl_cons, List.foldl_nil, putK, List.any_nil, List.any_cons, List.map_cons, List.map_nil]
  simp [h.1, h.2.1, h.2.2.1, h.2.2.2.1, h.2.2.2.2.1, h.2.2.2.2.2]
theorem rsC_nm (cs : List Cn) (kl : List Nat) : (rsC cs kl).map (·.1) = cs.map (·.1) := List.ext_getElem? fun j => by
  unfold rsC
  rw [List.getElem?_map, List.getElem?_map, List.getElem?_mapIdx]
  cases cs[j]? <;> rfl
theorem sav_at {cs : List Cn} {i : Nat} {z : Str} {s t : List Nat} (nd : (cs.map (·.1)).Nodup) (h : cs[i]? = some (z, s, t)) : valC (rsC cs []) z = s := by
  have e : (rsC cs [])[i]? = some (z, s, []) := by
    unfold rsC
    rw [List.getElem?_mapIdx, h]
    show some (z, s ++ t.take 0, []) = _
    rw [List.take_zero, List.append_nil]
  rw [valC_at (by rw [rsC_nm]; exact nd) e, List.append_nil]
theorem rd_fin {C CF : Addr} {E : XK} {D : Ends} {H : Hp} {p fd dx a md m : Addr} {lf : V} {fs : List (Str × Fi)} {x3 : Option V} {z : Str} {dv : List Nat} {k : Nat} (hD : DS C CF H p fd true lf fs k) (hk : k ≤ 10000) (hv : valC (cont fs) z = dv) (q : ∀ H1, Ex H H1 → D.nx [some (.ref a), some (.ref p), some (.ref md), x3, some (.str z), some (.str (mk dv))] H1) :
    tIfS (tTest (tOp rNe (tMeth C (Str.ofString "read") (spRd0 C CF) [] E (tVar 1) (tCons (tVar 4) tNil)) (tVar 5))) (tRet (tC (V.bl false))) tNext D [some (.ref a), some (.ref p), some (.ref md), x3, some (.str z), some (.str (mk dv))] H := by
  obtain ⟨dx, hp⟩ := id hD.dk
  exact s_if (b := false) (et_test (ev_is (ev_neS (i := mk dv) (j := mk dv) (ev_methV (ev_var rfl) (ea_cons (ev_var rfl) ea_nil) hp (dF_no _ _ _ (by decide +kernel) (by decide +kernel) (by decide +kernel)) (fun H1 e Q q E => ⟨p, fd, lf, fs, k, z, rfl, hD.mono e, hk, fun H' e' => by rw [hv]; exact q H' e'⟩)) (ev_var rfl)) (congrArg V.bl (by simp)))) (fun z => nomatch z) fun _ H1 e1 => q H1 e1
def spLaw (K : PySem.W.Frag) : Sp := fun vs H Q _ => ∃ (a : Addr) (ns : List Int), vs = [.ref a] ∧ SqL K H a (ns.map V.int) ∧ ns.length ≤ 63 ∧ (∀ z ∈ ns, Builtin.Int.intBits z ≤ 1048576) ∧ ∀ H', Q (.bl true) H'
set_option maxHeartbeats 4000000 in
theorem ok_law (T : Txt K mg) : FnOk P w K mg base CX0 6 T.f_law T.d_law ["script"] (spLaw K) := by
  refine T.F_law.ok sc_law (fun vs H Q E h => ?_) (fun cdv A outer s H vs Q E hr h => ?_)
  · obtain ⟨a, ns, rfl, _⟩ := h
    rfl
  · obtain ⟨a, ns, rfl, hS, hlen, hbits, q⟩ := h
    have hw : ∀ n ∈ ns, Wd n := fun n hn => Wd.bits (hbits n hn)
    have hu := hu_of hr
    have e00 : Str.ofString "" = mk [] := by decide +kernel
    refine ⟨_, pss_cons (ps_set (i := 1) sc_law.nd rfl (by first | exact Or.inl rfl | exact Or.inr rfl) (pe_make0 T.mk_Disk (ok_Disk___init T) (hr.mono (by first | decide | omega)) (by rfl) T.g_Disk T.b_Disk___init .nil pass0))
      (pss_cons (ps_set (i := 2) sc_law.nd rfl (by first | exact Or.inl rfl | exact Or.inr rfl) (pe_disp (pps_cons (pe_str) (pe_lst (pa_nil)) (pps_cons (pe_str) (pe_dnewK) (pps_cons (pe_str) (pe_non) (pps_cons (pe_str) (pe_bl) (pps_nil))))) (by rfl) (by rfl) (fun z => by cases z) (by decide)))
      (pss_cons (ps_for PassesOwn.never rfl (pi_range1 (by rfl) T.m_range (pa_cons (pe_callB (call_min2 rfl) (by rfl) T.m_min (by decide +kernel) (pa_cons (pe_callB (r := rLenQ K) call_len_seq (by rfl) T.m_len (by decide +kernel) (pa_cons (pv 0) (pa_nil))) (pa_cons (pe_int) (pa_nil)))) (pa_nil))) (pg_name (i := 3) sc_law.nd rfl (by first | exact Or.inl rfl | exact Or.inr rfl))
      (pss_one (ps_if (pt_not (pt_val (pe_call (ok_law_deed T) (hr.mono (by first | decide | omega)) (by rfl) T.g_law_deed T.F_law_deed.kp T.b_law_deed .nil pass0 (pa_cons (pv 1) (pa_cons (pv 2) (pa_cons (pe_call (ok_law_numbers T) (hr.mono (by first | decide | omega)) (by rfl) T.g_law_numbers T.F_law_numbers.kp T.b_law_numbers .nil pass0 (pa_cons (pe_ix (r := rIxL K) ix_list (pv 0) (pv 3) (fun _ _ => rfl)) (pa_cons (pe_int) (pa_nil)))) (pa_nil)))))))
      (pss_one (ps_ret (pe_bl)))
      (pss_nil))))
      (pss_cons (ps_expr (pe_meth (pv 1) T.cl_Disk T.me_Disk_restart (ok_Disk_restart T) (hr.mono (by first | decide | omega)) T.b_Disk_restart .nil pass0 (pa_cons (pe_lst (pa_nil)) (pa_nil))))
      (pss_cons (ps_for PassesOwn.never rfl (pi_list (pe_lst (pa_cons (pe_str) (pa_cons (pe_str) (pa_cons (pe_str) (pa_cons (pe_str) (pa_nil))))))) (pg_name (i := 4) sc_law.nd rfl (by first | exact Or.inl rfl | exact Or.inr rfl))
      (pss_cons (ps_set (i := 5) sc_law.nd rfl (by first | exact Or.inl rfl | exact Or.inr rfl) (pe_str))
      (pss_cons (ps_if (pt_cmpR (r := rIn K false) op_in_seq (pv 4) (pe_dget hu (pv 2) (pe_str) (fun _ _ => rfl)) (by rfl))
      (pss_one (ps_set (i := 5) sc_law.nd rfl (by first | exact Or.inl rfl | exact Or.inr rfl) (pe_ix (r := rIxL K) ix_list (pe_dget hu (pe_dget hu (pv 2) (pe_str) (fun _ _ => rfl)) (pv 4) (fun _ _ => rfl)) (pe_int) (fun _ _ => rfl))))
      (pss_nil))
      (pss_one (ps_if (pt_cmpR op_ne (pe_meth (pv 1) T.cl_Disk T.me_Disk_read (ok_Disk_read T) (hr.mono (by first | decide | omega)) T.b_Disk_read .nil pass0 (pa_cons (pv 4) (pa_nil))) (pv 5) (nomark _))
      (pss_one (ps_ret (pe_bl)))
      (pss_nil))))))
      (pss_one (ps_ret (pe_bl))))))), ?_⟩
    refine q_disk fun p fd H1 e1 np nfd npf hD hd => ?_
    refine q_asgK ?_
    intro md hmd
    have nd : H md = none := fresh_back e1 hmd
    refine c_run (el_run (el_lst ea_nil (by decide)) fun ol H2 hol e2 ol2 => c_run ?_)
    intro ml hml
    have e3 := Ex.new (o := .dK []) hml
    have ml3 := upd_same (H := H2) (a := ml) (o := .dK [])
    generalize upd H2 ml (.dK []) = H3 at e3 ml3
    have md1 := upd_same (H := H1) (a := md) (o := .dK [])
    have e01 := Ex.new (o := .dK []) hmd
    have md2 := e2 _ _ md1
    have md3 := e3 _ _ md2
    have ol3 := e3 _ _ ol2
    refine c_run (c_run (c_run (c_run ⟨md3, mdL ol ml .non false, rfl, by show 4 ≤ 15; decide, ?_⟩)))
    rw [mdL_made]
    have E3 : Ex H1 (upd H3 md (.dK (mdL ol ml .non false))) := fun c o h => by
      have n : c ≠ md := ne_of_none h hmd
      rw [upd_ne n]
      exact e3 _ _ (e2 _ _ (e01 _ _ h))
    have nmo : ol ≠ md := ne_of ol3 md3 (by intro z; cases z)
    have nmm : ml ≠ md := fun z => by rw [z, md2] at hml; cases hml
    have ol4 : (upd H3 md (.dK (mdL ol ml .non false))) ol = some (.lst []) := by rw [upd_ne nmo]; exact ol3
    have ml4 : (upd H3 md (.dK (mdL ol ml .non false))) ml = some (.dK []) := by rw [upd_ne nmm]; exact ml3
    have md4 := upd_same (H := H3) (a := md) (o := .dK (mdL ol ml .non false))
    generalize upd H3 md (.dK (mdL ol ml .non false)) = H4 at E3 ol4 ml4 md4
    have nol : H1 ol = none := fresh_back e01 hol
    have nml : H1 ml = none := fresh_back (e01.trans e2) hml
    obtain ⟨dx, hp⟩ := id hD
    have L4 : LS T.C_Disk T.C_StoredFile H4 p fd md ol ml none false [] [] 0 := by
      refine ⟨⟨hD.mono E3, E3 _ _ hd, (fun x hx => nomatch hx), List.nodup_nil, (fun x hx => nomatch hx), (fun x hx => nomatch hx), (fun i j x y hx => by simp at hx), by decide, (fun x hx => nomatch hx)⟩, ⟨md4, ol4, ml4, rfl, (fun i z a hi => by simp at hi), List.nodup_nil, nmm.symm⟩, fun c hc => ?_, (fun z => nomatch z), (fun n hn => nomatch hn), (fun x hx => nomatch hx)⟩
      simp only [mA, List.mem_cons, List.map_nil, List.not_mem_nil, or_false] at hc
      have n1 : H1 c = none := by
        rcases hc with rfl | rfl | rfl
        · exact hmd
        · exact nol
        · exact nml
      exact ⟨(ne_of_none hp n1).symm, (ne_of_none hd n1).symm, (fun x hx => nomatch hx)⟩
    have E4 := e1.trans E3
    generalize hmn : (if (60 : Int) < (ns.length : Int) then (60 : Int) else (ns.length : Int)) = mn
    have hmn0 : 0 ≤ mn ∧ mn ≤ 60 ∧ mn ≤ ns.length := by
      rw [← hmn]
      split <;> omega
    have nap : ∀ u, H a = some u → a ≠ p ∧ a ≠ fd ∧ a ≠ md ∧ a ≠ ol ∧ a ≠ ml := fun u hu => ⟨ne_of_none hu np, ne_of_none hu nfd, ne_of_none hu nd, ne_of_none hu (fresh_back e1 nol), ne_of_none hu (fresh_back e1 nml)⟩
    refine q_forR1 (n := mn) (ea_cons (ev_is (ev_minI (ea_cons (ev_lenQ (K := K) (ev_var rfl) (ex_l E4 hS)) (ea_cons ev_c ea_nil))) (by rw [List.length_map, hmn])) ea_nil) (by omega) (fun i σ' H' => ∃ (x3 : Option V) (lf : Option Int) (lo : Bool) (fs : List (Str × Fi)) (gs : List (Str × Addr)), σ' = [some (.ref a), some (.ref p), some (.ref md), x3, none, none] ∧ LS T.C_Disk T.C_StoredFile H' p fd md ol ml lf lo fs gs (100 * i) ∧ ∀ u, H a = some u → H' a = some u ∧ Own fs a)
      (fun H5 e5 => ⟨none, none, false, [], [], rfl, L4.mono e5, fun u hu => ⟨e5 _ _ (E4 _ _ hu), (fun x hx => nomatch hx)⟩⟩) (fun i σ' H' hi hI => ?_) (fun σ' H' hI => ?_)
    · obtain ⟨x3, lf, lo, fs, gs, rfl, L, ha⟩ := hI
      have hS' := sq_keep hS fun u hu => (ha u hu).1
      obtain ⟨cell, hcell⟩ : ∃ x, ns[i]? = some x := ⟨_, List.getElem?_eq_getElem (by omega)⟩
      refine s_ifNB (call_run (cons_run (var_run rfl (cons_run (var_run rfl (cons_run (call_run (cons_run (ev_run (ev_ixL (K := K) (v := .int cell) (ev_var rfl) (ev_var rfl) hS' (at_nat (by rw [List.getElem?_map, hcell] <;> rfl))) fun H5 e5 => cons_run (c_run ⟨cell, 9, rfl, hw _ (List.mem_of_getElem? hcell), by decide, fun np nums H6 nnp e6 hnp hl hrg => ?_⟩))))))))))
      have L5 := L.mono e5
      have on := own_new L5.ds nnp
      have L6 := L5.mono e6
      refine ⟨p, fd, md, ol, ml, np, lf, lo, fs, gs, 100 * i, nums, rfl, L6, by omega, hnp, (ne_of_none L5.ms.o nnp).symm, on.2.2, hl, hrg, fun lf' lo' fs' gs' H7 L7 g7 => ⟨true, rfl, ?_⟩⟩
      simp only [Bool.not_true, Bool.false_eq_true, if_false]
      refine ⟨_, lf', lo', fs', gs', rfl, L7.le (by omega), fun u hu => ?_⟩
      obtain ⟨n1, n2, n3, n4, n5⟩ := nap u hu
      obtain ⟨h1, h2⟩ := ha u hu
      exact g7 a u (e6 _ _ (e5 _ _ h1)) n1 n2 h2 n3 n4 n5
    · obtain ⟨x3, lf, lo, fs, gs, rfl, L, ha⟩ := hI
      obtain ⟨dx, hp⟩ := id L.ds.dk
      refine q_dropK ?_
      refine ⟨_, rfl, p, dx, _, rfl, hp, dF_no _ _ _ (by decide +kernel) (by decide +kernel) (by decide +kernel), cons_run (el_run (el_lst ea_nil (by decide)) fun kb H5 nkb e5 hkb => ?_)⟩
      have L5 := L.mono e5
      have ob := own_new L.ds nkb
      refine ⟨p, fd, kb, _, _, fs, _, [], rfl, L5.ds, by omega, hkb, ob.2.1, ob.2.2, fun fs' H6 D6 c6 f6 => ?_⟩
      have fr := LS.fr L5.ms L5.ow f6
      have M6 := fr.1
      refine q_forNL (K := K) (xs := ([Str.ofString "left", Str.ofString "l", Str.ofString "right", Str.ofString "none"]).map V.str) (el_lst (ea_cons ev_c (ea_cons ev_c (ea_cons ev_c (ea_cons ev_c ea_nil)))) (by show 4 ≤ 100000; decide)) (fun lp i σ' H' => ∃ (x4 x5 : Option V), σ' = [some (.ref a), some (.ref p), some (.ref md), x3, x4, x5] ∧ Ex H6 H' ∧ H' lp = some (.lst (([Str.ofString "left", Str.ofString "l", Str.ofString "right", Str.ofString "none"]).map V.str)))
        (fun lp H7 _ e7 h7 => ⟨none, none, rfl, e7, h7⟩) (fun lp i σ' H' _ hI => ?_) (fun lp i x σ' H' hx hI => ?_) (fun lp σ' H' hI => ?_)
      · obtain ⟨x4, x5, rfl, e, h⟩ := hI
        exact sq_of h
      · obtain ⟨x4, x5, rfl, e7, h7⟩ := hI
        obtain ⟨z, rfl⟩ : ∃ z, x = V.str z := by
          rw [List.getElem?_map] at hx
          cases e : ([Str.ofString "left", Str.ofString "l", Str.ofString "right", Str.ofString "none"])[i]? with
          | none => rw [e] at hx; cases hx
          | some y => rw [e] at hx; exact ⟨y, (Option.some.inj hx).symm⟩
        refine q_asgS2 [some (.ref a), some (.ref p), some (.ref md), x3, some (.str z), some (.str (mk []))] (v := .str (mk [])) (ev_is ev_c (by rw [e00])) rfl fun H8 e8 => ?_
        have E8 := e7.trans e8
        have M8 := M6.mono E8
        have D8 := D6.mono E8
        have h8 := e8 _ _ h7
        have eo : ∀ cs : List Cn, (cs.map fun x => V.str x.1) = (cs.map (·.1)).map V.str := fun cs => by rw [List.map_map] <;> rfl
        have go : Ev (tDGet (tVar 2) (tC (.str (Str.ofString "order")))) [some (.ref a), some (.ref p), some (.ref md), x3, some (.str z), some (.str (mk []))] H8 (.ref ol) := ev_dgetK (k := Sum.inr (Str.ofString "order")) (ev_var rfl) ev_c M8.d (md_o _ _ _ _)
        rcases M8.name_cases z with hz | ⟨i, b, s1, t1, hi, hc, hb, hbo⟩
        · refine q_if (b := false) (et_test (ev_is (ev_inStrs (K := K) (zs := (cont fs).map Prod.fst) (ev_var rfl) go (sq_of (by rw [← eo]; exact M8.o))) (congrArg V.bl (inS_mem.trans (decide_eq_false hz))))) (fun z => nomatch z) fun _ H9 e9 => ?_
          exact rd_fin (m := md) (dx := dx) (D8.mono e9) (by omega) (by rw [c6]; exact valC_no (by rw [rsC_nm]; exact hz)) fun H10 e10 => ⟨_, _, rfl, (E8.trans e9).trans e10, e10 _ _ (e9 _ _ h8)⟩
        · refine q_if (b := true) (et_test (ev_is (ev_inStrs (K := K) (zs := (cont fs).map Prod.fst) (ev_var rfl) go (sq_of (by rw [← eo]; exact M8.o))) (congrArg V.bl (inS_mem.trans (decide_eq_true (List.mem_map.mpr ⟨_, List.mem_of_getElem? hc, rfl⟩)))))) (fun _ H9 e9 => ?_) (fun z => nomatch z)
          have M9 := M8.mono e9
          refine s_asg (v := .str (mk s1)) (ev_ixL (K := K) (ev_dgetK (k := Sum.inr z) (ev_dgetK (k := Sum.inr (Str.ofString "files")) (ev_var rfl) ev_c M9.d (md_f _ _ _ _)) (ev_var rfl) M9.f (gK_at M9.gnd hi)) ev_c (sq_of (e9 _ _ hb)) (at_nat (j := 0) rfl)) fun H10 e10 => ?_
          exact rd_fin (m := md) (dx := dx) (D8.mono (e9.trans e10)) (by omega) (by rw [c6]; exact sav_at M9.nd hc) fun H11 e11 => ⟨_, _, rfl, ((E8.trans e9).trans e10).trans e11, e11 _ _ (e10 _ _ (e9 _ _ h8))⟩
      · obtain ⟨x4, x5, rfl, e7, h7⟩ := hI
        exact s_ret ev_c fun H8 e8 => q H8


end

theorem all_mk {l : PySem.W.OpenLaw} {w : World} {K : PySem.W.Frag} {h : Heap} {mg : Str → Option Value} {fa C_StoredFile C_Disk C_PowerLost C_VersionError f_law_text f_law_numbers f_StoredFile___init f_Disk___init f_text_of f_save f_Disk__check_power f_Disk__begin_operation f_Disk_write f_Disk_sync f_Disk_cut f_Disk_read f_Disk_arm f_Disk_total f_Disk_restart f_law_is_integer f_law_operates f_law_called f_law_changes f_law_deed f_law : Addr} (X : K.In h) (G : h.Ns mainGlobals mg) (hfa : mg "law" = some (.ref fa))
    {od_law_text an_law_text : Option Addr} {sl_law_text : Array (Option Value)} {oc_law_text kV_law_text dc_law_text pm_law_text cd_law_text ct_law_text : Value}
    {od_law_numbers an_law_numbers : Option Addr} {sl_law_numbers : Array (Option Value)} {oc_law_numbers kV_law_numbers dc_law_numbers pm_law_numbers cd_law_numbers ct_law_numbers : Value}
    {od_StoredFile___init an_StoredFile___init : Option Addr} {sl_StoredFile___init : Array (Option Value)} {oc_StoredFile___init kV_StoredFile___init dc_StoredFile___init pm_StoredFile___init cd_StoredFile___init ct_StoredFile___init : Value}
    {od_Disk___init an_Disk___init : Option Addr} {sl_Disk___init : Array (Option Value)} {oc_Disk___init kV_Disk___init dc_Disk___init pm_Disk___init cd_Disk___init ct_Disk___init : Value}
    {od_text_of an_text_of : Option Addr} {sl_text_of : Array (Option Value)} {oc_text_of kV_text_of dc_text_of pm_text_of cd_text_of ct_text_of : Value}
    {od_save an_save : Option Addr} {sl_save : Array (Option Value)} {oc_save kV_save dc_save pm_save cd_save ct_save : Value}
    {od_Disk__check_power an_Disk__check_power : Option Addr} {sl_Disk__check_power : Array (Option Value)} {oc_Disk__check_power kV_Disk__check_power dc_Disk__check_power pm_Disk__check_power cd_Disk__check_power ct_Disk__check_power : Value}
    {od_Disk__begin_operation an_Disk__begin_operation : Option Addr} {sl_Disk__begin_operation : Array (Option Value)} {oc_Disk__begin_operation kV_Disk__begin_operation dc_Disk__begin_operation pm_Disk__begin_operation cd_Disk__begin_operation ct_Disk__begin_operation : Value}
    {od_Disk_write an_Disk_write : Option Addr} {sl_Disk_write : Array (Option Value)} {oc_Disk_write kV_Disk_write dc_Disk_write pm_Disk_write cd_Disk_write ct_Disk_write : Value}
    {od_Disk_sync an_Disk_sync : Option Addr} {sl_Disk_sync : Array (Option Value)} {oc_Disk_sync kV_Disk_sync dc_Disk_sync pm_Disk_sync cd_Disk_sync ct_Disk_sync : Value}
    {od_Disk_cut an_Disk_cut : Option Addr} {sl_Disk_cut : Array (Option Value)} {oc_Disk_cut kV_Disk_cut dc_Disk_cut pm_Disk_cut cd_Disk_cut ct_Disk_cut : Value}
    {od_Disk_read an_Disk_read : Option Addr} {sl_Disk_read : Array (Option Value)} {oc_Disk_read kV_Disk_read dc_Disk_read pm_Disk_read cd_Disk_read ct_Disk_read : Value}
    {od_Disk_arm an_Disk_arm : Option Addr} {sl_Disk_arm : Array (Option Value)} {oc_Disk_arm kV_Disk_arm dc_Disk_arm pm_Disk_arm cd_Disk_arm ct_Disk_arm : Value}
    {od_Disk_total an_Disk_total : Option Addr} {sl_Disk_total : Array (Option Value)} {oc_Disk_total kV_Disk_total dc_Disk_total pm_Disk_total cd_Disk_total ct_Disk_total : Value}
    {od_Disk_restart an_Disk_restart : Option Addr} {sl_Disk_restart : Array (Option Value)} {oc_Disk_restart kV_Disk_restart dc_Disk_restart pm_Disk_restart cd_Disk_restart ct_Disk_restart : Value}
    {od_law_is_integer an_law_is_integer : Option Addr} {sl_law_is_integer : Array (Option Value)} {oc_law_is_integer kV_law_is_integer dc_law_is_integer pm_law_is_integer cd_law_is_integer ct_law_is_integer : Value}
    {od_law_operates an_law_operates : Option Addr} {sl_law_operates : Array (Option Value)} {oc_law_operates kV_law_operates dc_law_operates pm_law_operates cd_law_operates ct_law_operates : Value}
    {od_law_called an_law_called : Option Addr} {sl_law_called : Array (Option Value)} {oc_law_called kV_law_called dc_law_called pm_law_called cd_law_called ct_law_called : Value}
    {od_law_changes an_law_changes : Option Addr} {sl_law_changes : Array (Option Value)} {oc_law_changes kV_law_changes dc_law_changes pm_law_changes cd_law_changes ct_law_changes : Value}
    {od_law_deed an_law_deed : Option Addr} {sl_law_deed : Array (Option Value)} {oc_law_deed kV_law_deed dc_law_deed pm_law_deed cd_law_deed ct_law_deed : Value}
    {od_law an_law : Option Addr} {sl_law : Array (Option Value)} {oc_law kV_law dc_law pm_law cd_law ct_law : Value}
    (aC_StoredFile : PySem.W.nsIn K mainGlobals "StoredFile" = some (some (.ref C_StoredFile))) (pg_StoredFile : PySem.W.plainGet K C_StoredFile Str.empty = true) (hd_StoredFile : PySem.W.hasDictIn K C_StoredFile = true) (po_StoredFile : PySem.W.plainOver K C_StoredFile = true) (sa_StoredFile : PySem.W.findIn K (.ref C_StoredFile) "__setattr__" = some (some (.builtin "object.__setattr__"))) (mk_StoredFile : PySem.W.makesIn K C_StoredFile = true) (kc_StoredFile : PySem.W.keepIn K (.ref C_StoredFile) = true)
    (na_StoredFile_saved : PySem.W.findIn K (.ref C_StoredFile) "saved" = some none)
    (na_StoredFile_tail : PySem.W.findIn K (.ref C_StoredFile) "tail" = some none)
    (aC_Disk : PySem.W.nsIn K mainGlobals "Disk" = some (some (.ref C_Disk))) (pg_Disk : PySem.W.plainGet K C_Disk Str.empty = true) (hd_Disk : PySem.W.hasDictIn K C_Disk = true) (po_Disk : PySem.W.plainOver K C_Disk = true) (sa_Disk : PySem.W.findIn K (.ref C_Disk) "__setattr__" = some (some (.builtin "object.__setattr__"))) (mk_Disk : PySem.W.makesIn K C_Disk = true) (kc_Disk : PySem.W.keepIn K (.ref C_Disk) = true)
    (na_Disk__files : PySem.W.findIn K (.ref C_Disk) "_files" = some none)
    (na_Disk__powered : PySem.W.findIn K (.ref C_Disk) "_powered" = some none)
    (na_Disk__left : PySem.W.findIn K (.ref C_Disk) "_left" = some none)
    (ax_PowerLost : PySem.W.nsIn K mainGlobals "PowerLost" = some (some (.ref C_PowerLost)))
    (xx_PowerLost : PySem.W.excIn K C_PowerLost [.type "ValueError", .type "Exception", .type "BaseException", .type "object"] "ValueError.__new__" = true)
    (xk_PowerLost : PySem.W.keepIn K (.ref C_PowerLost) = true)
    (xb_PowerLost : PySem.W.subIn K (.ref C_PowerLost) (.type "BaseException") = some true)
    (xt_PowerLost : PySem.W.typeIn K (.ref C_PowerLost) = some (.type "type"))
    (xs_PowerLost : PySem.W.subIn K (.ref C_PowerLost) (.ref C_PowerLost) = some true)
    (xg_PowerLost : PySem.W.findIn K (.ref C_PowerLost) "__getattribute__" = some (some (.builtin "BaseException.__getattribute__")))
    (xq_PowerLost : PySem.W.findIn K (.ref C_PowerLost) "__getattr__" = some none)
    (xd_PowerLost : PySem.W.hasDictIn K C_PowerLost = true)
    (xa_PowerLost : PySem.W.findIn K (.ref C_PowerLost) "__class__" = some (some (.builtin "object.__class__")))
    (xn_PowerLost : PySem.W.specialIn K (.builtin "object.__class__") "__get__" = some (some (.builtin "getset_descriptor.__get__")))
    (xi_PowerLost : PySem.W.takesIn K (.builtin "object.__class__") = some true)
    (xm_PowerLost : PySem.W.mroIn K C_PowerLost (.type "object") = some true)
    (xv_PowerLost : PySem.W.kitOne K (.ref C_PowerLost) (.type "ValueError") = some true)
    (ay_VersionError : PySem.W.nsIn K mainGlobals "VersionError" = some (some (.ref C_VersionError)))
    (kp_PowerLost_VersionError : PySem.W.kitOne K (.ref C_PowerLost) (.ref C_VersionError) = some true)
    (a_law_text : PySem.W.nsIn K mainGlobals "_law_text" = some (some (.ref f_law_text))) (l_law_text : K.lookup f_law_text = some ⟨oc_law_text, od_law_text, .func (PySem.W.fnOf "_law_text" "_law_text" (defArgs s_law_text) (defBody s_law_text) (defScope s_law_text) .none kV_law_text dc_law_text pm_law_text an_law_text cd_law_text ct_law_text), sl_law_text⟩) (c_law_text : PySem.W.codeIn K cd_law_text "_law_text" = true) (k_law_text : PySem.W.keepIn K (.ref f_law_text) = true)
    (a_law_numbers : PySem.W.nsIn K mainGlobals "_law_numbers" = some (some (.ref f_law_numbers))) (l_law_numbers : K.lookup f_law_numbers = some ⟨oc_law_numbers, od_law_numbers, .func (PySem.W.fnOf "_law_numbers" "_law_numbers" (defArgs s_law_numbers) (defBody s_law_numbers) (defScope s_law_numbers) .none kV_law_numbers dc_law_numbers pm_law_numbers an_law_numbers cd_law_numbers ct_law_numbers), sl_law_numbers⟩) (c_law_numbers : PySem.W.codeIn K cd_law_numbers "_law_numbers" = true) (k_law_numbers : PySem.W.keepIn K (.ref f_law_numbers) = true)
    (a_StoredFile___init : PySem.W.findIn K (.ref C_StoredFile) "__init__" = some (some (.ref f_StoredFile___init))) (i_StoredFile___init : PySem.W.isFn K (.ref f_StoredFile___init) = true) (l_StoredFile___init : K.lookup f_StoredFile___init = some ⟨oc_StoredFile___init, od_StoredFile___init, .func (PySem.W.fnOf "__init__" "StoredFile.__init__" (defArgs s_StoredFile___init) (defBody s_StoredFile___init) (defScope s_StoredFile___init) .none kV_StoredFile___init dc_StoredFile___init pm_StoredFile___init an_StoredFile___init cd_StoredFile___init ct_StoredFile___init), sl_StoredFile___init⟩) (c_StoredFile___init : PySem.W.codeIn K cd_StoredFile___init "StoredFile.__init__" = true) (k_StoredFile___init : PySem.W.keepIn K (.ref f_StoredFile___init) = true)
    (a_Disk___init : PySem.W.findIn K (.ref C_Disk) "__init__" = some (some (.ref f_Disk___init))) (i_Disk___init : PySem.W.isFn K (.ref f_Disk___init) = true) (l_Disk___init : K.lookup f_Disk___init = some ⟨oc_Disk___init, od_Disk___init, .func (PySem.W.fnOf "__init__" "Disk.__init__" (defArgs s_Disk___init) (defBody s_Disk___init) (defScope s_Disk___init) .none kV_Disk___init dc_Disk___init pm_Disk___init an_Disk___init cd_Disk___init ct_Disk___init), sl_Disk___init⟩) (c_Disk___init : PySem.W.codeIn K cd_Disk___init "Disk.__init__" = true) (k_Disk___init : PySem.W.keepIn K (.ref f_Disk___init) = true)
    (a_text_of : PySem.W.nsIn K mainGlobals "_text_of" = some (some (.ref f_text_of))) (l_text_of : K.lookup f_text_of = some ⟨oc_text_of, od_text_of, .func (PySem.W.fnOf "_text_of" "_text_of" (defArgs s_text_of) (defBody s_text_of) (defScope s_text_of) .none kV_text_of dc_text_of pm_text_of an_text_of cd_text_of ct_text_of), sl_text_of⟩) (c_text_of : PySem.W.codeIn K cd_text_of "_text_of" = true) (k_text_of : PySem.W.keepIn K (.ref f_text_of) = true)
    (a_save : PySem.W.nsIn K mainGlobals "_save" = some (some (.ref f_save))) (l_save : K.lookup f_save = some ⟨oc_save, od_save, .func (PySem.W.fnOf "_save" "_save" (defArgs s_save) (defBody s_save) (defScope s_save) .none kV_save dc_save pm_save an_save cd_save ct_save), sl_save⟩) (c_save : PySem.W.codeIn K cd_save "_save" = true) (k_save : PySem.W.keepIn K (.ref f_save) = true)
    (a_Disk__check_power : PySem.W.findIn K (.ref C_Disk) "_check_power" = some (some (.ref f_Disk__check_power))) (i_Disk__check_power : PySem.W.isFn K (.ref f_Disk__check_power) = true) (l_Disk__check_power : K.lookup f_Disk__check_power = some ⟨oc_Disk__check_power, od_Disk__check_power, .func (PySem.W.fnOf "_check_power" "Disk._check_power" (defArgs s_Disk__check_power) (defBody s_Disk__check_power) (defScope s_Disk__check_power) .none kV_Disk__check_power dc_Disk__check_power pm_Disk__check_power an_Disk__check_power cd_Disk__check_power ct_Disk__check_power), sl_Disk__check_power⟩) (c_Disk__check_power : PySem.W.codeIn K cd_Disk__check_power "Disk._check_power" = true) (k_Disk__check_power : PySem.W.keepIn K (.ref f_Disk__check_power) = true)
    (a_Disk__begin_operation : PySem.W.findIn K (.ref C_Disk) "_begin_operation" = some (some (.ref f_Disk__begin_operation))) (i_Disk__begin_operation : PySem.W.isFn K (.ref f_Disk__begin_operation) = true) (l_Disk__begin_operation : K.lookup f_Disk__begin_operation = some ⟨oc_Disk__begin_operation, od_Disk__begin_operation, .func (PySem.W.fnOf "_begin_operation" "Disk._begin_operation" (defArgs s_Disk__begin_operation) (defBody s_Disk__begin_operation) (defScope s_Disk__begin_operation) .none kV_Disk__begin_operation dc_Disk__begin_operation pm_Disk__begin_operation an_Disk__begin_operation cd_Disk__begin_operation ct_Disk__begin_operation), sl_Disk__begin_operation⟩) (c_Disk__begin_operation : PySem.W.codeIn K cd_Disk__begin_operation "Disk._begin_operation" = true) (k_Disk__begin_operation : PySem.W.keepIn K (.ref f_Disk__begin_operation) = true)
    (a_Disk_write : PySem.W.findIn K (.ref C_Disk) "write" = some (some (.ref f_Disk_write))) (i_Disk_write : PySem.W.isFn K (.ref f_Disk_write) = true) (l_Disk_write : K.lookup f_Disk_write = some ⟨oc_Disk_write, od_Disk_write, .func (PySem.W.fnOf "write" "Disk.write" (defArgs s_Disk_write) (defBody s_Disk_write) (defScope s_Disk_write) .none kV_Disk_write dc_Disk_write pm_Disk_write an_Disk_write cd_Disk_write ct_Disk_write), sl_Disk_write⟩) (c_Disk_write : PySem.W.codeIn K cd_Disk_write "Disk.write" = true) (k_Disk_write : PySem.W.keepIn K (.ref f_Disk_write) = true)
    (a_Disk_sync : PySem.W.findIn K (.ref C_Disk) "sync" = some (some (.ref f_Disk_sync))) (i_Disk_sync : PySem.W.isFn K (.ref f_Disk_sync) = true) (l_Disk_sync : K.lookup f_Disk_sync = some ⟨oc_Disk_sync, od_Disk_sync, .func (PySem.W.fnOf "sync" "Disk.sync" (defArgs s_Disk_sync) (defBody s_Disk_sync) (defScope s_Disk_sync) .none kV_Disk_sync dc_Disk_sync pm_Disk_sync an_Disk_sync cd_Disk_sync ct_Disk_sync), sl_Disk_sync⟩) (c_Disk_sync : PySem.W.codeIn K cd_Disk_sync "Disk.sync" = true) (k_Disk_sync : PySem.W.keepIn K (.ref f_Disk_sync) = true)
    (a_Disk_cut : PySem.W.findIn K (.ref C_Disk) "cut" = some (some (.ref f_Disk_cut))) (i_Disk_cut : PySem.W.isFn K (.ref f_Disk_cut) = true) (l_Disk_cut : K.lookup f_Disk_cut = some ⟨oc_Disk_cut, od_Disk_cut, .func (PySem.W.fnOf "cut" "Disk.cut" (defArgs s_Disk_cut) (defBody s_Disk_cut) (defScope s_Disk_cut) .none kV_Disk_cut dc_Disk_cut pm_Disk_cut an_Disk_cut cd_Disk_cut ct_Disk_cut), sl_Disk_cut⟩) (c_Disk_cut : PySem.W.codeIn K cd_Disk_cut "Disk.cut" = true) (k_Disk_cut : PySem.W.keepIn K (.ref f_Disk_cut) = true)
    (a_Disk_read : PySem.W.findIn K (.ref C_Disk) "read" = some (some (.ref f_Disk_read))) (i_Disk_read : PySem.W.isFn K (.ref f_Disk_read) = true) (l_Disk_read : K.lookup f_Disk_read = some ⟨oc_Disk_read, od_Disk_read, .func (PySem.W.fnOf "read" "Disk.read" (defArgs s_Disk_read) (defBody s_Disk_read) (defScope s_Disk_read) .none kV_Disk_read dc_Disk_read pm_Disk_read an_Disk_read cd_Disk_read ct_Disk_read), sl_Disk_read⟩) (c_Disk_read : PySem.W.codeIn K cd_Disk_read "Disk.read" = true) (k_Disk_read : PySem.W.keepIn K (.ref f_Disk_read) = true)
    (a_Disk_arm : PySem.W.findIn K (.ref C_Disk) "arm" = some (some (.ref f_Disk_arm))) (i_Disk_arm : PySem.W.isFn K (.ref f_Disk_arm) = true) (l_Disk_arm : K.lookup f_Disk_arm = some ⟨oc_Disk_arm, od_Disk_arm, .func (PySem.W.fnOf "arm" "Disk.arm" (defArgs s_Disk_arm) (defBody s_Disk_arm) (defScope s_Disk_arm) .none kV_Disk_arm dc_Disk_arm pm_Disk_arm an_Disk_arm cd_Disk_arm ct_Disk_arm), sl_Disk_arm⟩) (c_Disk_arm : PySem.W.codeIn K cd_Disk_arm "Disk.arm" = true) (k_Disk_arm : PySem.W.keepIn K (.ref f_Disk_arm) = true)
    (a_Disk_total : PySem.W.findIn K (.ref C_Disk) "total" = some (some (.ref f_Disk_total))) (i_Disk_total : PySem.W.isFn K (.ref f_Disk_total) = true) (l_Disk_total : K.lookup f_Disk_total = some ⟨oc_Disk_total, od_Disk_total, .func (PySem.W.fnOf "total" "Disk.total" (defArgs s_Disk_total) (defBody s_Disk_total) (defScope s_Disk_total) .none kV_Disk_total dc_Disk_total pm_Disk_total an_Disk_total cd_Disk_total ct_Disk_total), sl_Disk_total⟩) (c_Disk_total : PySem.W.codeIn K cd_Disk_total "Disk.total" = true) (k_Disk_total : PySem.W.keepIn K (.ref f_Disk_total) = true)
    (a_Disk_restart : PySem.W.findIn K (.ref C_Disk) "restart" = some (some (.ref f_Disk_restart))) (i_Disk_restart : PySem.W.isFn K (.ref f_Disk_restart) = true) (l_Disk_restart : K.lookup f_Disk_restart = some ⟨oc_Disk_restart, od_Disk_restart, .func (PySem.W.fnOf "restart" "Disk.restart" (defArgs s_Disk_restart) (defBody s_Disk_restart) (defScope s_Disk_restart) .none kV_Disk_restart dc_Disk_restart pm_Disk_restart an_Disk_restart cd_Disk_restart ct_Disk_restart), sl_Disk_restart⟩) (c_Disk_restart : PySem.W.codeIn K cd_Disk_restart "Disk.restart" = true) (k_Disk_restart : PySem.W.keepIn K (.ref f_Disk_restart) = true)
    (a_law_is_integer : PySem.W.nsIn K mainGlobals "_law_is_integer" = some (some (.ref f_law_is_integer))) (l_law_is_integer : K.lookup f_law_is_integer = some ⟨oc_law_is_integer, od_law_is_integer, .func (PySem.W.fnOf "_law_is_integer" "_law_is_integer" (defArgs s_law_is_integer) (defBody s_law_is_integer) (defScope s_law_is_integer) .none kV_law_is_integer dc_law_is_integer pm_law_is_integer an_law_is_integer cd_law_is_integer ct_law_is_integer), sl_law_is_integer⟩) (c_law_is_integer : PySem.W.codeIn K cd_law_is_integer "_law_is_integer" = true) (k_law_is_integer : PySem.W.keepIn K (.ref f_law_is_integer) = true)
    (a_law_operates : PySem.W.nsIn K mainGlobals "_law_operates" = some (some (.ref f_law_operates))) (l_law_operates : K.lookup f_law_operates = some ⟨oc_law_operates, od_law_operates, .func (PySem.W.fnOf "_law_operates" "_law_operates" (defArgs s_law_operates) (defBody s_law_operates) (defScope s_law_operates) .none kV_law_operates dc_law_operates pm_law_operates an_law_operates cd_law_operates ct_law_operates), sl_law_operates⟩) (c_law_operates : PySem.W.codeIn K cd_law_operates "_law_operates" = true) (k_law_operates : PySem.W.keepIn K (.ref f_law_operates) = true)
    (a_law_called : PySem.W.nsIn K mainGlobals "_law_called" = some (some (.ref f_law_called))) (l_law_called : K.lookup f_law_called = some ⟨oc_law_called, od_law_called, .func (PySem.W.fnOf "_law_called" "_law_called" (defArgs s_law_called) (defBody s_law_called) (defScope s_law_called) .none kV_law_called dc_law_called pm_law_called an_law_called cd_law_called ct_law_called), sl_law_called⟩) (c_law_called : PySem.W.codeIn K cd_law_called "_law_called" = true) (k_law_called : PySem.W.keepIn K (.ref f_law_called) = true)
    (a_law_changes : PySem.W.nsIn K mainGlobals "_law_changes" = some (some (.ref f_law_changes))) (l_law_changes : K.lookup f_law_changes = some ⟨oc_law_changes, od_law_changes, .func (PySem.W.fnOf "_law_changes" "_law_changes" (defArgs s_law_changes) (defBody s_law_changes) (defScope s_law_changes) .none kV_law_changes dc_law_changes pm_law_changes an_law_changes cd_law_changes ct_law_changes), sl_law_changes⟩) (c_law_changes : PySem.W.codeIn K cd_law_changes "_law_changes" = true) (k_law_changes : PySem.W.keepIn K (.ref f_law_changes) = true)
    (a_law_deed : PySem.W.nsIn K mainGlobals "_law_deed" = some (some (.ref f_law_deed))) (l_law_deed : K.lookup f_law_deed = some ⟨oc_law_deed, od_law_deed, .func (PySem.W.fnOf "_law_deed" "_law_deed" (defArgs s_law_deed) (defBody s_law_deed) (defScope s_law_deed) .none kV_law_deed dc_law_deed pm_law_deed an_law_deed cd_law_deed ct_law_deed), sl_law_deed⟩) (c_law_deed : PySem.W.codeIn K cd_law_deed "_law_deed" = true) (k_law_deed : PySem.W.keepIn K (.ref f_law_deed) = true)
    (a_law : PySem.W.nsIn K mainGlobals "law" = some (some (.ref f_law))) (l_law : K.lookup f_law = some ⟨oc_law, od_law, .func (PySem.W.fnOf "law" "law" (defArgs s_law) (defBody s_law) (defScope s_law) .none kV_law dc_law pm_law an_law cd_law ct_law), sl_law⟩) (c_law : PySem.W.codeIn K cd_law "law" = true) (k_law : PySem.W.keepIn K (.ref f_law) = true)
    (z_ValueError : PySem.W.nsIn K mainGlobals "ValueError" = some none)
    (z_bool : PySem.W.nsIn K mainGlobals "bool" = some none)
    (z_enumerate : PySem.W.nsIn K mainGlobals "enumerate" = some none)
    (z_int : PySem.W.nsIn K mainGlobals "int" = some none)
    (z_isinstance : PySem.W.nsIn K mainGlobals "isinstance" = some none)
    (z_len : PySem.W.nsIn K mainGlobals "len" = some none)
    (z_list : PySem.W.nsIn K mainGlobals "list" = some none)
    (z_max : PySem.W.nsIn K mainGlobals "max" = some none)
    (z_min : PySem.W.nsIn K mainGlobals "min" = some none)
    (z_range : PySem.W.nsIn K mainGlobals "range" = some none)
    (z_sorted : PySem.W.nsIn K mainGlobals "sorted" = some none)
    (z_str : PySem.W.nsIn K mainGlobals "str" = some none)
    (z_sum : PySem.W.nsIn K mainGlobals "sum" = some none)
    (z_tuple : PySem.W.nsIn K mainGlobals "tuple" = some none) :
    ∃ fd : FuncData, (∀ (s : Shared) (v : Value), BindsTo s fd ⟨[v], []⟩ [("script", v)]) ∧ ∀ base : Heap, K.In base → base.Ns mainGlobals mg → FnOk l.prog w K mg base CX0 6 fa fd ["script"] (spLaw K) := by
  have e := hfa.symm.trans (PySem.W.mg_of X G a_law)
  cases e
  have F_law_text := fun_mk (st := s_law_text) l_law_text c_law_text k_law_text
  have F_law_numbers := fun_mk (st := s_law_numbers) l_law_numbers c_law_numbers k_law_numbers
  have F_StoredFile___init := fun_mk (st := s_StoredFile___init) l_StoredFile___init c_StoredFile___init k_StoredFile___init
  have F_Disk___init := fun_mk (st := s_Disk___init) l_Disk___init c_Disk___init k_Disk___init
  have F_text_of := fun_mk (st := s_text_of) l_text_of c_text_of k_text_of
  have F_save := fun_mk (st := s_save) l_save c_save k_save
  have F_Disk__check_power := fun_mk (st := s_Disk__check_power) l_Disk__check_power c_Disk__check_power k_Disk__check_power
  have F_Disk__begin_operation := fun_mk (st := s_Disk__begin_operation) l_Disk__begin_operation c_Disk__begin_operation k_Disk__begin_operation
  have F_Disk_write := fun_mk (st := s_Disk_write) l_Disk_write c_Disk_write k_Disk_write
  have F_Disk_sync := fun_mk (st := s_Disk_sync) l_Disk_sync c_Disk_sync k_Disk_sync
  have F_Disk_cut := fun_mk (st := s_Disk_cut) l_Disk_cut c_Disk_cut k_Disk_cut
  have F_Disk_read := fun_mk (st := s_Disk_read) l_Disk_read c_Disk_read k_Disk_read
  have F_Disk_arm := fun_mk (st := s_Disk_arm) l_Disk_arm c_Disk_arm k_Disk_arm
  have F_Disk_total := fun_mk (st := s_Disk_total) l_Disk_total c_Disk_total k_Disk_total
  have F_Disk_restart := fun_mk (st := s_Disk_restart) l_Disk_restart c_Disk_restart k_Disk_restart
  have F_law_is_integer := fun_mk (st := s_law_is_integer) l_law_is_integer c_law_is_integer k_law_is_integer
  have F_law_operates := fun_mk (st := s_law_operates) l_law_operates c_law_operates k_law_operates
  have F_law_called := fun_mk (st := s_law_called) l_law_called c_law_called k_law_called
  have F_law_changes := fun_mk (st := s_law_changes) l_law_changes c_law_changes k_law_changes
  have F_law_deed := fun_mk (st := s_law_deed) l_law_deed c_law_deed k_law_deed
  have F_law := fun_mk (st := s_law) l_law c_law k_law
  let T : Txt K mg := {
    C_StoredFile := C_StoredFile, g_StoredFile := PySem.W.mg_of X G aC_StoredFile, cl_StoredFile := ⟨pg_StoredFile, hd_StoredFile, po_StoredFile, sa_StoredFile⟩,
    na_StoredFile_saved := na_StoredFile_saved,
    na_StoredFile_tail := na_StoredFile_tail,
    C_Disk := C_Disk, g_Disk := PySem.W.mg_of X G aC_Disk, cl_Disk := ⟨pg_Disk, hd_Disk, po_Disk, sa_Disk⟩,
    na_Disk__files := na_Disk__files,
    na_Disk__powered := na_Disk__powered,
    na_Disk__left := na_Disk__left,
    C_PowerLost := C_PowerLost, e_PowerLost := ⟨PySem.W.mg_of X G ax_PowerLost, xx_PowerLost, xk_PowerLost, xb_PowerLost, xt_PowerLost, xs_PowerLost, ⟨xg_PowerLost, xq_PowerLost, xb_PowerLost, xd_PowerLost, xa_PowerLost, xn_PowerLost, xi_PowerLost, xm_PowerLost⟩⟩, kv_PowerLost := xv_PowerLost,
    C_VersionError := C_VersionError, g_VersionError := PySem.W.mg_of X G ay_VersionError,
    ku_PowerLost_VersionError := kp_PowerLost_VersionError,
    f_law_text := f_law_text, d_law_text := _, F_law_text := F_law_text, b_law_text := (F_law_text.binds (ps := ["a", "b"]) fun _ _ _ _ _ _ us hl => match us, hl with | [_, _], _ => rfl),
    g_law_text := PySem.W.mg_of X G a_law_text,
    f_law_numbers := f_law_numbers, d_law_numbers := _, F_law_numbers := F_law_numbers, b_law_numbers := (F_law_numbers.binds (ps := ["cell", "count"]) fun _ _ _ _ _ _ us hl => match us, hl with | [_, _], _ => rfl),
    g_law_numbers := PySem.W.mg_of X G a_law_numbers,
    f_StoredFile___init := f_StoredFile___init, d_StoredFile___init := _, F_StoredFile___init := F_StoredFile___init, b_StoredFile___init := (F_StoredFile___init.binds (ps := ["self"]) fun _ _ _ _ _ _ us hl => match us, hl with | [_], _ => rfl),
    mk_StoredFile := ⟨mk_StoredFile, a_StoredFile___init, i_StoredFile___init, kc_StoredFile⟩,
    f_Disk___init := f_Disk___init, d_Disk___init := _, F_Disk___init := F_Disk___init, b_Disk___init := (F_Disk___init.binds (ps := ["self"]) fun _ _ _ _ _ _ us hl => match us, hl with | [_], _ => rfl),
    mk_Disk := ⟨mk_Disk, a_Disk___init, i_Disk___init, kc_Disk⟩,
    f_text_of := f_text_of, d_text_of := _, F_text_of := F_text_of, b_text_of := (F_text_of.binds (ps := ["stored"]) fun _ _ _ _ _ _ us hl => match us, hl with | [_], _ => rfl),
    g_text_of := PySem.W.mg_of X G a_text_of,
    f_save := f_save, d_save := _, F_save := F_save, b_save := (F_save.binds (ps := ["stored", "text"]) fun _ _ _ _ _ _ us hl => match us, hl with | [_, _], _ => rfl),
    g_save := PySem.W.mg_of X G a_save,
    f_Disk__check_power := f_Disk__check_power, d_Disk__check_power := _, F_Disk__check_power := F_Disk__check_power, b_Disk__check_power := (F_Disk__check_power.binds (ps := ["self"]) fun _ _ _ _ _ _ us hl => match us, hl with | [_], _ => rfl),
    me_Disk__check_power := ⟨a_Disk__check_power, i_Disk__check_power, k_Disk__check_power⟩,
    f_Disk__begin_operation := f_Disk__begin_operation, d_Disk__begin_operation := _, F_Disk__begin_operation := F_Disk__begin_operation, b_Disk__begin_operation := (F_Disk__begin_operation.binds (ps := ["self"]) fun _ _ _ _ _ _ us hl => match us, hl with | [_], _ => rfl),
    me_Disk__begin_operation := ⟨a_Disk__begin_operation, i_Disk__begin_operation, k_Disk__begin_operation⟩,
    f_Disk_write := f_Disk_write, d_Disk_write := _, F_Disk_write := F_Disk_write, b_Disk_write := (F_Disk_write.binds (ps := ["self", "name", "text"]) fun _ _ _ _ _ _ us hl => match us, hl with | [_, _, _], _ => rfl),
    me_Disk_write := ⟨a_Disk_write, i_Disk_write, k_Disk_write⟩,
    f_Disk_sync := f_Disk_sync, d_Disk_sync := _, F_Disk_sync := F_Disk_sync, b_Disk_sync := (F_Disk_sync.binds (ps := ["self", "name"]) fun _ _ _ _ _ _ us hl => match us, hl with | [_, _], _ => rfl),
    me_Disk_sync := ⟨a_Disk_sync, i_Disk_sync, k_Disk_sync⟩,
    f_Disk_cut := f_Disk_cut, d_Disk_cut := _, F_Disk_cut := F_Disk_cut, b_Disk_cut := (F_Disk_cut.binds (ps := ["self", "name", "length"]) fun _ _ _ _ _ _ us hl => match us, hl with | [_, _, _], _ => rfl),
    me_Disk_cut := ⟨a_Disk_cut, i_Disk_cut, k_Disk_cut⟩,
    f_Disk_read := f_Disk_read, d_Disk_read := _, F_Disk_read := F_Disk_read, b_Disk_read := (F_Disk_read.binds (ps := ["self", "name"]) fun _ _ _ _ _ _ us hl => match us, hl with | [_, _], _ => rfl),
    me_Disk_read := ⟨a_Disk_read, i_Disk_read, k_Disk_read⟩,
    f_Disk_arm := f_Disk_arm, d_Disk_arm := _, F_Disk_arm := F_Disk_arm, b_Disk_arm := (F_Disk_arm.binds (ps := ["self", "count"]) fun _ _ _ _ _ _ us hl => match us, hl with | [_, _], _ => rfl),
    me_Disk_arm := ⟨a_Disk_arm, i_Disk_arm, k_Disk_arm⟩,
    f_Disk_total := f_Disk_total, d_Disk_total := _, F_Disk_total := F_Disk_total, b_Disk_total := (F_Disk_total.binds (ps := ["self"]) fun _ _ _ _ _ _ us hl => match us, hl with | [_], _ => rfl),
    me_Disk_total := ⟨a_Disk_total, i_Disk_total, k_Disk_total⟩,
    f_Disk_restart := f_Disk_restart, d_Disk_restart := _, F_Disk_restart := F_Disk_restart, b_Disk_restart := (F_Disk_restart.binds (ps := ["self", "kept"]) fun _ _ _ _ _ _ us hl => match us, hl with | [_, _], _ => rfl),
    me_Disk_restart := ⟨a_Disk_restart, i_Disk_restart, k_Disk_restart⟩,
    f_law_is_integer := f_law_is_integer, d_law_is_integer := _, F_law_is_integer := F_law_is_integer, b_law_is_integer := (F_law_is_integer.binds (ps := ["actual"]) fun _ _ _ _ _ _ us hl => match us, hl with | [_], _ => rfl),
    g_law_is_integer := PySem.W.mg_of X G a_law_is_integer,
    f_law_operates := f_law_operates, d_law_operates := _, F_law_operates := F_law_operates, b_law_operates := (F_law_operates.binds (ps := ["m"]) fun _ _ _ _ _ _ us hl => match us, hl with | [_], _ => rfl),
    g_law_operates := PySem.W.mg_of X G a_law_operates,
    f_law_called := f_law_called, d_law_called := _, F_law_called := F_law_called, b_law_called := (F_law_called.binds (ps := ["disk", "deed", "name", "text", "length"]) fun _ _ _ _ _ _ us hl => match us, hl with | [_, _, _, _, _], _ => rfl),
    g_law_called := PySem.W.mg_of X G a_law_called,
    f_law_changes := f_law_changes, d_law_changes := _, F_law_changes := F_law_changes, b_law_changes := (F_law_changes.binds (ps := ["m", "deed", "name", "text", "length"]) fun _ _ _ _ _ _ us hl => match us, hl with | [_, _, _, _, _], _ => rfl),
    g_law_changes := PySem.W.mg_of X G a_law_changes,
    f_law_deed := f_law_deed, d_law_deed := _, F_law_deed := F_law_deed, b_law_deed := (F_law_deed.binds (ps := ["disk", "m", "numbers"]) fun _ _ _ _ _ _ us hl => match us, hl with | [_, _, _], _ => rfl),
    g_law_deed := PySem.W.mg_of X G a_law_deed,
    f_law := fa, d_law := _, F_law := F_law, b_law := (F_law.binds (ps := ["script"]) fun _ _ _ _ _ _ us hl => match us, hl with | [_], _ => rfl),
    g_law := PySem.W.mg_of X G a_law,
    m_ValueError := PySem.W.mg_none_of X G z_ValueError,
    m_bool := PySem.W.mg_none_of X G z_bool,
    m_enumerate := PySem.W.mg_none_of X G z_enumerate,
    m_int := PySem.W.mg_none_of X G z_int,
    m_isinstance := PySem.W.mg_none_of X G z_isinstance,
    m_len := PySem.W.mg_none_of X G z_len,
    m_list := PySem.W.mg_none_of X G z_list,
    m_max := PySem.W.mg_none_of X G z_max,
    m_min := PySem.W.mg_none_of X G z_min,
    m_range := PySem.W.mg_none_of X G z_range,
    m_sorted := PySem.W.mg_none_of X G z_sorted,
    m_str := PySem.W.mg_none_of X G z_str,
    m_sum := PySem.W.mg_none_of X G z_sum,
    m_tuple := PySem.W.mg_none_of X G z_tuple }
  exact ⟨PySem.W.fnOf "law" "law" (defArgs s_law) (defBody s_law) (defScope s_law) .none kV_law dc_law pm_law an_law cd_law ct_law, fun s v => .of_eq rfl, fun base _ _ => ok_law T⟩

end Vt

open PySem PySem.W PyProof.Rows
set_option maxHeartbeats 0 in
theorem PySem.Challenge.cw_versiontables_k82_disk_holds : PySem.Challenge.rw_versiontables_k82_disk.Holds := by
  w_on; o_law; k_head; (case hw => w_witness2)
  k_fill
  refine L2.walk_ofB (l := PySem.Challenge.rw_versiontables_k82_disk) (n := 63) (k := 6) (x := "script") (CX := fun _ => L2.CX0) (sp := fun w => Vt.spLaw _) rfl (by decide) rfl ⟨rfl, by decide, by decide⟩ (fun w h Y => PySem.W.kIn_of Y) ?F (fun _ _ a ns hl hb _ hS => ⟨a, ns, rfl, hS, hl, hb, fun _ => rfl⟩) (fun _ _ _ _ _ h => h)
  case F =>
    intro w mg fa h KX G hmg
    refine' Vt.all_mk KX G hmg ?aC_StoredFile ?pg_StoredFile ?hd_StoredFile ?po_StoredFile ?sa_StoredFile ?mk_StoredFile ?kc_StoredFile ?na_StoredFile_saved ?na_StoredFile_tail ?aC_Disk ?pg_Disk ?hd_Disk ?po_Disk ?sa_Disk ?mk_Disk ?kc_Disk ?na_Disk__files ?na_Disk__powered ?na_Disk__left ?ax_PowerLost ?xx_PowerLost ?xk_PowerLost ?xb_PowerLost ?xt_PowerLost ?xs_PowerLost ?xg_PowerLost ?xq_PowerLost ?xd_PowerLost ?xa_PowerLost ?xn_PowerLost ?xi_PowerLost ?xm_PowerLost ?xv_PowerLost ?ay_VersionError ?kp_PowerLost_VersionError ?a_law_text ?l_law_text ?c_law_text ?k_law_text ?a_law_numbers ?l_law_numbers ?c_law_numbers ?k_law_numbers ?a_StoredFile___init ?i_StoredFile___init ?l_StoredFile___init ?c_StoredFile___init ?k_StoredFile___init ?a_Disk___init ?i_Disk___init ?l_Disk___init ?c_Disk___init ?k_Disk___init ?a_text_of ?l_text_of ?c_text_of ?k_text_of ?a_save ?l_save ?c_save ?k_save ?a_Disk__check_power ?i_Disk__check_power ?l_Disk__check_power ?c_Disk__check_power ?k_Disk__check_power ?a_Disk__begin_operation ?i_Disk__begin_operation ?l_Disk__begin_operation ?c_Disk__begin_operation ?k_Disk__begin_operation ?a_Disk_write ?i_Disk_write ?l_Disk_write ?c_Disk_write ?k_Disk_write ?a_Disk_sync ?i_Disk_sync ?l_Disk_sync ?c_Disk_sync ?k_Disk_sync ?a_Disk_cut ?i_Disk_cut ?l_Disk_cut ?c_Disk_cut ?k_Disk_cut ?a_Disk_read ?i_Disk_read ?l_Disk_read ?c_Disk_read ?k_Disk_read ?a_Disk_arm ?i_Disk_arm ?l_Disk_arm ?c_Disk_arm ?k_Disk_arm ?a_Disk_total ?i_Disk_total ?l_Disk_total ?c_Disk_total ?k_Disk_total ?a_Disk_restart ?i_Disk_restart ?l_Disk_restart ?c_Disk_restart ?k_Disk_restart ?a_law_is_integer ?l_law_is_integer ?c_law_is_integer ?k_law_is_integer ?a_law_operates ?l_law_operates ?c_law_operates ?k_law_operates ?a_law_called ?l_law_called ?c_law_called ?k_law_called ?a_law_changes ?l_law_changes ?c_law_changes ?k_law_changes ?a_law_deed ?l_law_deed ?c_law_deed ?k_law_deed ?a_law ?l_law ?c_law ?k_law ?z_ValueError ?z_bool ?z_enumerate ?z_int ?z_isinstance ?z_len ?z_list ?z_max ?z_min ?z_range ?z_sorted ?z_str ?z_sum ?z_tuple
    (case aC_StoredFile => k_is)
    (case pg_StoredFile => k_is)
    (case hd_StoredFile => k_is)
    (case po_StoredFile => k_is)
    (case sa_StoredFile => k_is)
    (case mk_StoredFile => k_is)
    (case kc_StoredFile => k_is)
    (case na_StoredFile_saved => k_is)
    (case na_StoredFile_tail => k_is)
    (case aC_Disk => k_is)
    (case pg_Disk => k_is)
    (case hd_Disk => k_is)
    (case po_Disk => k_is)
    (case sa_Disk => k_is)
    (case mk_Disk => k_is)
    (case kc_Disk => k_is)
    (case na_Disk__files => k_is)
    (case na_Disk__powered => k_is)
    (case na_Disk__left => k_is)
    (case ax_PowerLost => k_is)
    (case xx_PowerLost => k_exc)
    (case xk_PowerLost => k_is)
    (case xb_PowerLost => k_is)
    (case xt_PowerLost => k_is)
    (case xs_PowerLost => first | rfl | k_is)
    (case xg_PowerLost => k_is)
    (case xq_PowerLost => k_is)
    (case xd_PowerLost => k_is)
    (case xa_PowerLost => k_is)
    (case xn_PowerLost => first | rfl | k_is)
    (case xi_PowerLost => first | rfl | k_is)
    (case xm_PowerLost => k_is)
    (case xv_PowerLost => first | rfl | k_is)
    (case ay_VersionError => k_is)
    (case kp_PowerLost_VersionError => first | rfl | k_is)
    (case a_law_text => k_is)
    (case l_law_text => k_is)
    (case c_law_text => k_is)
    (case k_law_text => k_is)
    (case a_law_numbers => k_is)
    (case l_law_numbers => k_is)
    (case c_law_numbers => k_is)
    (case k_law_numbers => k_is)
    (case a_StoredFile___init => k_is)
    (case i_StoredFile___init => k_is)
    (case l_StoredFile___init => k_is)
    (case c_StoredFile___init => k_is)
    (case k_StoredFile___init => k_is)
    (case a_Disk___init => k_is)
    (case i_Disk___init => k_is)
    (case l_Disk___init => k_is)
    (case c_Disk___init => k_is)
    (case k_Disk___init => k_is)
    (case a_text_of => k_is)
    (case l_text_of => k_is)
    (case c_text_of => k_is)
    (case k_text_of => k_is)
    (case a_save => k_is)
    (case l_save => k_is)
    (case c_save => k_is)
    (case k_save => k_is)
    (case a_Disk__check_power => k_is)
    (case i_Disk__check_power => k_is)
    (case l_Disk__check_power => k_is)
    (case c_Disk__check_power => k_is)
    (case k_Disk__check_power => k_is)
    (case a_Disk__begin_operation => k_is)
    (case i_Disk__begin_operation => k_is)
    (case l_Disk__begin_operation => k_is)
    (case c_Disk__begin_operation => k_is)
    (case k_Disk__begin_operation => k_is)
    (case a_Disk_write => k_is)
    (case i_Disk_write => k_is)
    (case l_Disk_write => k_is)
    (case c_Disk_write => k_is)
    (case k_Disk_write => k_is)
    (case a_Disk_sync => k_is)
    (case i_Disk_sync => k_is)
    (case l_Disk_sync => k_is)
    (case c_Disk_sync => k_is)
    (case k_Disk_sync => k_is)
    (case a_Disk_cut => k_is)
    (case i_Disk_cut => k_is)
    (case l_Disk_cut => k_is)
    (case c_Disk_cut => k_is)
    (case k_Disk_cut => k_is)
    (case a_Disk_read => k_is)
    (case i_Disk_read => k_is)
    (case l_Disk_read => k_is)
    (case c_Disk_read => k_is)
    (case k_Disk_read => k_is)
    (case a_Disk_arm => k_is)
    (case i_Disk_arm => k_is)
    (case l_Disk_arm => k_is)
    (case c_Disk_arm => k_is)
    (case k_Disk_arm => k_is)
    (case a_Disk_total => k_is)
    (case i_Disk_total => k_is)
    (case l_Disk_total => k_is)
    (case c_Disk_total => k_is)
    (case k_Disk_total => k_is)
    (case a_Disk_restart => k_is)
    (case i_Disk_restart => k_is)
    (case l_Disk_restart => k_is)
    (case c_Disk_restart => k_is)
    (case k_Disk_restart => k_is)
    (case a_law_is_integer => k_is)
    (case l_law_is_integer => k_is)
    (case c_law_is_integer => k_is)
    (case k_law_is_integer => k_is)
    (case a_law_operates => k_is)
    (case l_law_operates => k_is)
    (case c_law_operates => k_is)
    (case k_law_operates => k_is)
    (case a_law_called => k_is)
    (case l_law_called => k_is)
    (case c_law_called => k_is)
    (case k_law_called => k_is)
    (case a_law_changes => k_is)
    (case l_law_changes => k_is)
    (case c_law_changes => k_is)
    (case k_law_changes => k_is)
    (case a_law_deed => k_is)
    (case l_law_deed => k_is)
    (case c_law_deed => k_is)
    (case k_law_deed => k_is)
    (case a_law => k_is)
    (case l_law => k_is)
    (case c_law => k_is)
    (case k_law => k_is)
    (case z_ValueError => k_is)
    (case z_bool => k_is)
    (case z_enumerate => k_is)
    (case z_int => k_is)
    (case z_isinstance => k_is)
    (case z_len => k_is)
    (case z_list => k_is)
    (case z_max => k_is)
    (case z_min => k_is)
    (case z_range => k_is)
    (case z_sorted => k_is)
    (case z_str => k_is)
    (case z_sum => k_is)
    (case z_tuple => k_is)
