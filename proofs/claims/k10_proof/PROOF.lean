import PyProof.Rows.All
import Wide.All
import OpenK.AllK
import Wide.FinOn
import HandS.ForMost
import HandS.Evl
import HandS.IsInst
import HandS.FStr
import HandS.WideBits
import HandS.Wide
import HandS.EndBits
import HandS.Exc
import HandS.TupAny
import PyProof.StrOps2
import HandS.ExcOwn
import HandS.ExcIs
import HandS.ExcCtx
import HandS.SuiteRaise
import HandS.RaiseFrom
import HandS.ExcValue
import HandS.ExcValueFrom
import HandS.WordsExc
import HandS.Replace
import HandS.ReplaceLit
import HandS.NoneIn
import HandS.StrMore
import HandS.TupLe
import HandS.Sort
import HandS.SortKw
import HandS.Lambda
import HandS.EndTab
import KE.KNestM
import KE.SortKeyHeap
import KE.SortData
import HandS.Iter
import KE.GoesMore
import KE.GoesEnum
import HandS.SetTxt0
import HandS.Set
import HandS.Strs
import HandS.Star
import HandS.Zip
import KE.KDictZip
import HandS.ExcInit
import HandS.ExcField
import HandS.Nested
import KE.KExcSuper
import KE.KSuper
import KE.KExcIs
import HandS.Iter
import HandS.More
import HandS.Conv
import HandS.SortInts
import PySem.Challenge.RW_versiontables_k10_chunk_store


set_option Elab.async false
set_option linter.all false
set_option maxRecDepth 100000
set_option maxHeartbeats 400000

namespace Vt
open PySem PySem.Spec PyProof.Rows L2 Evl

def topS (i : Nat) : Stmt := PySem.Challenge.pw_versiontables_k10_chunk_store.main.body.getD i (.Pass ⟨0, 0, 0, 0⟩)

abbrev s_Book___init : Stmt := inClass (topS 8) 0

theorem sc_Book___init : FnScope ["self"] ["self"] (defScope s_Book___init) := ⟨rfl, rfl, rfl, by decide +kernel, rfl, by decide +kernel, by decide +kernel⟩

abbrev s_Book___len : Stmt := inClass (topS 8) 3

theorem sc_Book___len : FnScope ["self"] ["self"] (defScope s_Book___len) := ⟨rfl, rfl, rfl, by decide +kernel, rfl, by decide +kernel, by decide +kernel⟩

abbrev s_Chunks___init : Stmt := inClass (topS 6) 0

theorem sc_Chunks___init : FnScope ["self", "book"] ["self", "book"] (defScope s_Chunks___init) := ⟨rfl, rfl, rfl, by decide +kernel, rfl, by decide +kernel, by decide +kernel⟩

abbrev s_Chunks___len : Stmt := inClass (topS 6) 6

theorem sc_Chunks___len : FnScope ["self"] ["self"] (defScope s_Chunks___len) := ⟨rfl, rfl, rfl, by decide +kernel, rfl, by decide +kernel, by decide +kernel⟩

abbrev s_Chunks_drop : Stmt := inClass (topS 6) 4

theorem sc_Chunks_drop : FnScope ["self", "address"] ["self", "address"] (defScope s_Chunks_drop) := ⟨rfl, rfl, rfl, by decide +kernel, rfl, by decide +kernel, by decide +kernel⟩

abbrev s_Chunks_has : Stmt := inClass (topS 6) 3

theorem sc_Chunks_has : FnScope ["self", "address"] ["self", "address"] (defScope s_Chunks_has) := ⟨rfl, rfl, rfl, by decide +kernel, rfl, by decide +kernel, by decide +kernel⟩

abbrev s_law_cell : Stmt := topS 10

theorem sc_law_cell : FnScope ["script", "k"] ["script", "k"] (defScope s_law_cell) := ⟨rfl, rfl, rfl, by decide +kernel, rfl, by decide +kernel, by decide +kernel⟩

abbrev s_law_draws : Stmt := topS 12

theorem sc_law_draws : FnScope ["cell", "salt", "count", "base", "rest", "numbers", "k", "mixed"] ["cell", "salt", "count", "base"] (defScope s_law_draws) := ⟨rfl, rfl, rfl, by decide +kernel, rfl, by decide +kernel, by decide +kernel⟩

abbrev s_Chunks_get : Stmt := inClass (topS 6) 2

theorem sc_Chunks_get : FnScope ["self", "address"] ["self", "address"] (defScope s_Chunks_get) := ⟨rfl, rfl, rfl, by decide +kernel, rfl, by decide +kernel, by decide +kernel⟩

abbrev s_law_is : Stmt := topS 19

theorem sc_law_is : FnScope ["actual", "expected"] ["actual", "expected"] (defScope s_law_is) := ⟨rfl, rfl, rfl, by decide +kernel, rfl, by decide +kernel, by decide +kernel⟩

abbrev s_law_integer : Stmt := topS 15

theorem sc_law_integer : FnScope ["cell", "choice", "rest"] ["cell"] (defScope s_law_integer) := ⟨rfl, rfl, rfl, by decide +kernel, rfl, by decide +kernel, by decide +kernel⟩

abbrev s_law_signs : Stmt := topS 16

theorem sc_law_signs : FnScope ["cell", "length", "signs", "number"] ["cell", "length"] (defScope s_law_signs) := ⟨rfl, rfl, rfl, by decide +kernel, rfl, by decide +kernel, by decide +kernel⟩

abbrev s_law_char : Stmt := topS 13

theorem sc_law_char : FnScope ["number", "chars"] ["number"] (defScope s_law_char) := ⟨rfl, rfl, rfl, by decide +kernel, rfl, by decide +kernel, by decide +kernel⟩

abbrev s_law_text : Stmt := topS 14

theorem sc_law_text : FnScope ["cell", "choice", "rest", "length", "number"] ["cell"] (defScope s_law_text) := ⟨rfl, rfl, rfl, by decide +kernel, rfl, by decide +kernel, by decide +kernel⟩

abbrev s_law_leaf : Stmt := topS 17

theorem sc_law_leaf : FnScope ["cell", "choice", "rest", "lengths"] ["cell"] (defScope s_law_leaf) := ⟨rfl, rfl, rfl, by decide +kernel, rfl, by decide +kernel, by decide +kernel⟩

abbrev s_law_leaf_text : Stmt := topS 18

theorem sc_law_leaf_text : FnScope ["leaf"] ["leaf"] (defScope s_law_leaf_text) := ⟨rfl, rfl, rfl, by decide +kernel, rfl, by decide +kernel, by decide +kernel⟩

abbrev s_Book_find : Stmt := inClass (topS 8) 2

theorem sc_Book_find : FnScope ["self", "text"] ["self", "text"] (defScope s_Book_find) := ⟨rfl, rfl, rfl, by decide +kernel, rfl, by decide +kernel, by decide +kernel⟩

abbrev s_Book_address : Stmt := inClass (topS 8) 1

theorem sc_Book_address : FnScope ["self", "text"] ["self", "text"] (defScope s_Book_address) := ⟨rfl, rfl, rfl, by decide +kernel, rfl, by decide +kernel, by decide +kernel⟩

abbrev s_Chunks_put : Stmt := inClass (topS 6) 1

theorem sc_Chunks_put : FnScope ["self", "text", "address"] ["self", "text"] (defScope s_Chunks_put) := ⟨rfl, rfl, rfl, by decide +kernel, rfl, by decide +kernel, by decide +kernel⟩

abbrev s_law_thing : Stmt := topS 11

theorem sc_law_thing : FnScope ["script", "k"] ["script", "k"] (defScope s_law_thing) := ⟨rfl, rfl, rfl, by decide +kernel, rfl, by decide +kernel, by decide +kernel⟩

abbrev s_Chunks_addresses : Stmt := inClass (topS 6) 5

theorem sc_Chunks_addresses : FnScope ["self"] ["self"] (defScope s_Chunks_addresses) := ⟨rfl, rfl, rfl, by decide +kernel, rfl, by decide +kernel, by decide +kernel⟩

abbrev s_law_got : Stmt := topS 20

theorem sc_law_got : FnScope ["store", "address", "texts", "actual", "e"] ["store", "address", "texts"] (defScope s_law_got) := ⟨rfl, rfl, rfl, by decide +kernel, rfl, by decide +kernel, by decide +kernel⟩

abbrev s_law_put : Stmt := topS 22

theorem sc_law_put : FnScope ["store", "book", "text", "texts", "numbers", "address", "other"] ["store", "book", "text", "texts", "numbers"] (defScope s_law_put) := ⟨rfl, rfl, rfl, by decide +kernel, rfl, by decide +kernel, by decide +kernel⟩

abbrev s_law_told : Stmt := topS 21

theorem sc_law_told : FnScope ["store", "texts", "actual", "expected", "k", "j"] ["store", "texts"] (defScope s_law_told) := ⟨rfl, rfl, rfl, by decide +kernel, rfl, by decide +kernel, by decide +kernel⟩

abbrev s_law : Stmt := topS 23

theorem sc_law : FnScope ["script", "book", "stores", "held", "reads", "numbers", "pool", "k", "drawn", "which", "store", "choice", "known", "text", "address", "actual"] ["script"] (defScope s_law) := ⟨rfl, rfl, rfl, by decide +kernel, rfl, by decide +kernel, by decide +kernel⟩

abbrev s_MissingChunk___init : Stmt := inClass (topS 3) 0

theorem sc_MissingChunk___init : NdefX.NScope ["self", "address", "__class__"] ["self", "address"] [Str.ofString "__class__"] (defScope s_MissingChunk___init) := NdefX.nscope_by (by decide +kernel)

/-! ### what is raised -/
theorem okN {P : Program} {w : World} {K : PySem.W.Frag} {mg : Str → Option Value} {base : Heap} {x qual : Str} {st : Stmt} {f : Addr} {fd : FuncData} {N ps : List Str} {k : Nat} {sp : Sp} (F : Fun K x qual st f fd) (S : FnScope N ps (defScope st)) (len : ∀ vs H Q E, sp vs H Q E → vs.length = ps.length)
    (hb : ∀ (cdv : Value) (A : Around) (outer : List Env) (s : Shared) (H : Hp) (vs : List V) (Q : VK) (E : XK), Room k (A.deeper (envOfC qual (defScope st) s.heap.objs.size f cdv)) → sp vs H Q E →
      ∃ t, PSs (cxOf (L2N.CX P w) P w K mg base N qual (defScope st) f cdv A outer s H E) (defBody st) t ∧ t { nx := fun _ H' => Q .non H', rt := Q } (start N vs) H) : FnOk P w K mg base (L2N.CX P w) (k + 1) f fd ps sp := by
  obtain ⟨oc, od, kV, doc, pm, an, cdv, ct, osl, rfl, lk, hcd⟩ := F.ex
  exact fn_of lk hcd S len fun A outer s H vs Q E hr h => hb cdv A outer s H vs Q E hr h
/-- a reading that holds where P does -/
theorem pss_given {X : Cx} {sts : List Stmt} {t : TS} {P : Prop} (h : P → PSs X sts t) : PSs X sts (fun D σ H => P ∧ t D σ H) := ⟨fun pins s σ H D I z => (h z.1).run pins s σ H D I z.2⟩
theorem zc_of {cls : Value} {d : Option Addr} {C : Addr} {oe : Obj} (p : cls = .ref C ∧ d = none) (h : Zc cls d oe) : Zc (.ref C) none oe := by
  obtain ⟨rfl, rfl⟩ := p
  exact h
theorem ev_isE {K : PySem.W.Frag} {D a : Addr} {σ : L2.St} {H : Hp} {te : TE} {c : V} {cv : Value} {b : Bool} (h : Ev te σ H (.ref a)) (hc : ∀ u, RelV c u → u = cv) (hk : PySem.W.kitOne K (.ref D) cv = some b) : Ev (tCB (rIsE K D a) (tCons te (tCons (tC c) tNil))) σ H (.bl b) := fun H1 e Q q =>
  h H1 e _ fun H2 e2 => ⟨c, cv, b, rfl, hc, hk, q H2 e2⟩
theorem s_callE {sp : Sp} {dvs vs : List V} {E : XK} {ta : TA} {σ : L2.St} {H : Hp} {D : Ends} (h : EvA ta σ H vs) (k : ∀ H1 Q, Ex H H1 → sp (vs ++ dvs) H1 Q E) : tRet (tCall sp dvs E ta) D σ H := h H (Ex.refl H) _ fun H1 e1 => k H1 _ e1
theorem q_callE {sp : Sp} {dvs vs : List V} {E : XK} {ta : TA} {σ : L2.St} {H : Hp} {tz : TS} {D : Ends} {i : Nat} (h : EvA ta σ H vs) (k : ∀ H1 Q, Ex H H1 → sp (vs ++ dvs) H1 Q E) : tSeq (tAsg (tCall sp dvs E ta) (gName i)) tz D σ H := h H (Ex.refl H) _ fun H1 e1 => k H1 _ e1
/-- in a try's body -/
theorem s_callT {sp : Sp} {vs : List V} {E : L2.St → XK} {ta : TA} {g : TG} {σ : L2.St} {H : Hp} {D : Ends} (h : EvA ta σ H vs) (k : ∀ H1 Q, Ex H H1 → sp vs H1 Q (E σ)) : tAsg (tCallS sp E ta) g D σ H := h H (Ex.refl H) _ fun H1 e1 => k H1 _ e1
theorem s_dropT {sp : Sp} {vs : List V} {E : L2.St → XK} {ta : TA} {σ : L2.St} {H : Hp} {D : Ends} (h : EvA ta σ H vs) (k : ∀ H1 Q, Ex H H1 → sp vs H1 Q (E σ)) : tDrop (tCallS sp E ta) D σ H := h H (Ex.refl H) _ fun H1 e1 => k H1 _ e1
/-- an own error class, as the text has it -/
structure XcC (K : PySem.W.Frag) (mg : Str → Option Value) (x : Str) (C : Addr) : Prop where
  g : mg x = some (.ref C)
  x : PySem.W.excIn K C [.type "ValueError", .type "Exception", .type "BaseException", .type "object"] "ValueError.__new__" = true
  kp : PySem.W.keepIn K (.ref C) = true
  b : PySem.W.subIn K (.ref C) (.type "BaseException") = some true
  t : PySem.W.typeIn K (.ref C) = some (.type "type")
  s : PySem.W.subIn K (.ref C) (.ref C) = some true
  is : ExcC K C
theorem XcC.self {K : PySem.W.Frag} {mg : Str → Option Value} {x : Str} {C : Addr} (T : XcC K mg x C) : PySem.W.exmOne K (.ref C) (.ref C) = some true := PySem.W.exm_ref T.b T.is.hd T.t T.s
/-! try .. except X as n: .. and further clauses; what is raised is X's -/
def wAs1 (K : PySem.W.Frag) (c : Value) (i : Nat) (ts : Addr → Value → Option Addr → TS) (D : Ends) : WX := fun cls d σ H =>
  PySem.W.exmOne K cls c = some true ∧ ∀ a, H a = none → ts a cls d { nx := fun _ _ => False, rt := D.rt, bk := fun _ _ => False, ct := fun _ _ => False } (σ.set i (some (.ref a))) H
theorem ps_try_as1 {X : Cx} {x n : Str} {c : Value} {i : Nat} {body suite : List Stmt} {b₀ : Stmt} {np pos pos' : Pos} {more : List ExceptHandler} {tb : WX → TS} {ts : Addr → Value → Option Addr → TS}
    (hs : X.stack = X.env :: X.outer) (hf : X.env.frame = some X.env.locals) (hN : X.N.Nodup) (hi : X.N[i]? = some n) (hln : X.env.kindOf n = some .local) (hc : Names X x c)
    (hb : ∀ (W : WX) (pn : List (Addr × Obj)) (xe : Value → Shared → Prop), L2N.Takes (X.tr pn xe) W → PSs (X.tr pn xe) body (tb W))
    (hsu : ∀ (a : Addr) (oe : Obj) (cls : Value) (d : Option Addr) (pn : List (Addr × Obj)), Zc cls d oe → (∃ vs, oe.data = .fields vs) → PSs (X.suite a ((a, oe) :: pn)) (b₀ :: suite) (ts a cls d)) :
    PS X (.Try body (.ExceptHandler (some (.Name x np)) (some n) (b₀ :: suite) pos' :: more) [] [] pos) (fun D σ H => tb (wAs1 X.K c i ts D) D σ H) := by
  refine ⟨fun pins s σ H D I h => ?_⟩
  have ok := I.ok
  have frames : X.A.frames = some (X.env :: X.outer) := by rw [ok.frames, hs]
  refine wpAny_Try_except (wpAny_mono ((hb (wAs1 X.K c i ts D) (X.pn ++ pins) _ fun u s' z => ?_).run [] s σ H D (I.toTry _) h) (fun f s1 q => ?_) fun e s1 z => z)
  · obtain ⟨a, B, sI, pins', σ', H', cls, d, rfl, J', nb, up, sky, na, os, ag, hx, hy⟩ := z
    have J : Inv X pins σ' H' sI := J'.ofTry ok
    have sky' : L2.Sky B (X.env :: X.outer) a (L2N.Zn cls d) X.env.locals s'.heap := by rw [← hs]; exact sky
    show wpAny (model X.prog X.w) X.A (noteFrame (.ref a) X.env) _ _ _
    refine L2N.Sky.land L2N.Zn.steady frames hf sky' fun h3 fl up3 => ?_
    have J3 : Inv X pins σ' H' { s' with heap := h3 } := J.landed nb fl.1 (up.trans up3) os ag
    obtain ⟨o3, v3, g3, z3, d3⟩ := fl.there
    have nfr : a ∉ frs (X.env :: X.outer) := fun hm => by
      obtain ⟨_, o', e', no⟩ := fl.2.2.1.mem hm
      rw [g3] at e'
      cases e'
      exact no _ d3
    have nL : a ≠ X.env.locals := fun y => nfr (List.mem_filterMap.mpr ⟨X.env, List.mem_cons_self, by rw [hf, y]⟩)
    have nF : a ∉ X.fs := fun hm => by
      obtain ⟨e, he, q⟩ := List.mem_filterMap.mp hm
      exact nfr (List.mem_filterMap.mpr ⟨e, List.mem_cons_of_mem _ he, q⟩)
    have S3 := J3.suite g3 d3 na nL nF
    have LT : PySem.W.Looks (model X.prog X.w) h3 (typeOf (.ref a)) cls := fun A Q E s k q => wpAny_typeOf_ref (k _ _ g3) (by rw [z3.1]; exact q)
    have LM := PySem.W.exm_one (M := model X.prog X.w) J3.kIn LT hx
    refine wpAny_handleBy_cons (codeAny_handlers_test ?_) (by intro q; cases q)
    have test : ∀ {Q : Value → Shared → Prop} {E : Value → Shared → Prop}, Q c { s' with heap := h3 } → wpAny (model X.prog X.w) (X.A.mark (some (.ref a))) (eval (.Name x np) X.env) Q E { s' with heap := h3 } := fun q => by
      obtain ⟨hg, hd, hm | ⟨hm, hv, hn⟩⟩ := hc
      · exact ld_glob (X := X.suite a ((a, o3) :: (X.pn ++ pins))) S3 hg hm q hd
      · exact ld_blt (X := X.suite a ((a, o3) :: (X.pn ++ pins))) S3 hg hm hv q hn hd
    refine test (LM.here (codeAny_handlers_suite_as (HandSPX.lands_againZ fl fun h4 fl4 up4 => ?_)))
    have J4 : Inv X pins σ' H' { s' with heap := h4 } := J.landed nb fl4.1 ((up.trans up3).trans up4) os ag
    obtain ⟨o4, v4, g4, z4, d4⟩ := fl4.there
    refine store_ok (X := X.suite a ((a, o4) :: (X.pn ++ pins))) (v := .ref a) (J4.suite g4 d4 na nL nF) hN hi (.inl hln) rfl (fun s5 S5 => ?_) (.inr hln)
    refine wpAny_mono ((hsu a o4 cls d (X.pn ++ pins) ⟨z4.1, z4.2.1⟩ ⟨_, d4⟩).run [] s5 _ H' _ S5 (hy a na)) (fun f s6 q => ?_) (fun _ _ z => z.elim)
    cases f with
    | next =>
      obtain ⟨_, _, _, z⟩ := q
      exact z.elim
    | brk =>
      obtain ⟨_, _, _, z⟩ := q
      exact z.elim
    | cont =>
      obtain ⟨_, _, _, z⟩ := q
      exact z.elim
    | ret u =>
      obtain ⟨v6, σ6, H6, S6, r6, q6⟩ := q
      exact gone_ok (S6.unsuite ok) hN hi hln fun s7 J7 => ⟨_, _, _, J7, r6, q6⟩
  · cases f with
    | next =>
      obtain ⟨σ', H', J', z⟩ := q
      exact wpAny_execs_nil ⟨σ', H', J'.ofTry ok, z⟩
    | brk =>
      obtain ⟨σ', H', J', z⟩ := q
      exact ⟨σ', H', J'.ofTry ok, z⟩
    | cont =>
      obtain ⟨σ', H', J', z⟩ := q
      exact ⟨σ', H', J'.ofTry ok, z⟩
    | ret u =>
      obtain ⟨v, σ', H', J', r, z⟩ := q
      exact ⟨v, σ', H', J'.ofTry ok, r, z⟩
/-- as ps_try_as1, for what was raised while another error was handled -/
theorem ps_try_as2 {X : Cx} {x n : Str} {c : Value} {i : Nat} {body suite : List Stmt} {b₀ : Stmt} {np pos pos' : Pos} {more : List ExceptHandler} {tb : WX → TS} {ts : Addr → Value → Option Addr → TS}
    (hs : X.stack = X.env :: X.outer) (hf : X.env.frame = some X.env.locals) (hN : X.N.Nodup) (hi : X.N[i]? = some n) (hln : X.env.kindOf n = some .local) (hc : Names X x c)
    (hb : ∀ (W : WX) (pn : List (Addr × Obj)) (xe : Value → Shared → Prop), L2.Takes (X.tr pn xe) W → PSs (X.tr pn xe) body (tb W))
    (hsu : ∀ (a : Addr) (oe : Obj) (cls : Value) (d : Option Addr) (pn : List (Addr × Obj)), Zc cls d oe → (∃ vs, oe.data = .fields vs) → PSs (X.suite a ((a, oe) :: pn)) (b₀ :: suite) (ts a cls d)) :
    PS X (.Try body (.ExceptHandler (some (.Name x np)) (some n) (b₀ :: suite) pos' :: more) [] [] pos) (fun D σ H => tb (wAs1 X.K c i ts D) D σ H) := by
  refine ⟨fun pins s σ H D I h => ?_⟩
  have ok := I.ok
  have frames : X.A.frames = some (X.env :: X.outer) := by rw [ok.frames, hs]
  refine wpAny_Try_except (wpAny_mono ((hb (wAs1 X.K c i ts D) (X.pn ++ pins) _ fun u s' z => ?_).run [] s σ H D (I.toTry _) h) (fun f s1 q => ?_) fun e s1 z => z)
  · obtain ⟨a, B, sI, pins', σ', H', cls, d, rfl, J', nb, up, sky, na, os, ag, hx, hy⟩ := z
    have J : Inv X pins σ' H' sI := J'.ofTry ok
    have sky' : L2.Sky B (X.env :: X.outer) a (Zc cls d) X.env.locals s'.heap := by rw [← hs]; exact sky
    show wpAny (model X.prog X.w) X.A (noteFrame (.ref a) X.env) _ _ _
    refine L2.Sky.land Zc.steady frames hf sky' fun h3 fl up3 => ?_
    have J3 : Inv X pins σ' H' { s' with heap := h3 } := J.landed nb fl.1 (up.trans up3) os ag
    obtain ⟨o3, v3, g3, z3, d3⟩ := fl.there
    have nfr : a ∉ frs (X.env :: X.outer) := fun hm => by
      obtain ⟨_, o', e', no⟩ := fl.2.2.1.mem hm
      rw [g3] at e'
      cases e'
      exact no _ d3
    have nL : a ≠ X.env.locals := fun y => nfr (List.mem_filterMap.mpr ⟨X.env, List.mem_cons_self, by rw [hf, y]⟩)
    have nF : a ∉ X.fs := fun hm => by
      obtain ⟨e, he, q⟩ := List.mem_filterMap.mp hm
      exact nfr (List.mem_filterMap.mpr ⟨e, List.mem_cons_of_mem _ he, q⟩)
    have S3 := J3.suite g3 d3 na nL nF
    have LT : PySem.W.Looks (model X.prog X.w) h3 (typeOf (.ref a)) cls := fun A Q E s k q => wpAny_typeOf_ref (k _ _ g3) (by rw [z3.1]; exact q)
    have LM := PySem.W.exm_one (M := model X.prog X.w) J3.kIn LT hx
    refine wpAny_handleBy_cons (codeAny_handlers_test ?_) (by intro q; cases q)
    have test : ∀ {Q : Value → Shared → Prop} {E : Value → Shared → Prop}, Q c { s' with heap := h3 } → wpAny (model X.prog X.w) (X.A.mark (some (.ref a))) (eval (.Name x np) X.env) Q E { s' with heap := h3 } := fun q => by
      obtain ⟨hg, hd, hm | ⟨hm, hv, hn⟩⟩ := hc
      · exact ld_glob (X := X.suite a ((a, o3) :: (X.pn ++ pins))) S3 hg hm q hd
      · exact ld_blt (X := X.suite a ((a, o3) :: (X.pn ++ pins))) S3 hg hm hv q hn hd
    refine test (LM.here (codeAny_handlers_suite_as (HandSPX.lands_againZ fl fun h4 fl4 up4 => ?_)))
    have J4 : Inv X pins σ' H' { s' with heap := h4 } := J.landed nb fl4.1 ((up.trans up3).trans up4) os ag
    obtain ⟨o4, v4, g4, z4, d4⟩ := fl4.there
    refine store_ok (X := X.suite a ((a, o4) :: (X.pn ++ pins))) (v := .ref a) (J4.suite g4 d4 na nL nF) hN hi (.inl hln) rfl (fun s5 S5 => ?_) (.inr hln)
    refine wpAny_mono ((hsu a o4 cls d (X.pn ++ pins) z4 ⟨_, d4⟩).run [] s5 _ H' _ S5 (hy a na)) (fun f s6 q => ?_) (fun _ _ z => z.elim)
    cases f with
    | next =>
      obtain ⟨_, _, _, z⟩ := q
      exact z.elim
    | brk =>
      obtain ⟨_, _, _, z⟩ := q
      exact z.elim
    | cont =>
      obtain ⟨_, _, _, z⟩ := q
      exact z.elim
    | ret u =>
      obtain ⟨v6, σ6, H6, S6, r6, q6⟩ := q
      exact gone_ok (S6.unsuite ok) hN hi hln fun s7 J7 => ⟨_, _, _, J7, r6, q6⟩
  · cases f with
    | next =>
      obtain ⟨σ', H', J', z⟩ := q
      exact wpAny_execs_nil ⟨σ', H', J'.ofTry ok, z⟩
    | brk =>
      obtain ⟨σ', H', J', z⟩ := q
      exact ⟨σ', H', J'.ofTry ok, z⟩
    | cont =>
      obtain ⟨σ', H', J', z⟩ := q
      exact ⟨σ', H', J'.ofTry ok, z⟩
    | ret u =>
      obtain ⟨v, σ', H', J', r, z⟩ := q
      exact ⟨v, σ', H', J'.ofTry ok, r, z⟩
/-- raise X('..') from None in an except suite -/
theorem ps_raiseFN {X : Cx} {W : WX} {x m : Str} {C : Addr} {j j2 : Nat} {p p2 pos cpos pos2 : Pos} (hot : L2H.HotC X) (tk : L2.Takes X W) (T : XcC X.K X.mg x C) (hx : X.ex = []) (hg : Gl X x) (hdb : (x == ("__debug__" : Str)) = false) :
    PS X (.Raise (some (.Call (.Name x p) [.Constant (.str m) j p2] [] pos)) (some (.Constant .none j2 cpos)) pos2) (fun _ σ H => Ex X.H_0 H ∧ W (.ref C) none σ H) := by
  refine ⟨fun pins s σ H D I h => (L2H.ps_raiseHN hot tk (pmk_ret5 hx (pe_exc1 PySem.F.excBase_ValueError T.x T.g T.kp hg pe_str (by rfl) hdb))).run pins s σ H D I ?_⟩
  exact fun a ha => ⟨a, _, rfl, upd_same, fr0_none (fresh_back h.1 ha), L2.raises_own T.b T.t, by rw [delH_new ha]; exact h.2⟩
theorem _root_.L2.FnOk.both {P : Program} {w : World} {K : PySem.W.Frag} {mg : Str → Option Value} {base : Heap} {CX : CXT} {k : Nat} {f : Addr} {fd : FuncData} {ps : List Str} {sp0 sp1 : Sp} (F0 : FnOk P w K mg base CX0 k f fd ps sp0) (F1 : FnOk P w K mg base CX k f fd ps sp1) : FnOk P w K mg base CX k f fd ps (fun vs H Q E => sp0 vs H Q E ∨ sp1 vs H Q E) :=
  ⟨fun vs H Q E h => h.elim (F0.len vs H Q E) (F1.len vs H Q E), fun A outer s H args us vs Q E hr e0 hb r h => h.elim (fun h => codeAny_mono (F0.run A outer s H args us vs Q E hr e0 hb r h) fun res s' z => by
    cases res with
    | error e => exact False.elim z
    | ok f => cases f <;> exact z) (fun h => F1.run A outer s H args us vs Q E hr e0 hb r h)⟩
theorem s_callEA {sp : Sp} {dvs vs : List V} {E : XK} {ta : TA} {g : TG} {σ : L2.St} {H : Hp} {D : Ends} (h : EvA ta σ H vs) (k : ∀ H1 Q, Ex H H1 → sp (vs ++ dvs) H1 Q E) : tAsg (tCall sp dvs E ta) g D σ H := h H (Ex.refl H) _ fun H1 e1 => k H1 _ e1
theorem s_ifX {sp : Sp} {dvs vs : List V} {E : XK} {ta : TA} {tb : TE} {r : R2} {tu tw : TS} {σ : L2.St} {H : Hp} {D : Ends} (h : EvA ta σ H vs) (k : ∀ H1 Q, Ex H H1 → sp (vs ++ dvs) H1 Q E) : tIfS (tTest (tOp r (tCall sp dvs E ta) tb)) tu tw D σ H := h H (Ex.refl H) _ fun H1 e1 => k H1 _ e1
theorem t_testX {sp : Sp} {dvs vs : List V} {E : XK} {ta : TA} {tb : TE} {r : R2} {σ : L2.St} {H : Hp} {Q : Bool → Hp → Prop} (h : EvA ta σ H vs) (k : ∀ H1 Q, Ex H H1 → sp (vs ++ dvs) H1 Q E) : tTest (tOp r (tCall sp dvs E ta) tb) σ H Q := h H (Ex.refl H) _ fun H1 e1 => k H1 _ e1
theorem q_whileX {t : TT} {tu tz : TS} {σ : L2.St} {H : Hp} {D : Ends} (W : Nat → L2.St → Hp → Prop) (m0 : Nat) (h0 : W m0 σ H)
    (hs : ∀ m σ' H', W m σ' H' → t σ' H' fun b H1 => if b = true then ∃ N : L2.St → Hp → Prop, (∀ σ2 H2, N σ2 H2 → ∃ m', m' < m ∧ W m' σ2 H2) ∧ tu { D with nx := N, ct := N, bk := tz D } σ' H1 else tz D σ' H1) : tSeq (tWhile t tu) tz D σ H := ⟨W, ⟨m0, h0⟩, hs⟩
theorem pre_le {xs ys t u : List Nat} (h : xs ++ ys = t ++ u) (hl : t.length ≤ xs.length) : ∃ rest, xs = t ++ rest := by
  have e := congrArg (List.take t.length) h
  rw [List.take_append_of_le_length hl, List.take_left] at e
  have z := (List.take_append_drop t.length xs).symm
  rw [e] at z
  exact ⟨_, z⟩
theorem pre_one {xs t r : List Nat} {y c : Nat} (h : xs ++ [y] = t ++ (c :: r)) : ∃ rest, xs = t ++ rest := by
  refine pre_le h ?_
  have := congrArg List.length h
  simp only [List.length_append, List.length_cons, List.length_nil] at this
  omega


/-! ### super().__init__(..) in an error class over ValueError -/
section
open PySem PySem.W PySem.Spec PyProof.Rows L2
variable {prog : Program} {w : World} {A : Around} {E : Value → Shared → Prop} {h : Heap} {g : Array GenState} {d : Drawn} {t : Nat} {os : OsState}
/-- the bound __init__ is called: the exception's args are laid anew -/
theorem sup_bw {nm q : Str} {C N : Addr} {bs bm : List Value} {hdct : Bool} {sn : List Str} {sub : List Value} {ab : Bool} {col : Option Bool} {dd : Option Addr} {k0 k1 k2 k3 k5 : Option Value} {u e t0 : Addr} {rest : List Value} {Q : Value → Shared → Prop}
    (hC : h.get? C = some (excClassObj nm q C N bs bm hdct sn sub ab col dd k0 k1 k2 k3 k5 "ValueError.__new__")) (he : h.get? e = some (HandSPX.excO C t0)) (hu : h.get? u = some (kxs_mw "ValueError.__init__" e)) (hrest : rest.length ≤ sizeLine)
    (hq : ∀ h' t1, (∀ b o, b ≠ e → h.get? b = some o → h'.get? b = some o) → h'.get? e = some (HandSPX.excO C t1) → Q .none ⟨h', g, d, t, os⟩) :
    wpAny (model prog w) A (call (.ref u) rest) Q E ⟨h, g, d, t, os⟩ := by
  refine wpAny_call (codeAny_of_tree (show wpAny _ A.in1 (callAny (.ref u) ⟨rest, []⟩) _ _ _ from ?_))
  simp only [callAny]
  refine wpAny_bind (m := load u) (wpAny_load hu ?_)
  simp only [show (Value.type "method-wrapper" == Value.type "method" || Value.type "method-wrapper" == Value.type "builtin_function_or_method" || Value.type "method-wrapper" == Value.type "method-wrapper") = true from by decide, if_true]
  refine KFB.if_so (by decide) (wpAny_bind (check_bound_init F.excBase_ValueError.toExcCallFacts hC he rfl (wpAny_bind (wpAny_pure (wpAny_pure ?_)))))
  refine ⟨plainId_quiet F.excBase_ValueError.init.plain _, codeAny_builtin F.excBase_ValueError.initEntry (exc_init_tree (cls := .ref C) (t0 := t0) (dv := none) (c2 := .none) (c3 := .none) (b4 := .bool false) he hrest fun h' k e' _ => ?_)⟩
  exact hq h' h.objs.size k e'
end
section
open PySem PySem.W PySem.Spec PyProof.Rows L2
/-- a body, from some statement on, in the activation that is known -/
def PSA (X : Cx) (body sts : List Stmt) (t : TS) : Prop := ∀ (pins : List (Addr × Obj)) (s : Shared) (σ : L2.St) (H : Hp) (D : Ends), Inv X pins σ H s → t D σ H → _root_.PySem.wpAt (model X.prog X.w) X.A (.func body X.env) (execs sts X.env) (SP X pins D) X.xe s
/-- what the written part says of such an __init__ -/
structure SupK (K : PySem.W.Frag) (prog : Program) (C f cc cda : Addr) : Prop where
  fn : ∃ oc od fd osl ar, K.lookup f = some ⟨oc, od, .func fd, osl⟩ ∧ (fd.params.posonlyargs ++ fd.params.args).head? = some ar ∧ ar.arg = Str.ofString "self"
  code : ∃ ccl cdd vs ccs file tf, K.lookup cda = some ⟨ccl, cdd, .fields vs, ccs⟩ ∧ vs[2]? = some (.str file tf) ∧ (prog.main.file == file) = true
  cell : ∃ cl cld csl, K.lookup cc = some ⟨cl, cld, .cell (some (.ref C)), csl⟩
  init : ks_superIn K C C "__init__" = some (some (.builtin "ValueError.__init__"))
  tp : nsIn K cStatics "thirdparty.any" = some none
  mro : mroIn K C (.ref C) = some true
  ve : subIn K (.ref C) (.type "ValueError") = some true
/-- super().__init__(e, ..) -/
def tSup (C : Addr) (ta : TA) : TS := fun D σ H => ∃ a : Addr, σ[0]? = some (some (.ref a)) ∧ H a = some (exo a C none) ∧ ta σ H fun vs H1 => vs.length ≤ 1000 ∧ H1 a = some (exo a C none) ∧ D.nx σ H1
theorem pssa_sup {X : Cx} {C f cc cda : Addr} {body rest : List Stmt} {e : Expr} {es : List Expr} {p0 p1 p2 p3 p4 : Pos} {ta : TA} {u : TS} (T : SupK X.K X.prog C f cc cda) (O : OexC X.K C) (hf : X.env.func = some f) (hco : X.env.code = .ref cda) (hcells : X.env.cells.lookup (Str.ofString "__class__") = some cc)
    (hks : X.env.kindOf "super" = some .globalImplicit) (hkc : X.env.kindOf "__class__" = some .free) (hm : X.mg "super" = none) (hself : X.N[0]? = some (Str.ofString "self")) (hkself : X.env.kindOf "self" = some .local) (htop : (X.prog.main.scope.names.lookup (Str.ofString "super")).isSome = false)
    (ha : PA X (e :: es) ta) (hu : PSs X rest u) (he : starEach (e :: es) X.env = (false, eval e X.env) :: starEach es X.env := by rfl) (hpl : (backTo p3 (starEach es X.env)).any (·.1) = false := by rfl)
    (hi : interactive X.env = false := by rfl) (hsw : swapsWith (.Call (.Attribute (.Call (.Name "super" p0) [] [] p1) "__init__" p2) (e :: es) [] p3) none p4.line X.env = pure false := by rfl)
    (hev : eval (.Call (.Attribute (.Call (.Name "super" p0) [] [] p1) "__init__" p2) (e :: es) [] p3) X.env = (do
      let ov ← attributeBase (.Call (.Name "super" p0) [] [] p1) "__init__" X.env (eval (.Call (.Name "super" p0) [] [] p1) X.env)
      standAt p2.atName
      let (f, first) ← holding [ov] (getMethod ov "__init__" (pure false))
      callWith p3 f first (backTo p3 (starEach (e :: es) X.env)) []) := by rfl) :
    PSA X body (.Expr (.Call (.Attribute (.Call (.Name "super" p0) [] [] p1) "__init__" p2) (e :: es) [] p3) p4 :: rest) (tSeq (tSup C ta) u) := by
  intro pins s σ H D I h
  obtain ⟨a, h0, hea, h⟩ := h
  obtain ⟨oc, od, fd, osl, ar, lkf, hhead, harg⟩ := T.fn
  obtain ⟨ccl, cdd, vs, ccs, file, tf, lkc, hvs, hfile⟩ := T.code
  obtain ⟨cl, cld, csl, lkl⟩ := T.cell
  obtain ⟨nm, q, N, bs, bm, sn, sub, ab, col, dd, k0, k1, k2, k3, k5, hC, hbm⟩ := O.cls
  have KX := I.kIn
  refine ks_wpAt_execs_cons (ks_wpAt_Expr_any (ks_wpAt_MethodCall (pl := pure false) ?_ hev) hi hsw)
  refine ks_wpAt_super_base hks hkc rfl hf (KX _ _ lkf) rfl hhead hco (KX _ _ lkc) rfl hvs hfile htop ?_
  obtain ⟨mb, b1, b2⟩ := I.mod.blt
  refine ks_loadName_global I.ok.kind hks (Calls.loadGlobal_builtin (by rw [I.ok.glob]; exact I.mod.glob.keeps I.bk) hm (by rw [I.ok.blt]; exact b1.keeps I.bk) ((b2 _ (by decide)).trans (by decide +kernel : bootBuiltins "super" = some (.type "super"))) ⟨rfl, ?_⟩)
  refine wpAny_loadName_free I.ok.kind hkc hcells ⟨_, KX _ _ lkl, rfl⟩ ?_
  obtain ⟨m, hn, hl⟩ := I.loc
  obtain ⟨w0, rw0, l⟩ := hl 0 _ (.ref a) hself h0 (.inl hkself)
  obtain rfl : w0 = Value.ref a := rw0
  have hma : m (Str.ofString "self") = some (Value.ref a) := by
    rcases l with ⟨_, z⟩ | ⟨z, _⟩
    · exact z
    · rcases z with z | z
      · have y := hkself.symm.trans z
        cases y
      · have y := hkself.symm.trans z
        cases y
  rw [harg]
  refine wpAny_loadName_local I.ok.kind hkself hn hma ?_
  refine ks_wpAny_isType_cls (KX _ _ hC) rfl ⟨rfl, ?_⟩
  obtain ⟨t1, ho⟩ := exo_at I.hok hea
  obtain ⟨hp, gs, dr, tk, os⟩ := s
  refine ks_wpAny_call_super (KX _ _ hC) rfl ho rfl (fun c e => by cases e) (looks_mroIn KX T.mro) fun h' hso k => ?_
  have I1 : Inv X pins σ H ⟨h', gs, dr, tk, os⟩ := I.kept (t' := tk) k
  have hcl : clsIn X.K C = some { name := nm, bases := bs, mro := .ref C :: bm, ns := N, qualname := q, hasDict := true, slotNames := sn, subclasses := sub, abstract := ab, collection := col, hasDel := false } := by unfold clsIn; rw [hC] <;> rfl
  have hin := T.init
  unfold ks_superIn at hin
  rw [hcl] at hin
  have ne : a ≠ C := fun z => by
    have y := ho
    rw [z, KX _ _ hC] at y
    have y2 := congrArg Obj.data (Option.some.inj y)
    cases y2
  have hI : Looks (model X.prog X.w) h' (isInstance (.ref a) (.type "ValueError")) true := (InstAt.type (od := none) ⟨k _ _ ho, rfl, rfl, trivial⟩).andThen (looks_subIn I1.kIn T.ve)
  refine kxs_getMethod kxs_ValueError hso (looks_opaque I1.kIn T.tp) (l₀ := .ref C :: bm) (fun A Q E s k q => wpAny_bind ((looks_clsIn I1.kIn hcl) A _ E s k (wpAny_pure q))) rfl I1.kIn hin hI ne rfl ?_
  have hsz : h'.objs.size ≤ h'.objs.size := Nat.le_refl _
  have I2 : Inv X pins σ H ⟨h'.push (kxs_mw "ValueError.__init__" a), gs, dr, tk + 1, os⟩ := I1.kept (t' := tk + 1) fun b o e => Heap.get?_push_of_some _ e
  have hmw : (h'.push (kxs_mw "ValueError.__init__" a)).get? h'.objs.size = some (kxs_mw "ValueError.__init__" a) := Heap.get?_push_size _ rfl
  have I3 : Inv X (pins ++ pinsAt [h'.objs.size] (h'.push (kxs_mw "ValueError.__init__" a))) σ H ⟨h'.push (kxs_mw "ValueError.__init__" a), gs, dr, tk + 1, os⟩ := I2.pinned (fun b hb => by
    rw [List.mem_singleton.mp hb]
    exact I1.fpOk (Nat.le_refl _) (I1.hok.fresh (Nat.le_refl _))) fun b hb => by
    rw [List.mem_singleton.mp hb]
    exact ⟨_, hmw, fun v z => by cases z⟩
  have hmem := mem_pinsAt (fp := [h'.objs.size]) (List.mem_singleton.mpr rfl) hmw
  refine kxs_callWith (i := "ValueError.__init__") (x := a) (by rw [he]; show (false || (backTo p3 (starEach es X.env)).any (·.1)) = false; rw [hpl] <;> rfl) ?_
  have hargs := ha.run p3 _ _ σ H _ I3 h
  rw [he] at hargs ⊢
  refine Calls.evalArgs_plain (thn hargs fun us s1 hh => ?_)
  obtain ⟨vs2, H1, I4, r1, hz, hea1, q1⟩ := hh
  have hu1 := (I4.pin _ (List.mem_append_right _ (List.mem_append_right _ hmem))).1
  refine ⟨hu1, ?_⟩
  have I5 : Inv X pins σ H1 s1 := I4.unpinned
  obtain ⟨t2, ho2⟩ := exo_at I5.hok hea1
  have hus : us.length ≤ sizeLine := by
    rw [← Paired.length r1, sizeLine_eq]
    omega
  obtain ⟨hp1, g1, d1, tk1, os1⟩ := s1
  refine sup_bw (I5.kIn _ _ hC) ho2 hu1 hus fun h2 t3 kk hx => ?_
  have J := I5.write (t' := tk1) (x := a) (e := a) (o := exo a C none) (by rw [hea1]; exact True.intro) (.inl rfl) kk ⟨_, hx⟩ (exo_ok hx)
  have eu : upd H1 a (exo a C none) = H1 := by
    funext b
    by_cases hb : b = a
    · rw [hb, upd_same, hea1]
    · rw [upd_ne hb]
  rw [eu] at J
  exact wpAt_of_wpAny (hu.run pins _ σ H1 D J q1)
theorem one_look {x y : Str} {c d : Addr} : ([(x, c)] : List (Str × Addr)).lookup y = some d ↔ y = x ∧ d = c := by
  by_cases h : y = x
  · subst h
    simp [List.lookup, eq_comm]
  · have e : (y == x) = false := by simpa using h
    simp [List.lookup, e, h]
/-- the def whose body begins so -/
theorem fn_sup {CX : CXT} {P : Program} {w : World} {K : PySem.W.Frag} {mg : Str → Option Value} {base : Heap} {k : Nat} {f cc cda : Addr} {name qual : Str} {params : Arguments} {body : List Stmt} {scope : Scope} {dV kV doc pm ct oc : Value} {an od : Option Addr} {osl : Array (Option Value)} {N ps : List Str} {sp : Sp}
    (lk : K.lookup f = some ⟨oc, od, .func (fnX name qual params body scope [(Str.ofString "__class__", cc)] dV kV doc pm an (.ref cda) ct), osl⟩) (hcd : codeIn K (.ref cda) qual = true) (S : NdefX.NScope N ps [Str.ofString "__class__"] scope)
    (hcell : ∃ cl cld v csl, K.lookup cc = some ⟨cl, cld, .cell (some v), csl⟩)
    (len : ∀ vs H Q E, sp vs H Q E → vs.length = ps.length)
    (hbody : ∀ (A : Around) (outer : List Env) (s : Shared) (H : Hp) (vs : List V) (Q : VK) (E : XK), Room k (A.deeper (NdefX.envF ⟨name, qual, params, body, scope, [(Str.ofString "__class__", cc)], cda⟩ f s.heap.objs.size)) → sp vs H Q E →
      ∃ t, PSA (NdefX.ncx CX P w K mg base N ⟨name, qual, params, body, scope, [(Str.ofString "__class__", cc)], cda⟩ f A outer s H E) body body t ∧ t { nx := fun _ H' => Q .non H', rt := Q } (NdefX.startF N vs [none]) H) :
    FnOk P w K mg base CX (k + 1) f (fnX name qual params body scope [(Str.ofString "__class__", cc)] dV kV doc pm an (.ref cda) ct) ps sp := by
  refine ⟨len, fun A outer s H args us vs Q E hr e0 hb r hsp => ?_⟩
  have hl := len _ _ _ _ hsp
  have KX : K.In s.heap := e0.mod.kin.keeps fun b o e => (e0.bs b o e).1
  have lim : s.heap.NoLimit := e0.mod.nolimit.keeps fun b o e => (e0.bs b o e).1
  obtain ⟨cl, cld, v0, csl, lkl⟩ := hcell
  have hloc : ∀ y ∈ ps.zip us, scope.names.lookup y.1 = some .local := fun ⟨n, v⟩ hy => S.par n (List.of_mem_zip hy).1
  refine ks_codeAny_call_defAt (fd := fnX name qual params body scope [(Str.ofString "__class__", cc)] dV kV doc pm an (.ref cda) ct) hr.depth (KX _ _ lk) rfl lim (codeRec_of KX hcd) rfl hb S.nocell hloc (fun h₀ hns kp => ?_) S.co S.gen S.kind
  obtain ⟨t, ht, hq⟩ := hbody A outer s H vs Q E (hr.deeper _) hsp
  have C : NdefX.CellsAt [(Str.ofString "__class__", cc)] [Str.ofString "__class__"] [none] s.heap H := {
    len := rfl
    all := fun y c e => by
      rw [(one_look.mp e).2]
      exact ⟨(e0.bs _ _ (e0.mod.kin _ _ lkl)).2, _, _, KX _ _ lkl, rfl⟩
    inj := fun x y c e1 e2 => (one_look.mp e1).1.trans (one_look.mp e2).1.symm
    has := fun i y hy => by
      have hi : i < 1 := (List.getElem?_eq_some_iff.mp hy).1
      obtain rfl : i = 0 := by omega
      have hy2 : Str.ofString "__class__" = y := Option.some.inj hy
      subst hy2
      exact ⟨cc, one_look.mpr ⟨rfl, rfl⟩, fun v hv => by
        have := Option.some.inj hv
        cases this⟩ }
  have I : Inv (NdefX.ncx CX P w K mg base N ⟨name, qual, params, body, scope, [(Str.ofString "__class__", cc)], cda⟩ f A outer s H E) [] (NdefX.startF N vs [none]) H { s with heap := h₀, toks := s.toks + (ps.zip us).length } := NdefX.inv_startN S hr.hd e0 hl r C hns kp
  refine ks_wpAt_mono (ht [] _ (NdefX.startF N vs [none]) H _ I hq) (fun fl s' hs => ?_) fun e s' hs => hs
  have fin : ∀ {σ' : L2.St} {H' : Hp} {v : V} {u : Value}, Inv (NdefX.ncx CX P w K mg base N ⟨name, qual, params, body, scope, [(Str.ofString "__class__", cc)], cda⟩ f A outer s H E) [] σ' H' s' → L2.RelV v u → Q v H' → CE outer P w H s Q u s' :=
    fun {σ' H' v u} J rv q => ⟨v, H', J.os, J.bare, J.base, J.hok, rv, q⟩
  cases fl with
  | ret u =>
    obtain ⟨v, σ', H', J, rv, q⟩ := hs
    exact fin J rv q
  | next =>
    obtain ⟨σ', H', J, q⟩ := hs
    exact fin (v := V.non) (u := Value.none) J rfl q
  | brk =>
    obtain ⟨_, _, _, q⟩ := hs
    exact False.elim q
  | cont =>
    obtain ⟨_, _, _, q⟩ := hs
    exact False.elim q
end


/-! ### an own error class with an own __init__ that begins with super().__init__(..) -/
section
open PySem PySem.W PySem.Spec PyProof.Rows L2
structure XiC (K : PySem.W.Frag) (mg : Str → Option Value) (x : Str) (C : Addr) : Prop where
  g : mg x = some (.ref C)
  o : OexC K C
  s : PySem.W.subIn K (.ref C) (.ref C) = some true
  is : ExcC K C
theorem XiC.self {K : PySem.W.Frag} {mg : Str → Option Value} {x : Str} {C : Addr} (T : XiC K mg x C) : PySem.W.exmOne K (.ref C) (.ref C) = some true := PySem.W.exm_ref T.is.hs T.is.hd T.o.tyC T.s
theorem XiC.xf {K : PySem.W.Frag} {mg : Str → Option Value} {x : Str} {C : Addr} (T : XiC K mg x C) : XfC K C := ⟨T.is.hg, T.is.hk, T.is.hs, T.is.hd⟩
def oexB (K : PySem.W.Frag) (C : Addr) : Bool := match K.lookup C with
  | some ⟨.type "type", _, .cls cd, sl⟩ => (match cd.mro, sl.toList with
    | .ref C' :: bm, [_, _, _, _, some (.builtin n), _] => C' == C && n == "ValueError.__new__" && !cd.hasDel && cd.hasDict && PySem.HandSPX.refsVE bm
    | _, _ => false)
  | _ => false
theorem oexB_ok {K : PySem.W.Frag} {C : Addr} (q : oexB K C = true) : ∃ nm q N bs bm sn sub ab col dd k0 k1 k2 k3 k5, K.lookup C = some (excClassObj nm q C N bs bm true sn sub ab col dd k0 k1 k2 k3 k5 "ValueError.__new__") ∧ PySem.HandSPX.refsVE bm = true := by
  unfold oexB at q
  split at q
  · rename_i dd cd sl ho
    split at q
    · rename_i C' bm k0 k1 k2 k3 n k5 hm hs
      simp only [Bool.and_eq_true, beq_iff_eq, Bool.not_eq_true'] at q
      obtain ⟨⟨⟨⟨rfl, rfl⟩, hdel⟩, hdct⟩, ht⟩ := q
      obtain ⟨nm, bs, mro, ns, qn, hd, sn, sub, ab, col, del⟩ := cd
      dsimp only at hm hdel hdct
      subst hm hdel hdct
      have hsl : sl = #[k0, k1, k2, k3, some (.builtin "ValueError.__new__"), k5] := by
        obtain ⟨l⟩ := sl
        simp only at hs
        rw [hs]
      subst hsl
      exact ⟨nm, qn, ns, bs, bm, sn, sub, ab, col, dd, k0, k1, k2, k3, k5, ho, ht⟩
    · cases q
  · cases q
def supB (K : PySem.W.Frag) (prog : Program) (C cc cda : Addr) : Bool :=
  (match K.lookup cda with
  | some ⟨_, _, .fields vs, _⟩ => (match (vs[2]? : Option Value) with | some (.str file _) => prog.main.file == file | _ => false)
  | _ => false) && (match K.lookup cc with
  | some ⟨_, _, .cell (some (.ref C')), _⟩ => C' == C
  | _ => false) && !(prog.main.scope.names.lookup (Str.ofString "super")).isSome
theorem supB_ok {K : PySem.W.Frag} {prog : Program} {C cc cda : Addr} (h : supB K prog C cc cda = true) : (∃ ccl cdd vs ccs file tf, K.lookup cda = some ⟨ccl, cdd, .fields vs, ccs⟩ ∧ vs[2]? = some (.str file tf) ∧ (prog.main.file == file) = true) ∧
    (∃ cl cld csl, K.lookup cc = some ⟨cl, cld, .cell (some (.ref C)), csl⟩) ∧ (prog.main.scope.names.lookup (Str.ofString "super")).isSome = false := by
  unfold supB at h
  simp only [Bool.and_eq_true, Bool.not_eq_true'] at h
  obtain ⟨⟨h1, h2⟩, h3⟩ := h
  refine ⟨?_, ?_, h3⟩
  · split at h1
    · rename_i a b vs c ho
      split at h1
      · rename_i file tf hf
        exact ⟨_, _, _, _, _, _, ho, hf, h1⟩
      · cases h1
    · cases h1
  · split at h2
    · rename_i a b C' c ho
      rw [beq_iff_eq] at h2
      subst h2
      exact ⟨_, _, _, ho⟩
    · cases h2
/-- the def __init__ of such a class -/
structure FunX (K : PySem.W.Frag) (prog : Program) (qual : Str) (st : Stmt) (C f : Addr) (fd : FuncData) : Prop where
  ex : ∃ (oc : Value) (od : Option Addr) (kV doc pm : Value) (an : Option Addr) (cc cda : Addr) (ct : Value) (osl : Array (Option Value)),
    fd = PySem.W.fnX "__init__" qual (defArgs st) (defBody st) (defScope st) [(Str.ofString "__class__", cc)] .none kV doc pm an (.ref cda) ct ∧ K.lookup f = some ⟨oc, od, .func fd, osl⟩ ∧ PySem.W.codeIn K (.ref cda) qual = true ∧ SupK K prog C f cc cda
  iC : PySem.W.findIn K (.ref C) "__init__" = some (some (.ref f))
  tI : PySem.W.typeIn K (.ref f) = some (.type "function")
  top : (prog.main.scope.names.lookup (Str.ofString "super")).isSome = false
theorem funX_mk {K : PySem.W.Frag} {prog : Program} {qual : Str} {st : Stmt} {C f cc cda : Addr} {oc : Value} {od an : Option Addr} {osl : Array (Option Value)} {kV doc pm ct : Value} {ar : Arg}
    (l : K.lookup f = some ⟨oc, od, .func (PySem.W.fnX "__init__" qual (defArgs st) (defBody st) (defScope st) [(Str.ofString "__class__", cc)] .none kV doc pm an (.ref cda) ct), osl⟩)
    (c : PySem.W.codeIn K (.ref cda) qual = true) (i : PySem.W.findIn K (.ref C) "__init__" = some (some (.ref f))) (t : PySem.W.typeIn K (.ref f) = some (.type "function")) (b : supB K prog C cc cda = true)
    (hi : PySem.W.ks_superIn K C C "__init__" = some (some (.builtin "ValueError.__init__"))) (tp : PySem.W.nsIn K cStatics "thirdparty.any" = some none) (hm : PySem.W.mroIn K C (.ref C) = some true) (ve : PySem.W.subIn K (.ref C) (.type "ValueError") = some true)
    (h1 : ((defArgs st).posonlyargs ++ (defArgs st).args).head? = some ar) (h2 : ar.arg = Str.ofString "self") : FunX K prog qual st C f (PySem.W.fnX "__init__" qual (defArgs st) (defBody st) (defScope st) [(Str.ofString "__class__", cc)] .none kV doc pm an (.ref cda) ct) := by
  obtain ⟨b1, b2, b3⟩ := supB_ok b
  exact ⟨⟨oc, od, kV, doc, pm, an, cc, cda, ct, osl, rfl, l, c, ⟨⟨oc, od, _, osl, ar, l, h1, h2⟩, b1, b2, hi, tp, hm, ve⟩⟩, i, t, b3⟩
/-- what such an __init__ leaves: one field, its argument -/
def spExI (C : Addr) (f : Str) : Sp := fun vs H Q _ => ∃ (a : Addr) (n : Int), vs = [.ref a, .int n] ∧ H a = some (exo a C none) ∧ n.natAbs.log2 < 1920 ∧ ∀ H1, Evl.Ex H H1 → ∀ dx, H1 dx = none → dx ≠ a → Q .non (upd (upd H1 dx (exd dx [(f, .int n)])) a (exo a C (some dx)))
/-- isinstance(e, c), e held by the suite, with or without fields -/
theorem call_isEi {X : Cx} {a D : Addr} {oe : Obj} {d : Option Addr} {pn : List (Addr × Obj)} (C : ExcC X.K D) (hz : Zc (.ref D) d oe) (hf : ∃ vs, oe.data = .fields vs) :
    CallR (X.suite a ((a, oe) :: pn)) (.builtin "isinstance") (fun xs H Q => (∀ dd, d = some dd → ∃ fs, H dd = some (.xd fs)) ∧ rIsE X.K D a xs H Q) := by
  intro pins s σ H xs us Q I r h
  obtain ⟨hx, c, cv, b, rfl, hcv, e, q⟩ := h
  cases r with
  | cons rx rr =>
    cases rr with
    | cons rt rr =>
      cases rr
      cases rx
      have ec := hcv _ rt
      subst ec
      obtain ⟨hget, _⟩ := I.pin (a, oe) (List.mem_append.mpr (.inl List.mem_cons_self))
      obtain ⟨vs, hv⟩ := hf
      have J : ∃ od, PySem.W.InstAt s.heap a oe D od := by
        obtain ⟨oc, od, oda, osl⟩ := oe
        obtain ⟨h1, h2⟩ := hz
        dsimp only at h1 h2 hv
        subst h1 h2 hv
        cases od with
        | none => exact ⟨none, hget, rfl, rfl, trivial⟩
        | some dd =>
          obtain ⟨fs, ea⟩ := hx dd rfl
          have hx : ObjOk X.prog X.w H s.heap dd (.xd fs) := I.hok dd _ ea
          obtain ⟨mA, hns, hr⟩ := hx
          obtain ⟨od, ho, hl⟩ := lookIn_ns hns
          exact ⟨some od, hget, rfl, rfl, ho⟩
      obtain ⟨od, J⟩ := J
      have hcl : (PySem.W.clsIn X.K D).isSome = true := by
        obtain ⟨cd, hc, _⟩ := PySem.W.any_some C.hd
        rw [hc] <;> rfl
      exact PySem.W.kia_one (PySem.W.kitx_exc hcl C.hg C.hk C.hs C.ha C.hn C.ht C.hm) I.kIn J e (fun z => nomatch z) fun tk => ⟨.bl b, H, I.kept (t' := tk) fun _ _ z => z, rfl, q⟩
theorem ev_isEi {K : PySem.W.Frag} {D a : Addr} {σ : L2.St} {H : Hp} {te : TE} {d : Option Addr} {c : V} {cv : Value} {b : Bool} (h : Evl.Ev te σ H (.ref a)) (hx : ∀ dd, d = some dd → ∃ fs, H dd = some (.xd fs)) (hc : ∀ u, RelV c u → u = cv) (hk : PySem.W.kitOne K (.ref D) cv = some b) :
    Evl.Ev (tCB (fun xs H Q => (∀ dd, d = some dd → ∃ fs, H dd = some (.xd fs)) ∧ rIsE K D a xs H Q) (tCons te (tCons (tC c) tNil))) σ H (.bl b) := fun H1 e Q q =>
  h H1 e _ fun H2 e2 => ⟨fun dd z => by
    obtain ⟨fs, ea⟩ := hx dd z
    exact ⟨fs, (e.trans e2) _ _ ea⟩, c, cv, b, rfl, hc, hk, q H2 e2⟩
/-- e.f of the caught exception -/
theorem ev_xf {a C dd : Addr} {cls : Value} {d : Option Addr} {f : Str} {te : TE} {σ : L2.St} {H : Hp} {fs : List (Str × V)} {v : V} (h : Evl.Ev te σ H (.ref a)) (hc : cls = .ref C) (hd : d = some dd) (hx : H dd = some (.xd fs)) (hf : fs.lookup f = some v) : Evl.Ev (tXf a cls d C f te) σ H v := fun H1 e Q q =>
  h H1 e _ fun H2 e2 => ⟨rfl, hc, dd, fs, v, hd, (e.trans e2) _ _ hx, hf, q H2 e2⟩
end
section
open PySem PySem.W PySem.Spec PyProof.Rows L2
/-- C(e, ..), C's own __init__ keeping sp: what is made has no context yet -/
theorem pmkN_oex {X : Cx} {CX : CXT} {x : Str} {e : Expr} {es : List Expr} {ta : TA} {p pos : Pos} {C fI : Addr} {k : Nat} {fd : FuncData} {ps : List Str} {sp : Sp} (T : OexC X.K C) (iC : PySem.W.findIn X.K (.ref C) "__init__" = some (some (.ref fI))) (tI : PySem.W.typeIn X.K (.ref fI) = some (.type "function"))
    (F1 : FnOk X.prog X.w X.K X.mg X.base CX k fI fd ps sp) (hr : Room (k + 1) X.A) (hb : Binds X.K fd ps []) (hx : Passes CX X (fun _ _ _ => False)) (hg : Gl X x) (hm : X.mg x = some (.ref C)) (ha : PA X (e :: es) ta)
    (hdb : (x == ("__debug__" : Str)) = false := by decide) (he : starEach (e :: es) X.env = (false, eval e X.env) :: starEach es X.env := by rfl) (hpl : (backTo pos (starEach es X.env)).any (·.1) = false := by rfl) :
    L2N.PMk X (.Call (.Name x p) (e :: es) [] pos) (tMkO C sp [] ta) := by
  intro pins s σ H Q I h
  obtain ⟨nm, q, N, bs, bm, sn, sub, ab, col, dd, k0, k1, k2, k3, k5, hC, hbm⟩ := T.cls
  refine wpAny_Call_Name_kw (ld_glob I hg hm ?_ hdb)
  refine PySem.W.callWith_K (h₀ := X.base) I.ok.mod.kin T.kC (thn (ha.run pos pins s σ H _ I h) fun us s1 ⟨vs, H1, I1, r1, hz, q1⟩ => ⟨I1.kIn, ?_⟩) he hpl
  show wpAny _ _ (call (.ref C) us) _ _ _
  obtain ⟨hp, g, dr, tk, os⟩ := s1
  have hsz : hp.objs.size ≤ hp.objs.size + 1 := Nat.le_succ _
  have hn : H1 (hp.objs.size + 1) = none := I1.hok.fresh hsz
  have hq := q1 (hp.objs.size + 1) hn
  have kk : ∀ b o, hp.get? b = some o → ((hp.push (PySem.W.kdv_tup us)).push (PySem.HandSPX.excO C hp.objs.size)).get? b = some o := fun b o e => Heap.get?_push_of_some _ (Heap.get?_push_of_some _ e)
  have hget : ((hp.push (PySem.W.kdv_tup us)).push (PySem.HandSPX.excO C hp.objs.size)).get? (hp.objs.size + 1) = some (PySem.HandSPX.excO C hp.objs.size) := by heap_get
  have I2 : Inv X pins σ (upd H1 (hp.objs.size + 1) (exo (hp.objs.size + 1) C none)) ⟨(hp.push (PySem.W.kdv_tup us)).push (PySem.HandSPX.excO C hp.objs.size), g, dr, tk, os⟩ :=
    I1.laid (t' := tk) (a := hp.objs.size + 1) (o := exo (hp.objs.size + 1) C none) (h' := (hp.push (PySem.W.kdv_tup us)).push (PySem.HandSPX.excO C hp.objs.size)) kk hsz (exo_ok hget)
  have r2 : Vals (V.ref (hp.objs.size + 1) :: (vs ++ [])) (Value.ref (hp.objs.size + 1) :: (us ++ [])) := .cons rfl (r1.append .nil)
  have b2 := hb _ (Value.ref (hp.objs.size + 1) :: us) I2.kIn (by have e := r2.length; rw [F1.len _ _ _ _ hq] at e; exact e.symm)
  rw [List.append_nil] at b2 r2 hq
  rw [List.append_nil] at r2
  have hus : us.length ≤ sizeLine := by
    rw [← Paired.length r1, sizeLine_eq]
    omega
  refine wpAny_call (PySem.HandSPX.call_own F.excBase_ValueError (fun Y => PySem.HandSPX.refsVE_contains Y bm hbm) (I1.kIn _ _ hC) (PySem.W.looks_findIn I1.kIn iC) (fun self => PySem.W.bind_fn I1.kIn self tI) hus
    (codeAny_mono (F1.run _ X.stack _ _ ⟨Value.ref (hp.objs.size + 1) :: us, []⟩ (Value.ref (hp.objs.size + 1) :: us) _ _ (fun _ _ _ => False) (hr.make C us []) (I2.env0.make C us []) b2 r2 hq) fun r s' hq' => ?_))
  cases r with
  | error er => exact hx pins σ _ _ er s' I2 hq'
  | ok fl =>
    cases fl with
    | ret u =>
      obtain ⟨v, H2, os2, bare2, un2, hok2, rv, ev, d, fs, ea, ed, hd1, q2⟩ := hq'
      subst ev
      obtain ⟨h2, g2, d2, t2, os'⟩ := s'
      obtain ⟨t0, G, J, kG, ge, hoe, na⟩ := mk_end0 (d2 := d2) (t2 := t2) I1 hsz kk un2 hok2 os2 bare2 ea ed hd1
      refine ⟨rv, hp.objs.size + 1, _, _, ⟨G, g2, d2, t2, os'⟩, _, .ref C, some d, rfl, J, kG, ge, hoe, ⟨rfl, rfl, fun vs hv => ?_⟩, rfl, rfl, na, rfl, bare2, raises_own T.exC T.tyC, q2⟩
      cases hv
      rfl
    | next => exact False.elim hq'
    | brk => exact False.elim hq'
    | cont => exact False.elim hq'
/-- what a suite holds, for calls within it -/
theorem hotS {X : Cx} {a : Addr} {oe : Obj} {cls : Value} {d : Option Addr} {pn : List (Addr × Obj)} (hz : L2N.Zn cls d oe) (hf : ∃ vs, oe.data = .fields vs) : L2H.HotC (X.suite a ((a, oe) :: pn)) := by
  obtain ⟨vs, hv⟩ := hf
  exact ⟨(a, oe), ⟨rfl, vs, hv, hz.2.2 vs hv⟩, List.mem_cons_self⟩
theorem zc1 {cls : Value} {d : Option Addr} {C : Addr} {oe : Obj} (p : cls = .ref C) (h : L2N.Zn cls d oe) : Zc (.ref C) d oe := by
  subst p
  exact ⟨h.1, h.2.1⟩
theorem takes0N {X : Cx} : L2N.Takes X (fun _ _ _ _ => False) := fun _ _ x => by
  obtain ⟨_, _, _, _, _, _, _, _, _, _, _, _, _, _, _, _, z⟩ := x
  exact z.elim
theorem roomS {k : Nat} {A : Around} (r : Room k A) (h : Option Value) : L2H.RoomH k (A.mark h) := ⟨r.dp, r.un⟩
theorem pass0H {X : Cx} : ∀ σ : L2.St, PassesAt CX0 X σ E0 := fun _ _ _ _ _ _ _ h => h.elim
/-- a def that is called while an exception is handled -/
theorem okH {P : Program} {w : World} {K : PySem.W.Frag} {mg : Str → Option Value} {base : Heap} {x qual : Str} {st : Stmt} {f : Addr} {fd : FuncData} {N ps : List Str} {k : Nat} {sp : Sp} (F : Fun K x qual st f fd) (S : FnScope N ps (defScope st)) (len : ∀ vs H Q E, sp vs H Q E → vs.length = ps.length)
    (hb : ∀ (cdv : Value) (A : Around) (outer : List Env) (s : Shared) (H : Hp) (vs : List V) (Q : VK) (E : XK) (p : Addr × Obj), L2H.RoomH k (A.deeper (envOfC qual (defScope st) s.heap.objs.size f cdv)) → sp vs H Q E →
      ∃ t, PSs (L2H.cxH CX0 P w K mg base N qual (defScope st) f cdv A outer s H E p) (defBody st) t ∧ t { nx := fun _ H' => Q .non H', rt := Q } (start N vs) H) : L2H.FnH P w K mg base CX0 (k + 1) f fd ps sp := by
  obtain ⟨oc, od, kV, doc, pm, an, cdv, ct, osl, rfl, lk, hcd⟩ := F.ex
  exact L2H.fn_ofH lk hcd S len fun A outer s H vs Q E p hot hr h => hb cdv A outer s H vs Q E p hr h
end


structure Txt (K : PySem.W.Frag) (mg : Str → Option Value) (P : Program) where
  C_MissingChunk : Addr
  e_MissingChunk : XiC K mg "MissingChunk" C_MissingChunk
  kv_MissingChunk : PySem.W.kitOne K (.ref C_MissingChunk) (.type "ValueError") = some true
  f_MissingChunk___init : Addr
  d_MissingChunk___init : FuncData
  F_MissingChunk___init : FunX K P "MissingChunk.__init__" s_MissingChunk___init C_MissingChunk f_MissingChunk___init d_MissingChunk___init
  b_MissingChunk___init : Binds K d_MissingChunk___init ["self", "address"] []
  na_MissingChunk_address : PySem.W.findIn K (.ref C_MissingChunk) "address" = some none
  C_TornText : Addr
  g_TornText : mg "TornText" = some (.ref C_TornText)
  kt_MissingChunk_TornText : PySem.W.kitOne K (.ref C_MissingChunk) (.ref C_TornText) = some false
  C_UnknownTable : Addr
  g_UnknownTable : mg "UnknownTable" = some (.ref C_UnknownTable)
  kt_MissingChunk_UnknownTable : PySem.W.kitOne K (.ref C_MissingChunk) (.ref C_UnknownTable) = some false
  C_VersionError : Addr
  g_VersionError : mg "VersionError" = some (.ref C_VersionError)
  ku_MissingChunk_VersionError : PySem.W.kitOne K (.ref C_MissingChunk) (.ref C_VersionError) = some true
  C_Book : Addr
  g_Book : mg "Book" = some (.ref C_Book)
  cl_Book : Cls K C_Book
  na_Book__addresses : NoAttr K C_Book "_addresses"
  C_Chunks : Addr
  g_Chunks : mg "Chunks" = some (.ref C_Chunks)
  cl_Chunks : Cls K C_Chunks
  na_Chunks_book : NoAttr K C_Chunks "book"
  na_Chunks_reads : NoAttr K C_Chunks "reads"
  na_Chunks__texts : NoAttr K C_Chunks "_texts"
  f_Book___init : Addr
  d_Book___init : FuncData
  F_Book___init : Fun K "__init__" "Book.__init__" s_Book___init f_Book___init d_Book___init
  b_Book___init : Binds K d_Book___init ["self"] []
  mk_Book : Mk K C_Book f_Book___init
  f_Book___len : Addr
  d_Book___len : FuncData
  F_Book___len : Fun K "__len__" "Book.__len__" s_Book___len f_Book___len d_Book___len
  b_Book___len : Binds K d_Book___len ["self"] []
  me_Book___len : Meth K C_Book "__len__" f_Book___len
  f_Chunks___init : Addr
  d_Chunks___init : FuncData
  F_Chunks___init : Fun K "__init__" "Chunks.__init__" s_Chunks___init f_Chunks___init d_Chunks___init
  b_Chunks___init : Binds K d_Chunks___init ["self", "book"] []
  mk_Chunks : Mk K C_Chunks f_Chunks___init
  f_Chunks___len : Addr
  d_Chunks___len : FuncData
  F_Chunks___len : Fun K "__len__" "Chunks.__len__" s_Chunks___len f_Chunks___len d_Chunks___len
  b_Chunks___len : Binds K d_Chunks___len ["self"] []
  me_Chunks___len : Meth K C_Chunks "__len__" f_Chunks___len
  f_Chunks_drop : Addr
  d_Chunks_drop : FuncData
  F_Chunks_drop : Fun K "drop" "Chunks.drop" s_Chunks_drop f_Chunks_drop d_Chunks_drop
  b_Chunks_drop : Binds K d_Chunks_drop ["self", "address"] []
  me_Chunks_drop : Meth K C_Chunks "drop" f_Chunks_drop
  f_Chunks_has : Addr
  d_Chunks_has : FuncData
  F_Chunks_has : Fun K "has" "Chunks.has" s_Chunks_has f_Chunks_has d_Chunks_has
  b_Chunks_has : Binds K d_Chunks_has ["self", "address"] []
  me_Chunks_has : Meth K C_Chunks "has" f_Chunks_has
  f_law_cell : Addr
  d_law_cell : FuncData
  F_law_cell : Fun K "_law_cell" "_law_cell" s_law_cell f_law_cell d_law_cell
  b_law_cell : Binds K d_law_cell ["script", "k"] []
  g_law_cell : mg "_law_cell" = some (.ref f_law_cell)
  f_law_draws : Addr
  d_law_draws : FuncData
  F_law_draws : Fun K "_law_draws" "_law_draws" s_law_draws f_law_draws d_law_draws
  b_law_draws : Binds K d_law_draws ["cell", "salt", "count", "base"] []
  g_law_draws : mg "_law_draws" = some (.ref f_law_draws)
  f_Chunks_get : Addr
  d_Chunks_get : FuncData
  F_Chunks_get : Fun K "get" "Chunks.get" s_Chunks_get f_Chunks_get d_Chunks_get
  b_Chunks_get : Binds K d_Chunks_get ["self", "address"] []
  me_Chunks_get : Meth K C_Chunks "get" f_Chunks_get
  f_law_is : Addr
  d_law_is : FuncData
  F_law_is : Fun K "_law_is" "_law_is" s_law_is f_law_is d_law_is
  b_law_is : Binds K d_law_is ["actual", "expected"] []
  g_law_is : mg "_law_is" = some (.ref f_law_is)
  f_law_integer : Addr
  d_law_integer : FuncData
  F_law_integer : Fun K "_law_integer" "_law_integer" s_law_integer f_law_integer d_law_integer
  b_law_integer : Binds K d_law_integer ["cell"] []
  g_law_integer : mg "_law_integer" = some (.ref f_law_integer)
  f_law_signs : Addr
  d_law_signs : FuncData
  F_law_signs : Fun K "_law_signs" "_law_signs" s_law_signs f_law_signs d_law_signs
  b_law_signs : Binds K d_law_signs ["cell", "length"] []
  g_law_signs : mg "_law_signs" = some (.ref f_law_signs)
  f_law_char : Addr
  d_law_char : FuncData
  F_law_char : Fun K "_law_char" "_law_char" s_law_char f_law_char d_law_char
  b_law_char : Binds K d_law_char ["number"] []
  g_law_char : mg "_law_char" = some (.ref f_law_char)
  f_law_text : Addr
  d_law_text : FuncData
  F_law_text : Fun K "_law_text" "_law_text" s_law_text f_law_text d_law_text
  b_law_text : Binds K d_law_text ["cell"] []
  g_law_text : mg "_law_text" = some (.ref f_law_text)
  f_law_leaf : Addr
  d_law_leaf : FuncData
  F_law_leaf : Fun K "_law_leaf" "_law_leaf" s_law_leaf f_law_leaf d_law_leaf
  b_law_leaf : Binds K d_law_leaf ["cell"] []
  g_law_leaf : mg "_law_leaf" = some (.ref f_law_leaf)
  f_law_leaf_text : Addr
  d_law_leaf_text : FuncData
  F_law_leaf_text : Fun K "_law_leaf_text" "_law_leaf_text" s_law_leaf_text f_law_leaf_text d_law_leaf_text
  b_law_leaf_text : Binds K d_law_leaf_text ["leaf"] []
  g_law_leaf_text : mg "_law_leaf_text" = some (.ref f_law_leaf_text)
  f_Book_find : Addr
  d_Book_find : FuncData
  F_Book_find : Fun K "find" "Book.find" s_Book_find f_Book_find d_Book_find
  b_Book_find : Binds K d_Book_find ["self", "text"] []
  me_Book_find : Meth K C_Book "find" f_Book_find
  f_Book_address : Addr
  d_Book_address : FuncData
  F_Book_address : Fun K "address" "Book.address" s_Book_address f_Book_address d_Book_address
  b_Book_address : Binds K d_Book_address ["self", "text"] []
  me_Book_address : Meth K C_Book "address" f_Book_address
  f_Chunks_put : Addr
  d_Chunks_put : FuncData
  F_Chunks_put : Fun K "put" "Chunks.put" s_Chunks_put f_Chunks_put d_Chunks_put
  b_Chunks_put : Binds K d_Chunks_put ["self", "text"] []
  me_Chunks_put : Meth K C_Chunks "put" f_Chunks_put
  f_law_thing : Addr
  d_law_thing : FuncData
  F_law_thing : Fun K "_law_thing" "_law_thing" s_law_thing f_law_thing d_law_thing
  b_law_thing : Binds K d_law_thing ["script", "k"] []
  g_law_thing : mg "_law_thing" = some (.ref f_law_thing)
  f_Chunks_addresses : Addr
  d_Chunks_addresses : FuncData
  F_Chunks_addresses : Fun K "addresses" "Chunks.addresses" s_Chunks_addresses f_Chunks_addresses d_Chunks_addresses
  b_Chunks_addresses : Binds K d_Chunks_addresses ["self"] []
  me_Chunks_addresses : Meth K C_Chunks "addresses" f_Chunks_addresses
  f_law_got : Addr
  d_law_got : FuncData
  F_law_got : Fun K "_law_got" "_law_got" s_law_got f_law_got d_law_got
  b_law_got : Binds K d_law_got ["store", "address", "texts"] []
  g_law_got : mg "_law_got" = some (.ref f_law_got)
  f_law_put : Addr
  d_law_put : FuncData
  F_law_put : Fun K "_law_put" "_law_put" s_law_put f_law_put d_law_put
  b_law_put : Binds K d_law_put ["store", "book", "text", "texts", "numbers"] []
  g_law_put : mg "_law_put" = some (.ref f_law_put)
  f_law_told : Addr
  d_law_told : FuncData
  F_law_told : Fun K "_law_told" "_law_told" s_law_told f_law_told d_law_told
  b_law_told : Binds K d_law_told ["store", "texts"] []
  g_law_told : mg "_law_told" = some (.ref f_law_told)
  f_law : Addr
  d_law : FuncData
  F_law : Fun K "law" "law" s_law f_law d_law
  b_law : Binds K d_law ["script"] []
  g_law : mg "law" = some (.ref f_law)
  m_ValueError : mg "ValueError" = none
  m_bool : mg "bool" = none
  m_int : mg "int" = none
  m_isinstance : mg "isinstance" = none
  m_len : mg "len" = none
  m_list : mg "list" = none
  m_range : mg "range" = none
  m_sorted : mg "sorted" = none
  m_str : mg "str" = none
  m_super : mg "super" = none

/-! ### sizes of ints -/
/-- an int of at most some million bits -/
structure Wd (n : Int) : Prop where
  h : n.natAbs.log2 < 1100000
theorem log2_mono {a b : Nat} (h : a ≤ b) : a.log2 ≤ b.log2 := by
  by_cases ha : a = 0
  · subst ha
    exact Nat.le_trans (Nat.le_of_eq (by decide)) (Nat.zero_le _)
  · refine Nat.lt_succ_iff.mp ((Nat.log2_lt ha).mpr (Nat.lt_of_le_of_lt h Nat.lt_log2_self))
theorem Wd.le {n m : Int} (h : Wd n) (e : m.natAbs ≤ n.natAbs) : Wd m := ⟨Nat.lt_of_le_of_lt (log2_mono e) h.h⟩
theorem Wd.lt {n : Int} (h : n.natAbs < 2 ^ 9000) : Wd n := ⟨Nat.lt_trans (PySem.Flt.log2_lt_of (by decide) h) (by decide)⟩
theorem Wd.lit {n : Int} (h : n.natAbs < 2 ^ 256) : Wd n := ⟨Nat.lt_trans (PySem.Flt.log2_lt_of (by decide) h) (by decide)⟩
theorem Wd.bits {n : Int} (h : Builtin.Int.intBits n ≤ 1048576) : Wd n := by
  unfold Builtin.Int.intBits at h
  by_cases e : n = 0
  · subst e
    exact Wd.lit (by decide)
  · rw [if_neg (by simpa using e)] at h
    exact ⟨by omega⟩
theorem Wd.small {n : Int} (h1 : -(2 ^ 64) < n) (h2 : n < 2 ^ 64) : Wd n := Wd.lit (by
  have : n.natAbs < 2 ^ 64 := by omega
  exact Nat.lt_of_lt_of_le this (by decide))
theorem Wd.div {n b : Int} (h : Wd n) : Wd (n / b) := h.le (Int.natAbs_ediv_le_natAbs n b)
theorem Wd.mod {n b : Int} (hb : 0 < b) (h : Wd b) : Wd (n % b) := h.le (by
  have h1 := Int.emod_nonneg n (by omega : b ≠ 0)
  have h2 := Int.emod_lt_of_pos n hb
  omega)
theorem Wd.neg {n : Int} (h : Wd n) : Wd (-n) := h.le (by omega)
theorem bits_log (n : Int) : Builtin.Int.intBits n ≤ n.natAbs.log2 + 1 := by
  unfold Builtin.Int.intBits
  split <;> omega
theorem Wd.mul {i j : Int} (hi : Wd i) (hj : Wd j) : CMulX i j := by
  have a := bits_log i
  have b := bits_log j
  have c := hi.h
  have d := hj.h
  unfold CMulX
  omega
/-- what falls to a comparison of two ints -/
theorem dec_int {i j : Int} : decide (V.int i = V.int j) = decide (i = j) := by
  by_cases h : i = j
  · rw [decide_eq_true h, decide_eq_true (congrArg V.int h)]
  · rw [decide_eq_false h, decide_eq_false fun e => h (V.int.inj e)]
theorem dec_str {i j : Str} : decide (V.str i = V.str j) = decide (i = j) := by
  by_cases h : i = j
  · rw [decide_eq_true h, decide_eq_true (congrArg V.str h)]
  · rw [decide_eq_false h, decide_eq_false fun e => h (V.str.inj e)]
theorem dec_bl {i j : Bool} : decide (V.bl i = V.bl j) = decide (i = j) := by
  by_cases h : i = j
  · rw [decide_eq_true h, decide_eq_true (congrArg V.bl h)]
  · rw [decide_eq_false h, decide_eq_false fun e => h (V.bl.inj e)]
/-- len, tuple of a list or tuple -/
abbrev rLenQ (K : PySem.W.Frag) : List V → Hp → VK → Prop := fun xs H Q => ∃ p ys, xs = [V.ref p] ∧ (SqL K H p ys ∨ SqT K H p ys) ∧ Q (.int ys.length) H
abbrev rTupOf (K : PySem.W.Frag) : List V → Hp → VK → Prop := fun xs H Q => ∃ p ys, xs = [V.ref p] ∧ ((SqL K H p ys ∧ ∀ l, H l = none → Q (.ref l) (upd H l (.tup ys))) ∨ (SqT K H p ys ∧ Q (.ref p) H))
/-! ### more of what evaluates -/
section
variable {K : PySem.W.Frag} {σ : L2.St} {H : Hp} {ta tb te : TE}
theorem ev_eqI {i j : Int} (ha : Ev ta σ H (.int i)) (hb : Ev tb σ H (.int j)) : Ev (tOp rEq ta tb) σ H (.bl (decide (i = j))) := ev_is (ev_op ha hb (rv_eq rfl)) (congrArg V.bl dec_int)
theorem ev_neI {i j : Int} (ha : Ev ta σ H (.int i)) (hb : Ev tb σ H (.int j)) : Ev (tOp rNe ta tb) σ H (.bl (!decide (i = j))) := ev_is (ev_op ha hb (rv_ne rfl)) (congrArg (fun b => V.bl (!b)) dec_int)
theorem ev_eqS {i j : Str} (ha : Ev ta σ H (.str i)) (hb : Ev tb σ H (.str j)) : Ev (tOp rEq ta tb) σ H (.bl (decide (i = j))) := ev_is (ev_op ha hb (rv_eq rfl)) (congrArg V.bl dec_str)
theorem ev_neS {i j : Str} (ha : Ev ta σ H (.str i)) (hb : Ev tb σ H (.str j)) : Ev (tOp rNe ta tb) σ H (.bl (!decide (i = j))) := ev_is (ev_op ha hb (rv_ne rfl)) (congrArg (fun b => V.bl (!b)) dec_str)
theorem ev_eqB {i j : Bool} (ha : Ev ta σ H (.bl i)) (hb : Ev tb σ H (.bl j)) : Ev (tOp rEq ta tb) σ H (.bl (decide (i = j))) := ev_is (ev_op ha hb (rv_eq rfl)) (congrArg V.bl dec_bl)
theorem ev_neB {i j : Bool} (ha : Ev ta σ H (.bl i)) (hb : Ev tb σ H (.bl j)) : Ev (tOp rNe ta tb) σ H (.bl (!decide (i = j))) := ev_is (ev_op ha hb (rv_ne rfl)) (congrArg (fun b => V.bl (!b)) dec_bl)
theorem ev_bin {C : Int → Int → Prop} {g : Int → Int → V} {i j : Int} (ha : Ev ta σ H (.int i)) (hb : Ev tb σ H (.int j)) (hc : C i j) : Ev (tOp (rI C g) ta tb) σ H (g i j) := ev_op ha hb (rv_I hc)
theorem ev_bin0 {g : Int → Int → V} {i j : Int} (ha : Ev ta σ H (.int i)) (hb : Ev tb σ H (.int j)) : Ev (tOp (rI0 g) ta tb) σ H (g i j) := ev_op ha hb rv_I0
theorem ev_intI {i : Int} (h : Ev te σ H (.int i)) : Ev (tCB (fun xs H Q => (∃ i, xs = [V.int i] ∧ Q (.int i) H) ∨ ∃ k, xs = [V.bl k] ∧ Q (.int (if k = true then 1 else 0)) H) (tCons te tNil)) σ H (.int i) := fun H1 e Q q =>
  h H1 e _ fun H2 e2 => .inl ⟨i, rfl, q H2 e2⟩
theorem ev_lenS {z : Str} (h : Ev te σ H (.str z)) (hz : z.length ≤ 100000) : Ev (tCB (fun xs H Q => ∃ z, xs = [V.str z] ∧ z.length ≤ sizeLine ∧ Q (.int z.length) H) (tCons te tNil)) σ H (.int (z.length : Int)) := fun H1 e Q q =>
  h H1 e _ fun H2 e2 => ⟨z, rfl, sz_of hz, q H2 e2⟩
theorem ev_lenQ {p : Addr} {xs : List V} (ha : Ev ta σ H (.ref p)) (h : SqL K H p xs) : Ev (tCB (fun xs H Q => ∃ p ys, xs = [V.ref p] ∧ (SqL K H p ys ∨ SqT K H p ys) ∧ Q (.int ys.length) H) (tCons ta tNil)) σ H (.int (xs.length : Int)) := fun H1 e Q q =>
  ha H1 e _ fun H2 e2 => ⟨p, xs, rfl, Or.inl (ex_l (e.trans e2) h), q H2 e2⟩
theorem ev_lenT {p : Addr} {xs : List V} (ha : Ev ta σ H (.ref p)) (h : SqT K H p xs) : Ev (tCB (fun xs H Q => ∃ p ys, xs = [V.ref p] ∧ (SqL K H p ys ∨ SqT K H p ys) ∧ Q (.int ys.length) H) (tCons ta tNil)) σ H (.int (xs.length : Int)) := fun H1 e Q q =>
  ha H1 e _ fun H2 e2 => ⟨p, xs, rfl, Or.inr (ex_t (e.trans e2) h), q H2 e2⟩
theorem ev_ixL {p : Addr} {xs : List V} {i : Int} {v : V} (ha : Ev ta σ H (.ref p)) (hb : Ev tb σ H (.int i)) (h : SqL K H p xs) (hi : atI xs i = some v) : Ev (tOp (rIxL K) ta tb) σ H v := ev_op ha hb (rv_ixL h hi)
theorem ev_ixT {p : Addr} {xs : List V} {i : Int} {v : V} (ha : Ev ta σ H (.ref p)) (hb : Ev tb σ H (.int i)) (h : SqT K H p xs) (hi : atI xs i = some v) : Ev (tOp (rIxT K) ta tb) σ H v := ev_op ha hb (rv_ixT h hi)
/-- an item of a list that is written there -/
theorem ev_ixN {xs : List V} {i : Int} {v : V} (ha : EvL ta σ H xs) (hb : ∀ H1, Ex H H1 → Ev tb σ H1 (.int i)) (hi : atI xs i = some v) : Ev (tOp (rIxL K) ta tb) σ H v := ev_opL1 ha hb fun p H1 h1 _ => rv_ixL (sq_of h1) hi
theorem ev_ixS {z : Str} {i : Int} {c : Nat} (ha : Ev ta σ H (.str z)) (hb : Ev tb σ H (.int i)) (hz : z.length ≤ 100000) (hi : atI z.cps.toList i = some c) : Ev (tOp rIxS ta tb) σ H (.str ⟨#[c]⟩) := ev_op ha hb (rv_ixS hz hi)
theorem ev_addS {x y : Str} (ha : Ev ta σ H (.str x)) (hb : Ev tb σ H (.str y)) (hz : x.length + y.length ≤ 16777216) : Ev (tOp (fun x y H Q => ∃ i j, x = V.str i ∧ y = V.str j ∧ i.length + j.length ≤ sizeLine ∧ Q (.str (i ++ j)) H) ta tb) σ H (.str (x ++ y)) :=
  ev_op ha hb fun H1 _ Q q => ⟨x, y, rfl, rfl, by rw [sizeLine_eq]; exact hz, q H1 (Ex.refl H1)⟩
theorem ev_neg {i : Int} (h : Ev te σ H (.int i)) : Ev (tUn (rU fun i => .int (-i)) te) σ H (.int (-i)) := ev_un h ru_neg
theorem ev_isN {v : V} (h : Ev te σ H v) : Ev (tOp (fun x y H Q => y = .non ∧ Q (.bl (decide (x = .non))) H) te (tC .non)) σ H (.bl (decide (v = .non))) := fun H1 e Q q => h H1 e _ fun H2 e2 => ⟨rfl, q H2 e2⟩
end
section
variable {σ : L2.St} {H : Hp} {te : TE}
theorem ev_isNt (h : Ev te σ H .non) : Ev (tOp (fun x y H Q => y = .non ∧ Q (.bl (decide (x = .non))) H) te (tC .non)) σ H (.bl true) := ev_is (ev_isN h) (congrArg V.bl (decide_eq_true rfl))
theorem ev_isNf {v : V} (h : Ev te σ H v) (hv : v ≠ .non := by intro z; cases z) : Ev (tOp (fun x y H Q => y = .non ∧ Q (.bl (decide (x = .non))) H) te (tC .non)) σ H (.bl false) := ev_is (ev_isN h) (congrArg V.bl (decide_eq_false hv))
end
theorem at_nat {xs : List V} {j : Nat} {v : V} (h : xs[j]? = some v) : atI xs (j : Int) = some v := atI_nat h
theorem sizeOk {n : Nat} (h : n ≤ 16777216) : n ≤ sizeLine := by rw [sizeLine_eq]; exact h

/-! ### texts, joins, comprehensions -/
theorem str_ext {a b : Str} (h : a.cps.toList = b.cps.toList) : a = b := by
  obtain ⟨a⟩ := a
  obtain ⟨b⟩ := b
  exact congrArg Str.mk (Array.toList_inj.mp h)
/-- the join of one-sign texts -/
theorem join_signs (l : List Nat) : Txt.join (Str.ofString "") (l.map fun c => (⟨#[c]⟩ : Str)) = ⟨l.toArray⟩ := by
  rw [TL.join_eq]
  refine str_ext ?_
  have key : ∀ l : List Nat, TL.joinL [] (l.map fun c => [c]) = l := fun l => by
    induction l with
    | nil => rfl
    | cons a r ih =>
      cases r with
      | nil => rfl
      | cons b r =>
        show [a] ++ ([] ++ TL.joinL [] ((b :: r).map fun c => [c])) = a :: b :: r
        rw [ih] <;> rfl
  have h := TL.tl_join (Str.ofString "") (l.map fun c => (⟨#[c]⟩ : Str))
  have e1 : TL.tl (Str.ofString "") = [] := by decide +kernel
  rw [e1, List.map_map] at h
  exact h.trans (key l)
theorem sum_ones (l : List Nat) : ((l.map fun c => (⟨#[c]⟩ : Str)).map (·.length)).sum = l.length := by
  induction l with
  | nil => rfl
  | cons a r ih =>
    rw [List.map_cons, List.map_cons, List.sum_cons, ih, List.length_cons]
    show 1 + r.length = r.length + 1
    omega
/-- a join of a new list of texts -/
theorem ev_joinN {K : PySem.W.Frag} {σ : L2.St} {H : Hp} {to te : TE} {a : Str} {ys : List Str} (h0 : Ev to σ H (.str a)) (h : EvL te σ H (ys.map V.str)) (hz : (ys.map (·.length)).sum + ys.length * a.length ≤ 16777216) :
    Ev (tM1 (fun x xs H Q => ∃ a p, ∃ ys : List Str, x = .str a ∧ xs = [.ref p] ∧ (SqL K H p (ys.map V.str) ∨ SqT K H p (ys.map V.str)) ∧ (ys.map (·.length)).sum + ys.length * a.length ≤ 16777216 ∧ Q (.str (Txt.join a ys)) H) to te) σ H (.str (Txt.join a ys)) :=
  fun H1 e Q q => h0 H1 e _ fun H2 e2 => ⟨⟨a, rfl⟩, h H2 (e.trans e2) _ fun p H3 hp e3 hl => ⟨a, p, ys, rfl, rfl, .inl (sq_of hl), hz, q H3 (e2.trans e3)⟩⟩
theorem given_all {n : Nat} {v : Nat → V} {xs : List V} (hn : xs.length = n) (h : ∀ i, i < n → xs[i]? = some (v i)) : given n (fun _ => true) v = xs := by
  unfold given
  rw [List.filter_eq_self.mpr (fun _ _ => rfl)]
  refine List.ext_getElem? fun i => ?_
  rw [List.getElem?_map]
  by_cases hi : i < n
  · rw [List.getElem?_range hi, h i hi] <;> rfl
  · rw [List.getElem?_eq_none (by rw [List.length_range]; omega), List.getElem?_eq_none (by omega)] <;> rfl
/-- [f(x) for x in a new list of ints] -/
theorem el_mapN {K : PySem.W.Frag} {σ : L2.St} {H : Hp} {tl te : TE} {j : Nat} {vs : List Nat} {ns : List Int} {f : Int → V} (h : EvL tl σ H (ns.map V.int)) (hz : ns.length ≤ 40000) (hw : ∀ x, wipe ((wipe σ vs).set j (some x)) vs = wipe σ vs)
    (he : ∀ n ∈ ns, ∀ H1, Ex H H1 → Ev te ((wipe σ vs).set j (some (.int n))) H1 (f n)) : EvL (tLc (iList K tl) (gName j) tYes te vs) σ H (ns.map f) := by
  have g : given (ns.map V.int).length (fun _ => true) (fun i => f (ns.getD i 0)) = ns.map f := given_all (by rw [List.length_map, List.length_map]) fun i hi => by
    rw [List.length_map] at hi
    rw [List.getElem?_map, List.getElem?_eq_getElem hi, List.getD_eq_getElem?_getD, List.getElem?_eq_getElem hi] <;> rfl
  rw [← g]
  refine el_lcNL (fun _ => true) (fun i => f (ns.getD i 0)) h (by rw [List.length_map]; exact hz) hw (fun i x H1 e1 hx => ?_) (fun i x H1 e1 hx _ => ?_)
  · exact fun H2 e2 Q q => q H2 (Ex.refl H2)
  · rw [List.getElem?_map] at hx
    cases e : ns[i]? with
    | none =>
      rw [e] at hx
      cases hx
    | some n =>
      rw [e] at hx
      have ex : x = .int n := (Option.some.inj hx).symm
      rw [ex, List.getD_eq_getElem?_getD, e]
      exact he n (List.mem_of_getElem? e) H1 e1
theorem atI_of {xs : List V} {n : Int} {v : V} (h0 : 0 ≤ n) (h : xs[n.toNat]? = some v) : atI xs n = some v := by
  have e : n = ((n.toNat : Nat) : Int) := by omega
  rw [e]
  exact atI_nat (by simpa using h)
theorem at_cps {z : Str} {l : List Nat} (h : z.cps.toList = l) {n : Int} (h0 : 0 ≤ n) (h1 : n < l.length) : atI z.cps.toList n = some (l.getD n.toNat 0) := by
  rw [h]
  have e : n = ((n.toNat : Nat) : Int) := by omega
  have h3 : n.toNat < l.length := by omega
  have h4 : ixN l.length n = some n.toNat := by rw [e]; exact ixN_nat (by omega)
  unfold atI
  rw [h4]
  show l[n.toNat]? = some (l.getD n.toNat 0)
  rw [List.getElem?_eq_getElem h3, List.getD_eq_getElem?_getD, List.getElem?_eq_getElem h3]
  all_goals rfl

/-- the join of texts by their codes -/
theorem join_codes (l : List (List Nat)) : Txt.join (Str.ofString "") (l.map fun c => (⟨c.toArray⟩ : Str)) = ⟨l.flatten.toArray⟩ := by
  rw [TL.join_eq]
  refine str_ext ?_
  have key : ∀ l : List (List Nat), TL.joinL [] l = l.flatten := fun l => by
    induction l with
    | nil => rfl
    | cons a r ih =>
      cases r with
      | nil => simp [TL.joinL]
      | cons b r =>
        show a ++ ([] ++ TL.joinL [] (b :: r)) = (a :: b :: r).flatten
        rw [ih, List.nil_append]
        exact List.flatten_cons.symm
  have h := TL.tl_join (Str.ofString "") (l.map fun c => (⟨c.toArray⟩ : Str))
  have e1 : TL.tl (Str.ofString "") = [] := by decide +kernel
  have e2 : (l.map fun c => (⟨c.toArray⟩ : Str)).map TL.tl = l := by
    rw [List.map_map]
    exact List.map_id l
  rw [e1, e2] at h
  exact h.trans (key l)
theorem sum_codes (l : List (List Nat)) : ((l.map fun c => (⟨c.toArray⟩ : Str)).map (·.length)).sum = l.flatten.length := by
  induction l with
  | nil => rfl
  | cons a r ih =>
    rw [List.map_cons, List.map_cons, List.sum_cons, ih, List.flatten_cons, List.length_append] <;> rfl
/-- [f(x) for x in a tuple] -/
theorem el_mapT {K : PySem.W.Frag} {σ : L2.St} {H : Hp} {tl te : TE} {j : Nat} {vs : List Nat} {a : Addr} {xs ys : List V} (h : Ev tl σ H (.ref a)) (hx : SqT K H a xs) (hz : xs.length ≤ 40000) (hw : ∀ x, wipe ((wipe σ vs).set j (some x)) vs = wipe σ vs) (hl : ys.length = xs.length)
    (he : ∀ (i : Nat) (x y : V), xs[i]? = some x → ys[i]? = some y → ∀ H1, Ex H H1 → Ev te ((wipe σ vs).set j (some x)) H1 y) : EvL (tLc (iTup K tl) (gName j) tYes te vs) σ H ys := by
  intro H0 e Q q
  refine h H0 e _ fun H1 e1 => ⟨a, rfl, ⟨xs, ex_t (e.trans e1) hx⟩, fun Dl hD => ?_⟩
  refine lc_tup (xs := xs) (fun i H' => H1 Dl = none ∧ Ex H1 H' ∧ H' Dl = some (.lst (ys.take i))) ⟨hD, Ex.new hD, upd_same⟩ (fun i H' _ p => ex_t ((e.trans e1).trans p.2.1) hx) (fun i x H' hi p => ⟨hw x, ?_⟩) (fun H' p => ?_)
  · obtain ⟨p1, p2, p3⟩ := p
    have hi2 : i < ys.length := by
      have := (List.getElem?_eq_some_iff.mp hi).1
      omega
    have hy : ys[i]? = some ys[i] := List.getElem?_eq_getElem hi2
    show te ((wipe σ vs).set j (some x)) H' _
    refine he i x ys[i] hi hy H1 (e.trans e1) H' p2 _ fun H4 e4 => ⟨ys.take i, e4 Dl _ p3, sz_lt (by rw [List.length_take]; omega), p1, (p2.trans e4).mut p1, ?_⟩
    rw [upd_same, List.take_add_one, hy] <;> rfl
  · obtain ⟨p1, p2, p3⟩ := p
    rw [← hl, List.take_length] at p3
    exact q Dl H' (fresh_back e1 p1) (e1.trans p2) p3
/-- [f(x) for x in a list] -/
theorem el_mapL {K : PySem.W.Frag} {σ : L2.St} {H : Hp} {tl te : TE} {j : Nat} {vs : List Nat} {a : Addr} {xs ys : List V} (h : Ev tl σ H (.ref a)) (hx : SqL K H a xs) (hz : xs.length ≤ 40000) (hw : ∀ x, wipe ((wipe σ vs).set j (some x)) vs = wipe σ vs) (hl : ys.length = xs.length)
    (he : ∀ (i : Nat) (x y : V), xs[i]? = some x → ys[i]? = some y → ∀ H1, Ex H H1 → Ev te ((wipe σ vs).set j (some x)) H1 y) : EvL (tLc (iList K tl) (gName j) tYes te vs) σ H ys := by
  intro H0 e Q q
  refine h H0 e _ fun H1 e1 => ⟨a, rfl, ⟨xs, ex_l (e.trans e1) hx⟩, fun Dl hD => ?_⟩
  refine lc_list (xs := xs) (fun i H' => H1 Dl = none ∧ Ex H1 H' ∧ H' Dl = some (.lst (ys.take i))) ⟨hD, Ex.new hD, upd_same⟩ (fun i H' _ p => ex_l ((e.trans e1).trans p.2.1) hx) (fun i x H' hi p => ⟨hw x, ?_⟩) (fun H' p => ?_)
  · obtain ⟨p1, p2, p3⟩ := p
    have hi2 : i < ys.length := by
      have := (List.getElem?_eq_some_iff.mp hi).1
      omega
    have hy : ys[i]? = some ys[i] := List.getElem?_eq_getElem hi2
    show te ((wipe σ vs).set j (some x)) H' _
    refine he i x ys[i] hi hy H1 (e.trans e1) H' p2 _ fun H4 e4 => ⟨ys.take i, e4 Dl _ p3, sz_lt (by rw [List.length_take]; omega), p1, (p2.trans e4).mut p1, ?_⟩
    rw [upd_same, List.take_add_one, hy] <;> rfl
  · obtain ⟨p1, p2, p3⟩ := p
    rw [← hl, List.take_length] at p3
    exact q Dl H' (fresh_back e1 p1) (e1.trans p2) p3
/-- [f(k) for k in range(n)] -/
theorem el_mapR {σ : L2.St} {H : Hp} {ta : TA} {te : TE} {j : Nat} {vs : List Nat} {n : Nat} {ys : List V} (h : EvA ta σ H [.int (n : Int)]) (hz : n ≤ 40000) (hw : ∀ x, wipe ((wipe σ vs).set j (some x)) vs = wipe σ vs) (hl : ys.length = n)
    (he : ∀ (i : Nat) (y : V), i < n → ys[i]? = some y → ∀ H1, Ex H H1 → Ev te ((wipe σ vs).set j (some (.int (i : Int)))) H1 y) : EvL (tLc (iRng1 ta) (gName j) tYes te vs) σ H ys := by
  have g : given (n : Int).toNat (fun _ => true) (fun i => ys.getD i .non) = ys := given_all (by omega) fun i hi => by
    have hi2 : i < ys.length := by omega
    rw [List.getElem?_eq_getElem hi2, List.getD_eq_getElem?_getD, List.getElem?_eq_getElem hi2] <;> rfl
  rw [← g]
  refine el_lcR1 (fun _ => true) (fun i => ys.getD i .non) h (by omega) hw (fun i H1 e1 hi => ?_) (fun i H1 e1 hi _ => ?_)
  · exact fun H2 e2 Q q => q H2 (Ex.refl H2)
  · have hi2 : i < ys.length := by omega
    have hy : ys[i]? = some (ys.getD i .non) := by rw [List.getElem?_eq_getElem hi2, List.getD_eq_getElem?_getD, List.getElem?_eq_getElem hi2] <;> rfl
    exact he i _ (by omega) hy H1 e1
/-- for c in a text -/
theorem s_forS {σ : L2.St} {H : Hp} {te : TE} {tu : TS} {D : Ends} {j : Nat} {z : Str} (h : Ev te σ H (.str z)) (Pv : Nat → L2.St → Hp → Prop) (h0 : ∀ H1, Ex H H1 → Pv 0 σ H1)
    (hs : ∀ i c σ' H', z.cps.toList[i]? = some c → Pv i σ' H' → tu { D with nx := Pv (i + 1), ct := Pv (i + 1), bk := D.nx } (σ'.set j (some (.str ⟨#[c]⟩))) H') (hd : ∀ σ' H', Pv z.cps.toList.length σ' H' → D.nx σ' H') : tFor (iStr te) (gName j) tu D σ H := by
  refine h H (Ex.refl H) _ fun H1 e => ⟨z, rfl, fun i m σ' H' => m = z.cps.toList.length - i ∧ i ≤ z.cps.toList.length ∧ Pv i σ' H', ⟨_, rfl, Nat.zero_le _, h0 H1 e⟩, ?_⟩
  rintro i m σ' H' ⟨rfl, hi, p⟩
  by_cases hlt : i < z.cps.toList.length
  · refine .inr ⟨(by show i < z.cps.size; simpa using hlt), Pv (i + 1), fun σ2 H2 p2 => ⟨_, by omega, rfl, hlt, p2⟩, fun x H2 y => ?_⟩
    obtain ⟨rfl, c, hc, rfl⟩ := y
    exact hs i c σ' H2 (by simpa using hc) p
  · have ei : i = z.cps.toList.length := by omega
    subst ei
    exact .inl ⟨(by show z.cps.size ≤ z.cps.toList.length; simp), hd σ' H' p⟩
theorem q_forS {σ : L2.St} {H : Hp} {te : TE} {tu tz : TS} {D : Ends} {j : Nat} {z : Str} (h : Ev te σ H (.str z)) (Pv : Nat → L2.St → Hp → Prop) (h0 : ∀ H1, Ex H H1 → Pv 0 σ H1)
    (hs : ∀ i c σ' H', z.cps.toList[i]? = some c → Pv i σ' H' → tu { D with nx := Pv (i + 1), ct := Pv (i + 1), bk := tz D } (σ'.set j (some (.str ⟨#[c]⟩))) H') (hd : ∀ σ' H', Pv z.cps.toList.length σ' H' → tz D σ' H') : tSeq (tFor (iStr te) (gName j) tu) tz D σ H :=
  s_forS (D := { D with nx := tz D }) h Pv h0 hs hd
/-! ### isinstance against a built-in type; f-strings -/
theorem tyx_tup {K : PySem.W.Frag} {H : Hp} {a : Addr} {xs : List V} (h : SqT K H a xs) : TyX K H (.ref a) (.type "tuple") := by
  rcases h with (h | ⟨o, h⟩) | ⟨o, its, n, h, hc, _⟩
  · exact .base (.tup h)
  · exact .fTuple h
  · exact .kTuple h hc
theorem ev_isi {K : PySem.W.Frag} {σ : L2.St} {H : Hp} {te : TE} {x : V} {a b : String} {r : Bool} (h : Ev te σ H x) (ht : ∀ H1, Ex H H1 → TyX K H1 x (.type a)) (hk : kitB a b = some r) : Ev (tCB (rIsi K) (tCons te (tCons (tC (.ty b)) tNil))) σ H (.bl r) := fun H1 e Q q =>
  h H1 e _ fun H2 e2 => ⟨x, .ty b, .type a, .type b, r, rfl, .ty b, ht H2 (e.trans e2), kit_ty hk, q H2 e2⟩
/-- parts that evaluate to texts -/
inductive EvJ (σ : L2.St) (H : Hp) : List TE → List Str → Prop where
  | nil : EvJ σ H [] []
  | cons {t : TE} {ts : List TE} {y : Str} {ys : List Str} (h : Ev t σ H (.str y)) (r : EvJ σ H ts ys) : EvJ σ H (t :: ts) (y :: ys)
theorem evj_run {σ : L2.St} {H : Hp} {ts : List TE} {ys : List Str} (h : EvJ σ H ts ys) : ∀ (acc : Str) (H1 : Hp) (Q : Str → Hp → Prop), Ex H H1 → acc.length + (ys.map (·.length)).sum ≤ 16777216 → (∀ H2, Ex H1 H2 → Q (ys.foldl (· ++ ·) acc) H2) → tJs ts acc σ H1 Q := by
  induction h with
  | nil => exact fun acc H1 Q _ _ q => q H1 (Ex.refl H1)
  | @cons t ts y ys h r ih =>
    intro acc H1 Q e hz q
    rw [List.map_cons, List.sum_cons] at hz
    have el : (acc ++ y).length = acc.length + y.length := by
      show (acc.cps ++ y.cps).size = acc.cps.size + y.cps.size
      exact Array.size_append
    refine h H1 e _ fun H2 e2 => ⟨y, rfl, sizeOk (by rw [el]; omega), ih (acc ++ y) H2 Q (e.trans e2) (by rw [el]; omega) fun H3 e3 => q H3 (e2.trans e3)⟩
theorem ev_joined {σ : L2.St} {H : Hp} {ts : List TE} {ys : List Str} (h : EvJ σ H ts ys) (hz : (ys.map (·.length)).sum ≤ 16777216) : Ev (fun σ H Q => tJs ts Str.empty σ H fun out H1 => Q (.str out) H1) σ H (.str (ys.foldl (· ++ ·) Str.empty)) := fun H1 e Q q =>
  evj_run h Str.empty H1 _ e (by show 0 + _ ≤ _; omega) fun H2 e2 => q H2 e2
theorem ev_fmtS {σ : L2.St} {H : Hp} {te : TE} {y : Str} (h : Ev te σ H (.str y)) (hz : y.length ≤ 16777216) : Ev (tFmt te) σ H (.str y) := fun H1 e Q q => h H1 e _ fun H2 e2 => .inl ⟨y, rfl, sizeOk hz, q H2 e2⟩
theorem ev_fmtI {σ : L2.St} {H : Hp} {te : TE} {i : Int} (h : Ev te σ H (.int i)) (hz : i.natAbs.log2 < 1920) : Ev (tFmt te) σ H (.str (toString i)) := fun H1 e Q q => h H1 e _ fun H2 e2 => .inr ⟨i, rfl, hz, q H2 e2⟩
theorem ev_strI {σ : L2.St} {H : Hp} {te : TE} {i : Int} (h : Ev te σ H (.int i)) (hz : i.natAbs.log2 < 1920) : Ev (tCB (fun xs H Q => ∃ i : Int, xs = [V.int i] ∧ i.natAbs.log2 < 1920 ∧ Q (.str (toString i)) H) (tCons te tNil)) σ H (.str (toString i)) := fun H1 e Q q => h H1 e _ fun H2 e2 => ⟨i, rfl, hz, q H2 e2⟩
theorem ev_ordS {σ : L2.St} {H : Hp} {te : TE} {c : Nat} (h : Ev te σ H (.str ⟨#[c]⟩)) : Ev (tCB (fun xs H Q => ∃ x : Str, xs = [V.str x] ∧ x.length = 1 ∧ Q (.int (x.cps.getD 0 0 : Nat)) H) (tCons te tNil)) σ H (.int (c : Int)) := fun H1 e Q q => h H1 e _ fun H2 e2 => ⟨_, rfl, rfl, q H2 e2⟩
theorem ev_ends {σ : L2.St} {H : Hp} {to te : TE} {a b : Str} (h0 : Ev to σ H (.str a)) (h : Ev te σ H (.str b)) : Ev (tM1 (fun x xs H Q => ∃ a b, x = V.str a ∧ xs = [V.str b] ∧ Q (.bl (Txt.endswith a b)) H) to te) σ H (.bl (Txt.endswith a b)) := fun H1 e Q q =>
  h0 H1 e _ fun H2 e2 => ⟨⟨a, rfl⟩, h H2 (e.trans e2) _ fun H3 e3 => ⟨a, b, rfl, rfl, q H3 (e2.trans e3)⟩⟩
theorem ev_slS {σ : L2.St} {H : Hp} {te : TE} {tl th : TO} {z : Str} {lo hi : Option Int} (h : Ev te σ H (.str z)) (h1 : EvO tl σ H lo) (h2 : EvO th σ H hi) (hz : z.length ≤ 100000) : Ev (tSl rSlS te tl th) σ H (.str (cutS z lo hi)) := fun H1 e Q q =>
  h H1 e _ fun H2 e2 => h1 H2 (e.trans e2) _ fun H3 e3 => h2 H3 ((e.trans e2).trans e3) _ fun H4 e4 => ⟨z, rfl, sz_of hz, q H4 ((e2.trans e3).trans e4)⟩
/-- tuple(a new list) -/
theorem eu_ofN {K : PySem.W.Frag} {σ : L2.St} {H : Hp} {te : TE} {xs : List V} (h : EvL te σ H xs) : EvU (tCB (fun xs H Q => ∃ p ys, xs = [V.ref p] ∧ ((SqL K H p ys ∧ ∀ l, H l = none → Q (.ref l) (upd H l (.tup ys))) ∨ (SqT K H p ys ∧ Q (.ref p) H))) (tCons te tNil)) σ H xs := fun H1 e Q q =>
  h H1 e _ fun p H2 _ e2 hp => ⟨p, xs, rfl, .inl ⟨sq_of hp, fun l hl => q l _ (fresh_back e2 hl) (e2.trans (Ex.new hl)) upd_same⟩⟩
theorem eu_ofL {K : PySem.W.Frag} {σ : L2.St} {H : Hp} {te : TE} {p : Addr} {xs : List V} (h : Ev te σ H (.ref p)) (hx : SqL K H p xs) : EvU (tCB (fun xs H Q => ∃ p ys, xs = [V.ref p] ∧ ((SqL K H p ys ∧ ∀ l, H l = none → Q (.ref l) (upd H l (.tup ys))) ∨ (SqT K H p ys ∧ Q (.ref p) H))) (tCons te tNil)) σ H xs := fun H1 e Q q =>
  h H1 e _ fun H2 e2 => ⟨p, xs, rfl, .inl ⟨ex_l (e.trans e2) hx, fun l hl => q l _ (fresh_back e2 hl) (e2.trans (Ex.new hl)) upd_same⟩⟩
/-- a def that hands back a new tuple -/
def SpU (sp : Sp) (vs : List V) (H : Hp) (xs : List V) : Prop := ∀ H1, Ex H H1 → ∀ Q : VK, (∀ p H2, Ex H1 H2 → H2 p = some (.tup xs) → Q (.ref p) H2) → ∀ E : XK, sp vs H1 Q E
theorem q_callU {sp : Sp} {dvs vs xs : List V} {E : XK} {ta : TA} {σ : L2.St} {H : Hp} {tz : TS} {D : Ends} {i : Nat} (h : EvA ta σ H vs) (hs : SpU sp (vs ++ dvs) H xs) (k : ∀ p H1, Ex H H1 → H1 p = some (.tup xs) → tz D (σ.set i (some (.ref p))) H1) : tSeq (tAsg (tCall sp dvs E ta) (gName i)) tz D σ H :=
  h H (Ex.refl H) _ fun H2 e2 => hs H2 e2 _ (fun p H3 e3 hp => k p H3 (e2.trans e3) hp) E
theorem s_callU {sp : Sp} {dvs vs xs : List V} {E : XK} {ta : TA} {σ : L2.St} {H : Hp} {D : Ends} {i : Nat} (h : EvA ta σ H vs) (hs : SpU sp (vs ++ dvs) H xs) (k : ∀ p H1, Ex H H1 → H1 p = some (.tup xs) → D.nx (σ.set i (some (.ref p))) H1) : tAsg (tCall sp dvs E ta) (gName i) D σ H :=
  h H (Ex.refl H) _ fun H2 e2 => hs H2 e2 _ (fun p H3 e3 hp => k p H3 (e2.trans e3) hp) E
/-- a call whose one argument is a new tuple -/
theorem ev_callU {sp : Sp} {dvs xs : List V} {z : V} {E : XK} {te : TE} {σ : L2.St} {H : Hp} (h : EvU te σ H xs) (hs : ∀ p H1, H1 p = some (.tup xs) → Ex H H1 → SpV sp ([.ref p] ++ dvs) H1 z) : Ev (tCall sp dvs E (tCons te tNil)) σ H z := fun H1 e Q q =>
  h H1 e _ fun p H2 _ e2 hp => hs p H2 hp (e.trans e2) H2 (Ex.refl H2) Q (fun H3 e3 => q H3 (e2.trans e3)) E
/-- written tuples, one behind the other -/
def EvP (ta : TA) (σ : L2.St) (H : Hp) (xss : List (List V)) : Prop := ∀ H1, Ex H H1 → ∀ Q : List V → Hp → Prop, (∀ (ps : List Addr) H2, Ex H1 H2 → Paired (fun p xs => H2 p = some (.tup xs)) ps xss → Q (ps.map V.ref) H2) → ta σ H1 Q
theorem paired_mono {H H' : Hp} (e : Ex H H') : ∀ {ps : List Addr} {xss : List (List V)}, Paired (fun p xs => H p = some (.tup xs)) ps xss → Paired (fun p xs => H' p = some (.tup xs)) ps xss
  | _, _, .nil => .nil
  | _, _, .cons h r => .cons (e _ _ h) (paired_mono e r)
theorem ep_nil {σ : L2.St} {H : Hp} : EvP tNil σ H [] := fun H1 e Q q => q [] H1 (Ex.refl H1) .nil
theorem ep_cons {σ : L2.St} {H : Hp} {te : TE} {tr : TA} {xs : List V} {xss : List (List V)} (h : EvU te σ H xs) (r : EvP tr σ H xss) : EvP (tCons te tr) σ H (xs :: xss) := fun H1 e Q q =>
  h H1 e _ fun p H2 _ e2 hp => r H2 (e.trans e2) _ fun ps H3 e3 hr => q (p :: ps) H3 (e2.trans e3) (.cons (e3 p _ hp) hr)
theorem q_asgLP {ta : TA} {xss : List (List V)} {σ : L2.St} {H : Hp} {tz : TS} {D : Ends} {i : Nat} (h : EvP ta σ H xss) (hz : xss.length ≤ 100000) (k : ∀ p ps H1, Ex H H1 → H1 p = some (.lst (ps.map V.ref)) → Paired (fun p xs => H1 p = some (.tup xs)) ps xss → tz D (σ.set i (some (.ref p))) H1) :
    tSeq (tAsg (tLst ta) (gName i)) tz D σ H := h H (Ex.refl H) _ fun ps H1 e1 hps => by
  have el : ∀ {as : List Addr} {bs : List (List V)}, Paired (fun p xs => H1 p = some (.tup xs)) as bs → as.length = bs.length := fun h => by
    induction h with
    | nil => rfl
    | cons _ _ ih => exact congrArg (· + 1) ih
  exact ⟨sz_of (by rw [List.length_map, el hps]; exact hz), fun p hp => k p ps _ (e1.trans (Ex.new hp)) upd_same (paired_mono (Ex.new hp) hps)⟩
theorem paired_at {H : Hp} : ∀ {ps : List Addr} {xss : List (List V)}, Paired (fun p xs => H p = some (.tup xs)) ps xss → ∀ {i : Nat} {xs : List V}, xss[i]? = some xs → ∃ p, ps[i]? = some p ∧ H p = some (.tup xs)
  | _, _, .cons h _, 0, xs, e => by
    have e := Option.some.inj e
    subst e
    exact ⟨_, rfl, h⟩
  | _, _, .cons _ r, i + 1, xs, e => by
    obtain ⟨p, h1, h2⟩ := paired_at r (i := i) (by simpa using e)
    exact ⟨p, by simpa using h1, h2⟩
theorem paired_len {α β : Type} {R : α → β → Prop} : ∀ {as : List α} {bs : List β}, Paired R as bs → as.length = bs.length
  | _, _, .nil => rfl
  | _, _, .cons _ r => congrArg (· + 1) (paired_len r)
/-- a list that is tracked, and a new one behind it -/
theorem el_catV {K : PySem.W.Frag} {σ : L2.St} {H : Hp} {ta tb : TE} {p : Addr} {xs ys : List V} (ha : Ev ta σ H (.ref p)) (hp : H p = some (.lst xs)) (hb : EvL tb σ H ys) (hz : xs.length + ys.length ≤ 100000) : EvL (tOp rCat ta tb) σ H (xs ++ ys) := fun H1 e Q q =>
  ha H1 e _ fun H2 e2 => hb H2 (e.trans e2) _ fun r H3 hr e3 h3 => ⟨p, r, xs, ys, rfl, rfl, ((e.trans e2).trans e3) p _ hp, h3, sz_of hz, fun l hl => q l _ (fresh_back (e2.trans e3) hl) ((e2.trans e3).trans (Ex.new hl)) upd_same⟩
theorem codes_app {a b : Str} {x y : List Nat} (ha : a.cps.toList = x) (hb : b.cps.toList = y) : (a ++ b).cps.toList = x ++ y := by
  show (a.cps ++ b.cps).toList = x ++ y
  rw [Array.toList_append, ha, hb]
theorem str_len (z : Str) : z.length = z.cps.toList.length := by simp [Str.length]
theorem mk_of {z : Str} {l : List Nat} (h : z.cps.toList = l) : z = ⟨l.toArray⟩ := str_ext h
/-- long texts -/
theorem ev_lenB {σ : L2.St} {H : Hp} {te : TE} {z : Str} (h : Ev te σ H (.str z)) (hz : z.length ≤ 16777216) : Ev (tCB (fun xs H Q => ∃ z, xs = [V.str z] ∧ z.length ≤ sizeLine ∧ Q (.int z.length) H) (tCons te tNil)) σ H (.int (z.length : Int)) := fun H1 e Q q =>
  h H1 e _ fun H2 e2 => ⟨z, rfl, sizeOk hz, q H2 e2⟩
theorem ev_ixB {σ : L2.St} {H : Hp} {ta tb : TE} {z : Str} {i : Int} {c : Nat} (ha : Ev ta σ H (.str z)) (hb : Ev tb σ H (.int i)) (hz : z.length ≤ 16777216) (hi : atI z.cps.toList i = some c) : Ev (tOp rIxS ta tb) σ H (.str ⟨#[c]⟩) :=
  ev_op ha hb fun H1 _ _ q => ⟨z, i, c, rfl, rfl, sizeOk hz, hi, q H1 (Ex.refl H1)⟩
theorem ev_slB {σ : L2.St} {H : Hp} {te : TE} {tl th : TO} {z : Str} {lo hi : Option Int} (h : Ev te σ H (.str z)) (h1 : EvO tl σ H lo) (h2 : EvO th σ H hi) (hz : z.length ≤ 16777216) : Ev (tSl rSlS te tl th) σ H (.str (cutS z lo hi)) := fun H1 e Q q =>
  h H1 e _ fun H2 e2 => h1 H2 (e.trans e2) _ fun H3 e3 => h2 H3 ((e.trans e2).trans e3) _ fun H4 e4 => ⟨z, rfl, sizeOk hz, q H4 ((e2.trans e3).trans e4)⟩
theorem at_natS {l : List Nat} {j c : Nat} (h : l[j]? = some c) : atI l (j : Int) = some c := by
  have hj := (List.getElem?_eq_some_iff.mp h).1
  unfold atI
  rw [ixN_nat hj]
  exact h
theorem q_asgAug {σ : L2.St} {H : Hp} {te : TE} {tz : TS} {D : Ends} {i : Nat} {a b : Int} (hx : σ[i]? = some (some (.int a))) (h : Ev te σ H (.int b)) (k : ∀ H1, Ex H H1 → tz D (σ.set i (some (.int (a + b)))) H1) : tSeq (tAug i te (ipI fun i j => i + j)) tz D σ H := q_aug hx h k
theorem q_callV {sp : Sp} {dvs vs : List V} {E : XK} {ta : TA} {σ : L2.St} {H : Hp} {tz : TS} {D : Ends} {i : Nat} (h : EvA ta σ H vs) (k : ∀ H1, Ex H H1 → sp (vs ++ dvs) H1 (fun v H2 => tz D (σ.set i (some v)) H2) E) : tSeq (tAsg (tCall sp dvs E ta) (gName i)) tz D σ H := h H (Ex.refl H) _ fun H1 e1 => k H1 e1
/-! ### a small tactic: what an expression evaluates to -/
local macro_rules | `(tactic| walk_at "side") => `(tactic| first | assumption | decide | (show (0 : Int) < _; omega) | omega | (show CDivW _ _; exact ⟨by first | decide | omega, by decide⟩) | (show CPow _ _; exact ⟨by decide, by decide, by decide⟩) | (show CMulX _ _; (refine Wd.mul ?_ ?_ <;> walk_at "wd")))
local macro_rules | `(tactic| walk_at "wd") => `(tactic| first | assumption | exact Wd.lit (by decide) | exact Wd.small (by omega) (by omega) | (refine Wd.div ?_; walk_at "wd") | (refine Wd.mod ?_ ?_; (first | decide | omega); (walk_at "wd")) | (refine Wd.neg ?_; walk_at "wd"))
local macro_rules | `(tactic| walk_at "call") => `(tactic| fail "no call")
local macro_rules | `(tactic| walk_at "seq") => `(tactic| first | assumption | (refine ex_l ?_ ?_ <;> assumption) | exact sq_of (by assumption))
local macro_rules | `(tactic| walk_at "ev") => `(tactic| first
  | with_reducible exact ev_c
  | exact ev_var rfl
  | (refine ev_intI ?_; walk_at "ev")
  | (refine ev_bin0 ?_ ?_; (walk_at "ev"); (walk_at "ev"))
  | (refine ev_bin ?_ ?_ ?_; (walk_at "ev"); (walk_at "ev"); (walk_at "side"))
  | (refine ev_eqI ?_ ?_; (walk_at "ev"); (walk_at "ev"))
  | (refine ev_neI ?_ ?_; (walk_at "ev"); (walk_at "ev"))
  | (refine ev_eqS ?_ ?_; (walk_at "ev"); (walk_at "ev"))
  | (refine ev_neS ?_ ?_; (walk_at "ev"); (walk_at "ev"))
  | (refine ev_neg ?_; walk_at "ev")
  | walk_at "call")
local macro_rules | `(tactic| walk_at "et") => `(tactic| first
  | (refine et_test ?_; walk_at "ev")
  | (refine et_B ?_; walk_at "ev")
  | (refine et_not ?_; walk_at "et"))
local macro_rules | `(tactic| walk_at "ea") => `(tactic| first | exact ea_nil | (refine ea_cons ?_ ?_; (walk_at "ev"); (walk_at "ea")))


/-! ### a text times a number -/
theorem foldl_reps (a : Array Nat) : ∀ (m : Nat) (acc : Array Nat), ((List.replicate m a).foldl (· ++ ·) acc).toList = acc.toList ++ (List.replicate m a.toList).flatten
  | 0, acc => by simp
  | m + 1, acc => by
    rw [List.replicate_succ, List.replicate_succ, List.foldl_cons, foldl_reps a m (acc ++ a), Array.toList_append, List.flatten_cons, List.append_assoc]
def repC (z : Str) (n : Nat) : List Nat := (List.replicate n z.cps.toList).flatten
theorem op_repS {X : Cx} : OpR X (binaryOp .Mult) (fun x y H Q => ∃ (z : Str) (k : Int), x = V.str z ∧ y = V.int k ∧ 0 ≤ k ∧ z.length * k.toNat ≤ 16777216 ∧ k < 2 ^ 60 ∧ Q (.str ⟨(repC z k.toNat).toArray⟩) H) := by
  intro pins s σ H x y v u Q I rx ry h
  obtain ⟨z, k, rfl, rfl, h0, hz, hk, q⟩ := h
  obtain ⟨t, rfl⟩ := rx
  obtain ⟨t', rfl⟩ := ry
  have ez : z.length = z.cps.toList.length := by simp [Str.length]
  have hzi : (z.length : Int) * k ≤ 16777216 := by
    have e : ((z.length * k.toNat : Nat) : Int) = (z.length : Int) * k := by
      rw [Int.natCast_mul, Int.toNat_of_nonneg h0]
    omega
  refine PySem.P.mul_str ?_ (fun h1 _ z2 => ?_) (fun h1 _ => ?_) ?_
  · rw [decide_eq_false (by omega), decide_eq_false (by omega)] <;> rfl
  · have h3 : (z.length : Int) ≤ (2 ^ 63 - 1) / k := Int.le_ediv_of_mul_le (by omega) (by omega)
    omega
  · have : ¬ z.length * k.toNat > sizeLine := by
      rw [sizeLine_eq]
      omega
    unfold Builtin.Str.tooLong
    exact decide_eq_false this
  · have e1 : ∀ y : Str, y.cps.toList = repC z k.toNat → y = ⟨(repC z k.toNat).toArray⟩ := fun y hy => by
      obtain ⟨y⟩ := y
      exact congrArg Str.mk (Array.toList_inj.mp (hy.trans rfl))
    have er : (repC z k.toNat).length = k.toNat * z.length := by
      unfold repC
      rw [List.length_flatten, List.map_replicate, List.sum_replicate_nat, ez]
    split
    · have e2 : Str.empty = (⟨(repC z k.toNat).toArray⟩ : Str) := e1 _ (by
        have : k.toNat = 0 := by omega
        unfold repC
        rw [this] <;> rfl)
      refine ⟨by decide, ?_⟩
      rw [e2]
      exact ⟨.str ⟨(repC z k.toNat).toArray⟩, H, I.tok _, ⟨_, rfl⟩, q⟩
    · split
      · rename_i h1 h2
        have e2 : z = (⟨(repC z k.toNat).toArray⟩ : Str) := e1 _ (by
          unfold repC
          rw [Bool.or_eq_true, beq_iff_eq, beq_iff_eq] at h2
          rcases h2 with h2 | h2
          · rw [h2]
            show _ = (List.replicate 1 _).flatten
            simp
          · have : z.cps.toList = [] := List.length_eq_zero_iff.mp (by omega)
            rw [this]
            simp)
        show EP X pins σ Q _ _
        rw [← e2] at q
        exact ⟨.str z, H, I, ⟨t, rfl⟩, q⟩
      · have e2 : (⟨(List.replicate k.toNat z.cps).foldl (· ++ ·) #[]⟩ : Str) = ⟨(repC z k.toNat).toArray⟩ := e1 _ (by
          show ((List.replicate k.toNat z.cps).foldl (· ++ ·) #[]).toList = _
          rw [foldl_reps] <;> rfl)
        rw [e2]
        refine ⟨?_, ⟨.str ⟨(repC z k.toNat).toArray⟩, H, I.tok _, ⟨_, rfl⟩, q⟩⟩
        show (repC z k.toNat).toArray.size ≤ sizeLine
        rw [List.size_toArray, er, sizeLine_eq, Nat.mul_comm]
        exact hz
theorem ev_repS {σ : L2.St} {H : Hp} {ta tb : TE} {z : Str} {n : Nat} (ha : Ev ta σ H (.str z)) (hb : Ev tb σ H (.int (n : Int))) (hz : z.length * n ≤ 16777216) (hn : n ≤ 16777216) : Ev (tOp (fun x y H Q => ∃ (z : Str) (k : Int), x = V.str z ∧ y = V.int k ∧ 0 ≤ k ∧ z.length * k.toNat ≤ 16777216 ∧ k < 2 ^ 60 ∧ Q (.str ⟨(repC z k.toNat).toArray⟩) H) ta tb) σ H (.str ⟨(repC z n).toArray⟩) :=
  ev_op ha hb fun H1 _ Q q => ⟨z, n, rfl, rfl, by omega, hz, by omega, q H1 (Ex.refl H1)⟩


/-! ### len of an own object -/
theorem call_lenO {X : Cx} {C f : Addr} {fd : FuncData} {k : Nat} {sp : Sp} (ml : PySem.W.findIn X.K (.ref C) "__len__" = some (some (.ref f))) (mf : PySem.W.isFn X.K (.ref f) = true) (F : FnOk X.prog X.w X.K X.mg X.base CX0 k f fd ["self"] sp) (hr : Room (k + 1) X.A) (hb : Binds X.K fd ["self"] []) :
    CallR X (.builtin "len") (fun xs H Q => ∃ a dx fs, xs = [V.ref a] ∧ H a = some (.ins C dx fs) ∧ sp [.ref a] H (fun v H' => ∃ n : Int, v = .int n ∧ (0 ≤ n ∧ n < 2 ^ 63) ∧ Q (.int n) H') E0) := by
  intro pins s σ H xs us Q I r h
  obtain ⟨a, dx, fs, rfl, ha, q⟩ := h
  obtain ⟨u, rfl, rx⟩ := vals1 r
  cases (show u = Value.ref a from rx)
  obtain ⟨mA, O, _⟩ := ins_get I.hok ha
  obtain ⟨od, J, _⟩ := O.look
  refine Calls.call_function_entry PySem.kind_len PySem.plain_len PySem.entry_len (PySem.args_len1 _) ?_
  unfold Builtin.«len»
  refine wpAny_bind (wpAny_pure ?_)
  refine wpAny_bind (m := callSpecial? (.ref a) (Str.ofString "__len__")) (PySem.W.special_fn I.kIn J ml (beq_iff_eq.mp mf) ?_)
  refine wpAny_call (codeAny_mono (F.run X.A.in1 X.stack s H ⟨[.ref a], []⟩ [.ref a] [.ref a] _ E0 hr.in1 I.env0.in1 (hb s [.ref a] I.kIn rfl) (.cons rfl .nil) q) fun r s' hq => ?_)
  cases r with
  | error e => exact hq.elim
  | ok fl =>
    cases fl with
    | ret u =>
      obtain ⟨v, H', I', rv, n, rfl, ⟨h0, h1⟩, q⟩ := I.after hq
      obtain ⟨t, rfl⟩ := rv
      refine wpAny_bind (wpAny_holding (wpAny_pure ?_))
      refine wpAny_bind (wpAny_letGo ?_)
      show wpAny _ _ (if n < 0 then _ else _) _ _ _
      rw [if_neg (by omega)]
      show wpAny _ _ (if n ≥ 2 ^ 63 then _ else _) _ _ _
      rw [if_neg (by omega)]
      exact wpAny_bind (wpAny_mkInt (wpAny_pure ⟨_, rfl, ⟨.int n, H', I'.tok _, ⟨_, rfl⟩, q⟩⟩))
    | next => exact False.elim hq
    | brk => exact False.elim hq
    | cont => exact False.elim hq


/-! ### the book -/
abbrev aF (d : Addr) : List (Str × V) := [(("_addresses" : Str), V.ref d)]
theorem aF_get (d : Addr) : (aF d).lookup ("_addresses" : Str) = some (.ref d) := by simp [aF, List.lookup]
theorem aF_no (d : Addr) {m : Str} (h : (m == ("_addresses" : Str)) = false) : (aF d).lookup m = none := by simp [aF, List.lookup, h]
/-- a book stands at p, its dict at d -/
def BkAt (C : Addr) (H : Hp) (p d : Addr) (kvs : List (Key × V)) : Prop := (∃ dx, H p = some (.ins C dx (aF d))) ∧ H d = some (.dK kvs)
/-- what address leaves -/
def addK (kvs : List (Key × V)) (z : Str) : List (Key × V) := match valV kvs (Sum.inr z : Key) with
  | none => putK kvs (Sum.inr z : Key) (.int ((kvs.length : Int) + 1))
  | some _ => kvs
theorem addK_none {kvs : List (Key × V)} {z : Str} (h : valV kvs (Sum.inr z : Key) = none) : addK kvs z = putK kvs (Sum.inr z : Key) (.int ((kvs.length : Int) + 1)) := by
  unfold addK
  rw [h]
theorem addK_some {kvs : List (Key × V)} {z : Str} {v : V} (h : valV kvs (Sum.inr z : Key) = some v) : addK kvs z = kvs := by
  unfold addK
  rw [h]
theorem addK_len (kvs : List (Key × V)) (z : Str) : (addK kvs z).length ≤ kvs.length + 1 := by
  cases h : valV kvs (Sum.inr z : Key) with
  | none => rw [addK_none h, putK_new _ h, List.length_append]; exact Nat.le_refl _
  | some v => rw [addK_some h]; omega
/-- all values are ints -/
def Nums (kvs : List (Key × V)) : Prop := ∀ (k : Key) (v : V), valV kvs k = some v → ∃ i : Int, v = .int i
theorem nums_nil : Nums [] := fun k v h => by cases h
theorem nums_add {kvs : List (Key × V)} (h : Nums kvs) (z : Str) : Nums (addK kvs z) := by
  cases e : valV kvs (Sum.inr z : Key) with
  | none =>
    rw [addK_none e]
    intro k v hv
    rw [valV_put] at hv
    split at hv
    · exact ⟨_, (Option.some.inj hv).symm⟩
    · exact h k v hv
  | some v => rw [addK_some e]; exact h
theorem addK_val {kvs : List (Key × V)} (h : Nums kvs) (z : Str) : ∃ i : Int, valV (addK kvs z) (Sum.inr z : Key) = some (.int i) := by
  cases e : valV kvs (Sum.inr z : Key) with
  | none => exact ⟨_, by rw [addK_none e, valV_put, if_pos rfl]⟩
  | some v =>
    obtain ⟨i, rfl⟩ := h _ _ e
    exact ⟨i, by rw [addK_some e]; exact e⟩
def getK (kvs : List (Key × V)) (z : Str) : V := (valV kvs (Sum.inr z : Key)).getD (.int 0)
theorem getK_int {kvs : List (Key × V)} (h : Nums kvs) (z : Str) : ∃ i : Int, getK kvs z = .int i := by
  unfold getK
  cases e : valV kvs (Sum.inr z : Key) with
  | none => exact ⟨0, rfl⟩
  | some v => exact h _ _ e
theorem szk {n : Nat} (h : n ≤ 1000) : n < sizeLine := small1000 h


/-! ### items and their written form -/
inductive It where
  | non
  | int (i : Int)
  | str (z : Str)
  | tup (xs : List It)
def numC (i : Int) : List Nat := (toString i : Str).cps.toList
mutual
/-- the codes of the written item -/
def encC : It → List Nat
  | .non => [110]
  | .int i => 105 :: (numC i ++ [59])
  | .str z => 116 :: (numC (z.length : Int) ++ (58 :: z.cps.toList))
  | .tup xs => 40 :: (encL xs ++ [41])
def encL : List It → List Nat
  | [] => []
  | d :: ds => encC d ++ encL ds
end
theorem encL_flat : ∀ ds : List It, encL ds = (ds.map encC).flatten
  | [] => rfl
  | d :: ds => by
    show encC d ++ encL ds = _
    rw [encL_flat ds, List.map_cons, List.flatten_cons]
theorem encL_app : ∀ a b : List It, encL (a ++ b) = encL a ++ encL b
  | [], b => rfl
  | x :: a, b => by
    show encC x ++ encL (a ++ b) = encC x ++ encL a ++ encL b
    rw [encL_app a b, List.append_assoc]
theorem encC_pos (d : It) : 1 ≤ (encC d).length := by
  cases d with
  | non => exact Nat.le_refl 1
  | int i => show 1 ≤ (105 :: _).length; simp
  | str z => show 1 ≤ (116 :: _).length; simp
  | tup xs => show 1 ≤ (40 :: _).length; simp
theorem encL_mem : ∀ {ds : List It} {d : It}, d ∈ ds → (encC d).length ≤ (encL ds).length
  | d' :: ds, d, h => by
    show _ ≤ (encC d' ++ encL ds).length
    rw [List.length_append]
    rcases List.mem_cons.mp h with e | e
    · rw [e]; omega
    · have := encL_mem e; omega
mutual
/-- the value v of the heap is the item -/
inductive Dv (K : PySem.W.Frag) (H : Hp) : V → It → Prop
  | non : Dv K H .non .non
  | int (i : Int) : Dv K H (.int i) (.int i)
  | str (z : Str) : Dv K H (.str z) (.str z)
  | tup {a : Addr} {xs : List V} {ds : List It} (h : SqT K H a xs) (r : DvL K H xs ds) : Dv K H (.ref a) (.tup ds)
inductive DvL (K : PySem.W.Frag) (H : Hp) : List V → List It → Prop
  | nil : DvL K H [] []
  | cons {v : V} {vs : List V} {d : It} {ds : List It} (h : Dv K H v d) (r : DvL K H vs ds) : DvL K H (v :: vs) (d :: ds)
end
/-- all but lists stands as it stood -/
def ExN (H H' : Hp) : Prop := ∀ a o, H a = some o → (∀ xs, o ≠ .lst xs) → H' a = some o
theorem exN_t {K : PySem.W.Frag} {H H' : Hp} {a : Addr} {xs : List V} (e : ExN H H') (h : SqT K H a xs) : SqT K H' a xs := by
  rcases h with (h | ⟨o, h⟩) | h
  · exact .inl (.inl (e _ _ h fun _ z => nomatch z))
  · exact .inl (.inr ⟨o, e _ _ h fun _ z => nomatch z⟩)
  · exact .inr h
theorem Ex.n {H H' : Hp} (e : Ex H H') : ExN H H' := fun a o h _ => e a o h
theorem ExN.trans {H H1 H2 : Hp} (a : ExN H H1) (b : ExN H1 H2) : ExN H H2 := fun x o h n => b x o (a x o h n) n
theorem ExN.upd {H : Hp} {p : Addr} {xs : List V} {o : HO} (h : H p = some (.lst xs)) : ExN H (upd H p o) := fun a u e n => by
  rw [upd_ne (fun z => n xs (by rw [z, h] at e; exact (Option.some.inj e).symm))]
  exact e
mutual
theorem Dv.monoN {K : PySem.W.Frag} {H H' : Hp} (e : ExN H H') : ∀ {v : V} {d : It}, Dv K H v d → Dv K H' v d
  | _, _, .non => .non
  | _, _, .int i => .int i
  | _, _, .str z => .str z
  | _, _, .tup h r => .tup (exN_t e h) (DvL.monoN e r)
theorem DvL.monoN {K : PySem.W.Frag} {H H' : Hp} (e : ExN H H') : ∀ {vs : List V} {ds : List It}, DvL K H vs ds → DvL K H' vs ds
  | _, _, .nil => .nil
  | _, _, .cons h r => .cons (Dv.monoN e h) (DvL.monoN e r)
end
theorem Dv.mono {K : PySem.W.Frag} {H H' : Hp} (e : Ex H H') {v : V} {d : It} (h : Dv K H v d) : Dv K H' v d := h.monoN (Ex.n e)
theorem DvL.mono {K : PySem.W.Frag} {H H' : Hp} (e : Ex H H') {vs : List V} {ds : List It} (h : DvL K H vs ds) : DvL K H' vs ds := h.monoN (Ex.n e)
theorem DvL.app {K : PySem.W.Frag} {H : Hp} : ∀ {vs us : List V} {ds es : List It}, DvL K H vs ds → DvL K H us es → DvL K H (vs ++ us) (ds ++ es)
  | _, _, _, _, .nil, h => h
  | _, _, _, _, .cons a r, h => .cons a (r.app h)
theorem DvL.take {K : PySem.W.Frag} {H : Hp} : ∀ {vs : List V} {ds : List It} (n : Nat), DvL K H vs ds → DvL K H (vs.take n) (ds.take n)
  | _, _, 0, _ => .nil
  | _, _, _ + 1, .nil => .nil
  | _, _, n + 1, .cons a r => .cons a (r.take n)
theorem DvL.drop {K : PySem.W.Frag} {H : Hp} : ∀ {vs : List V} {ds : List It} (n : Nat), DvL K H vs ds → DvL K H (vs.drop n) (ds.drop n)
  | _, _, 0, h => h
  | _, _, _ + 1, .nil => .nil
  | _, _, n + 1, .cons _ r => r.drop n
theorem DvL.len {K : PySem.W.Frag} {H : Hp} : ∀ {vs : List V} {ds : List It}, DvL K H vs ds → vs.length = ds.length
  | _, _, .nil => rfl
  | _, _, .cons _ r => congrArg (· + 1) r.len
theorem DvL.at {K : PySem.W.Frag} {H : Hp} : ∀ {vs : List V} {ds : List It}, DvL K H vs ds → ∀ {i : Nat} {v : V} {d : It}, vs[i]? = some v → ds[i]? = some d → Dv K H v d
  | _, _, .cons h _, 0, v, d, e1, e2 => by
    have e1 := Option.some.inj e1
    have e2 := Option.some.inj e2
    subst e1 e2
    exact h
  | _, _, .cons _ r, i + 1, v, d, e1, e2 => r.at (i := i) (by simpa using e1) (by simpa using e2)
/-- depth, width and sizes -/
def It.fit : Nat → It → Prop
  | 0, x => match x with
    | .non => True
    | .int i => -(10 ^ 60) < i ∧ i < 10 ^ 60
    | .str z => z.length ≤ 999999
    | .tup _ => False
  | n + 1, x => match x with
    | .non => True
    | .int i => -(10 ^ 60) < i ∧ i < 10 ^ 60
    | .str z => z.length ≤ 999999
    | .tup xs => xs.length ≤ 1000 ∧ ∀ y ∈ xs, It.fit n y
theorem log60 {i : Int} (h : -(10 ^ 60) < i ∧ i < 10 ^ 60) : i.natAbs.log2 < 1920 := by
  have e60 : (10 : Int) ^ 60 = 1000000000000000000000000000000000000000000000000000000000000 := by decide
  rw [e60] at h
  exact Nat.lt_of_lt_of_le (PySem.Flt.log2_lt_of (k := 256) (by decide) (by omega)) (by decide)
theorem fit_int60 {n : Nat} {i : Int} (h : It.fit n (.int i)) : -(10 ^ 60) < i ∧ i < 10 ^ 60 := by cases n <;> exact h
theorem fit_int {n : Nat} {i : Int} (h : It.fit n (.int i)) : i.natAbs.log2 < 1920 := log60 (fit_int60 h)
theorem fit_str {n : Nat} {z : Str} (h : It.fit n (.str z)) : z.length ≤ 999999 := by cases n <;> exact h
theorem It.fit_mono : ∀ {n m : Nat} {d : It}, It.fit n d → n ≤ m → It.fit m d
  | n, m, .non, _, _ => by cases m <;> trivial
  | n, m, .int i, h, _ => by
    have := fit_int60 h
    cases m <;> exact this
  | n, m, .str z, h, _ => by
    have := fit_str h
    cases m <;> exact this
  | 0, m, .tup xs, h, _ => h.elim
  | n + 1, 0, .tup xs, h, e => by omega
  | n + 1, m + 1, .tup xs, h, e => ⟨h.1, fun y hy => It.fit_mono (h.2 y hy) (by omega)⟩
def spEnc (K : PySem.W.Frag) (n : Nat) : Sp := fun vs H Q _ => ∃ (v : V) (d : It), vs = [v] ∧ Dv K H v d ∧ d.fit n ∧ (encC d).length ≤ 16000000 ∧ ∀ H', Ex H H' → Q (.str ⟨(encC d).toArray⟩) H'
theorem cv_enc {K : PySem.W.Frag} {n : Nat} {v : V} {d : It} {H : Hp} (h : Dv K H v d) (hf : d.fit n) (hz : (encC d).length ≤ 16000000) : SpV (spEnc K n) [v] H (.str ⟨(encC d).toArray⟩) := fun H1 e Q q E => ⟨v, d, rfl, h.mono e, hf, hz, fun H2 e2 => q H2 e2⟩
/-- '(' + ''.join([f(part) for part in item]) + ')' -/
theorem ev_parts {K : PySem.W.Frag} {σ : L2.St} {H : Hp} {te tl : TE} {j : Nat} {vs : List Nat} {a : Addr} {xs : List V} {ds : List It} {n : Nat} (hl : Ev tl σ H (.ref a)) (h : SqT K H a xs) (r : DvL K H xs ds) (hf : It.fit (n + 1) (.tup ds)) (hz : (encC (.tup ds)).length ≤ 16000000)
    (hw : ∀ x, wipe ((wipe σ vs).set j (some x)) vs = wipe σ vs)
    (he : ∀ (x : V) (d : It) H1, Ex H H1 → Dv K H1 x d → d.fit n → (encC d).length ≤ 16000000 → Ev te ((wipe σ vs).set j (some x)) H1 (.str ⟨(encC d).toArray⟩)) :
    Ev (tOp (fun x y H Q => ∃ i j, x = V.str i ∧ y = V.str j ∧ i.length + j.length ≤ sizeLine ∧ Q (.str (i ++ j)) H) (tOp (fun x y H Q => ∃ i j, x = V.str i ∧ y = V.str j ∧ i.length + j.length ≤ sizeLine ∧ Q (.str (i ++ j)) H) (tC (.str (Str.ofString "(")))
      (tM1 (fun x xs H Q => ∃ a p, ∃ ys : List Str, x = .str a ∧ xs = [.ref p] ∧ (SqL K H p (ys.map V.str) ∨ SqT K H p (ys.map V.str)) ∧ (ys.map (·.length)).sum + ys.length * a.length ≤ 16777216 ∧ Q (.str (Txt.join a ys)) H) (tC (.str (Str.ofString ""))) (tLc (iTup K tl) (gName j) tYes te vs)))
      (tC (.str (Str.ofString ")")))) σ H (.str ⟨(encC (.tup ds)).toArray⟩) := by
  have ez : (encC (.tup ds)).length = (encL ds).length + 2 := by
    show (40 :: (encL ds ++ [41])).length = _
    rw [List.length_cons, List.length_append] <;> rfl
  have ef : (encL ds) = (ds.map encC).flatten := encL_flat ds
  have ej : Txt.join (Str.ofString "") ((ds.map encC).map fun c => (⟨c.toArray⟩ : Str)) = ⟨(encL ds).toArray⟩ := by rw [join_codes, ef]
  have e1 : (⟨(encC (.tup ds)).toArray⟩ : Str) = Str.ofString "(" ++ Txt.join (Str.ofString "") ((ds.map encC).map fun c => (⟨c.toArray⟩ : Str)) ++ Str.ofString ")" := by
    refine str_ext ?_
    rw [ej]
    have a1 : (Str.ofString "(").cps.toList = [40] := by decide +kernel
    have a2 : (Str.ofString ")").cps.toList = [41] := by decide +kernel
    rw [codes_app (codes_app a1 rfl) a2]
    show 40 :: (encL ds ++ [41]) = _
    simp
  rw [e1]
  have l1 : (Str.ofString "(").length = 1 := by decide +kernel
  have l2 : (Str.ofString ")").length = 1 := by decide +kernel
  have l3 : (Str.ofString "(" ++ Txt.join (Str.ofString "") ((ds.map encC).map fun c => (⟨c.toArray⟩ : Str))).length = 1 + (encL ds).length := by
    rw [ej, str_len, codes_app (x := [40]) (by decide +kernel) rfl, List.length_append]
    simp
  have l4 : (Txt.join (Str.ofString "") ((ds.map encC).map fun c => (⟨c.toArray⟩ : Str))).length = (encL ds).length := by
    rw [ej, str_len]
  refine ev_addS (ev_addS ev_c (ev_joinN (K := K) ev_c (el_mapT (K := K) hl h ?_ hw ?_ fun i x y hx hy H1 ex => ?_) ?_) ?_) ev_c ?_
  · have := hf.1
    rw [r.len]; omega
  · rw [List.length_map, List.length_map, List.length_map, r.len]
  · rw [List.getElem?_map, List.getElem?_map, List.getElem?_map] at hy
    cases e : ds[i]? with
    | none =>
      rw [e] at hy
      cases hy
    | some d =>
      rw [e] at hy
      have ey : y = .str ⟨(encC d).toArray⟩ := (Option.some.inj hy).symm
      have hm := List.mem_of_getElem? e
      rw [ey]
      have := encL_mem hm
      exact he x d H1 ex ((r.at hx e).mono ex) (hf.2 d hm) (by omega)
  · rw [sum_codes, ← ef]
    show _ + _ * 0 ≤ 16777216
    omega
  · rw [l1, l4]; omega
  · rw [l3, l2]; omega
/-- return f'i{item};' -/
theorem enc_int {n : Nat} {i : Int} {σ : L2.St} {H : Hp} {D : Ends} (hf : It.fit n (.int i)) (hz : (encC (.int i)).length ≤ 16000000) (q : ∀ H1, Ex H H1 → D.rt (.str ⟨(encC (.int i)).toArray⟩) H1) {te : TE} (he : Ev te σ H (.int i) := by exact ev_var rfl) :
    tRet (fun σ H Q => tJs [tC (.str (Str.ofString "i")), tFmt te, tC (.str (Str.ofString ";"))] Str.empty σ H fun out H1 => Q (.str out) H1) D σ H := by
  have a1 : (Str.ofString "i").cps.toList = [105] := by decide +kernel
  have a2 : (Str.ofString ";").cps.toList = [59] := by decide +kernel
  have a0 : (Str.empty).cps.toList = [] := by decide +kernel
  have ey : ([Str.ofString "i", (toString i : Str), Str.ofString ";"].foldl (· ++ ·) Str.empty : Str) = ⟨(encC (.int i)).toArray⟩ := mk_of (by
    show (((Str.empty ++ Str.ofString "i") ++ (toString i : Str)) ++ Str.ofString ";").cps.toList = _
    rw [codes_app (codes_app (codes_app a0 a1) rfl) a2]
    show _ = 105 :: (numC i ++ [59])
    simp [numC])
  refine s_ret (ev_is (ev_joined (.cons ev_c (.cons (ev_fmtI he (fit_int hf)) (.cons ev_c .nil))) ?_) (congrArg V.str ey)) q
  have e1 : (encC (.int i)).length = 2 + (numC i).length := by
    show (105 :: (numC i ++ [59])).length = _
    rw [List.length_cons, List.length_append, List.length_singleton]
    omega
  have e2 : ([Str.ofString "i", (toString i : Str), Str.ofString ";"].map (·.length)).sum = 1 + ((numC i).length + (1 + 0)) := by
    show (Str.ofString "i").length + ((toString i : Str).length + ((Str.ofString ";").length + 0)) = _
    rw [str_len, str_len, str_len, a1, a2] <;> rfl
  omega
/-- return f't{len(item)}:{item}' -/
theorem enc_str {n : Nat} {z : Str} {σ : L2.St} {H : Hp} {D : Ends} (hf : It.fit n (.str z)) (hz : (encC (.str z)).length ≤ 16000000) (q : ∀ H1, Ex H H1 → D.rt (.str ⟨(encC (.str z)).toArray⟩) H1) {te : TE} (he : Ev te σ H (.str z) := by exact ev_var rfl) :
    tRet (fun σ H Q => tJs [tC (.str (Str.ofString "t")), tFmt (tCB (fun xs H Q => ∃ z, xs = [V.str z] ∧ z.length ≤ sizeLine ∧ Q (.int z.length) H) (tCons te tNil)), tC (.str (Str.ofString ":")), tFmt te] Str.empty σ H fun out H1 => Q (.str out) H1) D σ H := by
  have a1 : (Str.ofString "t").cps.toList = [116] := by decide +kernel
  have a2 : (Str.ofString ":").cps.toList = [58] := by decide +kernel
  have a0 : (Str.empty).cps.toList = [] := by decide +kernel
  have hl := fit_str hf
  have hl2 : z.length ≤ sizeLine := sizeOk (by omega)
  have hs : ((z.length : Int)).natAbs.log2 < 1920 := Nat.lt_of_lt_of_le (PySem.Flt.log2_lt_of (k := 64) (by decide) (by omega)) (by decide)
  have ey : ([Str.ofString "t", (toString (z.length : Int) : Str), Str.ofString ":", z].foldl (· ++ ·) Str.empty : Str) = ⟨(encC (.str z)).toArray⟩ := mk_of (by
    show ((((Str.empty ++ Str.ofString "t") ++ (toString (z.length : Int) : Str)) ++ Str.ofString ":") ++ z).cps.toList = _
    rw [codes_app (codes_app (codes_app (codes_app a0 a1) rfl) a2) rfl]
    show _ = 116 :: (numC (z.length : Int) ++ (58 :: z.cps.toList))
    simp [numC])
  refine s_ret (ev_is (ev_joined (.cons ev_c (.cons (ev_fmtI (fun H1 e Q q => he H1 e _ fun H2 e2 => ⟨z, rfl, hl2, q H2 e2⟩) hs) (.cons ev_c (.cons (ev_fmtS he (by omega)) .nil)))) ?_) (congrArg V.str ey)) q
  have e1 : (encC (.str z)).length = 2 + (numC (z.length : Int)).length + z.cps.toList.length := by
    show (116 :: (numC (z.length : Int) ++ (58 :: z.cps.toList))).length = _
    rw [List.length_cons, List.length_append, List.length_cons]
    omega
  have e2 : ([Str.ofString "t", (toString (z.length : Int) : Str), Str.ofString ":", z].map (·.length)).sum = 1 + ((numC (z.length : Int)).length + (1 + (z.cps.toList.length + 0))) := by
    show (Str.ofString "t").length + ((toString (z.length : Int) : Str).length + ((Str.ofString ":").length + (z.length + 0))) = _
    rw [str_len, str_len (toString _ : Str), str_len (Str.ofString ":"), str_len z, a1, a2] <;> rfl
  omega

def rCatS' : R2 := fun x y H Q => ∃ i j, x = V.str i ∧ y = V.str j ∧ i.length + j.length ≤ sizeLine ∧ Q (.str (i ++ j)) H
/-- return 'i' + str(item) + ';' -/
theorem wr_int {n : Nat} {i : Int} {σ : L2.St} {H : Hp} {D : Ends} (hf : It.fit n (.int i)) (hz : (encC (.int i)).length ≤ 16000000) (q : ∀ H1, Ex H H1 → D.rt (.str ⟨(encC (.int i)).toArray⟩) H1) {te : TE} (he : Ev te σ H (.int i) := by exact ev_var rfl) :
    tRet (tOp rCatS' (tOp rCatS' (tC (.str (Str.ofString "i"))) (tCB (fun xs H Q => ∃ i : Int, xs = [V.int i] ∧ i.natAbs.log2 < 1920 ∧ Q (.str (toString i)) H) (tCons te tNil))) (tC (.str (Str.ofString ";")))) D σ H := by
  have a1 : (Str.ofString "i").cps.toList = [105] := by decide +kernel
  have a2 : (Str.ofString ";").cps.toList = [59] := by decide +kernel
  have ey : ((Str.ofString "i" ++ (toString i : Str)) ++ Str.ofString ";") = (⟨(encC (.int i)).toArray⟩ : Str) := mk_of (by
    rw [codes_app (codes_app a1 rfl) a2]
    show _ = 105 :: (numC i ++ [59])
    simp [numC])
  have e1 : (encC (.int i)).length = 2 + (numC i).length := by
    show (105 :: (numC i ++ [59])).length = _
    rw [List.length_cons, List.length_append, List.length_singleton]
    omega
  have e3 : (toString i : Str).length = (numC i).length := str_len _
  have e2 : (Str.ofString "i" ++ (toString i : Str)).length = 1 + (numC i).length := by
    rw [str_len, codes_app a1 rfl, List.length_append] <;> rfl
  have l1 : (Str.ofString "i").length = 1 := by decide +kernel
  have l2 : (Str.ofString ";").length = 1 := by decide +kernel
  refine s_ret (ev_is (ev_addS (ev_addS ev_c (ev_strI he (fit_int hf)) ?_) ev_c ?_) (congrArg V.str ey)) q
  · rw [l1, e3]; omega
  · rw [e2, l2]; omega
/-- return 't' + str(len(item)) + ':' + item -/
theorem wr_str {n : Nat} {z : Str} {σ : L2.St} {H : Hp} {D : Ends} (hf : It.fit n (.str z)) (hz : (encC (.str z)).length ≤ 16000000) (q : ∀ H1, Ex H H1 → D.rt (.str ⟨(encC (.str z)).toArray⟩) H1) {te : TE} (he : Ev te σ H (.str z) := by exact ev_var rfl) :
    tRet (tOp rCatS' (tOp rCatS' (tOp rCatS' (tC (.str (Str.ofString "t"))) (tCB (fun xs H Q => ∃ i : Int, xs = [V.int i] ∧ i.natAbs.log2 < 1920 ∧ Q (.str (toString i)) H) (tCons (tCB (fun xs H Q => ∃ z, xs = [V.str z] ∧ z.length ≤ sizeLine ∧ Q (.int z.length) H) (tCons te tNil)) tNil))) (tC (.str (Str.ofString ":")))) te) D σ H := by
  have a1 : (Str.ofString "t").cps.toList = [116] := by decide +kernel
  have a2 : (Str.ofString ":").cps.toList = [58] := by decide +kernel
  have hl := fit_str hf
  have hl2 : z.length ≤ sizeLine := sizeOk (by omega)
  have hs : ((z.length : Int)).natAbs.log2 < 1920 := Nat.lt_of_lt_of_le (PySem.Flt.log2_lt_of (k := 64) (by decide) (by omega)) (by decide)
  have ey : (((Str.ofString "t" ++ (toString (z.length : Int) : Str)) ++ Str.ofString ":") ++ z) = (⟨(encC (.str z)).toArray⟩ : Str) := mk_of (by
    rw [codes_app (codes_app (codes_app a1 rfl) a2) rfl]
    show _ = 116 :: (numC (z.length : Int) ++ (58 :: z.cps.toList))
    simp [numC])
  have e1 : (encC (.str z)).length = 2 + (numC (z.length : Int)).length + z.cps.toList.length := by
    show (116 :: (numC (z.length : Int) ++ (58 :: z.cps.toList))).length = _
    rw [List.length_cons, List.length_append, List.length_cons]
    omega
  have e3 : (toString (z.length : Int) : Str).length = (numC (z.length : Int)).length := str_len _
  have e2 : (Str.ofString "t" ++ (toString (z.length : Int) : Str)).length = 1 + (numC (z.length : Int)).length := by
    rw [str_len, codes_app a1 rfl, List.length_append] <;> rfl
  have e4 : ((Str.ofString "t" ++ (toString (z.length : Int) : Str)) ++ Str.ofString ":").length = 2 + (numC (z.length : Int)).length := by
    rw [str_len, codes_app (codes_app a1 rfl) a2, List.length_append, List.length_append]
    show 1 + _ + 1 = _
    unfold numC
    omega
  have l1 : (Str.ofString "t").length = 1 := by decide +kernel
  have l2 : (Str.ofString ":").length = 1 := by decide +kernel
  have l4 := str_len z
  refine s_ret (ev_is (ev_addS (ev_addS (ev_addS ev_c (ev_strI (fun H1 e Q q => he H1 e _ fun H2 e2 => ⟨z, rfl, hl2, q H2 e2⟩) hs) ?_) ev_c ?_) he ?_) (congrArg V.str ey)) q
  · rw [l1, e3]; omega
  · rw [e2, l2]; omega
  · rw [e4]; omega
/-! ### sizes -/
theorem numC_len {i : Int} (h : i.natAbs.log2 < 1920) : (numC i).length ≤ 1921 := by
  have e := int_text_length_le (k := 1920) (by decide) h
  have e2 : (numC i).length = (toString i : Str).length := (str_len _).symm
  rw [e2]
  show (Str.ofString (toString i)).length ≤ 1921
  rw [PySem.ofString_length]
  exact e
theorem enc_int_len {i : Int} (h : i.natAbs.log2 < 1920) : (encC (.int i)).length ≤ 1923 := by
  have := numC_len h
  show (105 :: (numC i ++ [59])).length ≤ _
  rw [List.length_cons, List.length_append, List.length_singleton]
  omega
theorem enc_str_len {z : Str} (h : z.length ≤ 1000000) : (encC (.str z)).length ≤ 1923 + z.length := by
  have hs : ((z.length : Int)).natAbs.log2 < 1920 := Nat.lt_of_lt_of_le (PySem.Flt.log2_lt_of (k := 64) (by decide) (by omega)) (by decide)
  have := numC_len hs
  have e := str_len z
  show (116 :: (numC (z.length : Int) ++ (58 :: z.cps.toList))).length ≤ _
  rw [List.length_cons, List.length_append, List.length_cons]
  omega
/-- a value of the document: None, an int below 10 ** 60, a text of some signs -/
def It.sc : It → Prop
  | .non => True
  | .int i => -(10 ^ 60) < i ∧ i < 10 ^ 60
  | .str z => z.length ≤ 200
  | .tup _ => False
def vz : It → V
  | .non => .non
  | .int i => .int i
  | .str z => .str z
  | .tup _ => .non
theorem It.sc_fit {d : It} (h : d.sc) (n : Nat) : d.fit n := by
  cases d with
  | non => cases n <;> trivial
  | int i => cases n <;> exact h
  | str z =>
    have h : z.length ≤ 200 := h
    cases n <;> (show z.length ≤ 999999; omega)
  | tup xs => exact h.elim
theorem It.sc_len {d : It} (h : d.sc) : (encC d).length ≤ 2200 := by
  cases d with
  | non => show 1 ≤ 2200; decide
  | int i => exact Nat.le_trans (enc_int_len (log60 h)) (by decide)
  | str z =>
    have h : z.length ≤ 200 := h
    have := enc_str_len (z := z) (by omega)
    omega
  | tup xs => exact h.elim
theorem Dv.sc {K : PySem.W.Frag} {H : Hp} {d : It} (h : d.sc) : Dv K H (vz d) d := by
  cases d with
  | non => exact .non
  | int i => exact .int i
  | str z => exact .str z
  | tup xs => exact h.elim
theorem DvL.sc {K : PySem.W.Frag} {H : Hp} : ∀ {ds : List It}, (∀ d ∈ ds, d.sc) → DvL K H (ds.map vz) ds
  | [], _ => .nil
  | d :: ds, h => .cons (.sc (h d (List.mem_cons_self ..))) (.sc fun x hx => h x (List.mem_cons_of_mem _ hx))
theorem encL_len : ∀ {ds : List It} {m : Nat}, (∀ d ∈ ds, (encC d).length ≤ m) → (encL ds).length ≤ ds.length * m
  | [], m, _ => Nat.zero_le _
  | d :: ds, m, h => by
    have h1 := h d (List.mem_cons_self ..)
    have h2 := encL_len (ds := ds) (m := m) fun x hx => h x (List.mem_cons_of_mem _ hx)
    show (encC d ++ encL ds).length ≤ (ds.length + 1) * m
    rw [List.length_append, Nat.add_mul]
    omega
theorem enc_tup_len (ds : List It) : (encC (.tup ds)).length = (encL ds).length + 2 := by
  show (40 :: (encL ds ++ [41])).length = _
  rw [List.length_cons, List.length_append] <;> rfl


/-- the digest -/
def digS (t : Int) (c : Nat) : Int := (31 * t + (c : Int)) % 1000003
def digZ (l : List Nat) : Int := l.foldl digS 7
theorem digZ_succ {l : List Nat} {i c : Nat} (h : l[i]? = some c) : digZ (l.take (i + 1)) = (31 * digZ (l.take i) + (c : Int)) % 1000003 := by
  unfold digZ
  rw [List.take_add_one, h]
  show ((l.take i) ++ [c]).foldl digS 7 = _
  rw [List.foldl_append] <;> rfl
theorem digZ_ge : ∀ (l : List Nat), 0 ≤ digZ l ∧ digZ l < 1000003 := by
  intro l
  unfold digZ
  have key : ∀ (l : List Nat) (t : Int), 0 ≤ t ∧ t < 1000003 → 0 ≤ l.foldl digS t ∧ l.foldl digS t < 1000003 := by
    intro l
    induction l with
    | nil => exact fun t h => h
    | cons a r ih => exact fun t _ => ih (digS t a) ⟨Int.emod_nonneg (31 * t + (a : Int)) (by decide : (1000003 : Int) ≠ 0), Int.emod_lt_of_pos (31 * t + (a : Int)) (by decide : (0 : Int) < 1000003)⟩
  exact key l 7 ⟨by decide, by decide⟩
def spDig : Sp := fun vs H Q _ => ∃ z : Str, vs = [.str z] ∧ ∀ H', Ex H H' → Q (.int (digZ z.cps.toList)) H'
theorem cv_dig {z : Str} {H : Hp} : SpV spDig [.str z] H (.int (digZ z.cps.toList)) := fun H1 e Q q E => ⟨z, rfl, fun H2 e2 => q H2 e2⟩


/-! ### what is read back -/
theorem numC_nat (n : Nat) : numC ((n : Nat) : Int) = TL.numL n := TL.tl_num n
theorem neg_text (n : Nat) : (toString (Int.negSucc n) : String) = "-" ++ toString ((n + 1 : Nat) : Int) := rfl
theorem ofString_app (a b : String) : Str.ofString (a ++ b) = Str.ofString a ++ Str.ofString b := by
  refine str_ext ?_
  rw [codes_app (signs_ofString a) (signs_ofString b), signs_ofString, String.toList_append, List.map_append]
theorem numC_neg (n : Nat) : numC (Int.negSucc n) = 45 :: TL.numL (n + 1) := by
  show (Str.ofString (toString (Int.negSucc n))).cps.toList = _
  rw [neg_text, ofString_app, codes_app (x := [45]) (by decide +kernel) rfl]
  exact congrArg (List.cons 45) (numC_nat (n + 1))
/-- digits without a leading zero -/
structure Digs (ds : List Nat) (most : Nat) : Prop where
  all : ∀ c ∈ ds, 48 ≤ c ∧ c ≤ 57
  ne : ds ≠ []
  len : ds.length ≤ most
  lead : ds.length = 1 ∨ ds.head? ≠ some 48
theorem numL_head : ∀ n : Nat, (TL.numL n).length = 1 ∨ (TL.numL n).head? ≠ some 48 := by
  intro n
  induction n using Nat.strongRecOn with
  | _ n ih =>
    by_cases h : n < 10
    · exact .inl (by rw [TL.numL_lt h] <;> rfl)
    · refine .inr ?_
      have h10 : 10 ≤ n := by omega
      rw [TL.numL_step h10]
      have hne := TL.numL_ne (n / 10)
      cases e : TL.numL (n / 10) with
      | nil => exact absurd e hne
      | cons c r =>
        show some c ≠ some 48
        rcases ih (n / 10) (by omega) with h1 | h1
        · rw [e] at h1
          have hr : r = [] := List.length_eq_zero_iff.mp (by simpa using h1)
          subst hr
          have hq : n / 10 < 10 := by
            by_cases hq : n / 10 < 10
            · exact hq
            · rw [TL.numL_step (by omega)] at e
              have := congrArg List.length e
              have h3 := List.length_pos_iff.mpr (TL.numL_ne (n / 10 / 10))
              rw [List.length_append, List.length_singleton, List.length_singleton] at this
              omega
          rw [TL.numL_lt hq] at e
          have e2 : 48 + n / 10 = c := by simpa using e
          intro z
          have := Option.some.inj z
          omega
        · rw [e] at h1
          exact h1
theorem digs_num {n most : Nat} (hm : 0 < most) (h : n < 10 ^ most) : Digs (TL.numL n) most := ⟨TL.numL_digits n, TL.numL_ne n, TL.numL_len hm h, numL_head n⟩
theorem slice_app {l a b c : List Nat} (h : l = a ++ (b ++ c)) : (l.drop a.length).take b.length = b := by
  rw [h, List.drop_left, List.take_left]
/-- text[i:j] of a text that is known there -/
theorem cutS_at {z : Str} {a b c : List Nat} (h : z.cps.toList = a ++ (b ++ c)) : cutS z (some (a.length : Int)) (some ((a.length + b.length : Nat) : Int)) = ⟨b.toArray⟩ := by
  have el : z.length = a.length + (b.length + c.length) := by rw [str_len, h, List.length_append, List.length_append]
  unfold cutS
  rw [HT.sIx_nat, HT.sIx_nat, Nat.min_eq_left (by omega), Nat.min_eq_left (by omega), Nat.add_sub_cancel_left, slice_app h]
theorem int_at {i : Int} (h : -(10 ^ 60) < i ∧ i < 10 ^ 60) : intText? (⟨(numC i).toArray⟩ : Str) = some i ∧ (⟨(numC i).toArray⟩ : Str).length ≤ 640 := by
  have e60 : (10 : Int) ^ 60 = 1000000000000000000000000000000000000000000000000000000000000 := by decide
  have n60 : (10 : Nat) ^ 60 = 1000000000000000000000000000000000000000000000000000000000000 := by decide
  rw [e60] at h
  cases i with
  | ofNat n =>
    have hn : n < 10 ^ 60 := by
      rw [n60]
      have := h.2
      simp at this
      omega
    have hl := TL.numL_len (by decide) hn
    have e : (⟨(numC (Int.ofNat n)).toArray⟩ : Str) = Str.ofString (toString ((n : Nat) : Int)) := str_ext rfl
    refine ⟨?_, ?_⟩
    · rw [e]
      exact TL.int_num (by omega)
    · rw [str_len]
      show (numC ((n : Nat) : Int)).length ≤ 640
      rw [numC_nat]
      omega
  | negSucc n =>
    have hn : n + 1 < 10 ^ 60 := by
      rw [n60]
      have := h.1
      omega
    have hl := TL.numL_len (by decide) hn
    have ec : (⟨(numC (Int.negSucc n)).toArray⟩ : Str).cps.toList = 45 :: TL.numL (n + 1) := numC_neg n
    have ln : (⟨(numC (Int.negSucc n)).toArray⟩ : Str).length = (TL.numL (n + 1)).length + 1 := by rw [str_len, ec] <;> rfl
    refine ⟨?_, by omega⟩
    have := PySem.intText_neg ec (TL.numL_digits _) (TL.numL_ne _) (by omega)
    rw [TL.numL_val] at this
    rw [this]
    exact congrArg some (by omega)
/-! ### a chain of two comparisons of texts -/
theorem le_str1 (a c : Nat) : (!decide ((⟨#[c]⟩ : Str).cps.toList < (⟨#[a]⟩ : Str).cps.toList)) = decide (a ≤ c) := by
  have e : ((⟨#[c]⟩ : Str).cps.toList < (⟨#[a]⟩ : Str).cps.toList) ↔ c < a := by
    show ([c] : List Nat) < [a] ↔ c < a
    constructor
    · intro h
      cases h with
      | rel h => exact h
      | cons h => cases h
    · intro h
      exact List.Lex.rel h
  by_cases h : c < a
  · rw [decide_eq_true (e.mpr h), decide_eq_false (by omega)] <;> rfl
  · rw [decide_eq_false (fun z => h (e.mp z)), decide_eq_true (by omega)] <;> rfl
abbrev rLeS : R2 := fun x y H Q => ∃ i j, x = .str i ∧ y = .str j ∧ Q (.bl (!decide (j.cps.toList < i.cps.toList))) H
theorem et_dig {σ : L2.St} {H : Hp} {tb : TE} {c : Nat} (hb : Ev tb σ H (.str ⟨#[c]⟩)) : EvT (tTest (tChain rLeS rLeS (tC (.str (Str.ofString "0"))) tb (tC (.str (Str.ofString "9"))))) σ H (decide (48 ≤ c ∧ c ≤ 57)) := fun H1 e Q q => by
  have e0 : (Str.ofString "0") = ⟨#[48]⟩ := by decide +kernel
  have e9 : (Str.ofString "9") = ⟨#[57]⟩ := by decide +kernel
  refine hb H1 e _ fun H2 e2 => ⟨_, _, rfl, rfl, decide (48 ≤ c), ?_, ?_⟩
  · rw [e0]
    exact congrArg V.bl (le_str1 48 c)
  · by_cases h : 48 ≤ c
    · rw [decide_eq_true h]
      refine iteT ⟨_, _, rfl, rfl, decide (c ≤ 57), ?_, ?_⟩
      · rw [e9]
        exact congrArg V.bl (le_str1 c 57)
      · have : decide (48 ≤ c ∧ c ≤ 57) = decide (c ≤ 57) := decide_eq_decide.mpr ⟨fun z => z.2, fun z => ⟨h, z⟩⟩
        rw [← this]
        exact q H2 e2
    · rw [decide_eq_false h]
      refine iteF ⟨false, rfl, ?_⟩
      have : decide (48 ≤ c ∧ c ≤ 57) = false := decide_eq_false fun z => h z.1
      rw [← this]
      exact q H2 e2
theorem str1_eq {a c : Nat} : decide ((⟨#[c]⟩ : Str) = ⟨#[a]⟩) = decide (c = a) := decide_eq_decide.mpr ⟨fun h => by
  have := congrArg (fun s : Str => s.cps.toList) h
  simpa using this, fun h => by rw [h]⟩
def spDec (K : PySem.W.Frag) : Sp := fun vs H Q _ => ∃ (z : Str) (d : It), vs = [.str z] ∧ z = ⟨(encC d).toArray⟩ ∧ d.fit 12 ∧ (encC d).length ≤ 16000000 ∧ ∀ v H', Ex H H' → Dv K H' v d → Q v H'


/-! ### kinds -/
def kIn (k : Str) (xs : List String) : Bool := inV (.str k) (xs.map fun x => V.str (Str.ofString x))
def baseT (k : Str) : Str := if kIn k ["int", "int?"] then Str.ofString "int" else Str.ofString "text"
theorem ev_kinU {K : PySem.W.Frag} {σ : L2.St} {H : Hp} {ta tb : TE} {k : Str} {xs : List String} (ha : Ev ta σ H (.str k)) (hb : EvU tb σ H (xs.map fun x => V.str (Str.ofString x))) (hf : (xs.map fun x => V.str (Str.ofString x)).all flatV = true := by rfl) : Ev (tOp (rIn K false) ta tb) σ H (.bl (kIn k xs)) := ev_inU ha hb rfl hf
theorem ev_kinL {K : PySem.W.Frag} {σ : L2.St} {H : Hp} {ta tb : TE} {k : Str} {xs : List String} (ha : Ev ta σ H (.str k)) (hb : EvL tb σ H (xs.map fun x => V.str (Str.ofString x))) (hf : (xs.map fun x => V.str (Str.ofString x)).all flatV = true := by rfl) : Ev (tOp (rIn K false) ta tb) σ H (.bl (kIn k xs)) := ev_opL ha hb fun _ _ h _ => rv_isL (sq_of h) rfl hf
/-- None, an integer or a text -/
inductive Sc : V → Prop
  | non : Sc .non
  | int (i : Int) : Sc (.int i)
  | str (z : Str) : Sc (.str z)
def accB (k : Str) : V → Bool
  | .non => kIn k ["int?", "text?"]
  | .int _ => decide (baseT k = Str.ofString "int")
  | _ => !decide (baseT k = Str.ofString "int")


/-! ### names: a comprehension over a text, all, chains -/
theorem el_lcS {σ : L2.St} {H : Hp} {te tl : TE} {z : Str} {j : Nat} {vs : List Nat} {ys : List V} (h : Ev te σ H (.str z)) (hz : z.cps.toList.length ≤ 40000) (hw : ∀ x, wipe ((wipe σ vs).set j (some x)) vs = wipe σ vs) (hl : ys.length = z.cps.toList.length)
    (he : ∀ (i c : Nat) (y : V), z.cps.toList[i]? = some c → ys[i]? = some y → ∀ H1, Ex H H1 → Ev tl ((wipe σ vs).set j (some (.str ⟨#[c]⟩))) H1 y) : EvL (tLc (iStr te) (gName j) tYes tl vs) σ H ys := fun H0 e Q q => h H0 e _ fun H1 e1 => ⟨z, rfl, fun D hD => by
  have g : given z.cps.toList.length (fun _ => true) (fun i => ys.getD i .non) = ys := given_all hl fun i hi => by
    have hi2 : i < ys.length := by omega
    rw [List.getElem?_eq_getElem hi2, List.getD_eq_getElem?_getD, List.getElem?_eq_getElem hi2] <;> rfl
  refine ⟨fun i m H' => m = z.cps.toList.length - i ∧ i ≤ z.cps.toList.length ∧ Cw H1 (fun _ => true) (fun i => ys.getD i .non) D i H', ⟨_, rfl, Nat.zero_le _, hD, Ex.new hD, upd_same⟩, ?_⟩
  rintro i m H' ⟨rfl, hi, p⟩
  by_cases hlt : i < z.cps.toList.length
  · refine .inr ⟨(by show i < z.cps.size; simpa using hlt), Cw H1 (fun _ => true) (fun i => ys.getD i .non) D (i + 1), fun H2 p2 => ⟨_, by omega, rfl, hlt, p2⟩, fun x H2 y => ?_⟩
    obtain ⟨rfl, c, hc, rfl⟩ := y
    have hc' : z.cps.toList[i]? = some c := by simpa using hc
    have hi2 : i < ys.length := by omega
    have hy : ys[i]? = some (ys.getD i .non) := by rw [List.getElem?_eq_getElem hi2, List.getD_eq_getElem?_getD, List.getElem?_eq_getElem hi2] <;> rfl
    exact ⟨hw _, cw_turn p (by omega) (fun H3 e3 Q q => q H3 (Ex.refl H3)) fun _ => (he i c _ hc' hy H1 (e.trans e1))⟩
  · have ei : i = z.cps.toList.length := by omega
    subst ei
    refine .inl ⟨(by show z.cps.size ≤ z.cps.toList.length; simp), ?_⟩
    have p2 := p.2.2
    rw [g] at p2
    exact q D H' (fresh_back e1 p.1) (e1.trans p.2.1) p2⟩
theorem ev_allN {K : PySem.W.Frag} {σ : L2.St} {H : Hp} {te : TE} {bs : List Bool} (h : EvL te σ H (bs.map V.bl)) : Ev (tCB (rAll K) (tCons te tNil)) σ H (.bl (bs.all id)) := fun H1 e Q q =>
  h H1 e _ fun p H2 _ e2 hp => ⟨p, bs, rfl, sq_of hp, q H2 e2⟩
theorem ev_chainI {f g : Int → Int → V} {σ : L2.St} {H : Hp} {tb : TE} {i j k : Int} {a b : Bool} (hb : Ev tb σ H (.int j)) (hf : f i j = .bl a) (hg : g j k = .bl b) : Ev (tChain (rI0 f) (rI0 g) (tC (.int i)) tb (tC (.int k))) σ H (.bl (a && b)) := fun H1 e Q q =>
  hb H1 e _ fun H2 e2 => ⟨i, j, rfl, rfl, a, hf, by
    cases a with
    | true => exact iteT ⟨j, k, rfl, rfl, by rw [hg]; exact q H2 e2⟩
    | false => exact iteF (q H2 e2)⟩
theorem ev_chainS {σ : L2.St} {H : Hp} {tb : TE} {x y c : Nat} {sx sy : Str} (hx : sx = ⟨#[x]⟩) (hy : sy = ⟨#[y]⟩) (hb : Ev tb σ H (.str ⟨#[c]⟩)) : Ev (tChain rLeS rLeS (tC (.str sx)) tb (tC (.str sy))) σ H (.bl (decide (x ≤ c ∧ c ≤ y))) := fun H1 e Q q => by
  subst hx hy
  refine hb H1 e _ fun H2 e2 => ⟨_, _, rfl, rfl, decide (x ≤ c), congrArg V.bl (le_str1 x c), ?_⟩
  by_cases h : x ≤ c
  · rw [decide_eq_true h]
    refine iteT ⟨_, _, rfl, rfl, ?_⟩
    rw [le_str1 c y]
    have : decide (x ≤ c ∧ c ≤ y) = decide (c ≤ y) := decide_eq_decide.mpr ⟨fun z => z.2, fun z => ⟨h, z⟩⟩
    rw [← this]
    exact q H2 e2
  · rw [decide_eq_false h]
    refine iteF ?_
    have : decide (x ≤ c ∧ c ≤ y) = false := decide_eq_false fun z => h z.1
    rw [← this]
    exact q H2 e2
def lowerC (c : Nat) : Bool := decide (97 ≤ c ∧ c ≤ 122)
def nameB (z : Str) : Bool := decide (1 ≤ z.length ∧ z.length ≤ 12) && z.cps.toList.all lowerC


/-! ### data of the heap -/
mutual
theorem dp_mono {K : PySem.W.Frag} {H H' : Hp} (e : Ex H H') : ∀ {v : V} {d : PyData}, Dp K H v d → Dp K H' v d
  | _, _, .non => .non
  | _, _, .bl b => .bl b
  | _, _, .int i => .int i
  | _, _, .str z => .str z
  | _, _, .lst h r => .lst (ex_l e h) (dpa_mono e r)
  | _, _, .tup h r => .tup (ex_t e h) (dpa_mono e r)
theorem dpa_mono {K : PySem.W.Frag} {H H' : Hp} (e : Ex H H') : ∀ {vs : List V} {ds : List PyData}, DpAll K H vs ds → DpAll K H' vs ds
  | _, _, .nil => .nil
  | _, _, .cons h r => .cons (dp_mono e h) (dpa_mono e r)
end
theorem dpa_len {K : PySem.W.Frag} {H : Hp} : ∀ {vs : List V} {ds : List PyData}, DpAll K H vs ds → vs.length = ds.length
  | _, _, .nil => rfl
  | _, _, .cons _ r => congrArg (· + 1) (dpa_len r)
theorem dpa_app {K : PySem.W.Frag} {H : Hp} : ∀ {vs us : List V} {ds es : List PyData}, DpAll K H vs ds → DpAll K H us es → DpAll K H (vs ++ us) (ds ++ es)
  | _, _, _, _, .nil, h => h
  | _, _, _, _, .cons a r, h => .cons a (dpa_app r h)
theorem dpa_at {K : PySem.W.Frag} {H : Hp} : ∀ {vs : List V} {ds : List PyData}, DpAll K H vs ds → ∀ {i : Nat} {v : V}, vs[i]? = some v → ∃ d, ds[i]? = some d ∧ Dp K H v d
  | _, _, .cons h _, 0, v, e => by
    cases Option.some.inj e
    exact ⟨_, rfl, h⟩
  | _, _, .cons _ r, i + 1, v, e => by
    obtain ⟨d, h1, h2⟩ := dpa_at r (i := i) (by simpa using e)
    exact ⟨d, by simpa using h1, h2⟩
theorem dpa_get {K : PySem.W.Frag} {H : Hp} : ∀ {vs : List V} {ds : List PyData}, DpAll K H vs ds → ∀ {i : Nat} {d : PyData}, ds[i]? = some d → ∃ v, vs[i]? = some v ∧ Dp K H v d
  | _, _, .cons h _, 0, d, e => by
    cases Option.some.inj e
    exact ⟨_, rfl, h⟩
  | _, _, .cons _ r, i + 1, d, e => by
    obtain ⟨v, h1, h2⟩ := dpa_get r (i := i) (by simpa using e)
    exact ⟨v, by simpa using h1, h2⟩
/-- data without lists, bools and dicts, of nesting at most n -/
inductive Fl : Nat → PyData → Prop
  | non (n : Nat) : Fl n .none
  | int (n : Nat) (i : Int) : Fl n (.int i)
  | str (n : Nat) {z : Str} (h : SeqAt.shaped (.str z) = true) : Fl n (.str z)
  | tup {n : Nat} {ds : List PyData} (h : ∀ d ∈ ds, Fl n d) (hl : ds.length ≤ 1000 := by first | decide | simp) : Fl (n + 1) (.tuple ds)
theorem Fl.mono : ∀ {n m : Nat} {d : PyData}, Fl n d → n ≤ m → Fl m d
  | _, _, _, .non _, _ => .non _
  | _, _, _, .int _ i, _ => .int _ i
  | _, _, _, .str _ h, _ => .str _ h
  | n + 1, m + 1, _, .tup h l, e => .tup (fun d hd => (h d hd).mono (by omega)) l
  | n + 1, 0, _, .tup h _, e => by omega
mutual
theorem dp_monoN {K : PySem.W.Frag} {H H' : Hp} (e : ExN H H') : ∀ {n : Nat} {v : V} {d : PyData}, Fl n d → Dp K H v d → Dp K H' v d
  | _, _, _, .non _, .non => .non
  | _, _, _, .int _ i, .int _ => .int i
  | _, _, _, .str _ _, .str z => .str z
  | _ + 1, _, _, .tup f _, .tup h r => .tup (exN_t e h) (dpa_monoN e f r)
theorem dpa_monoN {K : PySem.W.Frag} {H H' : Hp} (e : ExN H H') : ∀ {n : Nat} {vs : List V} {ds : List PyData}, (∀ d ∈ ds, Fl n d) → DpAll K H vs ds → DpAll K H' vs ds
  | _, _, _, _, .nil => .nil
  | _, _, _, f, .cons h r => .cons (dp_monoN e (f _ (List.mem_cons_self ..)) h) (dpa_monoN e (fun d hd => f d (List.mem_cons_of_mem _ hd)) r)
end
theorem q_asgK {te : TE} {σ : L2.St} {H : Hp} {tz : TS} {D : Ends} {i : Nat} (k : te σ H fun v H1 => tz D (σ.set i (some v)) H1) : tSeq (tAsg te (gName i)) tz D σ H := k
theorem q_asgG {te : TE} {g : TG} {σ : L2.St} {H : Hp} {tz : TS} {D : Ends} (k : te σ H fun v H1 => g v σ H1 (tz D)) : tSeq (tAsg te g) tz D σ H := k
/-! ### equality of data -/
/-- no bool, no dict -/
inductive Pl : PyData → Prop
  | non : Pl .none
  | int (i : Int) : Pl (.int i)
  | str (z : Str) : Pl (.str z)
  | lst {ds : List PyData} (h : ∀ d ∈ ds, Pl d) : Pl (.list ds)
  | tup {ds : List PyData} (h : ∀ d ∈ ds, Pl d) : Pl (.tuple ds)
theorem Fl.pl : ∀ {n : Nat} {d : PyData}, Fl n d → Pl d
  | _, _, .non _ => .non
  | _, _, .int _ i => .int i
  | _, _, .str _ _ => .str _
  | _ + 1, _, .tup h _ => .tup fun d hd => (h d hd).pl
mutual
theorem eqv_iff : ∀ (d e : PyData), Pl d → Pl e → (PyData.eqv d e = true ↔ d = e)
  | .none, e, _, he => by cases he <;> simp [PyData.eqv]
  | .int i, e, _, he => by cases he <;> simp [PyData.eqv]
  | .str z, e, _, he => by cases he <;> simp [PyData.eqv]
  | .list xs, e, hd, he => by
    cases hd with
    | lst hd =>
      cases he with
      | lst he =>
        rename_i ys
        rw [show PyData.eqv (.list xs) (.list ys) = PyData.eqvAll xs ys by simp [PyData.eqv], eqvAll_iff xs ys hd he]
        simp
      | _ => simp [PyData.eqv]
  | .tuple xs, e, hd, he => by
    cases hd with
    | tup hd =>
      cases he with
      | tup he =>
        rename_i ys
        rw [show PyData.eqv (.tuple xs) (.tuple ys) = PyData.eqvAll xs ys by simp [PyData.eqv], eqvAll_iff xs ys hd he]
        simp
      | _ => simp [PyData.eqv]
  | .bool _, _, hd, _ => by cases hd
  | .dict _, _, hd, _ => by cases hd
theorem eqvAll_iff : ∀ (xs ys : List PyData), (∀ d ∈ xs, Pl d) → (∀ d ∈ ys, Pl d) → (PyData.eqvAll xs ys = true ↔ xs = ys)
  | [], [], _, _ => by simp [PyData.eqvAll]
  | [], y :: ys, _, _ => by simp [PyData.eqvAll]
  | x :: xs, [], _, _ => by simp [PyData.eqvAll]
  | x :: xs, y :: ys, hx, hy => by
    rw [show PyData.eqvAll (x :: xs) (y :: ys) = (PyData.eqv x y && PyData.eqvAll xs ys) by simp [PyData.eqvAll], Bool.and_eq_true,
      eqv_iff x y (hx x (List.mem_cons_self ..)) (hy y (List.mem_cons_self ..)), eqvAll_iff xs ys (fun d hd => hx d (List.mem_cons_of_mem _ hd)) (fun d hd => hy d (List.mem_cons_of_mem _ hd))]
    simp
end
noncomputable def eqB (d e : PyData) : Bool := PyData.eqv d e
theorem eqv_dec {d e : PyData} (hd : Pl d) (he : Pl e) [Decidable (d = e)] : PyData.eqv d e = decide (d = e) := by
  by_cases h : d = e
  · rw [decide_eq_true h]
    exact (eqv_iff d e hd he).mpr h
  · rw [decide_eq_false h]
    cases x : PyData.eqv d e with
    | false => rfl
    | true => exact absurd ((eqv_iff d e hd he).mp x) h
mutual
theorem canLay_fl : ∀ {n : Nat} {d : PyData}, Fl n d → d.canLay0 = true
  | _, .none, _ => by simp [PyData.canLay0]
  | _, .int _, _ => by simp [PyData.canLay0]
  | _, .str z, h => by
    cases h with
    | str _ h => exact SeqAt.canLay_of_shaped h
  | _, .tuple xs, h => by
    cases h with
    | tup h _ =>
      rw [show (PyData.tuple xs).canLay0 = PyData.canLayAll0 xs by simp [PyData.canLay0]]
      exact canLayAll_fl h
  | _, .bool _, h => by cases h
  | _, .list _, h => by cases h
  | _, .dict _, h => by cases h
theorem canLayAll_fl : ∀ {n : Nat} {ds : List PyData}, (∀ d ∈ ds, Fl n d) → PyData.canLayAll0 ds = true
  | _, [], _ => by simp [PyData.canLayAll0]
  | _, d :: ds, h => by
    rw [show PyData.canLayAll0 (d :: ds) = (d.canLay0 && PyData.canLayAll0 ds) by simp [PyData.canLayAll0], canLay_fl (h d (List.mem_cons_self ..)), canLayAll_fl fun x hx => h x (List.mem_cons_of_mem _ hx)] <;> rfl
end
mutual
theorem depth_fl : ∀ {n : Nat} {d : PyData}, Fl n d → d.depth ≤ n + 1
  | _, .none, _ => by simp [PyData.depth]
  | _, .int _, _ => by simp [PyData.depth]
  | _, .str z, _ => by simp [PyData.depth]
  | _ + 1, .tuple xs, .tup h _ => by
    rw [show (PyData.tuple xs).depth = 1 + PyData.depthAll xs by simp [PyData.depth, Nat.add_comm]]
    have := depthAll_fl h
    omega
  | _, .bool _, h => by cases h
  | _, .list _, h => by cases h
  | _, .dict _, h => by cases h
theorem depthAll_fl : ∀ {n : Nat} {ds : List PyData}, (∀ d ∈ ds, Fl n d) → PyData.depthAll ds ≤ n + 1
  | _, [], _ => by simp [PyData.depthAll]
  | n, d :: ds, h => by
    have h1 := depth_fl (h d (List.mem_cons_self ..))
    have h2 := depthAll_fl fun x hx => h x (List.mem_cons_of_mem _ hx)
    rw [show PyData.depthAll (d :: ds) = max d.depth (PyData.depthAll ds) by simp [PyData.depthAll]]
    omega
end
theorem shaped_fl {n : Nat} {d : PyData} (h : Fl n d) (hn : n ≤ 60) : SeqAt.shaped d = true := by
  have := depth_fl h
  unfold SeqAt.shaped
  rw [canLay_fl h, decide_eq_true (by omega)] <;> rfl
theorem shaped_lst {n : Nat} {ds : List PyData} (h : ∀ d ∈ ds, Fl n d) (hn : n ≤ 60) : SeqAt.shaped (.list ds) = true := by
  have := depthAll_fl h
  unfold SeqAt.shaped
  rw [show (PyData.list ds).canLay0 = PyData.canLayAll0 ds by simp [PyData.canLay0], canLayAll_fl h, decide_eq_true (by
    rw [show (PyData.list ds).depth = 1 + PyData.depthAll ds by simp [PyData.depth, Nat.add_comm]]
    omega)] <;> rfl
/-! ### what evaluates to data -/
def EP (K : PySem.W.Frag) (te : TE) (σ : L2.St) (H : Hp) (R : PyData → Prop) : Prop := ∀ H1, Ex H H1 → ∀ Q : VK, (∀ v d H2, Ex H1 H2 → R d → Dp K H2 v d → Q v H2) → te σ H1 Q
def EPA (K : PySem.W.Frag) (ta : TA) (σ : L2.St) (H : Hp) (R : List PyData → Prop) : Prop := ∀ H1, Ex H H1 → ∀ Q : List V → Hp → Prop, (∀ vs ds H2, Ex H1 H2 → R ds → DpAll K H2 vs ds → Q vs H2) → ta σ H1 Q
/-- a new list -/
def EPL (K : PySem.W.Frag) (te : TE) (σ : L2.St) (H : Hp) (R : List PyData → Prop) : Prop := ∀ H1, Ex H H1 → ∀ Q : VK, (∀ p vs ds H2, H1 p = none → Ex H1 H2 → H2 p = some (.lst vs) → R ds → DpAll K H2 vs ds → Q (.ref p) H2) → te σ H1 Q
section
variable {K : PySem.W.Frag} {σ : L2.St} {H : Hp} {te ta tb : TE}
theorem ep_is {v : V} {d : PyData} {R : PyData → Prop} (h : Ev te σ H v) (hd : Dp K H v d) (hr : R d) : EP K te σ H R := fun H1 e Q q => h H1 e _ fun H2 e2 => q v d H2 e2 hr (dp_mono (e.trans e2) hd)
theorem ep_int {i : Int} (h : Ev te σ H (.int i)) : EP K te σ H (· = .int i) := ep_is h (.int i) rfl
theorem ep_str {z : Str} (h : Ev te σ H (.str z)) : EP K te σ H (· = .str z) := ep_is h (.str z) rfl
theorem ep_non (h : Ev te σ H .non) : EP K te σ H (· = .none) := ep_is h .non rfl
theorem EP.imp {R S : PyData → Prop} (h : EP K te σ H R) (i : ∀ d, R d → S d) : EP K te σ H S := fun H1 e Q q => h H1 e Q fun v d H2 e2 r D => q v d H2 e2 (i d r) D
theorem EP.mono {R : PyData → Prop} {H' : Hp} (e : Ex H H') (h : EP K te σ H R) : EP K te σ H' R := fun H1 e1 => h H1 (e.trans e1)
theorem epa_nil : EPA K tNil σ H (· = []) := fun H1 _ _ q => q [] [] H1 (Ex.refl H1) rfl .nil
theorem epa_cons {tr : TA} {R : PyData → Prop} {S : List PyData → Prop} (h : EP K te σ H R) (r : EPA K tr σ H S) : EPA K (tCons te tr) σ H (fun ds => ∃ d r, ds = d :: r ∧ R d ∧ S r) := fun H1 e Q q =>
  h H1 e _ fun v d H2 e2 hr hd => r H2 (e.trans e2) _ fun vs ds H3 e3 hs hds => q (v :: vs) (d :: ds) H3 (e2.trans e3) ⟨d, ds, rfl, hr, hs⟩ (.cons (dp_mono e3 hd) hds)
theorem epa_c {tr : TA} {d : PyData} {ds : List PyData} (h : EP K te σ H (· = d)) (r : EPA K tr σ H (· = ds)) : EPA K (tCons te tr) σ H (· = d :: ds) := fun H1 e Q q =>
  h H1 e _ fun v d' H2 e2 hr hd => r H2 (e.trans e2) _ fun vs ds' H3 e3 hs hds => q (v :: vs) (d' :: ds') H3 (e2.trans e3) (by rw [hr, hs]) (.cons (dp_mono e3 hd) hds)
theorem ep_tup {ta : TA} {R : PyData → Prop} {S : List PyData → Prop} (h : EPA K ta σ H S) (i : ∀ ds, S ds → ds.length ≤ 100000 ∧ R (.tuple ds)) : EP K (tTup ta) σ H R := fun H1 e Q q =>
  h H1 e _ fun vs ds H2 e2 hs hds => ⟨sz_of (by rw [dpa_len hds]; exact (i ds hs).1), fun p hp => q _ _ _ (e2.trans (Ex.new hp)) (i ds hs).2 (.tup (st_of upd_same) (dpa_mono (Ex.new hp) hds))⟩
theorem ep_t {ta : TA} {ds : List PyData} (h : EPA K ta σ H (· = ds)) (hl : ds.length ≤ 100000) : EP K (tTup ta) σ H (· = .tuple ds) := ep_tup h fun ds' e => by
  rw [e]
  exact ⟨hl, rfl⟩
theorem epl_lst {ta : TA} {S : List PyData → Prop} (h : EPA K ta σ H S) (i : ∀ ds, S ds → ds.length ≤ 100000) : EPL K (tLst ta) σ H S := fun H1 e Q q =>
  h H1 e _ fun vs ds H2 e2 hs hds => ⟨sz_of (by rw [dpa_len hds]; exact i ds hs), fun p hp => q p vs ds _ (fresh_back e2 hp) (e2.trans (Ex.new hp)) upd_same hs (dpa_mono (Ex.new hp) hds)⟩
theorem EPL.ep {R : PyData → Prop} {S : List PyData → Prop} (h : EPL K te σ H S) (i : ∀ ds, S ds → R (.list ds)) : EP K te σ H R := fun H1 e Q q =>
  h H1 e _ fun p vs ds H2 hp e2 h2 hs hds => q _ _ H2 e2 (i ds hs) (.lst (sq_of h2) hds)
theorem s_retP {D : Ends} {R : PyData → Prop} (h : EP K te σ H R) (k : ∀ v d H1, Ex H H1 → R d → Dp K H1 v d → D.rt v H1) : tRet te D σ H := h H (Ex.refl H) _ k
theorem s_retPL {D : Ends} {S : List PyData → Prop} (h : EPL K te σ H S) (k : ∀ p vs ds H1, H p = none → Ex H H1 → H1 p = some (.lst vs) → S ds → DpAll K H1 vs ds → D.rt (.ref p) H1) : tRet te D σ H := h H (Ex.refl H) _ k
theorem q_asgP {D : Ends} {tz : TS} {i : Nat} {R : PyData → Prop} (h : EP K te σ H R) (k : ∀ v d H1, Ex H H1 → R d → Dp K H1 v d → tz D (σ.set i (some v)) H1) : tSeq (tAsg te (gName i)) tz D σ H := h H (Ex.refl H) _ k
theorem q_asgPL {D : Ends} {tz : TS} {i : Nat} {S : List PyData → Prop} (h : EPL K te σ H S) (k : ∀ p vs ds H1, H p = none → Ex H H1 → H1 p = some (.lst vs) → S ds → DpAll K H1 vs ds → tz D (σ.set i (some (.ref p))) H1) : tSeq (tAsg te (gName i)) tz D σ H := h H (Ex.refl H) _ k
theorem s_retTup {ta : TA} {D : Ends} {S : List PyData → Prop} (h : EPA K ta σ H S) (l : ∀ ds, S ds → ds.length ≤ 100000) (k : ∀ p ds H1, H p = none → Ex H H1 → S ds → Dp K H1 (.ref p) (.tuple ds) → D.rt (.ref p) H1) : tRet (tTup ta) D σ H :=
  h H (Ex.refl H) _ fun vs ds H1 e1 hs hds => ⟨sz_of (by rw [dpa_len hds]; exact l ds hs), fun p hp => k p ds _ (fresh_back e1 hp) (e1.trans (Ex.new hp)) hs (.tup (st_of upd_same) (dpa_mono (Ex.new hp) hds))⟩
/-- == and != of data -/
theorem ev_eqP {x y : V} {d e : PyData} {b : Bool} (ha : Ev ta σ H x) (hb : Ev tb σ H y) (hd : Dp K H x d) (he : Dp K H y e) (sd : SeqAt.shaped d = true) (se : SeqAt.shaped e = true) (hv : PyData.eqv d e = b) : Ev (tOp (rEqD K) ta tb) σ H (.bl b) :=
  ev_op ha hb fun H1 e1 _ q => ⟨d, e, dp_mono e1 hd, dp_mono e1 he, sd, se, by rw [hv]; exact q H1 (Ex.refl H1)⟩
theorem ev_neP {x y : V} {d e : PyData} {b : Bool} (ha : Ev ta σ H x) (hb : Ev tb σ H y) (hd : Dp K H x d) (he : Dp K H y e) (sd : SeqAt.shaped d = true) (se : SeqAt.shaped e = true) (hv : (!PyData.eqv d e) = b) : Ev (tOp (rNeD K) ta tb) σ H (.bl b) :=
  ev_op ha hb fun H1 e1 _ q => ⟨d, e, dp_mono e1 hd, dp_mono e1 he, sd, se, by rw [hv]; exact q H1 (Ex.refl H1)⟩
/-- [f(k) for k in range(n)] -/
theorem epl_mapR {ta : TA} {j : Nat} {vs : List Nat} {n : Nat} {R : Nat → PyData → Prop} (h : EvA ta σ H [.int (n : Int)]) (hz : n ≤ 40000) (hw : ∀ x, wipe ((wipe σ vs).set j (some x)) vs = wipe σ vs) {m : Nat} (hf : ∀ i d, R i d → Fl m d)
    (he : ∀ (i : Nat) H1, i < n → Ex H H1 → EP K te ((wipe σ vs).set j (some (.int (i : Int)))) H1 (R i)) : EPL K (tLc (iRng1 ta) (gName j) tYes te vs) σ H (fun ds => ds.length = n ∧ ∀ i d, ds[i]? = some d → R i d) := by
  intro H0 e Q q
  refine h H0 e _ fun H1 e1 => ⟨(n : Int), rfl, by omega, by omega, fun Dl hD => ?_⟩
  rw [show ((n : Int)).toNat = n by omega]
  refine lc_range (n := n) (fun i H' => H1 Dl = none ∧ Ex H1 H' ∧ ∃ us ds, H' Dl = some (.lst us) ∧ DpAll K H' us ds ∧ ds.length = i ∧ ∀ i d, ds[i]? = some d → R i d) ⟨hD, Ex.new hD, [], [], upd_same, .nil, rfl, fun i d z => nomatch z⟩ (fun i H' hi p => ⟨hw _, ?_⟩) (fun H' p => ?_)
  · obtain ⟨p1, p2, us, ds, p3, p4, p5, p6⟩ := p
    show te ((wipe σ vs).set j (some (.int (0 + (i : Int))))) H' _
    rw [Int.zero_add]
    refine he i H1 hi (e.trans e1) H' p2 _ fun v d H4 e4 hr hd => ⟨us, e4 Dl _ p3, sz_lt (by rw [dpa_len p4, p5]; omega), p1, (p2.trans e4).mut p1, us ++ [v], ds ++ [d], upd_same, ?_, by rw [List.length_append, p5] <;> rfl, fun k x hk => ?_⟩
    · exact dpa_app (dpa_monoN (ExN.upd (e4 Dl _ p3)) (fun x hx => by
        obtain ⟨k, hk⟩ := List.getElem?_of_mem hx
        exact hf k x (p6 k x hk)) (dpa_mono e4 p4)) (.cons (dp_monoN (ExN.upd (e4 Dl _ p3)) (hf i d hr) hd) .nil)
    · by_cases hlt : k < ds.length
      · rw [List.getElem?_append_left hlt] at hk
        exact p6 k x hk
      · rw [List.getElem?_append_right (by omega)] at hk
        have hk0 : k - ds.length = 0 := by
          by_cases z : k - ds.length = 0
          · exact z
          · rw [List.getElem?_eq_none (by simp; omega)] at hk
            cases hk
        rw [hk0] at hk
        have ek : k = i := by omega
        rw [ek, ← Option.some.inj hk]
        exact hr
  · obtain ⟨p1, p2, us, ds, p3, p4, p5, p6⟩ := p
    exact q Dl us ds H' (fresh_back e1 p1) (e1.trans p2) p3 ⟨p5, p6⟩ p4
end
section
variable {K : PySem.W.Frag} {σ : L2.St} {H : Hp} {te tl : TE}
theorem acc_add {K : PySem.W.Frag} {H H4 : Hp} {Dl : Addr} {us : List V} {ds : List PyData} {v : V} {d : PyData} {m : Nat} {R : Nat → PyData → Prop} (hf : ∀ i d, R i d → Fl m d) (e4 : Ex H H4) (p3 : H Dl = some (.lst us)) (p4 : DpAll K H us ds) (p6 : ∀ i d, ds[i]? = some d → R i d) (hr : R ds.length d) (hd : Dp K H4 v d) :
    DpAll K (upd H4 Dl (.lst (us ++ [v]))) (us ++ [v]) (ds ++ [d]) ∧ (ds ++ [d]).length = ds.length + 1 ∧ ∀ i x, (ds ++ [d])[i]? = some x → R i x := by
  refine ⟨dpa_app (dpa_monoN (n := m) (ExN.upd (e4 Dl _ p3)) (fun x hx => ?_) (dpa_mono e4 p4)) (.cons (dp_monoN (ExN.upd (e4 Dl _ p3)) (hf _ d hr) hd) .nil), by simp, fun k x hk => ?_⟩
  · obtain ⟨k, hk⟩ := List.getElem?_of_mem hx
    exact hf k x (p6 k x hk)
  · by_cases hlt : k < ds.length
    · rw [List.getElem?_append_left hlt] at hk
      exact p6 k x hk
    · rw [List.getElem?_append_right (by omega)] at hk
      have hk0 : k - ds.length = 0 := by
        by_cases z : k - ds.length = 0
        · exact z
        · rw [List.getElem?_eq_none (by simp; omega)] at hk
          cases hk
      rw [hk0] at hk
      have ek : k = ds.length := by omega
      rw [ek, ← Option.some.inj hk]
      exact hr
/-- [f(x) for x in a tuple] -/
theorem epl_mapT {j : Nat} {vs : List Nat} {a : Addr} {xs : List V} {R : Nat → PyData → Prop} (h : Ev tl σ H (.ref a)) (hx : SqT K H a xs) (hz : xs.length ≤ 40000) (hw : ∀ x, wipe ((wipe σ vs).set j (some x)) vs = wipe σ vs) {m : Nat} (hf : ∀ i d, R i d → Fl m d)
    (he : ∀ (i : Nat) x H1, xs[i]? = some x → Ex H H1 → EP K te ((wipe σ vs).set j (some x)) H1 (R i)) : EPL K (tLc (iTup K tl) (gName j) tYes te vs) σ H (fun ds => ds.length = xs.length ∧ ∀ i d, ds[i]? = some d → R i d) := by
  intro H0 e Q q
  refine h H0 e _ fun H1 e1 => ⟨a, rfl, ⟨xs, ex_t (e.trans e1) hx⟩, fun Dl hD => ?_⟩
  refine lc_tup (xs := xs) (fun i H' => H1 Dl = none ∧ Ex H1 H' ∧ ∃ us ds, H' Dl = some (.lst us) ∧ DpAll K H' us ds ∧ ds.length = i ∧ ∀ i d, ds[i]? = some d → R i d) ⟨hD, Ex.new hD, [], [], upd_same, .nil, rfl, fun i d z => nomatch z⟩ (fun i H' _ p => ex_t ((e.trans e1).trans p.2.1) hx) (fun i x H' hi p => ⟨hw x, ?_⟩) (fun H' p => ?_)
  · obtain ⟨p1, p2, us, ds, p3, p4, p5, p6⟩ := p
    have hi2 := (List.getElem?_eq_some_iff.mp hi).1
    show te ((wipe σ vs).set j (some x)) H' _
    refine he i x H1 hi (e.trans e1) H' p2 _ fun v d H4 e4 hr hd => ⟨us, e4 Dl _ p3, sz_lt (by rw [dpa_len p4, p5]; omega), p1, (p2.trans e4).mut p1, us ++ [v], ds ++ [d], upd_same, ?_⟩
    rw [← p5] at hr ⊢
    exact acc_add hf e4 p3 p4 p6 hr hd
  · obtain ⟨p1, p2, us, ds, p3, p4, p5, p6⟩ := p
    exact q Dl us ds H' (fresh_back e1 p1) (e1.trans p2) p3 ⟨p5, p6⟩ p4
/-- [f(x) for x in a list] -/
theorem epl_mapL {j : Nat} {vs : List Nat} {a : Addr} {xs : List V} {R : Nat → PyData → Prop} (h : Ev tl σ H (.ref a)) (hx : SqL K H a xs) (hz : xs.length ≤ 40000) (hw : ∀ x, wipe ((wipe σ vs).set j (some x)) vs = wipe σ vs) {m : Nat} (hf : ∀ i d, R i d → Fl m d)
    (he : ∀ (i : Nat) x H1, xs[i]? = some x → Ex H H1 → EP K te ((wipe σ vs).set j (some x)) H1 (R i)) : EPL K (tLc (iList K tl) (gName j) tYes te vs) σ H (fun ds => ds.length = xs.length ∧ ∀ i d, ds[i]? = some d → R i d) := by
  intro H0 e Q q
  refine h H0 e _ fun H1 e1 => ⟨a, rfl, ⟨xs, ex_l (e.trans e1) hx⟩, fun Dl hD => ?_⟩
  refine lc_list (xs := xs) (fun i H' => H1 Dl = none ∧ Ex H1 H' ∧ ∃ us ds, H' Dl = some (.lst us) ∧ DpAll K H' us ds ∧ ds.length = i ∧ ∀ i d, ds[i]? = some d → R i d) ⟨hD, Ex.new hD, [], [], upd_same, .nil, rfl, fun i d z => nomatch z⟩ (fun i H' _ p => ex_l ((e.trans e1).trans p.2.1) hx) (fun i x H' hi p => ⟨hw x, ?_⟩) (fun H' p => ?_)
  · obtain ⟨p1, p2, us, ds, p3, p4, p5, p6⟩ := p
    have hi2 := (List.getElem?_eq_some_iff.mp hi).1
    show te ((wipe σ vs).set j (some x)) H' _
    refine he i x H1 hi (e.trans e1) H' p2 _ fun v d H4 e4 hr hd => ⟨us, e4 Dl _ p3, sz_lt (by rw [dpa_len p4, p5]; omega), p1, (p2.trans e4).mut p1, us ++ [v], ds ++ [d], upd_same, ?_⟩
    rw [← p5] at hr ⊢
    exact acc_add hf e4 p3 p4 p6 hr hd
  · obtain ⟨p1, p2, us, ds, p3, p4, p5, p6⟩ := p
    exact q Dl us ds H' (fresh_back e1 p1) (e1.trans p2) p3 ⟨p5, p6⟩ p4
end
/-- tuple(a new list of data) -/
theorem ep_tupOf {K : PySem.W.Frag} {σ : L2.St} {H : Hp} {te : TE} {R : PyData → Prop} {S : List PyData → Prop} (h : EPL K te σ H S) (i : ∀ ds, S ds → R (.tuple ds)) : EP K (tCB (rTupOf K) (tCons te tNil)) σ H R := fun H1 e Q q =>
  h H1 e _ fun p vs ds H2 _ e2 hp hs hds => ⟨p, vs, rfl, .inl ⟨sq_of hp, fun l hl => q _ _ _ (e2.trans (Ex.new hl)) (i ds hs) (.tup (st_of upd_same) (dpa_mono (Ex.new hl) hds))⟩⟩
theorem list_same {ds es : List PyData} (hl : ds.length = es.length) (h : ∀ (i : Nat) (d : PyData), ds[i]? = some d → es[i]? = some d) : ds = es := by
  refine List.ext_getElem? fun i => ?_
  by_cases hi : i < ds.length
  · rw [List.getElem?_eq_getElem hi]
    exact (h i _ (List.getElem?_eq_getElem hi)).symm
  · rw [List.getElem?_eq_none (by omega), List.getElem?_eq_none (by omega)]
/-- isinstance of data against tuple, list -/
def isTup : PyData → Bool
  | .tuple _ => true
  | _ => false
def isLst : PyData → Bool
  | .list _ => true
  | _ => false
def isStrD : PyData → Bool
  | .str _ => true
  | _ => false
def isIntD : PyData → Bool
  | .int _ => true
  | .bool _ => true
  | _ => false
def isBoolD : PyData → Bool
  | .bool _ => true
  | _ => false
theorem tyx_lst {K : PySem.W.Frag} {H : Hp} {a : Addr} {xs : List V} (h : SqL K H a xs) : TyX K H (.ref a) (.type "list") := by
  rcases h with (h | ⟨o, h⟩) | ⟨o, its, n, h, hc, _⟩
  · exact .base (.lst h)
  · exact .base (.frz h)
  · exact .kList h hc
theorem ev_isT {K : PySem.W.Frag} {σ : L2.St} {H : Hp} {te : TE} {x : V} {d : PyData} (h : Ev te σ H x) (hd : Dp K H x d) : Ev (tCB (rIsi K) (tCons te (tCons (tC (.ty "tuple")) tNil))) σ H (.bl (isTup d)) := by
  cases hd with
  | non => exact ev_isi (a := "NoneType") (r := false) h (fun _ _ => .base .non) (by decide +kernel)
  | bl b => exact ev_isi (a := "bool") (r := false) h (fun _ _ => .base (.bl b)) (by decide +kernel)
  | int i => exact ev_isi (a := "int") (r := false) h (fun _ _ => .base (.int i)) (by decide +kernel)
  | str z => exact ev_isi (a := "str") (r := false) h (fun _ _ => .base (.str z)) (by decide +kernel)
  | lst hs _ => exact ev_isi (a := "list") (r := false) h (fun H2 e2 => tyx_lst (ex_l e2 hs)) (by decide +kernel)
  | tup hs _ => exact ev_isi (a := "tuple") (r := true) h (fun H2 e2 => tyx_tup (ex_t e2 hs)) (by decide +kernel)
theorem ev_isL {K : PySem.W.Frag} {σ : L2.St} {H : Hp} {te : TE} {x : V} {d : PyData} (h : Ev te σ H x) (hd : Dp K H x d) : Ev (tCB (rIsi K) (tCons te (tCons (tC (.ty "list")) tNil))) σ H (.bl (isLst d)) := by
  cases hd with
  | non => exact ev_isi (a := "NoneType") (r := false) h (fun _ _ => .base .non) (by decide +kernel)
  | bl b => exact ev_isi (a := "bool") (r := false) h (fun _ _ => .base (.bl b)) (by decide +kernel)
  | int i => exact ev_isi (a := "int") (r := false) h (fun _ _ => .base (.int i)) (by decide +kernel)
  | str z => exact ev_isi (a := "str") (r := false) h (fun _ _ => .base (.str z)) (by decide +kernel)
  | lst hs _ => exact ev_isi (a := "list") (r := true) h (fun H2 e2 => tyx_lst (ex_l e2 hs)) (by decide +kernel)
  | tup hs _ => exact ev_isi (a := "tuple") (r := false) h (fun H2 e2 => tyx_tup (ex_t e2 hs)) (by decide +kernel)
theorem ev_isS {K : PySem.W.Frag} {σ : L2.St} {H : Hp} {te : TE} {x : V} {d : PyData} (h : Ev te σ H x) (hd : Dp K H x d) : Ev (tCB (rIsi K) (tCons te (tCons (tC (.ty "str")) tNil))) σ H (.bl (isStrD d)) := by
  cases hd with
  | non => exact ev_isi (a := "NoneType") (r := false) h (fun _ _ => .base .non) (by decide +kernel)
  | bl b => exact ev_isi (a := "bool") (r := false) h (fun _ _ => .base (.bl b)) (by decide +kernel)
  | int i => exact ev_isi (a := "int") (r := false) h (fun _ _ => .base (.int i)) (by decide +kernel)
  | str z => exact ev_isi (a := "str") (r := true) h (fun _ _ => .base (.str z)) (by decide +kernel)
  | lst hs _ => exact ev_isi (a := "list") (r := false) h (fun H2 e2 => tyx_lst (ex_l e2 hs)) (by decide +kernel)
  | tup hs _ => exact ev_isi (a := "tuple") (r := false) h (fun H2 e2 => tyx_tup (ex_t e2 hs)) (by decide +kernel)
theorem ev_isNum {K : PySem.W.Frag} {σ : L2.St} {H : Hp} {te : TE} {x : V} {d : PyData} (h : Ev te σ H x) (hd : Dp K H x d) : Ev (tCB (rIsi K) (tCons te (tCons (tC (.ty "int")) tNil))) σ H (.bl (isIntD d)) := by
  cases hd with
  | non => exact ev_isi (a := "NoneType") (r := false) h (fun _ _ => .base .non) (by decide +kernel)
  | bl b => exact ev_isi (a := "bool") (r := true) h (fun _ _ => .base (.bl b)) (by decide +kernel)
  | int i => exact ev_isi (a := "int") (r := true) h (fun _ _ => .base (.int i)) (by decide +kernel)
  | str z => exact ev_isi (a := "str") (r := false) h (fun _ _ => .base (.str z)) (by decide +kernel)
  | lst hs _ => exact ev_isi (a := "list") (r := false) h (fun H2 e2 => tyx_lst (ex_l e2 hs)) (by decide +kernel)
  | tup hs _ => exact ev_isi (a := "tuple") (r := false) h (fun H2 e2 => tyx_tup (ex_t e2 hs)) (by decide +kernel)
theorem ev_isBl {K : PySem.W.Frag} {σ : L2.St} {H : Hp} {te : TE} {x : V} {d : PyData} (h : Ev te σ H x) (hd : Dp K H x d) : Ev (tCB (rIsi K) (tCons te (tCons (tC (.ty "bool")) tNil))) σ H (.bl (isBoolD d)) := by
  cases hd with
  | non => exact ev_isi (a := "NoneType") (r := false) h (fun _ _ => .base .non) (by decide +kernel)
  | bl b => exact ev_isi (a := "bool") (r := true) h (fun _ _ => .base (.bl b)) (by decide +kernel)
  | int i => exact ev_isi (a := "int") (r := false) h (fun _ _ => .base (.int i)) (by decide +kernel)
  | str z => exact ev_isi (a := "str") (r := false) h (fun _ _ => .base (.str z)) (by decide +kernel)
  | lst hs _ => exact ev_isi (a := "list") (r := false) h (fun H2 e2 => tyx_lst (ex_l e2 hs)) (by decide +kernel)
  | tup hs _ => exact ev_isi (a := "tuple") (r := false) h (fun H2 e2 => tyx_tup (ex_t e2 hs)) (by decide +kernel)
/-- an item of a list or a tuple -/
def rIxD (K : PySem.W.Frag) : R2 := fun x y H Q => rIxL K x y H Q ∨ rIxT K x y H Q
theorem ix_any {X : Cx} {r1 r2 : R2} (h1 : IxR X r1) (h2 : IxR X r2) : IxR X (fun x y H Q => r1 x y H Q ∨ r2 x y H Q) := fun value slice pins s σ H x y v u Q I rx ry h hs => h.elim (fun h => h1 value slice pins s σ H x y v u Q I rx ry h hs) (fun h => h2 value slice pins s σ H x y v u Q I rx ry h hs)
theorem op_any {X : Cx} {f : Value → Value → Sem Value} {r1 r2 : R2} (h1 : OpR X f r1) (h2 : OpR X f r2) : OpR X f (fun x y H Q => r1 x y H Q ∨ r2 x y H Q) := fun pins s σ H x y v u Q I rx ry h => h.elim (fun h => h1 pins s σ H x y v u Q I rx ry h) (fun h => h2 pins s σ H x y v u Q I rx ry h)


/-! ### version texts -/
def mkS (l : List Nat) : Str := ⟨l.toArray⟩
theorem mkS_inj {a b : List Nat} (h : mkS a = mkS b) : a = b := by
  have := congrArg (fun z : Str => z.cps.toList) h
  simpa [mkS] using this
theorem mkS_codes (z : Str) : z = mkS z.cps.toList := mk_of rfl
theorem mkS_len (l : List Nat) : (mkS l).length = l.length := by rw [str_len] <;> rfl
def stC (c : Nat) : Bool := decide (c = 126 ∨ c = 94)
theorem tw_lt {p : Nat → Bool} : ∀ {l : List Nat} {i : Nat}, i < (l.takeWhile p).length → ∃ c, l[i]? = some c ∧ p c = true
  | [], i, h => by simp at h
  | a :: l, i, h => by
    by_cases ha : p a = true
    · rw [List.takeWhile_cons_of_pos ha] at h
      cases i with
      | zero => exact ⟨a, rfl, ha⟩
      | succ i =>
        obtain ⟨c, h1, h2⟩ := tw_lt (l := l) (i := i) (by simpa using h)
        exact ⟨c, by simpa using h1, h2⟩
    · rw [List.takeWhile_cons_of_neg ha] at h
      simp at h
theorem tw_eq {p : Nat → Bool} : ∀ {l : List Nat} {c : Nat}, l[(l.takeWhile p).length]? = some c → p c = false
  | [], c, h => by simp at h
  | a :: l, c, h => by
    by_cases ha : p a = true
    · rw [List.takeWhile_cons_of_pos ha] at h
      exact tw_eq (l := l) (by simpa using h)
    · rw [List.takeWhile_cons_of_neg ha] at h
      have e : a = c := by simpa using h
      rw [← e]
      simpa using ha
theorem tw_le (p : Nat → Bool) (l : List Nat) : (l.takeWhile p).length ≤ l.length := by
  induction l with
  | nil => simp
  | cons a l ih =>
    by_cases ha : p a = true
    · rw [List.takeWhile_cons_of_pos ha]; simp; exact ih
    · rw [List.takeWhile_cons_of_neg ha]; simp
/-- the length without the steps at the end -/
def rsz (l : List Nat) : Nat := l.length - (l.reverse.takeWhile stC).length
theorem rsz_le (l : List Nat) : rsz l ≤ l.length := Nat.sub_le _ _
theorem rev_at {l : List Nat} {i : Nat} (h : i < l.length) : l.reverse[i]? = l[l.length - 1 - i]? := by
  rw [List.getElem?_reverse h]
/-- what the law's own loop keeps -/
theorem rsz_step {l : List Nat} {k s : Nat} (hk : k < l.length) (hs : s = max (rsz l) (l.length - k)) : (0 < s → ∃ c, l[s - 1]? = some c ∧ (if stC c = true then s - 1 else s) = max (rsz l) (l.length - (k + 1))) ∧ (s = 0 → s = max (rsz l) (l.length - (k + 1))) := by
  have hw := tw_le stC l.reverse
  rw [List.length_reverse] at hw
  unfold rsz at *
  refine ⟨fun h0 => ?_, fun h0 => by omega⟩
  by_cases hkw : k < (l.reverse.takeWhile stC).length
  · obtain ⟨c, h1, h2⟩ := tw_lt hkw
    rw [rev_at hk] at h1
    have e : s - 1 = l.length - 1 - k := by omega
    refine ⟨c, by rw [e]; exact h1, ?_⟩
    rw [if_pos h2]
    omega
  · have hlt : l.length - (l.reverse.takeWhile stC).length - 1 < l.length := by omega
    have es : s = l.length - (l.reverse.takeWhile stC).length := by omega
    have hp : (l.reverse.takeWhile stC).length < l.length := by omega
    have e2 := rev_at hp
    obtain ⟨c, hc⟩ : ∃ c, l[s - 1]? = some c := ⟨_, List.getElem?_eq_getElem (by omega)⟩
    have e3 : l.reverse[(l.reverse.takeWhile stC).length]? = some c := by
      rw [e2, ← hc]
      congr 1
      omega
    have := tw_eq e3
    refine ⟨c, hc, ?_⟩
    rw [if_neg (by rw [this]; exact Bool.false_ne_true)]
    omega
def digC (c : Nat) : Bool := decide (48 ≤ c ∧ c ≤ 57)
def addrB (b : List Nat) : Bool := decide (1 ≤ b.length ∧ b.length ≤ 18) && (!decide (b.head? = some 48) && b.all digC)
def verD (b : List Nat) (s : Str) : Option PyData :=
  if b = [64] then some (.tuple [.str (Str.ofString "head"), .none, .str s])
  else if nameB (mkS b) = true then some (.tuple [.str (Str.ofString "name"), .str (mkS b), .str s])
  else if b.head? = some 47 ∧ nameB (mkS (b.drop 1)) = true then some (.tuple [.str (Str.ofString "far"), .str (mkS (b.drop 1)), .str s])
  else if b.head? = some 58 ∧ addrB (b.drop 1) = true then some (.tuple [.str (Str.ofString "address"), .int (PySem.NumText.digitsVal (b.drop 1) : Nat), .str s])
  else none
def verO (l : List Nat) : Option PyData := if 60 < l.length then none else verD (l.take (rsz l)) (mkS (l.drop (rsz l)))
theorem at_eq : Str.ofString "@" = mkS [64] := by decide +kernel
theorem rstrip_eq (z : Str) : Txt.rstripChars z (Str.ofString "~^") = mkS (z.cps.toList.take (rsz z.cps.toList)) := by
  have ec : (fun c => (Str.ofString "~^").cps.contains c) = stC := by
    funext c
    have e : (Str.ofString "~^").cps = #[126, 94] := by decide +kernel
    rw [e]
    show (#[126, 94] : Array Nat).contains c = decide (c = 126 ∨ c = 94)
    by_cases h : c = 126
    · subst h; simp
    · by_cases h2 : c = 94
      · subst h2; simp
      · rw [decide_eq_false (by omega)]
        simp [Array.contains, h, h2]
  have e0 : stripLo (fun c => (Str.ofString "~^").cps.contains c) false z = 0 := rfl
  have e1 : stripHi (fun c => (Str.ofString "~^").cps.contains c) true z 0 = rsz z.cps.toList := by
    show z.length - ((z.cps.toList.drop 0).reverse.takeWhile _).length = _
    rw [ec, List.drop_zero, str_len] <;> rfl
  show (if stripSame (fun c => (Str.ofString "~^").cps.contains c) false true z = true then z else stripped (fun c => (Str.ofString "~^").cps.contains c) false true z) = _
  unfold stripSame stripped
  rw [e0, e1]
  split
  · rename_i h
    have h2 : rsz z.cps.toList = z.length := by simpa using h
    rw [h2, str_len, List.take_length]
    exact mkS_codes z
  · refine str_ext ?_
    rw [PySem.StrLaws.strSub_toList, List.drop_zero, Nat.sub_zero] <;> rfl
theorem starts_one (b : List Nat) (c : Nat) : Txt.startswith (mkS b) (mkS [c]) = decide (b.head? = some c) := by
  unfold Txt.startswith
  rw [PySem.StrLaws.subAt_eq, mkS_len, mkS_len]
  show (decide (0 + 1 ≤ b.length) && ((b.drop 0).take 1 == [c])) = _
  cases b with
  | nil => rfl
  | cons a r =>
    show (decide (0 + 1 ≤ r.length + 1) && ([a] == [c])) = decide (some a = some c)
    rw [decide_eq_true (by omega), Bool.true_and]
    by_cases h : a = c
    · subst h; simp
    · simp [h]
theorem cutS_from (b : List Nat) (n : Nat) : cutS (mkS b) (some (n : Int)) none = mkS (b.drop n) := by
  refine str_ext ?_
  show (b.drop (HT.sIx (mkS b).length 0 (some (n : Int)))).take _ = b.drop n
  rw [HT.sIx_nat, mkS_len, HT.sIx_none]
  by_cases h : n ≤ b.length
  · rw [Nat.min_eq_left h, List.take_of_length_le (by rw [List.length_drop]; omega)]
  · rw [Nat.min_eq_right (by omega), List.drop_of_length_le (Nat.le_refl _), List.drop_of_length_le (by omega)] <;> simp
theorem cutS_to (b : List Nat) (n : Nat) : cutS (mkS b) none (some (n : Int)) = mkS (b.take n) := by
  refine str_ext ?_
  show (b.drop (HT.sIx (mkS b).length 0 none)).take (HT.sIx (mkS b).length (mkS b).length (some (n : Int)) - HT.sIx (mkS b).length 0 none) = b.take n
  rw [HT.sIx_nat, mkS_len, HT.sIx_none, List.drop_zero, Nat.sub_zero]
  by_cases h : n ≤ b.length
  · rw [Nat.min_eq_left h]
  · rw [Nat.min_eq_right (by omega), List.take_of_length_le (Nat.le_refl _), List.take_of_length_le (by omega)]
theorem take_len {l : List Nat} {n : Nat} (h : n ≤ l.length) : (l.take n).length = n := by rw [List.length_take]; omega
/-! ### comprehensions with a test over a text -/
theorem given_filter {l : List Nat} (p : Nat → Bool) (g : Nat → V) : given l.length (fun i => p (l.getD i 0)) (fun i => g (l.getD i 0)) = (l.filter p).map g := by
  have e : l = (List.range l.length).map fun i => l.getD i 0 := by
    refine List.ext_getElem? fun i => ?_
    rw [List.getElem?_map]
    by_cases hi : i < l.length
    · rw [List.getElem?_range hi, List.getElem?_eq_getElem hi, Option.map_some, List.getD_eq_getElem?_getD, List.getElem?_eq_getElem hi] <;> rfl
    · rw [List.getElem?_eq_none (by omega), List.getElem?_eq_none (by rw [List.length_range]; omega)] <;> rfl
  unfold given
  conv => rhs; rw [e, List.filter_map, List.map_map]
  rfl
theorem el_flS {σ : L2.St} {H : Hp} {te tl : TE} {tt : TT} {z : Str} {j : Nat} {vs : List Nat} {p : Nat → Bool} (h : Ev te σ H (.str z)) (hz : z.cps.toList.length ≤ 40000) (hw : ∀ x, wipe ((wipe σ vs).set j (some x)) vs = wipe σ vs)
    (ht : ∀ (c : Nat), c ∈ z.cps.toList → ∀ H1, Ex H H1 → EvT tt ((wipe σ vs).set j (some (.str ⟨#[c]⟩))) H1 (p c)) (he : ∀ (c : Nat) H1, Ex H H1 → Ev tl ((wipe σ vs).set j (some (.str ⟨#[c]⟩))) H1 (.str ⟨#[c]⟩)) : EvL (tLc (iStr te) (gName j) tt tl vs) σ H ((z.cps.toList.filter p).map fun c => .str ⟨#[c]⟩) := fun H0 e Q q => h H0 e _ fun H1 e1 => ⟨z, rfl, fun D hD => by
  rw [← given_filter (l := z.cps.toList) p fun c => .str ⟨#[c]⟩] at q
  refine ⟨fun i m H' => m = z.cps.toList.length - i ∧ i ≤ z.cps.toList.length ∧ Cw H1 (fun i => p (z.cps.toList.getD i 0)) (fun i => .str ⟨#[z.cps.toList.getD i 0]⟩) D i H', ⟨_, rfl, Nat.zero_le _, hD, Ex.new hD, upd_same⟩, ?_⟩
  rintro i m H' ⟨rfl, hi, pp⟩
  by_cases hlt : i < z.cps.toList.length
  · refine .inr ⟨(by show i < z.cps.size; simpa using hlt), Cw H1 (fun i => p (z.cps.toList.getD i 0)) (fun i => .str ⟨#[z.cps.toList.getD i 0]⟩) D (i + 1), fun H2 p2 => ⟨_, by omega, rfl, hlt, p2⟩, fun x H2 y => ?_⟩
    obtain ⟨rfl, c, hc, rfl⟩ := y
    have hc' : z.cps.toList[i]? = some c := by simpa using hc
    have ed : z.cps.toList.getD i 0 = c := by rw [List.getD_eq_getElem?_getD, hc'] <;> rfl
    have t1 := ht c (List.mem_of_getElem? hc') H1 (e.trans e1)
    have t2 := he c H1 (e.trans e1)
    refine ⟨hw _, cw_turn pp (by omega) (by rw [ed]; exact t1) fun _ => (by rw [ed]; exact t2)⟩
  · have ei : i = z.cps.toList.length := by omega
    subst ei
    exact .inl ⟨(by show z.cps.size ≤ z.cps.toList.length; simp), q D H' (fresh_back e1 pp.1) (e1.trans pp.2.1) pp.2.2⟩⟩
theorem dpa_strs {K : PySem.W.Frag} {H : Hp} : ∀ zs : List Str, DpAll K H (zs.map V.str) (zs.map PyData.str)
  | [] => .nil
  | z :: zs => .cons (.str z) (dpa_strs zs)
/-- a new list == [] -/
theorem ev_eqNil {K : PySem.W.Frag} {σ : L2.St} {H : Hp} {ta : TE} {zs : List Str} (h : EvL ta σ H (zs.map V.str)) (hz : ∀ z ∈ zs, SeqAt.shaped (.str z) = true) : Ev (tOp (rEqD K) ta (tLst tNil)) σ H (.bl zs.isEmpty) := by
  refine ev_opLL h (el_lst ea_nil (by decide)) fun p q H1 hp hq _ => rv_val fun H2 e2 Q k => ⟨_, _, .lst (sq_of (e2 _ _ hp)) (dpa_strs zs), .lst (sq_of (e2 _ _ hq)) .nil, shaped_lst (n := 0) (fun d hd => ?_) (by decide), by decide, ?_⟩
  · obtain ⟨z, hz', rfl⟩ := List.mem_map.mp hd
    exact .str 0 (hz z hz')
  · have e : PyData.eqv (.list (zs.map PyData.str)) (.list []) = zs.isEmpty := by
      cases zs <;> simp [PyData.eqv, PyData.eqvAll]
    rw [e]
    exact k
/-- [f(k) for k in range(n)], n any int -/
theorem el_mapRI {σ : L2.St} {H : Hp} {ta : TA} {te : TE} {j : Nat} {vs : List Nat} {n : Int} {ys : List V} (h : EvA ta σ H [.int n]) (hz : -100000 ≤ n ∧ n ≤ 40000) (hw : ∀ x, wipe ((wipe σ vs).set j (some x)) vs = wipe σ vs) (hl : ys.length = n.toNat)
    (he : ∀ (i : Nat) (y : V), (i : Int) < n → ys[i]? = some y → ∀ H1, Ex H H1 → Ev te ((wipe σ vs).set j (some (.int (i : Int)))) H1 y) : EvL (tLc (iRng1 ta) (gName j) tYes te vs) σ H ys := by
  intro H0 e Q q
  refine h H0 e _ fun H1 e1 => ⟨n, rfl, by omega, by omega, fun Dl hD => ?_⟩
  refine lc_range (n := n.toNat) (fun i H' => H1 Dl = none ∧ Ex H1 H' ∧ H' Dl = some (.lst (ys.take i))) ⟨hD, Ex.new hD, upd_same⟩ (fun i H' hi p => ⟨hw _, ?_⟩) (fun H' p => ?_)
  · obtain ⟨p1, p2, p3⟩ := p
    have hi2 : i < ys.length := by omega
    have hy : ys[i]? = some ys[i] := List.getElem?_eq_getElem hi2
    show te ((wipe σ vs).set j (some (.int (0 + (i : Int))))) H' _
    rw [Int.zero_add]
    refine he i ys[i] (by omega) hy H1 (e.trans e1) H' p2 _ fun H4 e4 => ⟨ys.take i, e4 Dl _ p3, sz_lt (by rw [List.length_take]; omega), p1, (p2.trans e4).mut p1, ?_⟩
    rw [upd_same, List.take_add_one, hy] <;> rfl
  · obtain ⟨p1, p2, p3⟩ := p
    rw [← hl, List.take_length] at p3
    exact q Dl H' (fresh_back e1 p1) (e1.trans p2) p3
/-- texts that the law makes -/
def TxOk (n : Nat) (z : Str) : Prop := z.length ≤ n ∧ ∀ c ∈ z.cps.toList, c ≤ 1000
theorem TxOk.sh {n : Nat} {z : Str} (h : TxOk n z) : SeqAt.shaped (.str z) = true := by
  unfold SeqAt.shaped
  have e : PyData.strOk z = true := by
    unfold PyData.strOk
    rw [Array.all_eq_true']
    intro c hc
    have := h.2 c (by simpa using hc)
    simp only [decide_eq_true_eq]
    omega
  rw [show (PyData.str z).canLay0 = PyData.strOk z by simp [PyData.canLay0], e] <;> rfl
theorem TxOk.app {n m : Nat} {a b : Str} (h : TxOk n a) (k : TxOk m b) : TxOk (n + m) (a ++ b) := by
  refine ⟨?_, fun c hc => ?_⟩
  · rw [str_len, codes_app rfl rfl, List.length_append, ← str_len, ← str_len]
    have := h.1
    have := k.1
    omega
  · rw [codes_app (x := a.cps.toList) (y := b.cps.toList) rfl rfl] at hc
    rcases List.mem_append.mp hc with z | z
    · exact h.2 c z
    · exact k.2 c z
theorem TxOk.cut {n : Nat} {z : Str} (h : TxOk n z) (lo hi : Option Int) : TxOk n (cutS z lo hi) := by
  refine ⟨Nat.le_trans (cutS_length z lo hi) h.1, fun c hc => h.2 c ?_⟩
  exact List.mem_of_mem_drop (List.mem_of_mem_take (by exact hc))
theorem TxOk.mono {n m : Nat} {z : Str} (h : TxOk n z) (e : n ≤ m) : TxOk m z := ⟨Nat.le_trans h.1 e, h.2⟩
theorem TxOk.one {c : Nat} (h : c ≤ 1000) : TxOk 1 ⟨#[c]⟩ := ⟨Nat.le_refl 1, fun d hd => by
  have : d = c := by simpa using hd
  omega⟩
/-- a join of signs -/
theorem ev_joinS {K : PySem.W.Frag} {σ : L2.St} {H : Hp} {te : TE} {l : List Nat} (h : EvL te σ H (l.map fun c => V.str ⟨#[c]⟩)) (hz : l.length ≤ 100000) :
    Ev (tM1 (fun x xs H Q => ∃ a p, ∃ ys : List Str, x = .str a ∧ xs = [.ref p] ∧ (SqL K H p (ys.map V.str) ∨ SqT K H p (ys.map V.str)) ∧ (ys.map (·.length)).sum + ys.length * a.length ≤ 16777216 ∧ Q (.str (Txt.join a ys)) H) (tC (.str (Str.ofString ""))) te) σ H (.str (mkS l)) := by
  have e : (l.map fun c => V.str ⟨#[c]⟩) = (l.map fun c => (⟨#[c]⟩ : Str)).map V.str := by rw [List.map_map] <;> rfl
  rw [e] at h
  refine ev_is (ev_joinN (K := K) ev_c h ?_) (congrArg V.str (join_signs l))
  rw [sum_ones, List.length_map]
  have : (Str.ofString "").length = 0 := by decide +kernel
  rw [this]
  omega
theorem ev_starts {σ : L2.St} {H : Hp} {to te : TE} {a b : Str} (h0 : Ev to σ H (.str a)) (h : Ev te σ H (.str b)) : Ev (tM1 (fun x xs H Q => ∃ a b, x = V.str a ∧ xs = [V.str b] ∧ Q (.bl (Txt.startswith a b)) H) to te) σ H (.bl (Txt.startswith a b)) := fun H1 e Q q =>
  h0 H1 e _ fun H2 e2 => ⟨⟨a, rfl⟩, h H2 (e.trans e2) _ fun H3 e3 => ⟨a, b, rfl, rfl, q H3 (e2.trans e3)⟩⟩
theorem ev_rstrip {σ : L2.St} {H : Hp} {to te : TE} {a b : Str} (h0 : Ev to σ H (.str a)) (h : Ev te σ H (.str b)) (hz : a.length ≤ 16777216) : Ev (tM1 (fun x xs H Q => ∃ a b, x = V.str a ∧ xs = [V.str b] ∧ a.length ≤ sizeLine ∧ Q (.str (Txt.rstripChars a b)) H) to te) σ H (.str (Txt.rstripChars a b)) := fun H1 e Q q =>
  h0 H1 e _ fun H2 e2 => ⟨⟨a, rfl⟩, h H2 (e.trans e2) _ fun H3 e3 => ⟨a, b, rfl, rfl, sizeOk hz, q H3 (e2.trans e3)⟩⟩
theorem ev_intS {σ : L2.St} {H : Hp} {te : TE} {a : Str} {n : Int} (h : Ev te σ H (.str a)) (hn : PySem.intText? a = some n) (hz : a.length ≤ 640) : Ev (tCB (fun xs H Q => ∃ a n, xs = [V.str a] ∧ PySem.intText? a = some n ∧ a.length ≤ 640 ∧ Q (.int n) H) (tCons te tNil)) σ H (.int n) := fun H1 e Q q =>
  h H1 e _ fun H2 e2 => ⟨a, n, rfl, hn, hz, q H2 e2⟩
theorem addr_int {b : List Nat} (h : addrB b = true) : PySem.intText? (mkS b) = some ((PySem.NumText.digitsVal b : Nat) : Int) ∧ (mkS b).length ≤ 640 := by
  unfold addrB at h
  simp only [Bool.and_eq_true, decide_eq_true_eq, List.all_eq_true] at h
  obtain ⟨h1, _, h2⟩ := h
  refine ⟨intText_digits (x := mkS b) (fun c hc => ?_) (fun z => ?_) (by rw [mkS_len]; omega), by rw [mkS_len]; omega⟩
  · have := h2 c hc
    unfold digC at this
    simpa using this
  · have : b = [] := z
    subst this
    simp at h1
theorem ev_intB {σ : L2.St} {H : Hp} {te : TE} {b : Bool} (h : Ev te σ H (.bl b)) : Ev (tCB (fun xs H Q => (∃ i, xs = [V.int i] ∧ Q (.int i) H) ∨ ∃ k, xs = [V.bl k] ∧ Q (.int (if k = true then 1 else 0)) H) (tCons te tNil)) σ H (.int (if b = true then 1 else 0)) := fun H1 e Q q =>
  h H1 e _ fun H2 e2 => .inr ⟨b, rfl, q H2 e2⟩


/-! ### what evaluates to some text -/
def ES (te : TE) (σ : L2.St) (H : Hp) (R : Str → Prop) : Prop := ∀ H1, Ex H H1 → ∀ Q : VK, (∀ z H2, Ex H1 H2 → R z → Q (.str z) H2) → te σ H1 Q
def ESA (ta : TA) (σ : L2.St) (H : Hp) (R : Str → Prop) (n : Nat) : Prop := ∀ H1, Ex H H1 → ∀ Q : List V → Hp → Prop, (∀ (zs : List Str) H2, Ex H1 H2 → zs.length = n → (∀ z ∈ zs, R z) → Q (zs.map V.str) H2) → ta σ H1 Q
section
variable {K : PySem.W.Frag} {σ : L2.St} {H : Hp} {te ta tb : TE} {R R1 R2 : Str → Prop}
theorem es_ev {z : Str} (h : Ev te σ H (.str z)) (r : R z) : ES te σ H R := fun H1 e Q q => h H1 e _ fun H2 e2 => q z H2 e2 r
theorem ES.imp (h : ES te σ H R1) (i : ∀ z, R1 z → R z) : ES te σ H R := fun H1 e Q q => h H1 e Q fun z H2 e2 r => q z H2 e2 (i z r)
theorem ES.mono {H' : Hp} (e : Ex H H') (h : ES te σ H R) : ES te σ H' R := fun H1 e1 => h H1 (e.trans e1)
theorem es_add (ha : ES ta σ H R1) (hb : ES tb σ H R2) (hR : ∀ a b, R1 a → R2 b → a.length + b.length ≤ 16777216 ∧ R (a ++ b)) : ES (tOp (fun x y H Q => ∃ i j, x = V.str i ∧ y = V.str j ∧ i.length + j.length ≤ sizeLine ∧ Q (.str (i ++ j)) H) ta tb) σ H R := fun H1 e Q q =>
  ha H1 e _ fun a H2 e2 ra => hb H2 (e.trans e2) _ fun b H3 e3 rb => ⟨a, b, rfl, rfl, sizeOk (hR a b ra rb).1, q _ H3 (e2.trans e3) (hR a b ra rb).2⟩
theorem esa_nil : ESA tNil σ H R 0 := fun H1 _ _ q => q [] H1 (Ex.refl H1) rfl fun _ z => nomatch z
theorem esa_cons {tr : TA} {n : Nat} (h : ES te σ H R) (r : ESA tr σ H R n) : ESA (tCons te tr) σ H R (n + 1) := fun H1 e Q q =>
  h H1 e _ fun z H2 e2 rz => r H2 (e.trans e2) _ fun zs H3 e3 hl hz => q (z :: zs) H3 (e2.trans e3) (by rw [List.length_cons, hl]) fun y hy => by
    rcases List.mem_cons.mp hy with h | h
    · rw [h]; exact rz
    · exact hz y h
theorem es_ixN {tr : TA} {n : Nat} {i : Int} (h : ESA tr σ H R n) (hi : ∀ H1, Ex H H1 → Ev tb σ H1 (.int i)) (h0 : 0 ≤ i) (h1 : i < n) (hn : n ≤ 100000) : ES (tOp (rIxL K) (tLst tr) tb) σ H R := fun H1 e Q q =>
  h H1 e _ fun zs H2 e2 hl hz => ⟨sz_of (by rw [List.length_map, hl]; exact hn), fun p hp => hi _ (e.trans (e2.trans (Ex.new hp))) _ (Ex.refl _) _ fun H3 e3 => by
    obtain ⟨z, hzz⟩ : ∃ z, zs[i.toNat]? = some z := ⟨_, List.getElem?_eq_getElem (by omega)⟩
    exact ⟨p, zs.map V.str, i, .str z, rfl, rfl, sq_of (e3 _ _ upd_same), atI_of h0 (by rw [List.getElem?_map, hzz] <;> rfl), q z H3 ((e2.trans (Ex.new hp)).trans e3) (hz z (List.mem_of_getElem? hzz))⟩⟩
theorem q_asgS {D : Ends} {tz : TS} {i : Nat} (h : ES te σ H R) (k : ∀ z H1, Ex H H1 → R z → tz D (σ.set i (some (.str z))) H1) : tSeq (tAsg te (gName i)) tz D σ H := h H (Ex.refl H) _ k
theorem s_asgS {D : Ends} {i : Nat} (h : ES te σ H R) (k : ∀ z H1, Ex H H1 → R z → D.nx (σ.set i (some (.str z))) H1) : tAsg te (gName i) D σ H := h H (Ex.refl H) _ k
theorem s_retS {D : Ends} (h : ES te σ H R) (k : ∀ z H1, Ex H H1 → R z → D.rt (.str z) H1) : tRet te D σ H := h H (Ex.refl H) _ k
end
/-- for x in [a, b, c], texts -/
theorem s_forTx {K : PySem.W.Frag} {σ : L2.St} {H : Hp} {ta : TA} {tu : TS} {D : Ends} {j n : Nat} {R : Str → Prop} (h : ESA ta σ H R n) (hn : n ≤ 100000) (Pv : Hp → L2.St → Hp → Prop) (h0 : ∀ H1, Ex H H1 → Pv H1 σ H1) (he : ∀ H1 σ' H', Pv H1 σ' H' → Ex H1 H')
    (hs : ∀ H1 z σ' H', Ex H H1 → R z → Pv H1 σ' H' → tu { D with nx := Pv H1, ct := Pv H1, bk := D.nx } (σ'.set j (some (.str z))) H') (hd : ∀ H1 σ' H', Ex H H1 → Pv H1 σ' H' → D.nx σ' H') : tFor (iList K (tLst ta)) (gName j) tu D σ H := by
  refine h H (Ex.refl H) _ fun zs H2 e2 hl hz => ⟨sz_of (by rw [List.length_map, hl]; exact hn), fun p hp => ⟨p, rfl, ⟨zs.map V.str, sq_of upd_same⟩, ?_⟩⟩
  have e3 := e2.trans (Ex.new (o := .lst (zs.map V.str)) hp)
  refine for_list (xs := zs.map V.str) (fun i σ' H' => Pv (upd H2 p (.lst (zs.map V.str))) σ' H') (h0 _ e3) (fun i σ' H' _ hP => sq_of (he _ _ _ hP p _ upd_same)) (fun i x σ' H' hi hP => ?_) (fun σ' H' hP => hd _ _ _ e3 hP)
  rw [List.getElem?_map] at hi
  cases e : zs[i]? with
  | none => rw [e] at hi; cases hi
  | some z =>
    rw [e] at hi
    have ex : x = .str z := (Option.some.inj hi).symm
    subst ex
    exact hs _ z σ' H' e3 (hz z (List.mem_of_getElem? e)) hP


/-! ### expressions -/
inductive Bop | add | sub | mul | equal | unequal | less | atmost | more | atleast | and | or
  deriving DecidableEq
def Bop.s : Bop → Str
  | .add => "add"
  | .sub => "sub"
  | .mul => "mul"
  | .equal => "equal"
  | .unequal => "unequal"
  | .less => "less"
  | .atmost => "atmost"
  | .more => "more"
  | .atleast => "atleast"
  | .and => "and"
  | .or => "or"
inductive Tr | int (n : Int) | text (z : Str) | col (z : Str) | neg (a : Tr) | null (a : Tr) | not (a : Tr) | bin (o : Bop) (a b : Tr)
def Tr.d : Tr → PyData
  | .int n => .tuple [.str "int", .int n]
  | .text z => .tuple [.str "text", .str z]
  | .col z => .tuple [.str "column", .str z]
  | .neg a => .tuple [.str "neg", a.d]
  | .null a => .tuple [.str "null", a.d]
  | .not a => .tuple [.str "not", a.d]
  | .bin o a b => .tuple [.str o.s, a.d, b.d]
def Tr.h : Tr → Nat
  | .int _ => 0
  | .text _ => 0
  | .col _ => 0
  | .neg a => a.h + 1
  | .null a => a.h + 1
  | .not a => a.h + 1
  | .bin _ a b => max a.h b.h + 1
inductive Kd | int | text | truth
  deriving DecidableEq
def Kd.s : Kd → Str
  | .int => "int"
  | .text => "text"
  | .truth => "truth"
def Bop.ar (o : Bop) : Bool := o = .add ∨ o = .sub ∨ o = .mul
def Bop.lg (o : Bop) : Bool := o = .and ∨ o = .or
/-- the columns: names and kinds -/
abbrev Cols := List (Str × Kd)
inductive Ty (cs : Cols) : Tr → Kd → Prop
  | int {n : Int} (h : 0 ≤ n ∧ n < 10 ^ 18) : Ty cs (.int n) .int
  | text {z : Str} (h : SeqAt.shaped (.str z) = true) : Ty cs (.text z) .text
  | col {z : Str} {k : Kd} (h : SeqAt.shaped (.str z) = true) (hk : k ≠ .truth) (f : (cs.find? fun c => decide (c.1 = z)).map (·.2) = some k) : Ty cs (.col z) k
  | neg {a : Tr} (h : Ty cs a .int) : Ty cs (.neg a) .int
  | null {a : Tr} {k : Kd} (h : Ty cs a k) (hk : k ≠ .truth) : Ty cs (.null a) .truth
  | not {a : Tr} (h : Ty cs a .truth) : Ty cs (.not a) .truth
  | ar {o : Bop} {a b : Tr} (ho : o.ar = true) (h : Ty cs a .int) (h2 : Ty cs b .int) : Ty cs (.bin o a b) .int
  | cmp {o : Bop} {a b : Tr} {k : Kd} (ho : o.ar = false) (ho2 : o.lg = false) (hk : k ≠ .truth) (h : Ty cs a k) (h2 : Ty cs b k) : Ty cs (.bin o a b) .truth
  | lg {o : Bop} {a b : Tr} (ho : o.lg = true) (h : Ty cs a .truth) (h2 : Ty cs b .truth) : Ty cs (.bin o a b) .truth
theorem Ty.fl {cs : Cols} {t : Tr} {k : Kd} (h : Ty cs t k) : Fl (t.h + 1) t.d := by
  have two : ∀ {n : Nat} {a : String} {d : PyData}, SeqAt.shaped (.str (Str.ofString a)) = true → Fl n d → Fl (n + 1) (.tuple [.str a, d]) := fun hs h => .tup fun x hx => by
    simp only [List.mem_cons, List.not_mem_nil, or_false] at hx
    rcases hx with z | z <;> rw [z]
    · exact .str _ hs
    · exact h
  have s : ∀ o : Bop, SeqAt.shaped (.str o.s) = true := by intro o; cases o <;> decide +kernel
  have three : ∀ {o : Bop} {n m : Nat} {d e : PyData}, Fl n d → Fl m e → Fl (max n m + 1) (.tuple [.str o.s, d, e]) := fun {o n m d e} h1 h2 => .tup fun x hx => by
    simp only [List.mem_cons, List.not_mem_nil, or_false] at hx
    rcases hx with z | z | z <;> rw [z]
    · exact .str _ (s o)
    · exact h1.mono (Nat.le_max_left _ _)
    · exact h2.mono (Nat.le_max_right _ _)
  have mx : ∀ {o : Bop} {a b : Tr}, Fl (a.h + 1) a.d → Fl (b.h + 1) b.d → Fl ((Tr.bin o a b).h + 1) (Tr.bin o a b).d := fun {o a b} h1 h2 => (three (o := o) h1 h2).mono (by show _ ≤ max a.h b.h + 1 + 1; omega)
  induction h with
  | int h => exact two (by decide +kernel) (.int 0 _)
  | text h => exact two (by decide +kernel) (.str 0 h)
  | col h _ _ => exact two (by decide +kernel) (.str 0 h)
  | neg _ ih => exact two (by decide +kernel) ih
  | null _ _ ih => exact two (by decide +kernel) ih
  | not _ ih => exact two (by decide +kernel) ih
  | ar _ _ _ i1 i2 => exact mx i1 i2
  | cmp _ _ _ _ _ i1 i2 => exact mx i1 i2
  | lg _ _ _ i1 i2 => exact mx i1 i2
theorem lg_ar {o : Bop} (h : o.ar = true) (h2 : o.lg = true) : False := by cases o <;> simp [Bop.ar, Bop.lg] at h h2
theorem Ty.kd_u {cs : Cols} {t : Tr} {k k' : Kd} (h : Ty cs t k) (h2 : Ty cs t k') : k = k' := by
  cases h with
  | int _ => cases h2; rfl
  | text _ => cases h2; rfl
  | col _ _ f =>
    cases h2 with
    | col _ _ f2 => exact Option.some.inj (f.symm.trans f2)
  | neg _ => cases h2; rfl
  | null _ _ => cases h2; rfl
  | not _ => cases h2; rfl
  | ar ho _ _ =>
    cases h2 with
    | ar _ _ _ => rfl
    | cmp h _ _ _ _ => exact Bool.noConfusion (ho.symm.trans h)
    | lg h _ _ => exact (lg_ar ho h).elim
  | cmp ho ho2 _ _ _ =>
    cases h2 with
    | ar h _ _ => exact Bool.noConfusion (h.symm.trans ho)
    | cmp _ _ _ _ _ => rfl
    | lg h _ _ => exact Bool.noConfusion (h.symm.trans ho2)
  | lg ho _ _ =>
    cases h2 with
    | ar h _ _ => exact (lg_ar h ho).elim
    | cmp _ h _ _ _ => exact Bool.noConfusion (ho.symm.trans h)
    | lg _ _ _ => rfl
/-! ### values -/
def bndV (n : Int) : V := if n.natAbs < 10 ^ 60 then .int n else .non
def colV : Cols → List V → Str → V
  | (c, _) :: cs, v :: vs, z => if c = z then v else colV cs vs z
  | _, _, _ => .non
def cmpV (o : Bop) (x y : V) : V := match x, y with
  | .int i, .int j => (match o with
    | .add => bndV (i + j)
    | .sub => bndV (i - j)
    | .mul => bndV (i * j)
    | .equal => .bl (decide (i = j))
    | .unequal => .bl (!decide (i = j))
    | .less => .bl (decide (i < j))
    | .atmost => .bl (decide (i ≤ j))
    | .more => .bl (decide (j < i))
    | .atleast => .bl (decide (j ≤ i))
    | _ => .non)
  | .str i, .str j => (match o with
    | .equal => .bl (decide (i = j))
    | .unequal => .bl (!decide (i = j))
    | .less => .bl (decide (i.cps.toList < j.cps.toList))
    | .atmost => .bl (!decide (j.cps.toList < i.cps.toList))
    | .more => .bl (decide (j.cps.toList < i.cps.toList))
    | .atleast => .bl (!decide (i.cps.toList < j.cps.toList))
    | _ => .non)
  | _, _ => .non
def andV (x y : V) : V := if x = .bl false ∨ y = .bl false then .bl false else if x = .non ∨ y = .non then .non else .bl true
def orV (x y : V) : V := if x = .bl true ∨ y = .bl true then .bl true else if x = .non ∨ y = .non then .non else .bl false
def evT (cs : Cols) (row : List V) : Tr → V
  | .int n => .int n
  | .text z => .str z
  | .col z => colV cs row z
  | .neg a => match evT cs row a with
    | .int i => bndV (-i)
    | _ => .non
  | .null a => .bl (decide (evT cs row a = .non))
  | .not a => match evT cs row a with
    | .bl b => .bl (!b)
    | _ => .non
  | .bin o a b => if o = .and then andV (evT cs row a) (evT cs row b) else if o = .or then orV (evT cs row a) (evT cs row b) else cmpV o (evT cs row a) (evT cs row b)
/-- a value of that kind -/
inductive VK' : Kd → V → Prop
  | non (k : Kd) : VK' k .non
  | int {i : Int} (h : i.natAbs < 10 ^ 60) : VK' .int (.int i)
  | str (z : Str) : VK' .text (.str z)
  | bl (b : Bool) : VK' .truth (.bl b)
theorem bnd_ok (i : Int) : VK' .int (bndV i) := by
  unfold bndV
  split
  · rename_i h; exact .int h
  · exact .non _
inductive RowOk : Cols → List V → Prop
  | nil : RowOk [] []
  | cons {c : Str} {k : Kd} {cs : Cols} {v : V} {vs : List V} (h : VK' k v) (r : RowOk cs vs) : RowOk ((c, k) :: cs) (v :: vs)
theorem RowOk.len : ∀ {cs : Cols} {vs : List V}, RowOk cs vs → vs.length = cs.length
  | _, _, .nil => rfl
  | _, _, .cons _ r => congrArg (· + 1) r.len
theorem colV_ok : ∀ {cs : Cols} {vs : List V} {z : Str} {k : Kd}, RowOk cs vs → (cs.find? fun c => decide (c.1 = z)).map (·.2) = some k → VK' k (colV cs vs z)
  | _, _, z, k, .cons (c := c) (k := k') (cs := cs) (v := v) (vs := vs) h r, f => by
    rw [List.find?_cons] at f
    unfold colV
    by_cases e : c = z
    · rw [decide_eq_true (show (c, k').1 = z from e)] at f
      rw [if_pos e, ← Option.some.inj f]
      exact h
    · rw [decide_eq_false (show ¬ (c, k').1 = z from e)] at f
      rw [if_neg e]
      exact colV_ok r f
theorem ev_ok {cs : Cols} {row : List V} (hr : RowOk cs row) {t : Tr} {k : Kd} (h : Ty cs t k) : VK' k (evT cs row t) := by
  induction h with
  | int h => exact .int (by omega)
  | text h => exact .str _
  | col h hk f => exact colV_ok hr f
  | @neg a h ih =>
    unfold evT
    generalize evT cs row a = x at ih
    cases ih with
    | non => exact .non _
    | int _ => exact bnd_ok _
  | null h hk ih => exact .bl _
  | @not a h ih =>
    unfold evT
    generalize evT cs row a = x at ih
    cases ih with
    | non => exact .non _
    | bl b => exact .bl _
  | @ar o a b ho h h2 ih ih2 =>
    unfold evT
    rw [if_neg (by intro z; rw [z] at ho; cases ho), if_neg (by intro z; rw [z] at ho; cases ho)]
    generalize evT cs row a = x at ih
    generalize evT cs row b = y at ih2
    cases ih with
    | non => cases ih2 <;> exact .non _
    | int _ =>
      cases ih2 with
      | non => exact .non _
      | int _ => cases o <;> first | exact bnd_ok _ | cases ho
  | @cmp o a b k ho ho2 hk h h2 ih ih2 =>
    unfold evT
    rw [if_neg (by intro z; rw [z] at ho2; cases ho2), if_neg (by intro z; rw [z] at ho2; cases ho2)]
    generalize evT cs row a = x at ih
    generalize evT cs row b = y at ih2
    cases ih with
    | non => cases ih2 <;> exact .non _
    | int _ =>
      cases ih2 with
      | non => exact .non _
      | int _ => cases o <;> first | exact .bl _ | exact .non _ | cases ho | cases ho2
    | str _ =>
      cases ih2 with
      | non => exact .non _
      | str _ => cases o <;> first | exact .bl _ | exact .non _ | cases ho | cases ho2
    | bl _ => exact absurd rfl hk
  | @lg o a b ho h h2 ih ih2 =>
    unfold evT
    by_cases e : o = .and
    · rw [if_pos e]
      unfold andV
      split
      · exact .bl _
      · split
        · exact .non _
        · exact .bl _
    · rw [if_neg e]
      by_cases e2 : o = .or
      · rw [if_pos e2]
        unfold orV
        split
        · exact .bl _
        · split
          · exact .non _
          · exact .bl _
      · cases o <;> first | exact absurd rfl e | exact absurd rfl e2 | cases ho
theorem VK'.flat {k : Kd} {v : V} (h : VK' k v) : flatV v = true := by cases h <;> rfl
def colsD (cs : Cols) : PyData := .tuple (cs.map fun c => .tuple [.str c.1, .str c.2.s])


/-! ### tuples of two and three; slices of tuples; membership of values -/
theorem dp_two {K : PySem.W.Frag} {H : Hp} {v : V} {a : Str} {d : PyData} (h : Dp K H v (.tuple [.str a, d])) : ∃ p x, v = .ref p ∧ SqT K H p [.str a, x] ∧ Dp K H x d := by
  cases h with
  | tup hs hds =>
    cases hds with
    | cons h1 r =>
      cases r with
      | cons h2 r =>
        cases r
        cases h1
        exact ⟨_, _, rfl, hs, h2⟩
theorem dp_three {K : PySem.W.Frag} {H : Hp} {v : V} {a : Str} {d e : PyData} (h : Dp K H v (.tuple [.str a, d, e])) : ∃ p x y, v = .ref p ∧ SqT K H p [.str a, x, y] ∧ Dp K H x d ∧ Dp K H y e := by
  cases h with
  | tup hs hds =>
    cases hds with
    | cons h1 r =>
      cases r with
      | cons h2 r =>
        cases r with
        | cons h3 r =>
          cases r
          cases h1
          exact ⟨_, _, _, rfl, hs, h2, h3⟩
/-- t[1:] of a tuple -/
theorem eu_sl1 {K : PySem.W.Frag} {σ : L2.St} {H : Hp} {te : TE} {tl th : TO} {a : Addr} {x : V} {xs : List V} (h : Ev te σ H (.ref a)) (h1 : EvO tl σ H (some 1)) (h2 : EvO th σ H none) (hx : SqT K H a (x :: xs)) : EvU (tSl (rSlA K) te tl th) σ H xs := fun H0 e Q q =>
  h H0 e _ fun H2 e2 => h1 H2 (e.trans e2) _ fun H3 e3 => h2 H3 ((e.trans e2).trans e3) _ fun H4 e4 => by
    have z1 : HT.sIx (x :: xs).length 0 (some 1) = 1 := by
      show HT.sIx (xs.length + 1) 0 (some ((1 : Nat) : Int)) = 1
      rw [HT.sIx_nat]
      omega
    refine ⟨a, x :: xs, rfl, ex_t (((e.trans e2).trans e3).trans e4) hx, fun z => ?_, fun _ p hp => ?_⟩
    · have := z.1
      rw [z1] at this
      cases this
    · have ec : cutV (x :: xs) (some 1) none = xs := by
        unfold cutV
        rw [z1, HT.sIx_none]
        show (xs.take (xs.length + 1 - 1)) = xs
        exact List.take_of_length_le (Nat.le_refl _)
      rw [ec]
      exact q p _ (fresh_back ((e2.trans e3).trans e4) hp) (((e2.trans e3).trans e4).trans (Ex.new hp)) upd_same
/-- [f(x) for x in a new tuple] -/
theorem el_mapTN {K : PySem.W.Frag} {σ : L2.St} {H : Hp} {tl te : TE} {j : Nat} {vs : List Nat} {xs ys : List V} (h : EvU tl σ H xs) (hz : xs.length ≤ 40000) (hw : ∀ x, wipe ((wipe σ vs).set j (some x)) vs = wipe σ vs) (hl : ys.length = xs.length)
    (he : ∀ (i : Nat) (x y : V), xs[i]? = some x → ys[i]? = some y → ∀ H1, Ex H H1 → Ev te ((wipe σ vs).set j (some x)) H1 y) : EvL (tLc (iTup K tl) (gName j) tYes te vs) σ H ys := by
  intro H0 e Q q
  refine h H0 e _ fun a H1 _ e1 ha => ⟨a, rfl, ⟨xs, st_of ha⟩, fun Dl hD => ?_⟩
  refine lc_tup (xs := xs) (fun i H' => H1 Dl = none ∧ Ex H1 H' ∧ H' Dl = some (.lst (ys.take i))) ⟨hD, Ex.new hD, upd_same⟩ (fun i H' _ p => ex_t p.2.1 (st_of ha)) (fun i x H' hi p => ⟨hw x, ?_⟩) (fun H' p => ?_)
  · obtain ⟨p1, p2, p3⟩ := p
    have hi2 : i < ys.length := by
      have := (List.getElem?_eq_some_iff.mp hi).1
      omega
    have hy : ys[i]? = some ys[i] := List.getElem?_eq_getElem hi2
    show te ((wipe σ vs).set j (some x)) H' _
    refine he i x ys[i] hi hy H1 (e.trans e1) H' p2 _ fun H4 e4 => ⟨ys.take i, e4 Dl _ p3, sz_lt (by rw [List.length_take]; omega), p1, (p2.trans e4).mut p1, ?_⟩
    rw [upd_same, List.take_add_one, hy] <;> rfl
  · obtain ⟨p1, p2, p3⟩ := p
    rw [← hl, List.take_length] at p3
    exact q Dl H' (fresh_back e1 p1) (e1.trans p2) p3
/-- list.index -/
theorem ev_index {K : PySem.W.Frag} {σ : L2.St} {H : Hp} {to te : TE} {ys : List V} {y z : V} {j : Nat} (h : EvL to σ H ys) (hy : ∀ H1, Ex H H1 → Ev te σ H1 y) (fy : flatV y = true) (fs : ys.all flatV = true) (hj : ys[j]? = some z) (hz : eqV z y = true) (hn : ∀ (m : Nat) (z' : V), m < j → ys[m]? = some z' → eqV z' y = false) :
    Ev (tBM K "list" (rIndex K) to (tCons te tNil)) σ H (.int (j : Int)) := fun H1 e Q q =>
  h H1 e _ fun p H2 _ e2 hp => ⟨.inl ⟨rfl, _, sq_of hp⟩, hy H2 (e.trans e2) _ (Ex.refl H2) _ fun H3 e3 => ⟨p, ys, y, j, z, rfl, rfl, sq_of (e3 _ _ hp), fy, fs, hj, hz, hn, q H3 (e2.trans e3)⟩⟩
theorem ev_abs {σ : L2.St} {H : Hp} {te : TE} {i : Int} (h : Ev te σ H (.int i)) : Ev (tCB (fun xs H Q => ∃ i, xs = [V.int i] ∧ Q (.int (if i < 0 then -i else i)) H) (tCons te tNil)) σ H (.int (i.natAbs : Int)) := fun H1 e Q q =>
  h H1 e _ fun H2 e2 => ⟨i, rfl, by
    have : (if i < 0 then -i else i) = (i.natAbs : Int) := by split <;> omega
    rw [this]
    exact q H2 e2⟩
theorem eqS_refl (z : Str) : eqV (.str z) (.str z) = true := by show (z == z) = true; simp
theorem eqS_ne {a b : Str} (h : a ≠ b) : eqV (.str a) (.str b) = false := by
  show (a == b) = false
  simpa using h
theorem in_non {x y : V} : inV .non [x, y] = decide (x = .non ∨ y = .non) := by
  have e : ∀ v : V, eqV v .non = decide (v = .non) := by intro v; cases v <;> rfl
  unfold inV
  simp only [List.any_cons, List.any_nil, Bool.or_false, e]
  by_cases h : x = .non <;> by_cases h2 : y = .non <;> simp [h, h2]
theorem in_non1 {x : V} : inV .non [x] = decide (x = .non) := by
  have e : ∀ v : V, eqV v .non = decide (v = .non) := by intro v; cases v <;> rfl
  unfold inV
  simp only [List.any_cons, List.any_nil, Bool.or_false, e]
theorem in_bl {x y : V} {b : Bool} (hx : VK' .truth x) (hy : VK' .truth y) : inV (.bl b) [x, y] = decide (x = .bl b ∨ y = .bl b) := by
  have e : ∀ v : V, VK' .truth v → eqV v (.bl b) = decide (v = .bl b) := by
    intro v h
    cases h with
    | non => rfl
    | bl c => cases b <;> cases c <;> rfl
  unfold inV
  simp only [List.any_cons, List.any_nil, Bool.or_false, e x hx, e y hy]
  by_cases h : x = .bl b <;> by_cases h2 : y = .bl b <;> simp [h, h2]
theorem kin_bop (o : Bop) : kIn o.s ["int", "text"] = false ∧ decide (o.s = Str.ofString "column") = false ∧ decide (o.s = Str.ofString "null") = false ∧ kIn o.s ["and", "or"] = o.lg ∧ decide (o.s = Str.ofString "or") = decide (o = .or) ∧ decide (o.s = Str.ofString "and") = decide (o = .and) ∧ decide (o.s = Str.ofString "not") = false ∧ kIn o.s ["neg", "add", "sub", "mul"] = o.ar ∧ decide (o.s = Str.ofString "neg") = false ∧ decide (o.s = Str.ofString "add") = decide (o = .add) ∧ decide (o.s = Str.ofString "sub") = decide (o = .sub) ∧ decide (o.s = Str.ofString "mul") = decide (o = .mul) ∧ decide (o.s = Str.ofString "equal") = decide (o = .equal) ∧ decide (o.s = Str.ofString "unequal") = decide (o = .unequal) ∧ decide (o.s = Str.ofString "less") = decide (o = .less) ∧ decide (o.s = Str.ofString "atmost") = decide (o = .atmost) ∧ decide (o.s = Str.ofString "more") = decide (o = .more) := by
  cases o <;> decide +kernel
def spEv (K : PySem.W.Frag) (n : Nat) : Sp := fun vs H Q _ => ∃ (t : Tr) (k : Kd) (cs : Cols) (row : List V) (vt vc : V) (r : Addr), vs = [vt, vc, .ref r] ∧ Dp K H vt t.d ∧ t.h ≤ n ∧ Ty cs t k ∧ Dp K H vc (colsD cs) ∧ SqT K H r row ∧ RowOk cs row ∧ cs.length ≤ 100 ∧ ∀ H', Ex H H' → Q (evT cs row t) H'
theorem cv_ev {K : PySem.W.Frag} {n : Nat} {t : Tr} {k : Kd} {cs : Cols} {row : List V} {vt vc : V} {r : Addr} {H : Hp} (h1 : Dp K H vt t.d) (h2 : t.h ≤ n) (h3 : Ty cs t k) (h4 : Dp K H vc (colsD cs)) (h5 : SqT K H r row) (h6 : RowOk cs row) (h7 : cs.length ≤ 100) : SpV (spEv K n) [vt, vc, .ref r] H (evT cs row t) := fun H1 e Q q E => ⟨t, k, cs, row, vt, vc, r, rfl, dp_mono e h1, h2, h3, dp_mono e h4, ex_t e h5, h6, h7, fun H2 e2 => q H2 e2⟩
/-- the columns in the heap -/
theorem cols_at {K : PySem.W.Frag} {H : Hp} {vc : V} {cs : Cols} (h : Dp K H vc (colsD cs)) : ∃ (c : Addr) (xs : List V), vc = .ref c ∧ SqT K H c xs ∧ xs.length = cs.length ∧ ∀ (i : Nat) (x : V), xs[i]? = some x → ∃ p c, cs[i]? = some c ∧ x = .ref p ∧ SqT K H p [.str c.1, .str c.2.s] := by
  cases h with
  | tup hs hds =>
    refine ⟨_, _, rfl, hs, by rw [dpa_len hds, List.length_map], fun i x hx => ?_⟩
    obtain ⟨d, h1, h2⟩ := dpa_at hds hx
    rw [List.getElem?_map] at h1
    cases e : cs[i]? with
    | none => rw [e] at h1; cases h1
    | some c =>
      rw [e] at h1
      rw [← Option.some.inj h1] at h2
      obtain ⟨p, y, rfl, h3, h4⟩ := dp_two h2
      cases h4
      exact ⟨p, c, rfl, rfl, h3⟩
def plc : Cols → Str → Nat
  | [], _ => 0
  | (c, _) :: cs, z => if c = z then 0 else plc cs z + 1
theorem plc_spec : ∀ {cs : Cols} {z : Str} {k : Kd} {row : List V}, (cs.find? fun c => decide (c.1 = z)).map (·.2) = some k → row.length = cs.length → (∃ c, cs[plc cs z]? = some c ∧ c.1 = z) ∧ row[plc cs z]? = some (colV cs row z) ∧ ∀ (m : Nat) c, m < plc cs z → cs[m]? = some c → c.1 ≠ z
  | (c, k') :: cs, z, k, v :: row, f, hl => by
    rw [List.find?_cons] at f
    unfold plc colV
    by_cases e : c = z
    · rw [if_pos e, if_pos e]
      exact ⟨⟨_, rfl, e⟩, rfl, fun m c h => by omega⟩
    · rw [decide_eq_false (show ¬ (c, k').1 = z from e)] at f
      rw [if_neg e, if_neg e]
      obtain ⟨⟨d, h1, h2⟩, h3, h4⟩ := plc_spec (cs := cs) (row := row) f (by simpa using hl)
      refine ⟨⟨d, by simpa using h1, h2⟩, by simpa using h3, fun m d' hm hd => ?_⟩
      cases m with
      | zero =>
        have : (c, k') = d' := by simpa using hd
        rw [← this]
        exact e
      | succ m => exact h4 m d' (by omega) (by simpa using hd)
  | (c, k') :: cs, z, k, [], f, hl => by simp at hl
  | [], z, k, row, f, hl => by cases f
/-- two ints or two texts -/
def Two (x y : V) : Prop := (∃ i j, x = .int i ∧ y = .int j) ∨ ∃ a b, x = .str a ∧ y = .str b
def rAny2 (f : Int → Int → Bool) (g : Str → Str → Bool) : R2 := fun x y H Q => (rI0 fun i j => .bl (f i j)) x y H Q ∨ (∃ i j, x = .str i ∧ y = .str j ∧ Q (.bl (g i j)) H)
theorem ev_two {σ : L2.St} {H : Hp} {ta tb : TE} {x y v : V} {f : Int → Int → Bool} {g : Str → Str → Bool} (ha : Ev ta σ H x) (hb : Ev tb σ H y) (h : Two x y) (hi : ∀ i j, x = .int i → y = .int j → v = .bl (f i j)) (hs : ∀ i j, x = .str i → y = .str j → v = .bl (g i j)) : Ev (tOp (rAny2 f g) ta tb) σ H v := by
  rcases h with ⟨i, j, rfl, rfl⟩ | ⟨i, j, rfl, rfl⟩
  · rw [hi i j rfl rfl]
    exact ev_op ha hb fun H1 e1 Q q => .inl ⟨i, j, rfl, rfl, q H1 (Ex.refl H1)⟩
  · rw [hs i j rfl rfl]
    exact ev_op ha hb fun H1 e1 Q q => .inr ⟨i, j, rfl, rfl, q H1 (Ex.refl H1)⟩
theorem ev_lt2 {σ : L2.St} {H : Hp} {ta tb : TE} {x y : V} (ha : Ev ta σ H x) (hb : Ev tb σ H y) (h : Two x y) : Ev (tOp (rAny2 (fun i j => decide (i < j)) (fun i j => decide (i.cps.toList < j.cps.toList))) ta tb) σ H (cmpV .less x y) := ev_two ha hb h (fun i j hx hy => by rw [hx, hy] <;> rfl) (fun i j hx hy => by rw [hx, hy] <;> rfl)
theorem less_bl {x y : V} (h : Two x y) : ∃ b, cmpV .less x y = .bl b ∧ cmpV .atleast x y = .bl (!b) ∧ cmpV .more y x = .bl b ∧ cmpV .atmost y x = .bl (!b) := by
  rcases h with ⟨i, j, rfl, rfl⟩ | ⟨i, j, rfl, rfl⟩
  · refine ⟨decide (i < j), rfl, ?_, rfl, ?_⟩
    · show V.bl (decide (j ≤ i)) = V.bl (!decide (i < j))
      rw [show decide (j ≤ i) = !decide (i < j) by by_cases h : i < j <;> simp [h] <;> omega]
    · show V.bl (decide (j ≤ i)) = V.bl (!decide (i < j))
      rw [show decide (j ≤ i) = !decide (i < j) by by_cases h : i < j <;> simp [h] <;> omega]
  · exact ⟨decide (i.cps.toList < j.cps.toList), rfl, rfl, rfl, rfl⟩
theorem Two.symm {x y : V} (h : Two x y) : Two y x := by
  rcases h with ⟨i, j, rfl, rfl⟩ | ⟨i, j, rfl, rfl⟩
  · exact .inl ⟨j, i, rfl, rfl⟩
  · exact .inr ⟨j, i, rfl, rfl⟩
/-- x is True, x is False, x None or a bool -/
def rIsF : R2 := fun x y H Q => ∃ b, y = .bl b ∧ ((x = .non ∧ Q (.bl false) H) ∨ ∃ a, x = .bl a ∧ Q (.bl (decide (a = b))) H)
theorem op_isF {X : Cx} : OpR X (compareOp .Is) rIsF := by
  intro pins s σ H x y v u Q I rx ry h
  obtain ⟨b, rfl, ⟨rfl, q⟩ | ⟨a, rfl, q⟩⟩ := h
  · cases (show v = Value.none from rx)
    cases (show u = Value.bool b from ry)
    exact wpAny_is_other rfl (fun z => nomatch z) ⟨.bl false, H, I, rfl, q⟩
  · exact op_is_bl pins s σ H (.bl a) (.bl b) v u Q I rx ry ⟨a, b, rfl, rfl, q⟩
theorem ev_isF {σ : L2.St} {H : Hp} {te : TE} {v : V} {b : Bool} (h : Ev te σ H v) (hv : VK' .truth v) : Ev (tOp rIsF te (tC (.bl b))) σ H (.bl (decide (v = .bl b))) := fun H1 e Q q => h H1 e _ fun H2 e2 => by
  cases hv with
  | non => exact ⟨b, rfl, .inl ⟨rfl, q H2 e2⟩⟩
  | bl a =>
    refine ⟨b, rfl, .inr ⟨a, rfl, ?_⟩⟩
    have : decide (V.bl a = V.bl b) = decide (a = b) := dec_bl
    rw [← this]
    exact q H2 e2
/-- [x for x in xs if p(x)] -/
theorem el_flL {K : PySem.W.Frag} {σ : L2.St} {H : Hp} {te tl : TE} {tt : TT} {a : Addr} {xs : List V} {j : Nat} {vs : List Nat} {p : V → Bool} (h : Ev te σ H (.ref a)) (hx : SqL K H a xs) (hz : xs.length ≤ 40000) (hw : ∀ x, wipe ((wipe σ vs).set j (some x)) vs = wipe σ vs)
    (ht : ∀ x, x ∈ xs → ∀ H1, Ex H H1 → EvT tt ((wipe σ vs).set j (some x)) H1 (p x)) (he : ∀ x H1, x ∈ xs → Ex H H1 → Ev tl ((wipe σ vs).set j (some x)) H1 x) : EvL (tLc (iList K te) (gName j) tt tl vs) σ H (xs.filter p) := by
  intro H0 e Q q
  refine h H0 e _ fun H1 e1 => ⟨a, rfl, ⟨xs, ex_l (e.trans e1) hx⟩, fun Dl hD => ?_⟩
  refine lc_list (xs := xs) (fun i H' => H1 Dl = none ∧ Ex H1 H' ∧ H' Dl = some (.lst ((xs.take i).filter p))) ⟨hD, Ex.new hD, upd_same⟩ (fun i H' _ z => ex_l ((e.trans e1).trans z.2.1) hx) (fun i x H' hi z => ⟨hw x, ?_⟩) (fun H' z => ?_)
  · obtain ⟨p1, p2, p3⟩ := z
    have hi2 := (List.getElem?_eq_some_iff.mp hi).1
    have hm := List.mem_of_getElem? hi
    have et : (xs.take (i + 1)).filter p = (xs.take i).filter p ++ (if p x = true then [x] else []) := by
      rw [List.take_add_one, hi, List.filter_append]
      show _ ++ [x].filter p = _
      by_cases hp : p x = true
      · rw [if_pos hp, List.filter_cons_of_pos hp] <;> rfl
      · rw [if_neg hp, List.filter_cons_of_neg hp] <;> rfl
    refine ht x hm H1 (e.trans e1) H' p2 _ fun H3 e3 => ?_
    cases hp : p x with
    | true =>
      show tl _ H3 _
      refine he x H1 hm (e.trans e1) H3 (p2.trans e3) _ fun H4 e4 => ⟨_, e4 Dl _ (e3 Dl _ p3), sz_lt ?_, p1, ((p2.trans e3).trans e4).mut p1, ?_⟩
      · have := List.length_filter_le p (xs.take i)
        rw [List.length_take] at this
        omega
      · rw [upd_same, et, if_pos hp]
    | false =>
      show H1 Dl = none ∧ _
      refine ⟨p1, p2.trans e3, ?_⟩
      rw [et, if_neg (by rw [hp]; exact Bool.false_ne_true), List.append_nil]
      exact e3 Dl _ p3
  · obtain ⟨p1, p2, p3⟩ := z
    rw [List.take_length] at p3
    exact q Dl H' (fresh_back e1 p1) (e1.trans p2) p3
theorem dpa_nons {K : PySem.W.Frag} {H : Hp} : ∀ {ys : List V}, (∀ y ∈ ys, y = .non) → DpAll K H ys (ys.map fun _ => PyData.none)
  | [], _ => .nil
  | y :: ys, h => by
    rw [h y (List.mem_cons_self ..)]
    exact .cons .non (dpa_nons fun z hz => h z (List.mem_cons_of_mem _ hz))
theorem ev_neNil {K : PySem.W.Frag} {σ : L2.St} {H : Hp} {ta : TE} {ys : List V} (h : EvL ta σ H ys) (hz : ∀ y ∈ ys, y = .non) : Ev (tOp (rNeD K) ta (tLst tNil)) σ H (.bl (!ys.isEmpty)) := by
  refine ev_opLL h (el_lst ea_nil (by decide)) fun p q H1 hp hq _ => rv_val fun H2 e2 Q k => ⟨_, _, .lst (sq_of (e2 _ _ hp)) (dpa_nons hz), .lst (sq_of (e2 _ _ hq)) .nil, shaped_lst (n := 0) (fun d hd => ?_) (by decide), by decide, ?_⟩
  · obtain ⟨z, hz', rfl⟩ := List.mem_map.mp hd
    exact .non 0
  · have e : PyData.eqv (.list (ys.map fun _ => PyData.none)) (.list []) = ys.isEmpty := by
      cases ys <;> simp [PyData.eqv, PyData.eqvAll]
    rw [e]
    exact k
theorem given_first {n j : Nat} {f : Nat → Bool} {v : Nat → V} (hj : j < n) (hf : f j = true) (hn : ∀ m, m < j → f m = false) : (given n f v)[0]? = some (v j) := by
  unfold given
  rw [List.getElem?_map]
  have : ((List.range n).filter f)[0]? = some j := by
    rw [← List.head?_eq_getElem?, List.head?_filter, List.find?_range_eq_some]
    exact ⟨hf, List.mem_range.mpr hj, fun m hm => by rw [hn m hm] <;> rfl⟩
  rw [this] <;> rfl
theorem et_andF {t u : TT} {σ : L2.St} {H : Hp} (h : EvT t σ H false) : EvT (tAnd t u) σ H false := et_is (et_and (a := false) (b := false) h fun z => nomatch z) rfl


/-! ### the chunk store -/
abbrev cF (b : Addr) (r : Int) (t : Addr) : List (Str × V) := [(("book" : Str), V.ref b), (("reads" : Str), V.int r), (("_texts" : Str), V.ref t)]
theorem cF_book (b : Addr) (r : Int) (t : Addr) : (cF b r t).lookup ("book" : Str) = some (.ref b) := by simp [cF, List.lookup]
theorem cF_reads (b : Addr) (r : Int) (t : Addr) : (cF b r t).lookup ("reads" : Str) = some (.int r) := by
  have h : (("reads" : Str) == ("book" : Str)) = false := by decide +kernel
  simp [cF, List.lookup, h]
theorem cF_texts (b : Addr) (r : Int) (t : Addr) : (cF b r t).lookup ("_texts" : Str) = some (.ref t) := by
  have h : (("_texts" : Str) == ("book" : Str)) = false := by decide +kernel
  have h2 : (("_texts" : Str) == ("reads" : Str)) = false := by decide +kernel
  simp [cF, List.lookup, h, h2]
theorem cF_no (b : Addr) (r : Int) (t : Addr) {m : Str} (h : (m == ("book" : Str)) = false) (h1 : (m == ("reads" : Str)) = false) (h2 : (m == ("_texts" : Str)) = false) : (cF b r t).lookup m = none := by simp [cF, List.lookup, h, h1, h2]
theorem cF_put (b : Addr) (r r' : Int) (t : Addr) : putF ("reads" : Str) (V.int r') (cF b r t) = cF b r' t := by
  have h : ¬ (("book" : Str) = ("reads" : Str)) := by decide +kernel
  simp [cF, putF, h]
theorem cF_put0 (b : Addr) : putF ("book" : Str) (V.ref b) [] = [(("book" : Str), V.ref b)] := rfl
theorem cF_put1 (b : Addr) (r : Int) : putF ("reads" : Str) (V.int r) [(("book" : Str), V.ref b)] = [(("book" : Str), V.ref b), (("reads" : Str), V.int r)] := by
  have h : ¬ (("book" : Str) = ("reads" : Str)) := by decide +kernel
  simp [putF, h]
theorem cF_put2 (b : Addr) (r : Int) (t : Addr) : putF ("_texts" : Str) (V.ref t) [(("book" : Str), V.ref b), (("reads" : Str), V.int r)] = cF b r t := by
  have h : ¬ (("book" : Str) = ("_texts" : Str)) := by decide +kernel
  have h2 : ¬ (("reads" : Str) = ("_texts" : Str)) := by decide +kernel
  simp [putF, cF, h, h2]
/-- a store stands at p, over the book at b, its dict at t -/
def CkAt (C : Addr) (H : Hp) (p b t : Addr) (r : Int) (kvs : List (Key × V)) : Prop := (∃ dx, H p = some (.ins C dx (cF b r t))) ∧ H t = some (.dK kvs)
theorem dropK_none {kvs : List (Key × V)} {k : Key} (h : valV kvs k = none) : dropK kvs k = kvs := by
  unfold dropK
  rw [List.filter_eq_self]
  intro kv hkv
  simp only [decide_eq_true_eq]
  intro z
  have := valV_any k kvs
  rw [h] at this
  have h2 : (kvs.any fun kv => decide (kv.1 = k)) = true := List.any_eq_true.mpr ⟨kv, hkv, by rw [z]; simp⟩
  rw [h2] at this
  cases this
/-- only what stands in S may change -/
def But (S : List Addr) (H H' : Hp) : Prop := ∀ c o, H c = some o → c ∉ S → H' c = some o
theorem But.refl {S : List Addr} {H : Hp} : But S H H := fun _ _ h _ => h
theorem But.of {S : List Addr} {H H' : Hp} (h : Ex H H') : But S H H' := fun c o e _ => h c o e
theorem But.trans {S : List Addr} {H H' H'' : Hp} (h : But S H H') (h2 : But S H' H'') : But S H H'' := fun c o e n => h2 c o (h c o e n) n
theorem But.sub {S S' : List Addr} {H H' : Hp} (h : But S H H') (hs : ∀ a ∈ S, a ∈ S') : But S' H H' := fun c o e n => h c o e fun z => n (hs c z)
theorem But.put {S : List Addr} {H : Hp} {a : Addr} {o : HO} (h : a ∈ S) : But S H (upd H a o) := fun c o' e n => by rw [upd_ne (fun z => n (by rw [z]; exact h))]; exact e
theorem But.new {S : List Addr} {H : Hp} {a : Addr} {o : HO} (h : H a = none) : But S H (upd H a o) := fun c o' e _ => by rw [upd_ne (ne_of_none e h)]; exact e
theorem t_joined {σ : L2.St} {H : Hp} {ts : List TE} {ys : List Str} {K : List V → Hp → Prop} (h : EvJ σ H ts ys) (hz : (ys.map (·.length)).sum ≤ 16777216) (k : ∀ H1, Ex H H1 → K [.str (ys.foldl (· ++ ·) Str.empty)] H1) :
    tCons (fun σ H Q => tJs ts Str.empty σ H fun out H1 => Q (.str out) H1) tNil σ H K := by
  show tJs ts Str.empty σ H (fun out H1 => K [V.str out] H1)
  exact ev_joined h hz H (Ex.refl H) (fun v H1 => K [v] H1) fun H1 e1 => k H1 e1
def tMethX (C : Addr) (m : Str) (sp : Sp) (E : L2.St → XK) (ta : TE) (t : TA) : TE := fun σ H Q => ta σ H fun x H1 => ∃ a dx fs, x = .ref a ∧ H1 a = some (.ins C dx fs) ∧ fs.lookup m = none ∧ t σ H1 fun vs H2 => sp (x :: vs) H2 Q (E σ)
/-- o.m(e, ..) that may raise, in a try -/
theorem pe_methX {X : Cx} {CX : CXT} {k : Nat} {C f : Addr} {fd : FuncData} {ps : List Str} {m : Str} {sp : Sp} {E : L2.St → XK} {o e : Expr} {es : List Expr} {ta : TE} {t : TA} {apos pos : Pos} {pl : Sem Bool} (he : PE X o ta) (c : Cls X.K C) (hm : Meth X.K C m f) (F : FnOk X.prog X.w X.K X.mg X.base CX k f fd ps sp) (hr : Room k X.A)
    (hb : Binds X.K fd ps []) (hx : ∀ σ, PassesAt CX X σ (E σ)) (ha : PA X (e :: es) t)
    (hst : starEach (e :: es) X.env = (false, eval e X.env) :: starEach es X.env := by rfl) (hpl : (backTo pos (starEach es X.env)).any (·.1) = false := by rfl)
    (ht : eval (.Call (.Attribute o m apos) (e :: es) [] pos) X.env = (do
      let ov ← eval o X.env
      standAt apos.atName
      let (f, first) ← holding [ov] (getMethod ov m pl)
      callWith pos f first (backTo pos (starEach (e :: es) X.env)) (backToKw pos (keywordEach [] X.env))) := by rfl) :
    PE X (.Call (.Attribute o m apos) (e :: es) [] pos) (tMethX C m sp E ta t) := by
  refine ⟨fun pins s σ H Q I h => ?_⟩
  refine PySem.W.methodCall_KW (pl := pl) (thn (he.run pins s σ H _ I h) fun u s1 ⟨x, H1, I1, rx, a, dx, fs, ex, ea, l, q⟩ => ?_) ht
  subst ex
  obtain rfl : u = Value.ref a := rx
  refine getmeth_ok I1 ea c hm l ?_
  refine PySem.W.callWith_K (first := [.ref a]) (h₀ := X.base) I.ok.mod.kin hm.kp (thn (ha.run pos pins s1 σ H1 _ I1 q) fun us s2 ⟨vs, H2, I2, r, q2⟩ => ⟨I2.kIn, ?_⟩) hst hpl
  exact run_fnS (us := .ref a :: us) (vs := .ref a :: vs) F hr hb (hx σ) I2 (.cons rfl r) q2
theorem ev_din {σ : L2.St} {H : Hp} {te td : TE} {x : Addr} {k : Key} {kvs : List (Key × V)} (h : Ev te σ H (kV k)) (h2 : Ev td σ H (.ref x)) (hx : H x = some (.dK kvs)) : Ev (tDIn te td) σ H (.bl (valV kvs k).isSome) := fun H1 e Q q =>
  h H1 e _ fun H2 e2 => h2 H2 (e.trans e2) _ fun H3 e3 => ⟨x, _, rfl, DGet.k (((e.trans e2).trans e3) _ _ hx), q H3 (e2.trans e3)⟩
theorem ev_dnin {σ : L2.St} {H : Hp} {te td : TE} {x : Addr} {k : Key} {kvs : List (Key × V)} (h : Ev te σ H (kV k)) (h2 : Ev td σ H (.ref x)) (hx : H x = some (.dK kvs)) : Ev (tDNotIn te td) σ H (.bl (!(valV kvs k).isSome)) := fun H1 e Q q =>
  h H1 e _ fun H2 e2 => h2 H2 (e.trans e2) _ fun H3 e3 => ⟨x, _, rfl, DGet.k (((e.trans e2).trans e3) _ _ hx), q H3 (e2.trans e3)⟩
theorem ev_dgetK {σ : L2.St} {H : Hp} {te td : TE} {x : Addr} {k : Key} {kvs : List (Key × V)} {v : V} (h2 : Ev td σ H (.ref x)) (h : Ev te σ H (kV k)) (hx : H x = some (.dK kvs)) (hv : valV kvs k = some v) : Ev (tDGet td te) σ H v := fun H1 e Q q =>
  h2 H1 e _ fun H2 e2 => h H2 (e.trans e2) _ fun H3 e3 => ⟨x, v, rfl, by rw [← hv]; exact DGet.k (((e.trans e2).trans e3) _ _ hx), q H3 (e2.trans e3)⟩
theorem CkAt.mono {C p b t : Addr} {r : Int} {H H' : Hp} {kvs : List (Key × V)} (h : CkAt C H p b t r kvs) (e : Ex H H') : CkAt C H' p b t r kvs := by
  obtain ⟨⟨dx, hp⟩, ht⟩ := h
  exact ⟨⟨dx, e _ _ hp⟩, e _ _ ht⟩
def Strs (kvs : List (Key × V)) : Prop := ∀ (k : Key) (v : V), valV kvs k = some v → ∃ z : Str, v = .str z
theorem ev_callH {sp : Sp} {E : L2.St → XK} {ta : TA} {σ : L2.St} {H : Hp} {vs : List V} {z : V} (h : EvA ta σ H vs) (c : SpV sp vs H z) : Ev (tCallS sp E ta) σ H z := fun H1 e Q q => h H1 e _ fun H2 e2 => c H2 (e.trans e2) Q (fun H3 e3 => q H3 (e2.trans e3)) (E σ)
theorem BkAt.mono {C p d : Addr} {H H' : Hp} {kvs : List (Key × V)} (b : BkAt C H p d kvs) (e : Ex H H') : BkAt C H' p d kvs := by
  obtain ⟨⟨dx, hp⟩, hd⟩ := b
  exact ⟨⟨dx, e _ _ hp⟩, e _ _ hd⟩
theorem s_appZ {K : PySem.W.Frag} {σ : L2.St} {H : Hp} {ta te : TE} {D : Ends} {v : V} {l : Addr} {xs : List V} (hl : H l = some (.lst xs)) (ha : Ev ta σ H (.ref l)) (h : Ev te σ H v) (hz : xs.length < sizeLine) (k : ∀ H1, Ex H H1 → D.nx σ (upd H1 l (.lst (xs ++ [v])))) :
    tDrop (tBM K "list" rAppend ta (tCons te tNil)) D σ H := ha H (Ex.refl H) _ fun H1 e1 =>
  ⟨Or.inl ⟨rfl, xs, sq_of (e1 l _ hl)⟩, h H1 e1 _ fun H2 e2 => ⟨l, xs, v, rfl, rfl, e2 l _ (e1 l _ hl), hz, k H2 (e1.trans e2)⟩⟩


/-! ### loops over a dict's keys (the dict is locked meanwhile) -/
theorem Ex.both {H H' : Hp} (e : Ex H H') (x : Addr) (o : HO) : Ex (upd H x o) (upd H' x o) := fun b v h => by
  by_cases hb : b = x
  · rw [hb, upd_same] at h ⊢; exact h
  · rw [upd_ne hb] at h ⊢; exact e _ _ h
theorem Ex.unlock {H H' : Hp} {x : Addr} {o u : HO} (e : Ex (upd H x o) H') (hx : H x = some u) : Ex H (upd H' x u) := fun b v h => by
  by_cases hb : b = x
  · rw [hb, hx] at h
    rw [hb, upd_same]
    exact h
  · rw [upd_ne hb]; exact e _ _ (by rw [upd_ne hb]; exact h)
theorem DGet.f {H : Hp} {a : Addr} {kvs : List (Key × V)} {k : Key} {o : Obj} (e : H a = some (.frz o (.dK kvs))) : DGet H a (kV k) (valV kvs k) := .inl ⟨kvs, k, .inr ⟨o, e⟩, rfl, rfl⟩
theorem ev_dgetF {σ : L2.St} {H : Hp} {te td : TE} {x : Addr} {k : Key} {kvs : List (Key × V)} {v : V} {o : Obj} (h2 : Ev td σ H (.ref x)) (h : Ev te σ H (kV k)) (hx : H x = some (.frz o (.dK kvs))) (hv : valV kvs k = some v) : Ev (tDGet td te) σ H v := fun H1 e Q q =>
  h2 H1 e _ fun H2 e2 => h H2 (e.trans e2) _ fun H3 e3 => ⟨x, v, rfl, by rw [← hv]; exact DGet.f (((e.trans e2).trans e3) _ _ hx), q H3 (e2.trans e3)⟩
theorem q_forK {σ : L2.St} {H : Hp} {te : TE} {tu tz : TS} {D : Ends} {j : Nat} {x : Addr} {kvs : List (Key × V)} (hx : H x = some (.dK kvs)) (h : ∀ H1, Ev te σ H1 (.ref x)) (Pv : Obj → Nat → L2.St → Hp → Prop)
    (h0 : ∀ od H1, Ex (upd H x (.frz od (.dK kvs))) H1 → Pv od 0 σ H1) (hl : ∀ od i σ' H', Pv od i σ' H' → H' x = some (.frz od (.dK kvs)))
    (hs : ∀ od i k v σ' H' (D' : Ends), kvs[i]? = some (k, v) → Pv od i σ' H' → (∀ σ2 H2, Pv od (i + 1) σ2 H2 → D'.nx σ2 H2) → (∀ σ2 H2, Pv od (i + 1) σ2 H2 → D'.ct σ2 H2) → (∀ v H2, H2 x = some (.frz od (.dK kvs)) → D.rt v (upd H2 x (.dK kvs)) → D'.rt v H2) → tu D' (σ'.set j (some (kV k))) H')
    (hd : ∀ od σ' H', Pv od kvs.length σ' H' → tz D σ' (upd H' x (.dK kvs))) : tSeq (tLock (tFor (iKeys te) (gName j) tu)) tz D σ H := by
  refine ⟨x, .dK kvs, hx, True.intro, fun od => ?_⟩
  refine h _ _ (Ex.refl _) _ fun H1 e1 => ⟨x, od, rfl, .inl ⟨kvs, e1 _ _ upd_same, ?_⟩⟩
  refine ⟨fun i m σ' H' => i + m = kvs.length ∧ Pv od i σ' H', ⟨kvs.length, by omega, h0 od H1 e1⟩, ?_⟩
  rintro i m σ' H' ⟨hm, p⟩
  by_cases hlt : i < kvs.length
  · refine .inr ⟨⟨hl _ _ _ _ p, hlt⟩, Pv od (i + 1), fun σ2 H2 p2 => ⟨m - 1, by omega, by omega, p2⟩, fun y H2 hy => ?_⟩
    obtain ⟨rfl, k, v, hk, rfl⟩ := hy
    exact hs od i k v σ' _ _ hk p (fun _ _ z => z) (fun _ _ z => z) fun v H3 z1 z2 => ⟨z1, z2⟩
  · have ei : i = kvs.length := by omega
    subst ei
    exact .inl ⟨⟨hl _ _ _ _ p, Nat.le_refl _⟩, hl _ _ _ _ p, hd od σ' H' p⟩
theorem el_lcK {σ : L2.St} {H : Hp} {te tl : TE} {x : Addr} {kvs : List (Key × V)} {j : Nat} {vs : List Nat} {ys : List V} (hx : H x = some (.dK kvs)) (h : ∀ H1, Ev te σ H1 (.ref x)) (hz : kvs.length ≤ 40000) (hw : ∀ y, wipe ((wipe σ vs).set j (some y)) vs = wipe σ vs) (hl : ys.length = kvs.length)
    (he : ∀ (od : Obj) (i : Nat) (k : Key) (v y : V), kvs[i]? = some (k, v) → ys[i]? = some y → ∀ H1, Ex (upd H x (.frz od (.dK kvs))) H1 → Ev tl ((wipe σ vs).set j (some (kV k))) H1 y) : EvL (tLockE (tLc (iKeys te) (gName j) tYes tl vs)) σ H ys := fun H0 e Q q => by
  refine ⟨x, .dK kvs, e _ _ hx, True.intro, fun od => h _ _ (Ex.refl _) _ fun H1 e1 => ⟨x, od, rfl, .inl ⟨kvs, e1 _ _ upd_same, fun D hD => ?_⟩⟩⟩
  have g : given kvs.length (fun _ => true) (fun i => ys.getD i .non) = ys := given_all hl fun i hi => by
    have hi2 : i < ys.length := by omega
    rw [List.getElem?_eq_getElem hi2, List.getD_eq_getElem?_getD, List.getElem?_eq_getElem hi2] <;> rfl
  have hDx : D ≠ x := fun z => by
    rw [z] at hD
    have y := e1 _ _ (upd_same (H := H0) (a := x) (o := .frz od (.dK kvs)))
    rw [hD] at y
    cases y
  have hD0 : H0 D = none := by
    have y := fresh_back e1 hD
    rw [upd_ne hDx] at y
    exact y
  refine ⟨fun i m H' => m = kvs.length - i ∧ i ≤ kvs.length ∧ Cw H1 (fun _ => true) (fun i => ys.getD i .non) D i H', ⟨_, rfl, Nat.zero_le _, hD, Ex.new hD, upd_same⟩, ?_⟩
  rintro i m H' ⟨rfl, hi, p⟩
  have hf : H' x = some (.frz od (.dK kvs)) := p.2.1 _ _ (e1 _ _ upd_same)
  by_cases hlt : i < kvs.length
  · refine .inr ⟨⟨hf, hlt⟩, Cw H1 (fun _ => true) (fun i => ys.getD i .non) D (i + 1), fun H2 p2 => ⟨_, by omega, rfl, hlt, p2⟩, fun y H2 hy => ?_⟩
    obtain ⟨rfl, k, v, hk, rfl⟩ := hy
    have hi2 : i < ys.length := by omega
    have hy : ys[i]? = some (ys.getD i .non) := by rw [List.getElem?_eq_getElem hi2, List.getD_eq_getElem?_getD, List.getElem?_eq_getElem hi2] <;> rfl
    exact ⟨hw _, cw_turn p (by omega) (fun H3 e3 Q q => q H3 (Ex.refl H3)) fun _ => (he od i k v _ hk hy H1 ((Ex.both e x _).trans e1))⟩
  · have ei : i = kvs.length := by omega
    subst ei
    refine .inl ⟨⟨hf, Nat.le_refl _⟩, hf, ?_⟩
    have p2 := p.2.2
    rw [g] at p2
    refine q D _ hD0 (Ex.unlock (e1.trans p.2.1) (e _ _ hx)) ?_
    rw [upd_ne hDx]
    exact p2
/-! ### the book's dict as a list of texts -/
def bkL : Int → List Str → List (Key × V)
  | _, [] => []
  | n, z :: r => (Sum.inr z, .int n) :: bkL (n + 1) r
def posZ (z : Str) : List Str → Nat
  | [] => 0
  | y :: r => if y = z then 0 else posZ z r + 1
def addZ (zs : List Str) (z : Str) : List Str := if z ∈ zs then zs else zs ++ [z]
theorem bkL_len : ∀ (n : Int) (zs : List Str), (bkL n zs).length = zs.length
  | _, [] => rfl
  | n, z :: r => by show (bkL (n + 1) r).length + 1 = r.length + 1; rw [bkL_len (n + 1) r]
theorem posZ_lt {z : Str} : ∀ {zs : List Str}, z ∈ zs → posZ z zs < zs.length
  | y :: r, h => by
    unfold posZ
    by_cases e : y = z
    · rw [if_pos e]; simp
    · rw [if_neg e]
      have h2 : z ∈ r := (List.mem_cons.mp h).resolve_left fun q => e q.symm
      have := posZ_lt h2
      simp; exact this
theorem posZ_at {z : Str} : ∀ {zs : List Str}, z ∈ zs → zs[posZ z zs]? = some z
  | y :: r, h => by
    unfold posZ
    by_cases e : y = z
    · rw [if_pos e, e] <;> rfl
    · rw [if_neg e]
      have h2 : z ∈ r := (List.mem_cons.mp h).resolve_left fun q => e q.symm
      rw [List.getElem?_cons_succ]
      exact posZ_at h2
theorem posZ_uniq {z : Str} : ∀ {zs : List Str} {j : Nat}, zs.Nodup → zs[j]? = some z → posZ z zs = j
  | [], _, _, h => by simp at h
  | y :: r, 0, _, h => by
    have e : y = z := by simpa using h
    unfold posZ
    rw [if_pos e]
  | y :: r, j + 1, nd, h => by
    rw [List.getElem?_cons_succ] at h
    have e : ¬ y = z := fun q => (List.nodup_cons.mp nd).1 (by rw [q]; exact List.mem_of_getElem? h)
    unfold posZ
    rw [if_neg e, posZ_uniq (List.nodup_cons.mp nd).2 h]
theorem posZ_app {z : Str} : ∀ {zs : List Str} (ys : List Str), z ∈ zs → posZ z (zs ++ ys) = posZ z zs
  | y :: r, ys, h => by
    rw [List.cons_append]
    unfold posZ
    by_cases e : y = z
    · rw [if_pos e, if_pos e]
    · rw [if_neg e, if_neg e, posZ_app ys ((List.mem_cons.mp h).resolve_left fun q => e q.symm)]
theorem posZ_end {z : Str} : ∀ {zs : List Str}, z ∉ zs → posZ z (zs ++ [z]) = zs.length
  | [], _ => by simp [posZ]
  | y :: r, h => by
    rw [List.cons_append]
    unfold posZ
    rw [if_neg (fun q => h (by rw [q]; exact List.mem_cons_self)), posZ_end (fun q => h (List.mem_cons_of_mem _ q))] <;> rfl
theorem bkL_val (z : Str) : ∀ (n : Int) (zs : List Str), valV (bkL n zs) (Sum.inr z : Key) = if z ∈ zs then some (.int (n + (posZ z zs : Nat))) else none
  | n, [] => by simp [bkL, valV]
  | n, y :: r => by
    by_cases e : y = z
    · subst e
      rw [bkL, valV_pos (p := (Sum.inr y, V.int n)) rfl, if_pos List.mem_cons_self]
      simp [posZ]
    · rw [bkL, valV_neg (p := (Sum.inr y, V.int n)) (fun q => e (Sum.inr.inj q)), bkL_val z (n + 1) r]
      have hm : (z ∈ y :: r) = (z ∈ r) := propext ⟨fun h => (List.mem_cons.mp h).resolve_left fun q => e q.symm, fun h => List.mem_cons_of_mem _ h⟩
      simp only [hm, posZ, if_neg e]
      by_cases h : z ∈ r
      · rw [if_pos h, if_pos h]
        congr 2
        omega
      · rw [if_neg h, if_neg h]
theorem bkL_at : ∀ {n : Int} {zs : List Str} {j : Nat} {z : Str}, zs[j]? = some z → (bkL n zs)[j]? = some (Sum.inr z, .int (n + (j : Nat)))
  | n, y :: r, 0, z, h => by
    have e : y = z := by simpa using h
    rw [e]
    simp [bkL]
  | n, y :: r, j + 1, z, h => by
    rw [List.getElem?_cons_succ] at h
    have := bkL_at (n := n + 1) h
    show (bkL (n + 1) r)[j]? = _
    rw [this]
    congr 3
    push_cast
    omega
theorem bkL_get {n : Int} {zs : List Str} {j : Nat} {k : Key} {v : V} (h : (bkL n zs)[j]? = some (k, v)) : ∃ z, zs[j]? = some z ∧ k = Sum.inr z ∧ v = .int (n + (j : Nat)) := by
  have hj : j < zs.length := by rw [← bkL_len n zs]; exact (List.getElem?_eq_some_iff.mp h).1
  have := bkL_at (n := n) (List.getElem?_eq_getElem hj)
  rw [h] at this
  have e := Option.some.inj this
  exact ⟨_, List.getElem?_eq_getElem hj, congrArg Prod.fst e, congrArg Prod.snd e⟩
theorem bkL_app : ∀ (n : Int) (zs : List Str) (z : Str), bkL n (zs ++ [z]) = bkL n zs ++ [(Sum.inr z, .int (n + (zs.length : Nat)))]
  | n, [], z => by simp [bkL]
  | n, y :: r, z => by
    rw [List.cons_append, bkL, bkL_app (n + 1) r z, bkL, List.cons_append, show n + 1 + ((r.length : Nat) : Int) = n + (((y :: r).length : Nat) : Int) from by rw [List.length_cons]; push_cast; omega]
theorem addK_bk (zs : List Str) (z : Str) : addK (bkL 1 zs) z = bkL 1 (addZ zs z) := by
  unfold addZ
  by_cases h : z ∈ zs
  · rw [if_pos h, addK_some (by rw [bkL_val, if_pos h])]
  · have hv : valV (bkL 1 zs) (Sum.inr z : Key) = none := by rw [bkL_val, if_neg h]
    rw [if_neg h, addK_none hv, putK_new _ hv, bkL_app, bkL_len, Int.add_comm]
theorem putK_bk {zs : List Str} {z : Str} (nd : zs.Nodup) : putK (bkL 1 zs) (Sum.inr z : Key) (.int (1 + (posZ z (addZ zs z) : Nat))) = bkL 1 (addZ zs z) := by
  unfold addZ
  by_cases h : z ∈ zs
  · rw [if_pos h]
    unfold putK
    split
    · refine (List.map_congr_left fun kv hkv => ?_).trans (List.map_id _)
      obtain ⟨j, hj, e⟩ := List.getElem_of_mem hkv
      obtain ⟨y, h1, h2, h3⟩ := bkL_get (n := 1) (zs := zs) (j := j) (k := kv.1) (v := kv.2) (by rw [List.getElem?_eq_getElem hj, e])
      by_cases hk : kv.1 = Sum.inr z
      · rw [if_pos hk]
        have e2 : y = z := Sum.inr.inj (h2.symm.trans hk)
        rw [e2] at h1
        rw [posZ_uniq nd h1, ← h3] <;> rfl
      · rw [if_neg hk] <;> rfl
    · rename_i hn
      exact absurd (by rw [valV_any, bkL_val, if_pos h] <;> rfl) hn
  · rw [if_neg h, posZ_end h, putK_new _ (by rw [bkL_val, if_neg h]), bkL_app]
theorem addZ_nodup {zs : List Str} {z : Str} (nd : zs.Nodup) : (addZ zs z).Nodup := by
  unfold addZ
  by_cases h : z ∈ zs
  · rw [if_pos h]; exact nd
  · rw [if_neg h]
    exact List.nodup_append.mpr ⟨nd, by simp, fun a ha b hb => by
      have e : b = z := by simpa using hb
      exact fun q => h (by rw [← e, ← q]; exact ha)⟩
theorem addZ_mem (zs : List Str) (z : Str) : z ∈ addZ zs z := by
  unfold addZ
  by_cases h : z ∈ zs
  · rw [if_pos h]; exact h
  · rw [if_neg h]; simp
theorem addZ_len (zs : List Str) (z : Str) : (addZ zs z).length ≤ zs.length + 1 := by
  unfold addZ
  by_cases h : z ∈ zs
  · rw [if_pos h]; omega
  · rw [if_neg h]; simp
theorem addZ_old {zs : List Str} {z y : Str} {j : Nat} (h : zs[j]? = some y) : (addZ zs z)[j]? = some y := by
  unfold addZ
  by_cases h2 : z ∈ zs
  · rw [if_pos h2]; exact h
  · rw [if_neg h2, List.getElem?_append_left (List.getElem?_eq_some_iff.mp h).1]; exact h
/-- old texts: the one with that address is that text -/
theorem addZ_eq {zs : List Str} {z y : Str} {j : Nat} (nd : zs.Nodup) (h : zs[j]? = some y) : (y = z) ↔ ((1 : Int) + (j : Nat) = 1 + (posZ z (addZ zs z) : Nat)) := by
  have nd2 := addZ_nodup (z := z) nd
  have h2 := addZ_old (z := z) h
  constructor
  · intro e
    rw [e] at h2
    rw [posZ_uniq nd2 h2]
  · intro e
    have ej : posZ z (addZ zs z) = j := by omega
    have := posZ_at (addZ_mem zs z)
    rw [ej, h2] at this
    exact Option.some.inj this
theorem nums_bk (n : Int) (zs : List Str) : Nums (bkL n zs) := fun k v h => by
  cases k with
  | inr z =>
    rw [bkL_val] at h
    split at h
    · exact ⟨_, (Option.some.inj h).symm⟩
    · cases h
  | inl i =>
    exfalso
    have hn : valV (bkL n zs) (Sum.inl i : Key) = none := by
      clear h
      induction zs generalizing n with
      | nil => rfl
      | cons y r ih =>
        rw [bkL, valV_neg (p := (Sum.inr y, V.int n)) (k := Sum.inl i) (by intro q; cases q)]
        exact ih _
    rw [hn] at h
    cases h


section
variable {P : Program} {w : World} {K : PySem.W.Frag} {mg : Str → Option Value} {base : Heap}

theorem ok_MissingChunk___init (T : Txt K mg P) : FnOk P w K mg base CX0 1 T.f_MissingChunk___init T.d_MissingChunk___init ["self", "address"] (spExI T.C_MissingChunk "address") := by
  obtain ⟨oc, od, kV, doc, pm, an, cc, cda, ct, osl, e, lk, hcd, S⟩ := T.F_MissingChunk___init.ex
  rw [e] at lk ⊢
  refine fn_sup lk hcd sc_MissingChunk___init (by obtain ⟨x1, x2, x3, x4⟩ := S.cell; exact ⟨x1, x2, _, x3, x4⟩) (fun vs H Q E h => ?_) (fun A outer s H vs Q E hr h => ?_)
  · obtain ⟨a, n, rfl, _⟩ := h
    rfl
  · obtain ⟨a, n, rfl, ha, hb, q⟩ := h
    refine ⟨_, pssa_sup S T.e_MissingChunk.o rfl rfl (one_look.mpr ⟨rfl, rfl⟩) rfl rfl T.m_super rfl rfl T.F_MissingChunk___init.top (pa_cons (pe_joined (.cons (pe_str) (.cons (pe_fmt (pv 1)) (.cons (pe_str) (.nil))))) pa_nil) (pss_one (ps_ost (pv 0) (pv 1) rfl)), ?_⟩
    have hnl := int_text_length_le (k := 1920) (by decide) hb
    refine ⟨a, rfl, ha, ?_⟩
    refine t_joined (ys := [Str.ofString "the chunk ", Str.ofString (toString n), Str.ofString " is not held"]) (.cons ev_c (.cons (ev_fmtI (i := n) (ev_var rfl) hb) (.cons ev_c (.nil)))) (by simp only [List.map_cons, List.map_nil, List.sum_cons, List.sum_nil]; rw [PySem.ofString_length (toString n)]; rw [show (Str.ofString "the chunk ").length = 10 from by decide +kernel]; rw [show (Str.ofString " is not held").length = 12 from by decide +kernel]; omega) fun H1 e1 => ⟨by show 1 ≤ 1000; decide, e1 _ _ ha, ?_⟩
    exact ⟨_, rfl, _, rfl, a, T.C_MissingChunk, rfl, T.e_MissingChunk.o, T.na_MissingChunk_address, .inl ⟨e1 _ _ ha, fun dx h1 h2 => q H1 e1 dx h1 h2⟩⟩

/-! ### Book.__init__ -/
def spBkI (C : Addr) : Sp := fun vs H Q _ => ∃ (p dx : Addr), vs = [.ref p] ∧ H p = some (.ins C dx []) ∧ ∀ (d : Addr) (H' : Hp), H d = none → d ≠ p → H' p = some (.ins C dx (aF d)) → H' d = some (.dK []) → (∀ b o, H b = some o → b ≠ p → H' b = some o) → Q .non H'
theorem ok_Book___init (T : Txt K mg P) : FnOk P w K mg base CX0 1 T.f_Book___init T.d_Book___init ["self"] (spBkI T.C_Book) := by
  refine T.F_Book___init.ok sc_Book___init (fun vs H Q E h => ?_) (fun cdv A outer s H vs Q E hr h => ?_)
  · obtain ⟨p, dx, rfl, _⟩ := h
    rfl
  · obtain ⟨p, dx, rfl, hp, q⟩ := h
    refine ⟨_, pss_one (ps_fld (pv 0) (pe_dnewK) rfl), ?_⟩
    intro d hd
    have npd : p ≠ d := ne_of_none hp hd
    refine ⟨_, rfl, p, T.C_Book, dx, [], rfl, (by rw [upd_ne npd]; exact hp), T.cl_Book, T.na_Book__addresses, (by show 0 < 1000; decide), ?_⟩
    refine q d _ hd npd.symm upd_same (by rw [upd_ne npd.symm, upd_same]) fun b o e hb => ?_
    rw [upd_ne hb, upd_ne (ne_of_none e hd)]
    exact e


/-! ### Book.__len__ -/
def spBkL (C : Addr) : Sp := fun vs H Q _ => ∃ (p d : Addr) (kvs : List (Key × V)), vs = [.ref p] ∧ BkAt C H p d kvs ∧ Q (.int (kvs.length : Int)) H
theorem ok_Book___len (T : Txt K mg P) : FnOk P w K mg base CX0 1 T.f_Book___len T.d_Book___len ["self"] (spBkL T.C_Book) := by
  refine T.F_Book___len.ok sc_Book___len (fun vs H Q E h => ?_) (fun cdv A outer s H vs Q E hr h => ?_)
  · obtain ⟨p, d, kvs, rfl, _⟩ := h
    rfl
  · obtain ⟨p, d, kvs, rfl, ⟨⟨dx, hp⟩, hd⟩, q⟩ := h
    refine ⟨_, pss_one (ps_ret (pe_callB call_lenD (by rfl) T.m_len (by decide +kernel) (pa_cons (pe_fld (pv 0) rfl) (pa_nil)))), ?_⟩
    exact ⟨_, rfl, p, T.C_Book, dx, _, _, rfl, hp, T.cl_Book, T.na_Book__addresses, aF_get d, d, kvs, rfl, hd, q⟩


/-! ### Chunks.__init__ -/
def spCkI (C : Addr) : Sp := fun vs H Q _ => ∃ (p dx b : Addr), vs = [.ref p, .ref b] ∧ H p = some (.ins C dx []) ∧ ∀ (t : Addr) (H' : Hp), H t = none → t ≠ p → CkAt C H' p b t 0 [] → But [p] H H' → Q .non H'
theorem ok_Chunks___init (T : Txt K mg P) : FnOk P w K mg base CX0 1 T.f_Chunks___init T.d_Chunks___init ["self", "book"] (spCkI T.C_Chunks) := by
  refine T.F_Chunks___init.ok sc_Chunks___init (fun vs H Q E h => ?_) (fun cdv A outer s H vs Q E hr h => ?_)
  · obtain ⟨p, dx, b, rfl, _⟩ := h
    rfl
  · obtain ⟨p, dx, b, rfl, hp, q⟩ := h
    refine ⟨_, pss_cons (ps_fld (pv 0) (pv 1) rfl)
      (pss_cons (ps_fld (pv 0) (pe_int) rfl)
      (pss_one (ps_fld (pv 0) (pe_dnewK) rfl))), ?_⟩
    refine ⟨_, rfl, _, rfl, p, T.C_Chunks, dx, [], rfl, hp, T.cl_Chunks, T.na_Chunks_book, (by show 0 < 1000; decide), ?_⟩
    refine ⟨_, rfl, p, T.C_Chunks, dx, _, rfl, upd_same, T.cl_Chunks, T.na_Chunks_reads, (by show 1 < 1000; decide), ?_⟩
    intro t ht
    have h0 : H t = none := by
      cases e : H t with
      | none => rfl
      | some o =>
        by_cases hx : t = p
        · rw [hx, upd_same] at ht; cases ht
        · rw [upd_ne hx, upd_ne hx, e] at ht; cases ht
    have npt : p ≠ t := ne_of_none hp h0
    refine ⟨_, rfl, p, T.C_Chunks, dx, _, rfl, (by rw [upd_ne npt]; exact upd_same), T.cl_Chunks, T.na_Chunks__texts, (by rw [cF_put0, cF_put1]; show 2 < 1000; decide), ?_⟩
    refine q t _ h0 npt.symm ⟨⟨dx, ?_⟩, ?_⟩ fun c o e n => ?_
    · rw [upd_same, cF_put0, cF_put1, cF_put2]
    · rw [upd_ne npt.symm, upd_same]
    · have hc : c ≠ p := fun z => n (by rw [z]; exact List.mem_singleton.mpr rfl)
      rw [upd_ne hc, upd_ne (ne_of_none e h0), upd_ne hc, upd_ne hc]
      exact e


/-! ### Chunks.__len__ -/
def spCkL (C : Addr) : Sp := fun vs H Q _ => ∃ (p b t : Addr) (r : Int) (kvs : List (Key × V)), vs = [.ref p] ∧ CkAt C H p b t r kvs ∧ Q (.int (kvs.length : Int)) H
theorem ok_Chunks___len (T : Txt K mg P) : FnOk P w K mg base CX0 1 T.f_Chunks___len T.d_Chunks___len ["self"] (spCkL T.C_Chunks) := by
  refine T.F_Chunks___len.ok sc_Chunks___len (fun vs H Q E h => ?_) (fun cdv A outer s H vs Q E hr h => ?_)
  · obtain ⟨p, b, t, r, kvs, rfl, _⟩ := h
    rfl
  · obtain ⟨p, b, t, r, kvs, rfl, ⟨⟨dx, hp⟩, ht⟩, q⟩ := h
    refine ⟨_, pss_one (ps_ret (pe_callB call_lenD (by rfl) T.m_len (by decide +kernel) (pa_cons (pe_fld (pv 0) rfl) (pa_nil)))), ?_⟩
    exact ⟨_, rfl, p, T.C_Chunks, dx, _, _, rfl, hp, T.cl_Chunks, T.na_Chunks__texts, cF_texts b r t, t, kvs, rfl, ht, q⟩


/-! ### Chunks.drop -/
def spCkD (C : Addr) : Sp := fun vs H Q _ => ∃ (p b t : Addr) (r n : Int) (kvs : List (Key × V)), vs = [.ref p, .int n] ∧ CkAt C H p b t r kvs ∧ ∀ H', H' t = some (.dK (dropK kvs (Sum.inl n : Key))) → But [t] H H' → Q .non H'
theorem ok_Chunks_drop (T : Txt K mg P) : FnOk P w K mg base CX0 1 T.f_Chunks_drop T.d_Chunks_drop ["self", "address"] (spCkD T.C_Chunks) := by
  refine T.F_Chunks_drop.ok sc_Chunks_drop (fun vs H Q E h => ?_) (fun cdv A outer s H vs Q E hr h => ?_)
  · obtain ⟨p, b, t, r, n, kvs, rfl, _⟩ := h
    rfl
  · obtain ⟨p, b, t, r, n, kvs, rfl, ⟨⟨dx, hp⟩, ht⟩, q⟩ := h
    have hu := hu_of hr
    refine ⟨_, pss_one (ps_expr (pe_dpop2 (pe_fld (pv 0) rfl) (pv 1) (pe_non) ⟨rfl, rfl, rfl, rfl⟩)), ?_⟩
    refine ⟨_, rfl, p, T.C_Chunks, dx, _, _, rfl, hp, T.cl_Chunks, T.na_Chunks__texts, cF_texts b r t, t, rfl, .inl ⟨kvs, .inl ht⟩, _, rfl, kvs, Sum.inl n, ht, rfl, fun v hv => ?_, fun hv => ?_⟩
    · exact q _ upd_same (But.put (List.mem_singleton.mpr rfl))
    · exact q _ (by rw [dropK_none hv]; exact ht) But.refl


/-! ### Chunks.has -/
def spCkH (C : Addr) : Sp := fun vs H Q _ => ∃ (p b t : Addr) (r n : Int) (kvs : List (Key × V)), vs = [.ref p, .int n] ∧ CkAt C H p b t r kvs ∧ Q (.bl (valV kvs (Sum.inl n : Key)).isSome) H
theorem ok_Chunks_has (T : Txt K mg P) : FnOk P w K mg base CX0 1 T.f_Chunks_has T.d_Chunks_has ["self", "address"] (spCkH T.C_Chunks) := by
  refine T.F_Chunks_has.ok sc_Chunks_has (fun vs H Q E h => ?_) (fun cdv A outer s H vs Q E hr h => ?_)
  · obtain ⟨p, b, t, r, n, kvs, rfl, _⟩ := h
    rfl
  · obtain ⟨p, b, t, r, n, kvs, rfl, ⟨⟨dx, hp⟩, ht⟩, q⟩ := h
    have hu := hu_of hr
    refine ⟨_, pss_one (ps_ret (pe_cmp (pc_din hu (pv 1) (pe_fld (pv 0) rfl)) rfl)), ?_⟩
    exact ⟨_, rfl, _, rfl, p, T.C_Chunks, dx, _, _, rfl, hp, T.cl_Chunks, T.na_Chunks__texts, cF_texts b r t, t, _, rfl, DGet.k (k := Sum.inl n) ht, q⟩


/-! ### _law_cell -/
def cellZ (ns : List Int) (k : Nat) : Int := ns.getD k 0
def sp_cell (K : PySem.W.Frag) : Sp := fun vs H Q _ => ∃ (a : Addr) (ns : List Int) (k : Nat), vs = [.ref a, .int (k : Int)] ∧ SqL K H a (ns.map V.int) ∧ ∀ H', Ex H H' → Q (.int (cellZ ns k)) H'
theorem ok_law_cell (T : Txt K mg P) : FnOk P w K mg base CX0 1 T.f_law_cell T.d_law_cell ["script", "k"] (sp_cell K) := by
  refine T.F_law_cell.ok sc_law_cell (fun vs H Q E h => ?_) (fun cdv A outer s H vs Q E hr h => ?_)
  · obtain ⟨a, ns, k, rfl, _⟩ := h
    rfl
  · obtain ⟨a, ns, k, rfl, hS, q⟩ := h
    refine ⟨_, pss_cons (ps_if (pt_cmpR op_lt (pv 1) (pe_callB (r := rLenQ K) call_len_seq (by rfl) T.m_len (by decide +kernel) (pa_cons (pv 0) (pa_nil))) (nomark _))
      (pss_one (ps_ret (pe_ix (r := rIxL K) ix_list (pv 0) (pv 1) (fun _ _ => rfl))))
      (pss_nil))
      (pss_one (ps_ret (pe_int))), ?_⟩
    refine q_when (b := decide ((k : Int) < ((ns.map V.int).length : Int))) (et_test (ev_bin0 (ev_var rfl) (ev_lenQ (K := K) (ev_var rfl) hS))) (fun hb H1 e1 => ?_) (fun hb H1 e1 => ?_)
    · have hk : k < ns.length := by
        have := of_decide_eq_true hb
        rw [List.length_map] at this
        omega
      refine s_ret (ev_ixL (K := K) (ev_var rfl) (ev_var rfl) (ex_l e1 hS) (at_nat (v := .int (cellZ ns k)) ?_)) fun H2 e2 => q H2 (e1.trans e2)
      rw [List.getElem?_map, List.getElem?_eq_getElem hk]
      unfold cellZ
      rw [List.getD_eq_getElem?_getD, List.getElem?_eq_getElem hk] <;> rfl
    · have hk : ¬ k < ns.length := by
        have := of_decide_eq_false hb
        rw [List.length_map] at this
        omega
      have e0 : cellZ ns k = 0 := by
        unfold cellZ
        rw [List.getD_eq_getElem?_getD, List.getElem?_eq_none (by omega)] <;> rfl
      refine s_ret ev_c fun H2 e2 => ?_
      rw [e0] at q
      exact q H2 (e1.trans e2)
theorem cv_cell {a : Addr} {ns : List Int} {k : Nat} {H : Hp} (h : SqL K H a (ns.map V.int)) : SpV (sp_cell K) [.ref a, .int (k : Int)] H (.int (cellZ ns k)) := fun H1 e Q q E => ⟨a, ns, k, rfl, ex_l e h, fun H2 e2 => q H2 e2⟩
theorem Wd.cell {ns : List Int} (h : ∀ n ∈ ns, Wd n) (k : Nat) : Wd (cellZ ns k) := by
  unfold cellZ
  rw [List.getD_eq_getElem?_getD]
  cases e : ns[k]? with
  | none => exact Wd.lit (by decide)
  | some x => exact h x (List.mem_of_getElem? e)


/-! ### _law_draws -/
def drawMix (cell salt : Int) (k : Nat) : Int :=
  ((cell * 48271 + (salt * 97 + (k : Int)) * 69621) % 2147483647 / 8 * ((cell * 48271 + (salt * 97 + (k : Int)) * 69621) % 2147483647 % 50021 + 16807) + (k : Int)) % 998244353 / 11
def drawSt (cell salt base : Int) : Nat → Int × List Int
  | 0 => (if 10 ^ 18 ≤ cell then cell else 0, [])
  | k + 1 => if 0 < (drawSt cell salt base k).1 then ((drawSt cell salt base k).1 / base, (drawSt cell salt base k).2 ++ [(drawSt cell salt base k).1 % base]) else ((drawSt cell salt base k).1, (drawSt cell salt base k).2 ++ [drawMix cell salt k])
theorem drawSt_succ (cell salt base : Int) (k : Nat) : drawSt cell salt base (k + 1) = if 0 < (drawSt cell salt base k).1 then ((drawSt cell salt base k).1 / base, (drawSt cell salt base k).2 ++ [(drawSt cell salt base k).1 % base]) else ((drawSt cell salt base k).1, (drawSt cell salt base k).2 ++ [drawMix cell salt k]) := rfl
def draws (cell salt : Int) (count : Nat) (base : Int) : List Int := (drawSt cell salt base count).2
theorem drawSt_len (cell salt base : Int) : ∀ k, (drawSt cell salt base k).2.length = k
  | 0 => rfl
  | k + 1 => by
    have ih := drawSt_len cell salt base k
    rw [drawSt_succ]
    split <;> simp [ih]
theorem draws_len (cell salt : Int) (n : Nat) (base : Int) : (draws cell salt n base).length = n := drawSt_len cell salt base n
theorem drawMix_ge (cell salt : Int) (k : Nat) : 0 ≤ drawMix cell salt k ∧ drawMix cell salt k < 998244353 := by
  unfold drawMix
  generalize (((cell * 48271 + (salt * 97 + (k : Int)) * 69621) % 2147483647 / 8 * ((cell * 48271 + (salt * 97 + (k : Int)) * 69621) % 2147483647 % 50021 + 16807) + (k : Int))) = m
  omega
theorem drawSt_ok {cell salt base : Int} (hc : Wd cell) (hb : 0 < base) (hbw : Wd base) : ∀ k, Wd (drawSt cell salt base k).1 ∧ ∀ n ∈ (drawSt cell salt base k).2, 0 ≤ n ∧ Wd n
  | 0 => by
    refine ⟨?_, fun n hn => by cases hn⟩
    show Wd (if _ then _ else _)
    split
    · exact hc
    · exact Wd.lit (by decide)
  | k + 1 => by
    obtain ⟨h1, h2⟩ := drawSt_ok (salt := salt) hc hb hbw k
    rw [drawSt_succ]
    split
    · refine ⟨Wd.div h1, fun n hn => ?_⟩
      rcases List.mem_append.mp hn with e | e
      · exact h2 n e
      · rw [List.mem_singleton.mp e]
        exact ⟨Int.emod_nonneg _ (by omega), Wd.mod hb hbw⟩
    · refine ⟨h1, fun n hn => ?_⟩
      rcases List.mem_append.mp hn with e | e
      · exact h2 n e
      · rw [List.mem_singleton.mp e]
        have := drawMix_ge cell salt k
        exact ⟨this.1, Wd.small (by omega) (by omega)⟩
theorem draws_ok {cell salt base : Int} (hc : Wd cell) (hb : 0 < base) (hbw : Wd base) (n : Nat) : ∀ x ∈ draws cell salt n base, 0 ≤ x ∧ Wd x := (drawSt_ok hc hb hbw n).2
theorem drawSt_lt {cell salt base : Int} (hb : 0 < base) (hB : base ≤ 1000000000) : ∀ k, ∀ n ∈ (drawSt cell salt base k).2, 0 ≤ n ∧ n < 1000000000
  | 0 => fun n hn => by cases hn
  | k + 1 => by
    have h2 := drawSt_lt (cell := cell) (salt := salt) hb hB k
    rw [drawSt_succ]
    split
    · intro n hn
      rcases List.mem_append.mp hn with e | e
      · exact h2 n e
      · rw [List.mem_singleton.mp e]
        have a1 := Int.emod_nonneg (drawSt cell salt base k).1 (by omega : base ≠ 0)
        have a2 := Int.emod_lt_of_pos (drawSt cell salt base k).1 hb
        omega
    · intro n hn
      rcases List.mem_append.mp hn with e | e
      · exact h2 n e
      · rw [List.mem_singleton.mp e]
        have := drawMix_ge cell salt k
        omega
theorem draws_lt {cell salt base : Int} (hb : 0 < base) (hB : base ≤ 1000000000) (n : Nat) : ∀ x ∈ draws cell salt n base, 0 ≤ x ∧ x < 1000000000 := drawSt_lt hb hB n
def sp_draws (K : PySem.W.Frag) : Sp := fun vs H Q _ => ∃ (cell salt : Int) (count : Nat) (base : Int), vs = [.int cell, .int salt, .int (count : Int), .int base] ∧ Wd cell ∧ (-100000 ≤ salt ∧ salt ≤ 100000) ∧ count ≤ 90000 ∧ 0 < base ∧ base.natAbs.log2 < 9000 ∧
  ∀ p H', H p = none → Ex H H' → H' p = some (.lst ((draws cell salt count base).map V.int)) → Q (.ref p) H'
theorem cl_draws {cell salt base : Int} {count : Nat} {H : Hp} (h1 : Wd cell) (h2 : -100000 ≤ salt ∧ salt ≤ 100000) (h3 : count ≤ 90000) (h4 : 0 < base) (h5 : base.natAbs.log2 < 9000) :
    SpL (sp_draws K) [.int cell, .int salt, .int (count : Int), .int base] H ((draws cell salt count base).map V.int) := fun H1 e Q q E => ⟨cell, salt, count, base, rfl, h1, h2, h3, h4, h5, fun p H2 hp e2 hl => q p H2 hp e2 hl⟩
theorem ok_law_draws (T : Txt K mg P) : FnOk P w K mg base CX0 1 T.f_law_draws T.d_law_draws ["cell", "salt", "count", "base"] (sp_draws K) := by
  refine T.F_law_draws.ok sc_law_draws (fun vs H Q E h => ?_) (fun cdv A outer s H vs Q E hr h => ?_)
  · obtain ⟨cell, salt, count, base, rfl, _⟩ := h
    rfl
  · obtain ⟨cell, salt, count, b, rfl, hc, hs, hn, hb, hbl, q⟩ := h
    have hbw : Wd b := ⟨by omega⟩
    refine ⟨_, pss_cons (ps_set (i := 4) sc_law_draws.nd rfl (by first | exact Or.inl rfl | exact Or.inr rfl) (pe_int))
      (pss_cons (ps_if (pt_cmpR op_ge (pv 0) (pe_op op_pow (pe_int) (pe_int)) (nomark _))
      (pss_one (ps_set (i := 4) sc_law_draws.nd rfl (by first | exact Or.inl rfl | exact Or.inr rfl) (pv 0)))
      (pss_nil))
      (pss_cons (ps_set (i := 5) sc_law_draws.nd rfl (by first | exact Or.inl rfl | exact Or.inr rfl) (pe_lst (pa_nil)))
      (pss_cons (ps_for PassesOwn.never rfl (pi_range1 (by rfl) T.m_range (pa_cons (pv 2) (pa_nil))) (pg_name (i := 6) sc_law_draws.nd rfl (by first | exact Or.inl rfl | exact Or.inr rfl))
      (pss_one (ps_if (pt_cmpR op_gt (pv 4) (pe_int) (nomark _))
      (pss_cons (ps_expr (pe_bm PySem.F.plainAttrs_list PySem.F.slot_list_append PySem.F.type_list_append mt_append (pv 5) (pa_cons (pe_op op_mod (pe_callTy call_int1 (by rfl) T.m_int (by decide +kernel) (pa_cons (pv 4) (pa_nil))) (pv 3)) (pa_nil))))
      (pss_one (ps_set (i := 4) sc_law_draws.nd rfl (by first | exact Or.inl rfl | exact Or.inr rfl) (pe_op op_fdivW (pv 4) (pv 3)))))
      (pss_cons (ps_set (i := 7) sc_law_draws.nd rfl (by first | exact Or.inl rfl | exact Or.inr rfl) (pe_op op_mod (pe_callTy call_int1 (by rfl) T.m_int (by decide +kernel) (pa_cons (pe_op op_add (pe_op op_mulX (pv 0) (pe_int)) (pe_op op_mulX (pe_op op_add (pe_op op_mulX (pv 1) (pe_int)) (pv 6)) (pe_int))) (pa_nil))) (pe_int)))
      (pss_cons (ps_set (i := 7) sc_law_draws.nd rfl (by first | exact Or.inl rfl | exact Or.inr rfl) (pe_op op_mod (pe_callTy call_int1 (by rfl) T.m_int (by decide +kernel) (pa_cons (pe_op op_add (pe_op op_mulX (pe_op op_fdivW (pv 7) (pe_int)) (pe_op op_add (pe_op op_mod (pe_callTy call_int1 (by rfl) T.m_int (by decide +kernel) (pa_cons (pv 7) (pa_nil))) (pe_int)) (pe_int))) (pv 6)) (pa_nil))) (pe_int)))
      (pss_one (ps_expr (pe_bm PySem.F.plainAttrs_list PySem.F.slot_list_append PySem.F.type_list_append mt_append (pv 5) (pa_cons (pe_op op_fdivW (pv 7) (pe_int)) (pa_nil))))))))))
      (pss_one (ps_ret (pv 5)))))), ?_⟩
    refine q_asg ev_c fun H1 e1 => ?_
    refine q_ifAsg (v := .int (drawSt cell salt b 0).1) (b := decide (10 ^ 18 ≤ cell)) (et_test (ev_bin0 (j := 10 ^ 18) (ev_var rfl) (ev_is (ev_bin ev_c ev_c ⟨by decide, by decide, by decide⟩) (by decide)))) (fun h => ?_) (fun h => ?_) fun H2 e2 => ?_
    · have e0 : (drawSt cell salt b 0).1 = cell := if_pos (of_decide_eq_true h)
      rw [e0]
      exact ev_var rfl
    · have e0 : (drawSt cell salt b 0).1 = 0 := if_neg (of_decide_eq_false h)
      rw [e0]
      rfl
    refine q_asgL (el_lst ea_nil (by decide)) fun p H3 hp e3 h3 => ?_
    have hp0 : H p = none := fresh_back (e1.trans e2) hp
    refine q_forR1 (n := (count : Int)) (ea_cons (ev_var rfl) ea_nil) (by omega) (fun i σ' H' => ∃ kv mv : Option V, σ' = [some (.int cell), some (.int salt), some (.int (count : Int)), some (.int b), some (.int (drawSt cell salt b i).1), some (.ref p), kv, mv] ∧ Ex H H' ∧ H' p = some (.lst ((drawSt cell salt b i).2.map V.int)))
      (fun H4 e4 => ⟨none, none, rfl, ((e1.trans e2).trans e3).trans e4, e4 p _ h3⟩) (fun i σ' H' hi hP => ?_) (fun σ' H' hP => ?_)
    · obtain ⟨kv, mv, rfl, eH, hl⟩ := hP
      have hW := (drawSt_ok (salt := salt) hc hb hbw i).1
      have hz : ((drawSt cell salt b i).2.map V.int).length < 100000 := by
        rw [List.length_map, drawSt_len]
        omega
      refine s_if (b := decide (0 < (drawSt cell salt b i).1)) (et_test (ev_bin0 (ev_var rfl) ev_c)) (fun h H1 e1 => ?_) (fun h H1 e1 => ?_)
      · have e0 : drawSt cell salt b (i + 1) = ((drawSt cell salt b i).1 / b, (drawSt cell salt b i).2 ++ [(drawSt cell salt b i).1 % b]) := if_pos (of_decide_eq_true h)
        refine q_app (K := K) (e1 p _ hl) (ev_var rfl) (ev_bin (ev_intI (ev_var rfl)) (ev_var rfl) hb) hz fun H2 e2 => ?_
        refine s_asg (ev_bin (ev_var rfl) (ev_var rfl) ⟨hb, hbl⟩) fun H3 e3 => ⟨some (.int (i : Int)), mv, ?_, (((eH.trans e1).trans e2).mut hp0).trans e3, ?_⟩
        · rw [e0]; rfl
        · rw [e3 p _ upd_same, e0, List.map_append] <;> rfl
      · have e0 : drawSt cell salt b (i + 1) = ((drawSt cell salt b i).1, (drawSt cell salt b i).2 ++ [drawMix cell salt i]) := if_neg (of_decide_eq_false h)
        have hm := Int.emod_nonneg (cell * 48271 + (salt * 97 + (i : Int)) * 69621) (by decide : (2147483647 : Int) ≠ 0)
        have hm2 := Int.emod_lt_of_pos (cell * 48271 + (salt * 97 + (i : Int)) * 69621) (by decide : (0 : Int) < 2147483647)
        refine q_asg (v := .int ((cell * 48271 + (salt * 97 + (i : Int)) * 69621) % 2147483647)) (ev_bin (ev_intI (ev_bin0 (ev_bin (ev_var rfl) ev_c (Wd.mul hc (Wd.lit (by decide)))) (ev_bin (ev_bin0 (ev_bin (ev_var rfl) ev_c (Wd.mul (Wd.small (by omega) (by omega)) (Wd.lit (by decide)))) (ev_var rfl)) ev_c (Wd.mul (Wd.small (by omega) (by omega)) (Wd.lit (by decide)))))) ev_c (by decide)) fun H2 e2 => ?_
        refine q_asg (v := .int (((cell * 48271 + (salt * 97 + (i : Int)) * 69621) % 2147483647 / 8 * ((cell * 48271 + (salt * 97 + (i : Int)) * 69621) % 2147483647 % 50021 + 16807) + (i : Int)) % 998244353)) (ev_bin (ev_intI (ev_bin0 (ev_bin (ev_bin (ev_var rfl) ev_c ⟨by decide, by decide⟩) (ev_bin0 (ev_bin (ev_intI (ev_var rfl)) ev_c (by decide)) ev_c) (Wd.mul (Wd.div (Wd.small (by omega) (by omega))) (Wd.small (by omega) (by omega)))) (ev_var rfl))) ev_c (by decide)) fun H3 e3 => ?_
        refine s_app (K := K) (((e1.trans e2).trans e3) p _ hl) (ev_var rfl) (v := .int (drawMix cell salt i)) (ev_bin (ev_var rfl) ev_c ⟨by decide, by decide⟩) hz fun H4 e4 => ⟨some (.int (i : Int)), some (.int (((cell * 48271 + (salt * 97 + (i : Int)) * 69621) % 2147483647 / 8 * ((cell * 48271 + (salt * 97 + (i : Int)) * 69621) % 2147483647 % 50021 + 16807) + (i : Int)) % 998244353)), ?_, ((((eH.trans e1).trans e2).trans e3).trans e4).mut hp0, ?_⟩
        · rw [e0]; rfl
        · rw [upd_same, e0, List.map_append] <;> rfl
    · obtain ⟨kv, mv, rfl, eH, hl⟩ := hP
      have ec : (count : Int).toNat = count := by omega
      rw [ec] at hl
      exact s_ret (ev_var rfl) fun H1 e1 => q p H1 hp0 (eH.trans e1) (e1 p _ hl)


/-! ### Chunks.get -/
def spCkG (C : Addr) : Sp := fun vs H Q _ => ∃ (p b t : Addr) (r n : Int) (kvs : List (Key × V)) (v : V), vs = [.ref p, .int n] ∧ CkAt C H p b t r kvs ∧ valV kvs (Sum.inl n : Key) = some v ∧ ∀ H', CkAt C H' p b t (r + 1) kvs → But [p] H H' → Q v H'
theorem ok_Chunks_get (T : Txt K mg P) : FnOk P w K mg base CX0 4 T.f_Chunks_get T.d_Chunks_get ["self", "address"] (spCkG T.C_Chunks) := by
  refine T.F_Chunks_get.ok sc_Chunks_get (fun vs H Q E h => ?_) (fun cdv A outer s H vs Q E hr h => ?_)
  · obtain ⟨p, b, t, r, n, kvs, v, rfl, _⟩ := h
    rfl
  · obtain ⟨p, b, t, r, n, kvs, v, rfl, ⟨⟨dx, hp⟩, ht⟩, hv, q⟩ := h
    have hu := hu_of hr
    have npt : p ≠ t := ne_of hp ht (by intro z; cases z)
    refine ⟨_, pss_cons (ps_fldaug (pv 0) (pe_int) in_add)
      (pss_cons (ps_if (pt_cmp (pc_dnotin hu (pv 1) (pe_fld (pv 0) rfl)))
      (pss_one (ps_never))
      (pss_nil))
      (pss_one (ps_ret (pe_dget hu (pe_fld (pv 0) rfl) (pv 1) (fun _ _ => rfl))))), ?_⟩
    refine ⟨_, rfl, p, T.C_Chunks, dx, _, _, rfl, hp, T.cl_Chunks, T.na_Chunks_reads, cF_reads b r t, r, 1, rfl, rfl, dx, _, hp, (by show 3 < 1000; decide), ?_⟩
    rw [cF_put]
    have ht1 : upd H p (.ins T.C_Chunks dx (cF b (r + 1) t)) t = some (.dK kvs) := by rw [upd_ne npt.symm]; exact ht
    refine ⟨_, rfl, _, rfl, p, T.C_Chunks, dx, _, _, rfl, upd_same, T.cl_Chunks, T.na_Chunks__texts, cF_texts b (r + 1) t, t, _, rfl, DGet.k (k := Sum.inl n) ht1, ?_⟩
    rw [hv]
    refine ⟨_, rfl, iteF ?_⟩
    exact ⟨_, rfl, p, T.C_Chunks, dx, _, _, rfl, upd_same, T.cl_Chunks, T.na_Chunks__texts, cF_texts b (r + 1) t, _, rfl, t, v, rfl, (by rw [← hv]; exact DGet.k (k := Sum.inl n) ht1), q _ ⟨⟨dx, upd_same⟩, ht1⟩ (But.put (List.mem_singleton.mpr rfl))⟩
def spCkX (C CM : Addr) : Sp := fun vs H _ E => ∃ (p b t : Addr) (r n : Int) (kvs : List (Key × V)), vs = [.ref p, .int n] ∧ CkAt C H p b t r kvs ∧ valV kvs (Sum.inl n : Key) = none ∧ n.natAbs.log2 < 1920 ∧
  ∀ (dx : Addr) H', H dx = none → H' dx = some (.xd [(Str.ofString "address", .int n)]) → CkAt C H' p b t (r + 1) kvs → But [p] H H' → E (.ref CM) (some dx) H'
theorem ok_Chunks_get_bad (T : Txt K mg P) : FnOk P w K mg base (L2N.CX P w) 4 T.f_Chunks_get T.d_Chunks_get ["self", "address"] (spCkX T.C_Chunks T.C_MissingChunk) := by
  refine okN T.F_Chunks_get sc_Chunks_get (fun vs H Q E h => ?_) (fun cdv A outer s H vs Q E hr h => ?_)
  · obtain ⟨p, b, t, r, n, kvs, rfl, _⟩ := h
    rfl
  · obtain ⟨p, b, t, r, n, kvs, rfl, ⟨⟨dx, hp⟩, ht⟩, hv, hb, q⟩ := h
    have hu := hu_of hr
    have npt : p ≠ t := ne_of hp ht (by intro z; cases z)
    refine ⟨_, pss_cons (ps_fldaug (pv 0) (pe_int) in_add)
      (pss_cons (ps_if (pt_cmp (pc_dnotin hu (pv 1) (pe_fld (pv 0) rfl)))
      (pss_one (L2N.ps_raise rfl (L2N.takes_of rfl rfl rfl rfl) (pmkN_oex T.e_MissingChunk.o T.F_MissingChunk___init.iC T.F_MissingChunk___init.tI (ok_MissingChunk___init T) (hr.mono (by first | decide | omega)) T.b_MissingChunk___init pass0 (by rfl) T.e_MissingChunk.g (pa_cons (pv 1) (pa_nil)))))
      (pss_nil))
      (pss_one (ps_ret (pe_dget hu (pe_fld (pv 0) rfl) (pv 1) (fun _ _ => rfl))))), ?_⟩
    refine ⟨_, rfl, p, T.C_Chunks, dx, _, _, rfl, hp, T.cl_Chunks, T.na_Chunks_reads, cF_reads b r t, r, 1, rfl, rfl, dx, _, hp, (by show 3 < 1000; decide), ?_⟩
    rw [cF_put]
    have ht1 : upd H p (.ins T.C_Chunks dx (cF b (r + 1) t)) t = some (.dK kvs) := by rw [upd_ne npt.symm]; exact ht
    refine ⟨_, rfl, _, rfl, p, T.C_Chunks, dx, _, _, rfl, upd_same, T.cl_Chunks, T.na_Chunks__texts, cF_texts b (r + 1) t, t, _, rfl, DGet.k (k := Sum.inl n) ht1, ?_⟩
    rw [hv]
    refine ⟨_, rfl, iteT ?_⟩
    refine ⟨_, rfl, by show 1 ≤ 1000; decide, fun a ha => ⟨a, n, rfl, upd_same, hb, fun H3 e3 d h1 h2 => ⟨rfl, d, _, upd_same, by rw [upd_ne h2, upd_same], ?_, ?_⟩⟩⟩
    · have z := fresh_back e3 h1
      rw [upd_ne h2] at z
      exact z
    · have z := fresh_back e3 h1
      rw [upd_ne h2] at z
      have hd0 : H d = none := by
        by_cases hx : d = p
        · rw [hx, upd_same] at z; cases z
        · rw [upd_ne hx] at z; exact z
      have st : ∀ c o, upd H p (.ins T.C_Chunks dx (cF b (r + 1) t)) c = some o → upd (del (upd (upd H3 d (exd d [(Str.ofString "address", V.int n)])) a (exo a T.C_MissingChunk (some d))) a) d (.xd [(Str.ofString "address", V.int n)]) c = some o := fun c o e => by
        have c1 : c ≠ d := ne_of_none e z
        have c2 : c ≠ a := ne_of_none e ha
        rw [upd_ne c1, del_ne c2, upd_ne c2, upd_ne c1]
        exact e3 _ _ (by rw [upd_ne c2]; exact e)
      exact q d _ hd0 upd_same ⟨⟨dx, st _ _ upd_same⟩, st _ _ ht1⟩ fun c o e nc => st _ _ (by rw [upd_ne (fun y => nc (by rw [y]; exact List.mem_singleton.mpr rfl))]; exact e)


/-! ### _law_is -/
def spIs : Sp := fun vs H Q _ => ∃ i j : Int, vs = [.int i, .int j] ∧ ∀ H', Ex H H' → Q (.bl (decide (i = j))) H'
theorem ok_law_is (T : Txt K mg P) : FnOk P w K mg base CX0 1 T.f_law_is T.d_law_is ["actual", "expected"] spIs := by
  refine T.F_law_is.ok sc_law_is (fun vs H Q E h => ?_) (fun cdv A outer s H vs Q E hr h => ?_)
  · obtain ⟨i, j, rfl, _⟩ := h
    rfl
  · obtain ⟨i, j, rfl, q⟩ := h
    refine ⟨_, pss_one (ps_ret (pe_and (pe_callB (r := rIsi K) call_isi (by rfl) T.m_isinstance (by decide +kernel) (pa_cons (pv 0) (pa_cons (pe_bltn (v := .ty "int") (by rfl) T.m_int (by decide +kernel) rfl) (pa_nil)))) (pe_and (pe_not (pe_callB (r := rIsi K) call_isi (by rfl) T.m_isinstance (by decide +kernel) (pa_cons (pv 0) (pa_cons (pe_bltn (v := .ty "bool") (by rfl) T.m_bool (by decide +kernel) rfl) (pa_nil))))) (pe_one (pe_cmpR op_eq (pv 0) (pv 1) (nomark _)))))), ?_⟩
    exact s_ret (ev_is (ev_andV (a := true) (ev_isi (K := K) (a := "int") (ev_var rfl) (fun _ _ => .base (.int i)) (by decide +kernel)) fun _ => ev_andV (a := true) (ev_is (ev_notV (ev_isi (K := K) (a := "int") (r := false) (ev_var rfl) (fun _ _ => .base (.int i)) (by decide +kernel))) rfl) fun _ => ev_eqI (ev_var rfl) (ev_var rfl)) (by simp)) q


theorem okH_law_is (T : Txt K mg P) : L2H.FnH P w K mg base CX0 1 T.f_law_is T.d_law_is ["actual", "expected"] spIs := by
  refine okH T.F_law_is sc_law_is (fun vs H Q E h => ?_) (fun cdv A outer s H vs Q E p hr h => ?_)
  · obtain ⟨i, j, rfl, _⟩ := h
    rfl
  · obtain ⟨i, j, rfl, q⟩ := h
    refine ⟨_, pss_one (ps_ret (pe_and (pe_callB (r := rIsi K) call_isi (by rfl) T.m_isinstance (by decide +kernel) (pa_cons (pv 0) (pa_cons (pe_bltn (v := .ty "int") (by rfl) T.m_int (by decide +kernel) rfl) (pa_nil)))) (pe_and (pe_not (pe_callB (r := rIsi K) call_isi (by rfl) T.m_isinstance (by decide +kernel) (pa_cons (pv 0) (pa_cons (pe_bltn (v := .ty "bool") (by rfl) T.m_bool (by decide +kernel) rfl) (pa_nil))))) (pe_one (pe_cmpR op_eq (pv 0) (pv 1) (nomark _)))))), ?_⟩
    exact s_ret (ev_is (ev_andV (a := true) (ev_isi (K := K) (a := "int") (ev_var rfl) (fun _ _ => .base (.int i)) (by decide +kernel)) fun _ => ev_andV (a := true) (ev_is (ev_notV (ev_isi (K := K) (a := "int") (r := false) (ev_var rfl) (fun _ _ => .base (.int i)) (by decide +kernel))) rfl) fun _ => ev_eqI (ev_var rfl) (ev_var rfl)) (by simp)) q


/-! ### _law_integer -/
def integerZ (cell : Int) : Int :=
  if cell % 8 = 0 then 0 else if cell % 8 = 1 then 1 + cell / 8 % 12 else if cell % 8 = 2 then -1 - cell / 8 % 12 else if cell % 8 = 3 then 10 ^ 60 - 1 - cell / 8 % 3 else
  if cell % 8 = 4 then 1 - 10 ^ 60 + cell / 8 % 3 else if cell % 8 = 5 then (cell / 8 * 10 ^ 52 + cell / 8) % 10 ^ 60 else if cell % 8 = 6 then -(cell / 8 % 10 ^ 60) else cell / 8 % 2001 - 1000
theorem integerZ_lt (cell : Int) : -(10 ^ 60) < integerZ cell ∧ integerZ cell < 10 ^ 60 := by
  unfold integerZ
  have h1 := Int.emod_nonneg (cell / 8) (by decide : (12 : Int) ≠ 0)
  have h2 := Int.emod_lt_of_pos (cell / 8) (by decide : (0 : Int) < 12)
  have h3 := Int.emod_nonneg (cell / 8) (by decide : (3 : Int) ≠ 0)
  have h4 := Int.emod_lt_of_pos (cell / 8) (by decide : (0 : Int) < 3)
  have h5 := Int.emod_nonneg (cell / 8 * 10 ^ 52 + cell / 8) (by decide : (10 ^ 60 : Int) ≠ 0)
  have h6 := Int.emod_lt_of_pos (cell / 8 * 10 ^ 52 + cell / 8) (by decide : (0 : Int) < 10 ^ 60)
  have h7 := Int.emod_nonneg (cell / 8) (by decide : (10 ^ 60 : Int) ≠ 0)
  have h8 := Int.emod_lt_of_pos (cell / 8) (by decide : (0 : Int) < 10 ^ 60)
  have h9 := Int.emod_nonneg (cell / 8) (by decide : (2001 : Int) ≠ 0)
  have h10 := Int.emod_lt_of_pos (cell / 8) (by decide : (0 : Int) < 2001)
  generalize (cell / 8 * 10 ^ 52 + cell / 8) % 10 ^ 60 = a at *
  generalize cell / 8 % 10 ^ 60 = b at *
  generalize cell / 8 % 2001 = c at *
  generalize cell / 8 % 12 = d at *
  generalize cell / 8 % 3 = e at *
  have e60 : (10 : Int) ^ 60 = 1000000000000000000000000000000000000000000000000000000000000 := by decide
  rw [e60] at *
  repeat' split
  all_goals omega
theorem integerZ_log (cell : Int) : (integerZ cell).natAbs.log2 < 1920 := by
  have h := integerZ_lt cell
  have e60 : (10 : Int) ^ 60 = 1000000000000000000000000000000000000000000000000000000000000 := by decide
  rw [e60] at h
  refine Nat.lt_of_lt_of_le (PySem.Flt.log2_lt_of (k := 256) (by decide) ?_) (by decide)
  omega
def sp_integer : Sp := fun vs H Q _ => ∃ cell : Int, vs = [.int cell] ∧ Wd cell ∧ ∀ H', Ex H H' → Q (.int (integerZ cell)) H'
theorem cv_integer {cell : Int} {H : Hp} (hc : Wd cell) : SpV sp_integer [.int cell] H (.int (integerZ cell)) := fun H1 e Q q E => ⟨cell, rfl, hc, fun H2 e2 => q H2 e2⟩
theorem ok_law_integer (T : Txt K mg P) : FnOk P w K mg base CX0 1 T.f_law_integer T.d_law_integer ["cell"] sp_integer := by
  refine T.F_law_integer.ok sc_law_integer (fun vs H Q E h => ?_) (fun cdv A outer s H vs Q E hr h => ?_)
  · obtain ⟨n, rfl, _⟩ := h
    rfl
  · obtain ⟨n, rfl, hW, q⟩ := h
    unfold integerZ at q
    refine ⟨_, pss_cons (ps_set (i := 1) sc_law_integer.nd rfl (by first | exact Or.inl rfl | exact Or.inr rfl) (pe_op op_mod (pe_callTy call_int1 (by rfl) T.m_int (by decide +kernel) (pa_cons (pv 0) (pa_nil))) (pe_int)))
      (pss_cons (ps_set (i := 2) sc_law_integer.nd rfl (by first | exact Or.inl rfl | exact Or.inr rfl) (pe_op op_fdivW (pv 0) (pe_int)))
      (pss_cons (ps_if (pt_cmpR op_eq (pv 1) (pe_int) (nomark _))
      (pss_one (ps_ret (pe_int)))
      (pss_nil))
      (pss_cons (ps_if (pt_cmpR op_eq (pv 1) (pe_int) (nomark _))
      (pss_one (ps_ret (pe_op op_add (pe_int) (pe_op op_mod (pe_callTy call_int1 (by rfl) T.m_int (by decide +kernel) (pa_cons (pv 2) (pa_nil))) (pe_int)))))
      (pss_nil))
      (pss_cons (ps_if (pt_cmpR op_eq (pv 1) (pe_int) (nomark _))
      (pss_one (ps_ret (pe_op op_sub (pe_un un_neg (pe_int)) (pe_op op_mod (pe_callTy call_int1 (by rfl) T.m_int (by decide +kernel) (pa_cons (pv 2) (pa_nil))) (pe_int)))))
      (pss_nil))
      (pss_cons (ps_if (pt_cmpR op_eq (pv 1) (pe_int) (nomark _))
      (pss_one (ps_ret (pe_op op_sub (pe_op op_sub (pe_op op_pow (pe_int) (pe_int)) (pe_int)) (pe_op op_mod (pe_callTy call_int1 (by rfl) T.m_int (by decide +kernel) (pa_cons (pv 2) (pa_nil))) (pe_int)))))
      (pss_nil))
      (pss_cons (ps_if (pt_cmpR op_eq (pv 1) (pe_int) (nomark _))
      (pss_one (ps_ret (pe_op op_add (pe_op op_sub (pe_int) (pe_op op_pow (pe_int) (pe_int))) (pe_op op_mod (pe_callTy call_int1 (by rfl) T.m_int (by decide +kernel) (pa_cons (pv 2) (pa_nil))) (pe_int)))))
      (pss_nil))
      (pss_cons (ps_if (pt_cmpR op_eq (pv 1) (pe_int) (nomark _))
      (pss_one (ps_ret (pe_op op_mod (pe_callTy call_int1 (by rfl) T.m_int (by decide +kernel) (pa_cons (pe_op op_add (pe_op op_mulX (pv 2) (pe_op op_pow (pe_int) (pe_int))) (pv 2)) (pa_nil))) (pe_op op_pow (pe_int) (pe_int)))))
      (pss_nil))
      (pss_cons (ps_if (pt_cmpR op_eq (pv 1) (pe_int) (nomark _))
      (pss_one (ps_ret (pe_un un_neg (pe_op op_mod (pe_callTy call_int1 (by rfl) T.m_int (by decide +kernel) (pa_cons (pv 2) (pa_nil))) (pe_op op_pow (pe_int) (pe_int))))))
      (pss_nil))
      (pss_one (ps_ret (pe_op op_sub (pe_op op_mod (pe_callTy call_int1 (by rfl) T.m_int (by decide +kernel) (pa_cons (pv 2) (pa_nil))) (pe_int)) (pe_int)))))))))))), ?_⟩
    have p60 : ∀ {σ : L2.St} {H : Hp}, Ev (tOp (rI CPow fun i j => V.int (i ^ j.toNat)) (tC (.int 10)) (tC (.int 60))) σ H (.int (10 ^ 60)) := ev_bin ev_c ev_c ⟨by decide, by decide, by decide⟩
    have p52 : ∀ {σ : L2.St} {H : Hp}, Ev (tOp (rI CPow fun i j => V.int (i ^ j.toNat)) (tC (.int 10)) (tC (.int 52))) σ H (.int (10 ^ 52)) := ev_bin ev_c ev_c ⟨by decide, by decide, by decide⟩
    refine q_asg (ev_bin (ev_intI (ev_var rfl)) ev_c (by decide)) fun H1 e1 => ?_
    refine q_asg (ev_bin (ev_var rfl) ev_c ⟨by decide, by decide⟩) fun H2 e2 => ?_
    have e := e1.trans e2
    refine q_when (et_test (ev_eqI (ev_var rfl) ev_c)) (fun hb H3 e3 => ?_) (fun hb H3 e3 => ?_)
    · rw [if_pos (of_decide_eq_true hb)] at q
      exact s_ret ev_c fun H4 e4 => q H4 ((e.trans e3).trans e4)
    rw [if_neg (of_decide_eq_false hb)] at q
    have e := e.trans e3
    refine q_when (et_test (ev_eqI (ev_var rfl) ev_c)) (fun hb H3 e3 => ?_) (fun hb H3 e3 => ?_)
    · rw [if_pos (of_decide_eq_true hb)] at q
      exact s_ret (ev_bin0 ev_c (ev_bin (ev_intI (ev_var rfl)) ev_c (by decide))) fun H4 e4 => q H4 ((e.trans e3).trans e4)
    rw [if_neg (of_decide_eq_false hb)] at q
    have e := e.trans e3
    refine q_when (et_test (ev_eqI (ev_var rfl) ev_c)) (fun hb H3 e3 => ?_) (fun hb H3 e3 => ?_)
    · rw [if_pos (of_decide_eq_true hb)] at q
      exact s_ret (ev_bin0 (ev_neg ev_c) (ev_bin (ev_intI (ev_var rfl)) ev_c (by decide))) fun H4 e4 => q H4 ((e.trans e3).trans e4)
    rw [if_neg (of_decide_eq_false hb)] at q
    have e := e.trans e3
    refine q_when (et_test (ev_eqI (ev_var rfl) ev_c)) (fun hb H3 e3 => ?_) (fun hb H3 e3 => ?_)
    · rw [if_pos (of_decide_eq_true hb)] at q
      exact s_ret (ev_bin0 (ev_bin0 p60 ev_c) (ev_bin (ev_intI (ev_var rfl)) ev_c (by decide))) fun H4 e4 => q H4 ((e.trans e3).trans e4)
    rw [if_neg (of_decide_eq_false hb)] at q
    have e := e.trans e3
    refine q_when (et_test (ev_eqI (ev_var rfl) ev_c)) (fun hb H3 e3 => ?_) (fun hb H3 e3 => ?_)
    · rw [if_pos (of_decide_eq_true hb)] at q
      exact s_ret (ev_bin0 (ev_bin0 ev_c p60) (ev_bin (ev_intI (ev_var rfl)) ev_c (by decide))) fun H4 e4 => q H4 ((e.trans e3).trans e4)
    rw [if_neg (of_decide_eq_false hb)] at q
    have e := e.trans e3
    refine q_when (et_test (ev_eqI (ev_var rfl) ev_c)) (fun hb H3 e3 => ?_) (fun hb H3 e3 => ?_)
    · rw [if_pos (of_decide_eq_true hb)] at q
      exact s_ret (ev_bin (ev_intI (ev_bin0 (ev_bin (ev_var rfl) p52 (Wd.mul (Wd.div hW) (Wd.lit (by decide)))) (ev_var rfl))) p60 (by decide)) fun H4 e4 => q H4 ((e.trans e3).trans e4)
    rw [if_neg (of_decide_eq_false hb)] at q
    have e := e.trans e3
    refine q_when (et_test (ev_eqI (ev_var rfl) ev_c)) (fun hb H3 e3 => ?_) (fun hb H3 e3 => ?_)
    · rw [if_pos (of_decide_eq_true hb)] at q
      exact s_ret (ev_neg (ev_bin (ev_intI (ev_var rfl)) p60 (by decide))) fun H4 e4 => q H4 ((e.trans e3).trans e4)
    rw [if_neg (of_decide_eq_false hb)] at q
    have e := e.trans e3
    exact s_ret (ev_bin0 (ev_bin (ev_intI (ev_var rfl)) ev_c (by decide)) ev_c) fun H4 e4 => q H4 (e.trans e4)


/-! ### _law_signs -/
def sgnZ : List Nat := [110, 105, 116, 40, 41, 59, 58, 45, 48, 49, 50, 51, 52, 53, 54, 55, 56, 57]
theorem sgn_eq : (Str.ofString "nit();:-0123456789" : Str) = ⟨sgnZ.toArray⟩ := by decide +kernel
def sgnC (n : Int) : Nat := sgnZ.getD (n % 18).toNat 0
def signsC (cell : Int) (n : Nat) : List Nat := (draws cell 4 n 18).map sgnC
def signsT (cell : Int) (n : Nat) : Str := ⟨(signsC cell n).toArray⟩
theorem signsC_len (cell : Int) (n : Nat) : (signsC cell n).length = n := by
  unfold signsC
  rw [List.length_map, draws_len]
def sp_signs : Sp := fun vs H Q _ => ∃ (cell : Int) (n : Nat), vs = [.int cell, .int (n : Int)] ∧ Wd cell ∧ n ≤ 1000 ∧ ∀ H', Ex H H' → Q (.str (signsT cell n)) H'
theorem cv_signs {cell : Int} {n : Nat} {H : Hp} (hc : Wd cell) (hn : n ≤ 1000) : SpV sp_signs [.int cell, .int (n : Int)] H (.str (signsT cell n)) := fun H1 e Q q E => ⟨cell, n, rfl, hc, hn, fun H2 e2 => q H2 e2⟩
theorem ok_law_signs (T : Txt K mg P) : FnOk P w K mg base CX0 2 T.f_law_signs T.d_law_signs ["cell", "length"] sp_signs := by
  refine T.F_law_signs.ok sc_law_signs (fun vs H Q E h => ?_) (fun cdv A outer s H vs Q E hr h => ?_)
  · obtain ⟨c, n, rfl, _⟩ := h
    rfl
  · obtain ⟨c, n, rfl, hW, hn, q⟩ := h
    refine ⟨_, pss_cons (ps_set (i := 2) sc_law_signs.nd rfl (by first | exact Or.inl rfl | exact Or.inr rfl) (pe_str))
      (pss_one (ps_ret (pe_join (pe_str) (pe_lc (own := [("number", 3)]) (g := gName 3) (tt := tYes) rfl sc_law_signs.nd (pi_list (pe_call (ok_law_draws T) (hr.mono (by first | decide | omega)) (by rfl) T.g_law_draws T.F_law_draws.kp T.b_law_draws .nil pass0 (pa_cons (pv 0) (pa_cons (pe_int) (pa_cons (pv 1) (pa_cons (pe_int) (pa_nil))))))) (blkOk_by (N := ["cell", "length", "signs", "number"]) (sc := defScope s_law_signs) (by decide +kernel)) (fun _ _ _ _ _ => pg_name (i := 3) sc_law_signs.nd rfl (Or.inl rfl)) (fun _ _ _ _ _ => pts_nil) (fun _ _ _ _ _ => pe_ix ix_str (pv 2) (pe_op op_mod (pe_callTy call_int1 (by rfl) T.m_int (by decide +kernel) (pa_cons (pv 3) (pa_nil))) (pe_int)) (fun _ _ => rfl)))))), ?_⟩
    refine q_asg ev_c fun H1 e1 => ?_
    have et : signsT c n = Txt.join (Str.ofString "") ((signsC c n).map fun c => (⟨#[c]⟩ : Str)) := (join_signs (signsC c n)).symm
    refine s_ret (v := .str (signsT c n)) ?_ fun H4 e4 => q H4 (e1.trans e4)
    rw [et]
    refine ev_joinN (K := K) ev_c ?_ ?_
    · have em : ((signsC c n).map fun c => (⟨#[c]⟩ : Str)).map V.str = (draws c 4 n 18).map fun m => V.str ⟨#[sgnC m]⟩ := by
        unfold signsC
        rw [List.map_map, List.map_map] <;> rfl
      rw [em]
      refine el_mapN (K := K) (el_call (ea_cons (ev_var rfl) (ea_cons ev_c (ea_cons (ev_var rfl) (ea_cons ev_c ea_nil)))) (cl_draws hW (by decide) (by omega) (by decide) (by decide))) (by rw [draws_len]; omega) (fun x => rfl) fun m _ H5 e5 => ?_
      have h1 := Int.emod_nonneg m (by decide : (18 : Int) ≠ 0)
      have h2 := Int.emod_lt_of_pos m (by decide : (0 : Int) < 18)
      exact ev_ixS (z := ⟨sgnZ.toArray⟩) (c := sgnC m) (ev_is (ev_var rfl) (congrArg V.str sgn_eq)) (ev_bin (ev_intI (ev_var rfl)) ev_c (by decide)) (by decide +kernel) (at_cps rfl h1 (by show m % 18 < (18 : Nat); omega))
    · rw [sum_ones, List.length_map, signsC_len]
      show n + n * 0 ≤ 16777216
      omega


/-! ### _law_char -/
/-- the law's signs -/
def signsZ : List Nat := [32, 33, 34, 35, 36] ++ (List.range 89).map (· + 38)
theorem signs_len : signsZ.length = 94 := by decide +kernel
theorem signs_ok : ∀ c ∈ signsZ, 32 ≤ c ∧ c ≤ 126 ∧ c ≠ 37 := by decide +kernel
theorem signs_eq : (Str.ofString " !\"#$&'()*+,-./0123456789:;<=>?@ABCDEFGHIJKLMNOPQRSTUVWXYZ[\\]^_`" ++ Str.ofString "abcdefghijklmnopqrstuvwxyz{|}~" : Str) = ⟨signsZ.toArray⟩ := by decide +kernel
def charC (n : Int) : Nat := signsZ.getD (n % 94).toNat 0
def charZ (n : Int) : Str := ⟨#[charC n]⟩
theorem charC_mem (n : Int) : charC n ∈ signsZ := by
  have h1 := Int.emod_nonneg n (by decide : (94 : Int) ≠ 0)
  have h2 := Int.emod_lt_of_pos n (by decide : (0 : Int) < 94)
  have h3 : (n % 94).toNat < signsZ.length := by rw [signs_len]; omega
  unfold charC
  rw [List.getD_eq_getElem?_getD, List.getElem?_eq_getElem h3]
  exact List.getElem_mem h3
def sp_char : Sp := fun vs H Q _ => ∃ n : Int, vs = [.int n] ∧ ∀ H', Ex H H' → Q (.str (charZ n)) H'
theorem cv_char {n : Int} {H : Hp} : SpV sp_char [.int n] H (.str (charZ n)) := fun H1 e Q q E => ⟨n, rfl, fun H2 e2 => q H2 e2⟩
theorem ok_law_char (T : Txt K mg P) : FnOk P w K mg base CX0 1 T.f_law_char T.d_law_char ["number"] sp_char := by
  refine T.F_law_char.ok sc_law_char (fun vs H Q E h => ?_) (fun cdv A outer s H vs Q E hr h => ?_)
  · obtain ⟨n, rfl, _⟩ := h
    rfl
  · obtain ⟨n, rfl, q⟩ := h
    have h1 := Int.emod_nonneg n (by decide : (94 : Int) ≠ 0)
    have h2 := Int.emod_lt_of_pos n (by decide : (0 : Int) < 94)
    refine ⟨_, pss_cons (ps_set (i := 1) sc_law_char.nd rfl (by first | exact Or.inl rfl | exact Or.inr rfl) (pe_str))
      (pss_cons (ps_set (i := 1) sc_law_char.nd rfl (by first | exact Or.inl rfl | exact Or.inr rfl) (pe_op op_add_str (pv 1) (pe_str)))
      (pss_one (ps_ret (pe_ix ix_str (pv 1) (pe_op op_mod (pe_callTy call_int1 (by rfl) T.m_int (by decide +kernel) (pa_cons (pv 0) (pa_nil))) (pe_int)) (fun _ _ => rfl))))), ?_⟩
    refine q_asg ev_c fun H1 e1 => ?_
    refine q_asg (ev_addS (ev_var rfl) ev_c (by decide +kernel)) fun H2 e2 => ?_
    refine s_ret (ev_ixS (z := ⟨signsZ.toArray⟩) (c := charC n) (ev_is (ev_var rfl) (congrArg V.str signs_eq)) (ev_bin (ev_intI (ev_var rfl)) ev_c (by decide)) (by decide +kernel) (at_cps rfl h1 (by rw [signs_len]; exact h2))) fun H3 e3 => q H3 ((e1.trans e2).trans e3)


/-! ### _law_text -/
def textLen (cell : Int) : Nat := ([0, 1, 2, 3, 4, 6, (cell / 8 % 61).toNat, 60] : List Nat).getD (cell % 8).toNat 0
theorem textLen_le (cell : Int) : textLen cell ≤ 60 := by
  have h1 := Int.emod_nonneg (cell / 8) (by decide : (61 : Int) ≠ 0)
  have h2 := Int.emod_lt_of_pos (cell / 8) (by decide : (0 : Int) < 61)
  have h3 : ∀ x ∈ ([0, 1, 2, 3, 4, 6, (cell / 8 % 61).toNat, 60] : List Nat), x ≤ 60 := by
    intro x hx
    simp only [List.mem_cons, List.not_mem_nil, or_false] at hx
    omega
  unfold textLen
  rw [List.getD_eq_getElem?_getD]
  cases e : ([0, 1, 2, 3, 4, 6, (cell / 8 % 61).toNat, 60] : List Nat)[(cell % 8).toNat]? with
  | none => exact Nat.zero_le _
  | some x => exact h3 x (List.mem_of_getElem? e)
def textC (cell : Int) : List Nat := (draws (cell / 8) (cell % 8) (textLen cell) 94).map charC
def textZ (cell : Int) : Str := ⟨(textC cell).toArray⟩
theorem textC_len (cell : Int) : (textC cell).length ≤ 60 := by
  unfold textC
  rw [List.length_map, draws_len]
  exact textLen_le cell
theorem textZ_len (cell : Int) : (textZ cell).length ≤ 60 := textC_len cell
theorem textC_ok (cell : Int) : ∀ c ∈ textC cell, c ∈ signsZ := fun c hc => by
  obtain ⟨n, _, e⟩ := List.mem_map.mp hc
  rw [← e]
  exact charC_mem n
def sp_text : Sp := fun vs H Q _ => ∃ cell : Int, vs = [.int cell] ∧ Wd cell ∧ ∀ H', Ex H H' → Q (.str (textZ cell)) H'
theorem cv_text {cell : Int} {H : Hp} (hc : Wd cell) : SpV sp_text [.int cell] H (.str (textZ cell)) := fun H1 e Q q E => ⟨cell, rfl, hc, fun H2 e2 => q H2 e2⟩
theorem ok_law_text (T : Txt K mg P) : FnOk P w K mg base CX0 2 T.f_law_text T.d_law_text ["cell"] sp_text := by
  refine T.F_law_text.ok sc_law_text (fun vs H Q E h => ?_) (fun cdv A outer s H vs Q E hr h => ?_)
  · obtain ⟨n, rfl, _⟩ := h
    rfl
  · obtain ⟨n, rfl, hW, q⟩ := h
    have h1 := Int.emod_nonneg n (by decide : (8 : Int) ≠ 0)
    have h2 := Int.emod_lt_of_pos n (by decide : (0 : Int) < 8)
    have h3 := Int.emod_nonneg (n / 8) (by decide : (61 : Int) ≠ 0)
    have hL := textLen_le n
    refine ⟨_, pss_cons (ps_set (i := 1) sc_law_text.nd rfl (by first | exact Or.inl rfl | exact Or.inr rfl) (pe_op op_mod (pe_callTy call_int1 (by rfl) T.m_int (by decide +kernel) (pa_cons (pv 0) (pa_nil))) (pe_int)))
      (pss_cons (ps_set (i := 2) sc_law_text.nd rfl (by first | exact Or.inl rfl | exact Or.inr rfl) (pe_op op_fdivW (pv 0) (pe_int)))
      (pss_cons (ps_set (i := 3) sc_law_text.nd rfl (by first | exact Or.inl rfl | exact Or.inr rfl) (pe_ix (r := rIxL K) ix_list (pe_lst (pa_cons (pe_int) (pa_cons (pe_int) (pa_cons (pe_int) (pa_cons (pe_int) (pa_cons (pe_int) (pa_cons (pe_int) (pa_cons (pe_op op_mod (pe_callTy call_int1 (by rfl) T.m_int (by decide +kernel) (pa_cons (pv 2) (pa_nil))) (pe_int)) (pa_cons (pe_int) (pa_nil)))))))))) (pv 1) (fun _ _ => rfl)))
      (pss_one (ps_ret (pe_join (pe_str) (pe_lc (own := [("number", 4)]) (g := gName 4) (tt := tYes) rfl sc_law_text.nd (pi_list (pe_call (ok_law_draws T) (hr.mono (by first | decide | omega)) (by rfl) T.g_law_draws T.F_law_draws.kp T.b_law_draws .nil pass0 (pa_cons (pv 2) (pa_cons (pv 1) (pa_cons (pv 3) (pa_cons (pe_int) (pa_nil))))))) (blkOk_by (N := ["cell", "choice", "rest", "length", "number"]) (sc := defScope s_law_text) (by decide +kernel)) (fun _ _ _ _ _ => pg_name (i := 4) sc_law_text.nd rfl (Or.inl rfl)) (fun _ _ _ _ _ => pts_nil) (fun _ _ _ _ _ => pe_call (ok_law_char T) (hr.mono (by first | decide | omega)) (by rfl) T.g_law_char T.F_law_char.kp T.b_law_char .nil pass0 (pa_cons (pv 4) (pa_nil))))))))), ?_⟩
    refine q_asg (ev_bin (ev_intI (ev_var rfl)) ev_c (by decide)) fun H1 e1 => ?_
    refine q_asg (ev_bin (ev_var rfl) ev_c ⟨by decide, by decide⟩) fun H2 e2 => ?_
    refine q_asg (v := .int (textLen n : Int)) (ev_ixN (el_lst (ea_cons ev_c (ea_cons ev_c (ea_cons ev_c (ea_cons ev_c (ea_cons ev_c (ea_cons ev_c (ea_cons (ev_bin (ev_intI (ev_var rfl)) ev_c (by decide)) (ea_cons ev_c ea_nil)))))))) (by show 8 ≤ 100000; decide)) (fun _ _ => ev_var rfl) (atI_of h1 ?_)) fun H3 e3 => ?_
    · unfold textLen
      have hh : n % 8 = 0 ∨ n % 8 = 1 ∨ n % 8 = 2 ∨ n % 8 = 3 ∨ n % 8 = 4 ∨ n % 8 = 5 ∨ n % 8 = 6 ∨ n % 8 = 7 := by omega
      rcases hh with e | e | e | e | e | e | e | e <;> rw [e]
      all_goals first | rfl | skip
      show some (V.int (n / 8 % 61)) = some (V.int (((n / 8 % 61).toNat : Nat) : Int))
      rw [Int.toNat_of_nonneg h3]
    · have et : textZ n = Txt.join (Str.ofString "") ((textC n).map fun c => (⟨#[c]⟩ : Str)) := (join_signs (textC n)).symm
      refine s_ret (v := .str (textZ n)) ?_ fun H4 e4 => q H4 (((e1.trans e2).trans e3).trans e4)
      rw [et]
      refine ev_joinN (K := K) ev_c ?_ ?_
      · have em : ((textC n).map fun c => (⟨#[c]⟩ : Str)).map V.str = (draws (n / 8) (n % 8) (textLen n) 94).map fun m => V.str (charZ m) := by
          unfold textC
          rw [List.map_map, List.map_map] <;> rfl
        rw [em]
        refine el_mapN (K := K) (el_call (ea_cons (ev_var rfl) (ea_cons (ev_var rfl) (ea_cons (ev_var rfl) (ea_cons ev_c ea_nil)))) (cl_draws (Wd.div hW) (by omega) (by omega) (by decide) (by decide))) (by rw [draws_len]; omega) (fun x => rfl) fun m _ H5 e5 => ev_call (ea_cons (ev_var rfl) ea_nil) cv_char
      · rw [sum_ones, List.length_map]
        have := textC_len n
        show (textC n).length + (textC n).length * 0 ≤ 16777216
        omega


/-! ### _law_leaf -/
def leafLen (cell : Int) : Nat := ([(cell / 4 % 12).toNat, (9 + cell / 4 % 3).toNat, (99 + cell / 4 % 3).toNat, (cell / 4 % 130).toNat] : List Nat).getD (cell / 4 / 12 % 4).toNat 0
def leafZ (cell : Int) : It := if cell % 4 = 0 then .non else if cell % 4 = 1 then .int (integerZ (cell / 4)) else if cell % 4 = 2 then .str (textZ (cell / 4)) else .str (signsT (cell / 4 / 48) (leafLen cell))
theorem leafLen_le (cell : Int) : leafLen cell ≤ 130 := by
  have a1 := Int.emod_nonneg (cell / 4) (by decide : (12 : Int) ≠ 0)
  have a2 := Int.emod_lt_of_pos (cell / 4) (by decide : (0 : Int) < 12)
  have a3 := Int.emod_nonneg (cell / 4) (by decide : (3 : Int) ≠ 0)
  have a4 := Int.emod_lt_of_pos (cell / 4) (by decide : (0 : Int) < 3)
  have a5 := Int.emod_nonneg (cell / 4) (by decide : (130 : Int) ≠ 0)
  have a6 := Int.emod_lt_of_pos (cell / 4) (by decide : (0 : Int) < 130)
  have hh : cell / 4 / 12 % 4 = 0 ∨ cell / 4 / 12 % 4 = 1 ∨ cell / 4 / 12 % 4 = 2 ∨ cell / 4 / 12 % 4 = 3 := by omega
  unfold leafLen
  rcases hh with e | e | e | e <;> rw [e]
  · show (cell / 4 % 12).toNat ≤ 130; omega
  · show (9 + cell / 4 % 3).toNat ≤ 130; omega
  · show (99 + cell / 4 % 3).toNat ≤ 130; omega
  · show (cell / 4 % 130).toNat ≤ 130; omega
theorem leafZ_sc (cell : Int) : (leafZ cell).sc := by
  unfold leafZ
  split
  · trivial
  · split
    · exact integerZ_lt _
    · split
      · have := textZ_len (cell / 4)
        show (textZ (cell / 4)).length ≤ 200
        omega
      · have h1 := leafLen_le cell
        have h2 := signsC_len (cell / 4 / 48) (leafLen cell)
        show (signsT (cell / 4 / 48) (leafLen cell)).length ≤ 200
        rw [str_len]
        show (signsC (cell / 4 / 48) (leafLen cell)).length ≤ 200
        omega
def sp_leaf : Sp := fun vs H Q _ => ∃ cell : Int, vs = [.int cell] ∧ Wd cell ∧ ∀ H', Ex H H' → Q (vz (leafZ cell)) H'
theorem cv_leaf {cell : Int} {H : Hp} (hc : Wd cell) : SpV sp_leaf [.int cell] H (vz (leafZ cell)) := fun H1 e Q q E => ⟨cell, rfl, hc, fun H2 e2 => q H2 e2⟩
theorem ok_law_leaf (T : Txt K mg P) : FnOk P w K mg base CX0 3 T.f_law_leaf T.d_law_leaf ["cell"] sp_leaf := by
  refine T.F_law_leaf.ok sc_law_leaf (fun vs H Q E h => ?_) (fun cdv A outer s H vs Q E hr h => ?_)
  · obtain ⟨n, rfl, _⟩ := h
    rfl
  · obtain ⟨n, rfl, hW, q⟩ := h
    unfold leafZ at q
    have h4 := leafLen_le n
    refine ⟨_, pss_cons (ps_set (i := 1) sc_law_leaf.nd rfl (by first | exact Or.inl rfl | exact Or.inr rfl) (pe_op op_mod (pe_callTy call_int1 (by rfl) T.m_int (by decide +kernel) (pa_cons (pv 0) (pa_nil))) (pe_int)))
      (pss_cons (ps_set (i := 2) sc_law_leaf.nd rfl (by first | exact Or.inl rfl | exact Or.inr rfl) (pe_op op_fdivW (pv 0) (pe_int)))
      (pss_cons (ps_if (pt_cmpR op_eq (pv 1) (pe_int) (nomark _))
      (pss_one (ps_ret (pe_non)))
      (pss_nil))
      (pss_cons (ps_if (pt_cmpR op_eq (pv 1) (pe_int) (nomark _))
      (pss_one (ps_ret (pe_call (ok_law_integer T) (hr.mono (by first | decide | omega)) (by rfl) T.g_law_integer T.F_law_integer.kp T.b_law_integer .nil pass0 (pa_cons (pv 2) (pa_nil)))))
      (pss_nil))
      (pss_cons (ps_if (pt_cmpR op_eq (pv 1) (pe_int) (nomark _))
      (pss_one (ps_ret (pe_call (ok_law_text T) (hr.mono (by first | decide | omega)) (by rfl) T.g_law_text T.F_law_text.kp T.b_law_text .nil pass0 (pa_cons (pv 2) (pa_nil)))))
      (pss_nil))
      (pss_cons (ps_set (i := 3) sc_law_leaf.nd rfl (by first | exact Or.inl rfl | exact Or.inr rfl) (pe_lst (pa_cons (pe_op op_mod (pe_callTy call_int1 (by rfl) T.m_int (by decide +kernel) (pa_cons (pv 2) (pa_nil))) (pe_int)) (pa_cons (pe_op op_add (pe_int) (pe_op op_mod (pe_callTy call_int1 (by rfl) T.m_int (by decide +kernel) (pa_cons (pv 2) (pa_nil))) (pe_int))) (pa_cons (pe_op op_add (pe_int) (pe_op op_mod (pe_callTy call_int1 (by rfl) T.m_int (by decide +kernel) (pa_cons (pv 2) (pa_nil))) (pe_int))) (pa_cons (pe_op op_mod (pe_callTy call_int1 (by rfl) T.m_int (by decide +kernel) (pa_cons (pv 2) (pa_nil))) (pe_int)) (pa_nil)))))))
      (pss_one (ps_ret (pe_call (ok_law_signs T) (hr.mono (by first | decide | omega)) (by rfl) T.g_law_signs T.F_law_signs.kp T.b_law_signs .nil pass0 (pa_cons (pe_op op_fdivW (pv 2) (pe_int)) (pa_cons (pe_ix (r := rIxL K) ix_list (pv 3) (pe_op op_mod (pe_callTy call_int1 (by rfl) T.m_int (by decide +kernel) (pa_cons (pe_op op_fdivW (pv 2) (pe_int)) (pa_nil))) (pe_int)) (fun _ _ => rfl)) (pa_nil))))))))))), ?_⟩
    refine q_asg (ev_bin (ev_intI (ev_var rfl)) ev_c (by decide)) fun H1 e1 => ?_
    refine q_asg (ev_bin (ev_var rfl) ev_c ⟨by decide, by decide⟩) fun H2 e2 => ?_
    have e := e1.trans e2
    refine q_when (et_test (ev_eqI (ev_var rfl) ev_c)) (fun hb H3 e3 => ?_) (fun hb H3 e3 => ?_)
    · rw [if_pos (of_decide_eq_true hb)] at q
      exact s_ret ev_c fun H4 e4 => q H4 ((e.trans e3).trans e4)
    rw [if_neg (of_decide_eq_false hb)] at q
    have e := e.trans e3
    refine q_when (et_test (ev_eqI (ev_var rfl) ev_c)) (fun hb H3 e3 => ?_) (fun hb H3 e3 => ?_)
    · rw [if_pos (of_decide_eq_true hb)] at q
      exact s_ret (ev_call (ea_cons (ev_var rfl) ea_nil) (cv_integer (Wd.div hW))) fun H4 e4 => q H4 ((e.trans e3).trans e4)
    rw [if_neg (of_decide_eq_false hb)] at q
    have e := e.trans e3
    refine q_when (et_test (ev_eqI (ev_var rfl) ev_c)) (fun hb H3 e3 => ?_) (fun hb H3 e3 => ?_)
    · rw [if_pos (of_decide_eq_true hb)] at q
      exact s_ret (ev_call (ea_cons (ev_var rfl) ea_nil) (cv_text (Wd.div hW))) fun H4 e4 => q H4 ((e.trans e3).trans e4)
    rw [if_neg (of_decide_eq_false hb)] at q
    have e := e.trans e3
    refine q_asgL (el_lst (ea_cons (ev_bin (ev_intI (ev_var rfl)) ev_c (by decide)) (ea_cons (ev_bin0 ev_c (ev_bin (ev_intI (ev_var rfl)) ev_c (by decide))) (ea_cons (ev_bin0 ev_c (ev_bin (ev_intI (ev_var rfl)) ev_c (by decide))) (ea_cons (ev_bin (ev_intI (ev_var rfl)) ev_c (by decide)) ea_nil)))) (by show 4 ≤ 100000; decide)) fun l H4 _ e4 h4 => ?_
    have m0 := Int.emod_nonneg (n / 4 / 12) (by decide : (4 : Int) ≠ 0)
    refine s_ret (ev_call (ea_cons (ev_bin (ev_var rfl) ev_c ⟨by decide, by decide⟩) (ea_cons (ev_ixL (K := K) (v := .int (leafLen n : Int)) (ev_var rfl) (ev_bin (ev_intI (ev_bin (ev_var rfl) ev_c ⟨by decide, by decide⟩)) ev_c (by decide)) (sq_of h4) (atI_of m0 ?_)) ea_nil)) (cv_signs (Wd.div (Wd.div hW)) (by omega))) fun H5 e5 => q H5 ((e.trans e4).trans e5)
    have a1 := Int.emod_nonneg (n / 4) (by decide : (12 : Int) ≠ 0)
    have a3 := Int.emod_nonneg (n / 4) (by decide : (3 : Int) ≠ 0)
    have a5 := Int.emod_nonneg (n / 4) (by decide : (130 : Int) ≠ 0)
    have hh : n / 4 / 12 % 4 = 0 ∨ n / 4 / 12 % 4 = 1 ∨ n / 4 / 12 % 4 = 2 ∨ n / 4 / 12 % 4 = 3 := by omega
    unfold leafLen
    rcases hh with e | e | e | e <;> rw [e]
    · show some (V.int (n / 4 % 12)) = some (V.int (((n / 4 % 12).toNat : Nat) : Int))
      rw [Int.toNat_of_nonneg a1]
    · show some (V.int (9 + n / 4 % 3)) = some (V.int (((9 + n / 4 % 3).toNat : Nat) : Int))
      rw [Int.toNat_of_nonneg (by omega)]
    · show some (V.int (99 + n / 4 % 3)) = some (V.int (((99 + n / 4 % 3).toNat : Nat) : Int))
      rw [Int.toNat_of_nonneg (by omega)]
    · show some (V.int (n / 4 % 130)) = some (V.int (((n / 4 % 130).toNat : Nat) : Int))
      rw [Int.toNat_of_nonneg a5]


/-! ### _law_leaf_text -/
def sp_leaf_text : Sp := fun vs H Q _ => ∃ d : It, vs = [vz d] ∧ d.sc ∧ ∀ H', Ex H H' → Q (.str ⟨(encC d).toArray⟩) H'
theorem cv_leaf_text {d : It} {H : Hp} (h : d.sc) : SpV sp_leaf_text [vz d] H (.str ⟨(encC d).toArray⟩) := fun H1 e Q q E => ⟨d, rfl, h, fun H2 e2 => q H2 e2⟩
theorem ok_law_leaf_text (T : Txt K mg P) : FnOk P w K mg base CX0 1 T.f_law_leaf_text T.d_law_leaf_text ["leaf"] sp_leaf_text := by
  refine T.F_law_leaf_text.ok sc_law_leaf_text (fun vs H Q E h => ?_) (fun cdv A outer s H vs Q E hr h => ?_)
  · obtain ⟨d, rfl, _⟩ := h
    rfl
  · obtain ⟨d, rfl, hsc, q⟩ := h
    have hf := It.sc_fit hsc 0
    have hz : (encC d).length ≤ 16000000 := Nat.le_trans (It.sc_len hsc) (by decide)
    refine ⟨_, pss_cons (ps_if (pt_cmpR op_isN (pv 0) (pe_non) (nomark _))
      (pss_one (ps_ret (pe_str)))
      (pss_nil))
      (pss_cons (ps_if (pt_val (pe_callB (r := rIsi K) call_isi (by rfl) T.m_isinstance (by decide +kernel) (pa_cons (pv 0) (pa_cons (pe_bltn (v := .ty "str") (by rfl) T.m_str (by decide +kernel) rfl) (pa_nil)))))
      (pss_one (ps_ret (pe_op op_add_str (pe_op op_add_str (pe_op op_add_str (pe_str) (pe_callTy call_str_int (by rfl) T.m_str (by decide +kernel) (pa_cons (pe_callB call_len_str (by rfl) T.m_len (by decide +kernel) (pa_cons (pv 0) (pa_nil))) (pa_nil)))) (pe_str)) (pv 0))))
      (pss_nil))
      (pss_one (ps_ret (pe_op op_add_str (pe_op op_add_str (pe_str) (pe_callTy call_str_int (by rfl) T.m_str (by decide +kernel) (pa_cons (pv 0) (pa_nil)))) (pe_str))))), ?_⟩
    cases d with
    | tup xs => exact hsc.elim
    | non => exact q_when (b := true) (et_test (ev_isNt (ev_var rfl))) (fun _ H1 e1 => s_ret ev_c fun H2 e2 => q H2 (e1.trans e2)) (fun z => nomatch z)
    | int i =>
      refine q_when (b := false) (et_test (ev_isNf (v := .int i) (ev_var rfl))) (fun z => nomatch z) fun _ H1 e1 => ?_
      refine q_when (b := false) (et_B (ev_isi (K := K) (a := "int") (x := .int i) (ev_var rfl) (fun _ _ => .base (.int i)) (by decide +kernel))) (fun z => nomatch z) fun _ H2 e2 => ?_
      exact wr_int hf hz fun H4 e4 => q H4 ((e1.trans e2).trans e4)
    | str z =>
      refine q_when (b := false) (et_test (ev_isNf (v := .str z) (ev_var rfl))) (fun z => nomatch z) fun _ H1 e1 => ?_
      refine q_when (b := true) (et_B (ev_isi (K := K) (a := "str") (x := .str z) (ev_var rfl) (fun _ _ => .base (.str z)) (by decide +kernel))) (fun _ H2 e2 => ?_) (fun z => nomatch z)
      exact wr_str hf hz fun H4 e4 => q H4 ((e1.trans e2).trans e4)


/-! ### Book.find -/
def spBkF (C : Addr) : Sp := fun vs H Q _ => ∃ (p d : Addr) (kvs : List (Key × V)) (z : Str), vs = [.ref p, .str z] ∧ BkAt C H p d kvs ∧ Q (getK kvs z) H
theorem ok_Book_find (T : Txt K mg P) : FnOk P w K mg base CX0 5 T.f_Book_find T.d_Book_find ["self", "text"] (spBkF T.C_Book) := by
  refine T.F_Book_find.ok sc_Book_find (fun vs H Q E h => ?_) (fun cdv A outer s H vs Q E hr h => ?_)
  · obtain ⟨p, d, kvs, z, rfl, _⟩ := h
    rfl
  · obtain ⟨p, d, kvs, z, rfl, ⟨⟨dx, hp⟩, hd⟩, q⟩ := h
    have hu := hu_of hr
    refine ⟨_, pss_one (ps_ret (pe_dget2 hu (pe_fld (pv 0) rfl) (pv 1) (pe_int) ⟨rfl, rfl, rfl, rfl⟩)), ?_⟩
    exact ⟨_, rfl, p, T.C_Book, dx, _, _, rfl, hp, T.cl_Book, T.na_Book__addresses, aF_get d, d, rfl, .inl ⟨kvs, .inl hd⟩, _, rfl, _, DGet.k (k := Sum.inr z) hd, q⟩


theorem ev_bfind {σ : L2.St} {H : Hp} {to te : TE} {E : XK} {C p d : Addr} {kvs : List (Key × V)} {z : Str} (h : Ev to σ H (.ref p)) (h2 : Ev te σ H (.str z)) (b : BkAt C H p d kvs) : Ev (tMeth C "find" (spBkF C) [] E to (tCons te tNil)) σ H (getK kvs z) := fun H1 e Q q => by
  obtain ⟨⟨dx, hp⟩, hd⟩ := b
  exact h H1 e _ fun H2 e2 => ⟨p, dx, aF d, rfl, (e.trans e2) _ _ hp, aF_no _ (by decide +kernel), h2 H2 (e.trans e2) _ fun H3 e3 => ⟨p, d, kvs, z, rfl, ⟨⟨dx, ((e.trans e2).trans e3) _ _ hp⟩, ((e.trans e2).trans e3) _ _ hd⟩, q H3 (e2.trans e3)⟩⟩


/-! ### Book.address -/
def spBkA (C : Addr) : Sp := fun vs H Q _ => ∃ (p d : Addr) (kvs : List (Key × V)) (z : Str), vs = [.ref p, .str z] ∧ BkAt C H p d kvs ∧ kvs.length ≤ 900 ∧ ∀ v H', valV (addK kvs z) (Sum.inr z : Key) = some v → H' d = some (.dK (addK kvs z)) → (∀ b o, H b = some o → b ≠ d → H' b = some o) → Q v H'
theorem ok_Book_address (T : Txt K mg P) : FnOk P w K mg base CX0 1 T.f_Book_address T.d_Book_address ["self", "text"] (spBkA T.C_Book) := by
  refine T.F_Book_address.ok sc_Book_address (fun vs H Q E h => ?_) (fun cdv A outer s H vs Q E hr h => ?_)
  · obtain ⟨p, d, kvs, z, rfl, _⟩ := h
    rfl
  · obtain ⟨p, d, kvs, z, rfl, ⟨⟨dx, hp⟩, hd⟩, hl, q⟩ := h
    have hu := hu_of hr
    have npd : p ≠ d := ne_of hp hd (by intro z; cases z)
    refine ⟨_, pss_cons (ps_if (pt_cmp (pc_dnotin hu (pv 1) (pe_fld (pv 0) rfl)))
      (pss_one (ps_dput hu (pe_fld (pv 0) rfl) (pv 1) (pe_op op_add (pe_callB call_lenD (by rfl) T.m_len (by decide +kernel) (pa_cons (pe_fld (pv 0) rfl) (pa_nil))) (pe_int)) rfl))
      (pss_nil))
      (pss_one (ps_ret (pe_dget hu (pe_fld (pv 0) rfl) (pv 1) (fun _ _ => rfl)))), ?_⟩
    refine ⟨_, rfl, _, rfl, p, T.C_Book, dx, _, _, rfl, hp, T.cl_Book, T.na_Book__addresses, aF_get d, d, _, rfl, DGet.k (k := Sum.inr z) hd, ?_⟩
    cases e : valV kvs (Sum.inr z : Key) with
    | some v =>
      refine ⟨_, rfl, ?_⟩
      refine iteF ?_
      have ea := addK_some e
      refine ⟨_, rfl, p, T.C_Book, dx, _, _, rfl, hp, T.cl_Book, T.na_Book__addresses, aF_get d, _, rfl, d, v, rfl, ?_, ?_⟩
      · rw [← e]
        exact DGet.k (k := Sum.inr z) hd
      · exact q v H (by rw [ea]; exact e) (by rw [ea]; exact hd) fun b o h _ => h
    | none =>
      refine ⟨_, rfl, ?_⟩
      refine iteT ?_
      have ea := addK_none e
      refine ⟨_, rfl, p, T.C_Book, dx, _, _, rfl, hp, T.cl_Book, T.na_Book__addresses, aF_get d, d, kvs, rfl, hd, _, _, rfl, rfl, ?_⟩
      refine ⟨_, rfl, p, T.C_Book, dx, _, _, rfl, hp, T.cl_Book, T.na_Book__addresses, aF_get d, _, rfl, d, _, rfl, DPut.k (k := Sum.inr z) hd (szk (by omega)), ?_⟩
      have hp' : (upd H d (.dK (putK kvs (Sum.inr z : Key) (.int ((kvs.length : Int) + 1))))) p = some (.ins T.C_Book dx (aF d)) := by rw [upd_ne npd]; exact hp
      refine ⟨_, rfl, p, T.C_Book, dx, _, _, rfl, hp', T.cl_Book, T.na_Book__addresses, aF_get d, _, rfl, d, .int ((kvs.length : Int) + 1), rfl, ?_, ?_⟩
      · have := DGet.k (k := Sum.inr z) (upd_same (H := H) (a := d) (o := .dK (putK kvs (Sum.inr z : Key) (.int ((kvs.length : Int) + 1)))))
        rw [valV_put, if_pos rfl] at this
        exact this
      · exact q _ _ (by rw [ea, valV_put, if_pos rfl]) (by rw [ea]; exact upd_same) fun b o h hb => by rw [upd_ne hb]; exact h


/-! ### Chunks.put -/
def spCkP (C CB : Addr) : Sp := fun vs H Q _ => ∃ (p b t d : Addr) (r : Int) (kvs ks : List (Key × V)) (z : Str), vs = [.ref p, .str z] ∧ CkAt C H p b t r kvs ∧ BkAt CB H b d ks ∧ Nums ks ∧ d ≠ t ∧ ks.length ≤ 900 ∧ kvs.length ≤ 900 ∧
  ∀ (n : Int) H', valV (addK ks z) (Sum.inr z : Key) = some (.int n) → H' d = some (.dK (addK ks z)) → H' t = some (.dK (putK kvs (Sum.inl n : Key) (.str z))) → But [d, t] H H' → Q (.int n) H'
theorem ok_Chunks_put (T : Txt K mg P) : FnOk P w K mg base CX0 2 T.f_Chunks_put T.d_Chunks_put ["self", "text"] (spCkP T.C_Chunks T.C_Book) := by
  refine T.F_Chunks_put.ok sc_Chunks_put (fun vs H Q E h => ?_) (fun cdv A outer s H vs Q E hr h => ?_)
  · obtain ⟨p, b, t, d, r, kvs, ks, z, rfl, _⟩ := h
    rfl
  · obtain ⟨p, b, t, d, r, kvs, ks, z, rfl, ⟨⟨dx, hp⟩, ht⟩, ⟨⟨bx, hb⟩, hd⟩, hn, ndt, hl, hl2, q⟩ := h
    have hu := hu_of hr
    have npd : p ≠ d := ne_of hp hd (by intro z; cases z)
    have npt : p ≠ t := ne_of hp ht (by intro z; cases z)
    refine ⟨_, pss_cons (ps_set (i := 2) sc_Chunks_put.nd rfl (by first | exact Or.inl rfl | exact Or.inr rfl) (pe_meth (pe_fld (pv 0) rfl) T.cl_Book T.me_Book_address (ok_Book_address T) (hr.mono (by first | decide | omega)) T.b_Book_address .nil pass0 (pa_cons (pv 1) (pa_nil))))
      (pss_cons (ps_dput hu (pe_fld (pv 0) rfl) (pv 2) (pv 1) rfl)
      (pss_one (ps_ret (pv 2)))), ?_⟩
    refine ⟨_, rfl, p, T.C_Chunks, dx, _, _, rfl, hp, T.cl_Chunks, T.na_Chunks_book, cF_book b r t, ?_⟩
    refine ⟨b, bx, _, rfl, hb, aF_no _ (by decide +kernel), _, rfl, b, d, ks, z, rfl, ⟨⟨bx, hb⟩, hd⟩, hl, fun v H1 hv hd1 f1 => ?_⟩
    obtain ⟨n, hn2⟩ := addK_val hn z
    obtain rfl : v = .int n := Option.some.inj (hv.symm.trans hn2)
    have hp1 := f1 _ _ hp npd
    have ht1 := f1 _ _ ht ndt.symm
    refine ⟨_, rfl, _, rfl, p, T.C_Chunks, dx, _, _, rfl, hp1, T.cl_Chunks, T.na_Chunks__texts, cF_texts b r t, _, rfl, t, _, rfl, DPut.k (k := Sum.inl n) ht1 (szk (by omega)), ?_⟩
    refine ⟨_, rfl, q n _ hv (by rw [upd_ne ndt]; exact hd1) upd_same fun c o e nc => ?_⟩
    have c1 : c ≠ d := fun z => nc (by rw [z]; exact List.mem_cons_self)
    have c2 : c ≠ t := fun z => nc (by rw [z]; exact List.mem_cons_of_mem _ List.mem_cons_self)
    rw [upd_ne c2]
    exact f1 _ _ e c1


/-! ### _law_thing -/
def thingZ (ns : List Int) (k : Nat) : Int := if k < ns.length then cellZ ns k else if ns.length = 0 then (k : Int) else (cellZ ns (k % ns.length) * 48271 + (k : Int) * 69621) % 2147483647
theorem Wd.thing {ns : List Int} (h : ∀ n ∈ ns, Wd n) {k : Nat} (hk : k ≤ 100000) : Wd (thingZ ns k) := by
  unfold thingZ
  split
  · exact Wd.cell h k
  · split
    · exact Wd.small (by omega) (by omega)
    · exact Wd.mod (by decide) (Wd.lit (by decide))
def sp_thing (K : PySem.W.Frag) : Sp := fun vs H Q _ => ∃ (a : Addr) (ns : List Int) (k : Nat), vs = [.ref a, .int (k : Int)] ∧ SqL K H a (ns.map V.int) ∧ (∀ n ∈ ns, Wd n) ∧ k ≤ 100000 ∧ ∀ H', Ex H H' → Q (.int (thingZ ns k)) H'
theorem cv_thing {a : Addr} {ns : List Int} {k : Nat} {H : Hp} (h : SqL K H a (ns.map V.int)) (hw : ∀ n ∈ ns, Wd n) (hk : k ≤ 100000) : SpV (sp_thing K) [.ref a, .int (k : Int)] H (.int (thingZ ns k)) := fun H1 e Q q E => ⟨a, ns, k, rfl, ex_l e h, hw, hk, fun H2 e2 => q H2 e2⟩
theorem ok_law_thing (T : Txt K mg P) : FnOk P w K mg base CX0 1 T.f_law_thing T.d_law_thing ["script", "k"] (sp_thing K) := by
  refine T.F_law_thing.ok sc_law_thing (fun vs H Q E h => ?_) (fun cdv A outer s H vs Q E hr h => ?_)
  · obtain ⟨a, ns, k, rfl, _⟩ := h
    rfl
  · obtain ⟨a, ns, k, rfl, hS, hw, hk1, q⟩ := h
    have el : (ns.map V.int).length = ns.length := List.length_map ..
    have item : ∀ j : Nat, j < ns.length → (ns.map V.int)[j]? = some (.int (cellZ ns j)) := fun j hj => by
      rw [List.getElem?_map, List.getElem?_eq_getElem hj]
      unfold cellZ
      rw [List.getD_eq_getElem?_getD, List.getElem?_eq_getElem hj] <;> rfl
    refine ⟨_, pss_cons (ps_if (pt_cmpR op_lt (pv 1) (pe_callB (r := rLenQ K) call_len_seq (by rfl) T.m_len (by decide +kernel) (pa_cons (pv 0) (pa_nil))) (nomark _))
      (pss_one (ps_ret (pe_ix (r := rIxL K) ix_list (pv 0) (pv 1) (fun _ _ => rfl))))
      (pss_nil))
      (pss_cons (ps_if (pt_cmpR op_eq (pe_callB (r := rLenQ K) call_len_seq (by rfl) T.m_len (by decide +kernel) (pa_cons (pv 0) (pa_nil))) (pe_int) (nomark _))
      (pss_one (ps_ret (pv 1)))
      (pss_nil))
      (pss_one (ps_ret (pe_op op_mod (pe_callTy call_int1 (by rfl) T.m_int (by decide +kernel) (pa_cons (pe_op op_add (pe_op op_mulX (pe_ix (r := rIxL K) ix_list (pv 0) (pe_op op_mod (pe_callTy call_int1 (by rfl) T.m_int (by decide +kernel) (pa_cons (pv 1) (pa_nil))) (pe_callB (r := rLenQ K) call_len_seq (by rfl) T.m_len (by decide +kernel) (pa_cons (pv 0) (pa_nil)))) (fun _ _ => rfl)) (pe_int)) (pe_op op_mulX (pv 1) (pe_int))) (pa_nil))) (pe_int))))), ?_⟩
    refine q_when (b := decide ((k : Int) < ((ns.map V.int).length : Int))) (et_test (ev_bin0 (ev_var rfl) (ev_lenQ (K := K) (ev_var rfl) hS))) (fun hb H1 e1 => ?_) (fun hb H1 e1 => ?_)
    · have hk : k < ns.length := by
        have := of_decide_eq_true hb
        rw [el] at this
        omega
      refine s_ret (ev_ixL (K := K) (ev_var rfl) (ev_var rfl) (ex_l e1 hS) (at_nat (item k hk))) fun H2 e2 => ?_
      have e0 : thingZ ns k = cellZ ns k := if_pos hk
      rw [← e0]
      exact q H2 (e1.trans e2)
    · have hk : ¬ k < ns.length := by
        have := of_decide_eq_false hb
        rw [el] at this
        omega
      refine q_when (et_test (ev_eqI (ev_lenQ (K := K) (ev_var rfl) (ex_l e1 hS)) ev_c)) (fun hb H2 e2 => ?_) (fun hb H2 e2 => ?_)
      · have h0 : ns.length = 0 := by
          have := of_decide_eq_true hb
          rw [el] at this
          omega
        refine s_ret (ev_var rfl) fun H3 e3 => ?_
        have e0 : thingZ ns k = (k : Int) := by unfold thingZ; rw [if_neg hk, if_pos h0]
        rw [← e0]
        exact q H3 ((e1.trans e2).trans e3)
      · have h0 : ¬ ns.length = 0 := by
          have := of_decide_eq_false hb
          rw [el] at this
          omega
        have hm : k % ns.length < ns.length := Nat.mod_lt _ (by omega)
        refine s_ret (ev_bin (i := cellZ ns (k % ns.length) * 48271 + (k : Int) * 69621) (ev_intI (ev_bin0 (ev_bin (ev_ixL (K := K) (i := ((k % ns.length : Nat) : Int)) (ev_var rfl) (ev_is (ev_bin (ev_intI (ev_var rfl)) (ev_lenQ (K := K) (ev_var rfl) (ex_l (e1.trans e2) hS)) (by rw [el]; omega)) (by rw [el]; rfl)) (ex_l (e1.trans e2) hS) (at_nat (item _ hm))) ev_c (Wd.mul (Wd.cell hw _) (Wd.lit (by decide)))) (ev_bin (ev_var rfl) ev_c (Wd.mul (Wd.small (by omega) (by omega)) (Wd.lit (by decide)))))) ev_c (by decide)) fun H3 e3 => ?_
        have e0 : thingZ ns k = (cellZ ns (k % ns.length) * 48271 + (k : Int) * 69621) % 2147483647 := by unfold thingZ; rw [if_neg hk, if_neg h0]
        rw [← e0]
        exact q H3 ((e1.trans e2).trans e3)


/-! ### Chunks.addresses -/
def Ints (kvs : List (Key × V)) : Prop := ∀ kv ∈ kvs, ∃ n : Int, kv.1 = Sum.inl n
theorem Ints.keys {kvs : List (Key × V)} (h : Ints kvs) : ∃ ks : List Int, kvs.map (·.1) = ks.map Sum.inl := by
  induction kvs with
  | nil => exact ⟨[], rfl⟩
  | cons a r ih =>
    obtain ⟨n, hn⟩ := h a List.mem_cons_self
    obtain ⟨ks, hk⟩ := ih fun kv hkv => h kv (List.mem_cons_of_mem _ hkv)
    exact ⟨n :: ks, by rw [List.map_cons, List.map_cons, hk, hn]⟩
def spCkA (C : Addr) : Sp := fun vs H Q _ => ∃ (p b t : Addr) (r : Int) (kvs : List (Key × V)) (ks : List Int), vs = [.ref p] ∧ CkAt C H p b t r kvs ∧ kvs.map (·.1) = ks.map Sum.inl ∧ ks.length < 64 ∧ ∀ (ys : List Int) (a : Addr), ys.Perm ks → ys.Pairwise (· ≤ ·) → H a = none → Q (.ref a) (upd H a (.lst (ys.map V.int)))
theorem ok_Chunks_addresses (T : Txt K mg P) : FnOk P w K mg base CX0 1 T.f_Chunks_addresses T.d_Chunks_addresses ["self"] (spCkA T.C_Chunks) := by
  refine T.F_Chunks_addresses.ok sc_Chunks_addresses (fun vs H Q E h => ?_) (fun cdv A outer s H vs Q E hr h => ?_)
  · obtain ⟨p, b, t, r, kvs, ks, rfl, _⟩ := h
    rfl
  · obtain ⟨p, b, t, r, kvs, ks, rfl, ⟨⟨dx, hp⟩, ht⟩, hk, hl, q⟩ := h
    refine ⟨_, pss_one (ps_ret (pe_callB (call_sortedDI rfl) (by rfl) T.m_sorted (by decide +kernel) (pa_cons (pe_fld (pv 0) rfl) (pa_nil)))), ?_⟩
    exact ⟨_, rfl, p, T.C_Chunks, dx, _, _, rfl, hp, T.cl_Chunks, T.na_Chunks__texts, cF_texts b r t, t, kvs, ks, rfl, .inl ht, hk, hl, q⟩


/-! ### _law_got -/
def spGot (C : Addr) : Sp := fun vs H Q _ => ∃ (p b t x : Addr) (r n : Int) (kvs : List (Key × V)), vs = [.ref p, .int n, .ref x] ∧ CkAt C H p b t r kvs ∧ H x = some (.dK kvs) ∧ Strs kvs ∧ n.natAbs.log2 < 1920 ∧ ∀ H', CkAt C H' p b t (r + 1) kvs → But [p] H H' → Q (.bl true) H'
theorem ok_law_got (T : Txt K mg P) : FnOk P w K mg base CX0 5 T.f_law_got T.d_law_got ["store", "address", "texts"] (spGot T.C_Chunks) := by
  refine T.F_law_got.ok sc_law_got (fun vs H Q E h => ?_) (fun cdv A outer s H vs Q E hr h => ?_)
  · obtain ⟨p, b, t, x, r, n, kvs, rfl, _⟩ := h
    rfl
  · obtain ⟨p, b, t, x, r, n, kvs, rfl, hC, hx, hS, hb, q⟩ := h
    have hu := hu_of hr
    obtain ⟨dx, hp⟩ := hC.1
    have npx : x ≠ p := ne_of hx hp (by intro z; cases z)
    cases hv : valV kvs (Sum.inl n : Key) with
    | some v =>
      obtain ⟨z, rfl⟩ := hS _ _ hv
      refine ⟨_, pss_cons (ps_try_thru0 (pss_one (ps_set (i := 3) sc_law_got.nd rfl (by first | exact Or.inl rfl | exact Or.inr rfl) (pe_meth (pv 0) T.cl_Chunks T.me_Chunks_get (ok_Chunks_get T) (hr.mono (by first | decide | omega)) T.b_Chunks_get .nil pass0 (pa_cons (pv 1) (pa_nil))))))
      (pss_one (ps_ret (pe_and (pe_cmp (pc_din hu (pv 1) (pv 2)) rfl) (pe_and (pe_callB (r := rIsi K) call_isi (by rfl) T.m_isinstance (by decide +kernel) (pa_cons (pv 3) (pa_cons (pe_bltn (v := .ty "str") (by rfl) T.m_str (by decide +kernel) rfl) (pa_nil)))) (pe_one (pe_cmpR op_eq (pv 3) (pe_dget hu (pv 2) (pv 1) (fun _ _ => rfl)) (nomark _))))))), ?_⟩
      refine ⟨_, rfl, p, dx, _, rfl, hp, cF_no b r t (by decide +kernel) (by decide +kernel) (by decide +kernel), _, rfl, p, b, t, r, n, kvs, _, rfl, hC, hv, fun H1 hC1 b1 => ?_⟩
      have hx1 := b1 _ _ hx (fun z => npx (List.mem_singleton.mp z))
      refine s_ret (ev_is (ev_andV (a := true) (ev_is (ev_din (k := Sum.inl n) (ev_var rfl) (ev_var rfl) hx1) (by rw [hv] <;> rfl)) fun _ => ev_andV (a := true) (ev_isi (K := K) (a := "str") (ev_var rfl) (fun _ _ => .base (.str z)) (by decide +kernel)) fun _ =>
        ev_eqS (ev_var rfl) (ev_dgetK (k := Sum.inl n) (ev_var rfl) (ev_var rfl) hx1 hv)) (by simp)) fun H2 e2 => q H2 (hC1.mono e2) (b1.trans (.of e2))
    | none =>
      refine ⟨_, pss_cons (L2N.ps_try_as (i := 4) (c := .ref T.C_MissingChunk) (Wout := fun _ _ _ _ => False) rfl rfl sc_law_got.nd rfl rfl ⟨rfl, by decide, .inl T.e_MissingChunk.g⟩ takes0N
        (fun W pn xe tk _ => pss_one (ps_set (i := 3) sc_law_got.nd rfl (by first | exact Or.inl rfl | exact Or.inr rfl) (pe_methX (pv 0) T.cl_Chunks T.me_Chunks_get (ok_Chunks_get_bad T) (hr.mono (by first | decide | omega)) T.b_Chunks_get (fun σ => L2N.passAt tk σ) (pa_cons (pv 1) (pa_nil)))))
        (fun a oe cls d pn hz0 hf => pss_given (P := cls = .ref T.C_MissingChunk) fun pc => have hz := zc1 pc hz0; pss_cons (ps_if (PW.pt (pw_or (pt_not (pt_val (pe_callB (call_isEi T.e_MissingChunk.is hz hf) (by rfl) T.m_isinstance (by decide +kernel) (pa_cons (pv 4) (pa_cons (pe_glob (v := .ref T.C_VersionError) rfl T.g_VersionError rfl) (pa_nil)))))) (pw_or (pt_val (pe_callB (call_isEi T.e_MissingChunk.is hz hf) (by rfl) T.m_isinstance (by decide +kernel) (pa_cons (pv 4) (pa_cons (pe_glob (v := .ref T.C_TornText) rfl T.g_TornText rfl) (pa_nil))))) (pw_or1 (pt_val (pe_callB (call_isEi T.e_MissingChunk.is hz hf) (by rfl) T.m_isinstance (by decide +kernel) (pa_cons (pv 4) (pa_cons (pe_glob (v := .ref T.C_UnknownTable) rfl T.g_UnknownTable rfl) (pa_nil)))))))))
      (pss_one (ps_ret (pe_bl)))
      (pss_nil))
      (pss_one (ps_ret (pe_and (pe_cmp (pc_dnotin hu (pv 1) (pv 2)) rfl) (pe_and (pe_callB (call_isEi T.e_MissingChunk.is hz hf) (by rfl) T.m_isinstance (by decide +kernel) (pa_cons (pv 4) (pa_cons (pe_bltn (v := .ty "ValueError") (by rfl) T.m_ValueError (by decide +kernel) rfl) (pa_nil)))) (pe_one (L2H.pe_callH (okH_law_is T) (roomS (hr.mono (by first | decide | omega)) _) (hotS hz0 hf) (by rfl) T.g_law_is T.F_law_is.kp T.b_law_is pass0H (pa_cons (pe_xf T.e_MissingChunk.xf T.na_MissingChunk_address hz hf (pv 4)) (pa_cons (pv 1) (pa_nil))))))))))) pss_never, ?_⟩
      refine ⟨_, rfl, p, dx, _, rfl, hp, cF_no b r t (by decide +kernel) (by decide +kernel) (by decide +kernel), _, rfl, p, b, t, r, n, kvs, rfl, hC, hv, hb, fun dd H1 h1 h2 hC1 b1 => ?_⟩
      refine ⟨true, T.e_MissingChunk.self, fun _ a ha => ⟨rfl, ?_⟩, fun z => nomatch z⟩
      have hx1 := b1 _ _ hx (fun z => npx (List.mem_singleton.mp z))
      have is : ∀ {σ : L2.St} {H' : Hp} {te : TE} {c : V} {cv : Value} {o : Bool}, Ex H1 H' → Ev te σ H' (.ref a) → (∀ u, RelV c u → u = cv) → PySem.W.kitOne K (.ref T.C_MissingChunk) cv = some o → Ev (tCB (fun xs H Q => (∀ d, some dd = some d → ∃ fs, H d = some (.xd fs)) ∧ rIsE K T.C_MissingChunk a xs H Q) (tCons te (tCons (tC c) tNil))) σ H' (.bl o) :=
        fun e h hc hk => ev_isEi h (fun d z => by obtain rfl := Option.some.inj z; exact ⟨_, e _ _ h2⟩) hc hk
      refine q_when (b := false) (et_is (et_or (et_not (et_B (is (Ex.refl H1) (ev_var rfl) (fun u h => h) T.ku_MissingChunk_VersionError))) fun _ => et_or (et_B (is (Ex.refl H1) (ev_var rfl) (fun u h => h) T.kt_MissingChunk_TornText)) fun _ => et_B (is (Ex.refl H1) (ev_var rfl) (fun u h => h) T.kt_MissingChunk_UnknownTable)) rfl) (fun z => nomatch z) fun _ H2 e2 => ?_
      refine s_ret (ev_is (ev_andV (a := true) (ev_is (ev_dnin (k := Sum.inl n) (ev_var rfl) (ev_var rfl) (e2 _ _ hx1)) (by rw [hv] <;> rfl)) fun _ => ev_andV (a := true) (is e2 (ev_var rfl) (fun u h => h) T.kv_MissingChunk) fun _ =>
        ev_callH (z := .bl true) (ea_cons (ev_xf (f := Str.ofString "address") (v := .int n) (ev_var rfl) rfl rfl (e2 _ _ h2) (by simp [List.lookup])) (ea_cons (ev_var rfl) ea_nil)) fun H3 e3 Q3 q3 E3 => ⟨n, n, rfl, fun H4 e4 => by rw [decide_eq_true rfl]; exact q3 H4 e4⟩) rfl) fun H3 e3 => q H3 (hC1.mono (e2.trans e3)) (b1.trans (.of (e2.trans e3)))


/-! ### _law_put -/
def spPut (C CB : Addr) : Sp := fun vs H Q _ => ∃ (p b t d x m : Addr) (r : Int) (kvs : List (Key × V)) (zs : List Str) (z : Str), vs = [.ref p, .ref b, .str z, .ref x, .ref m] ∧ CkAt C H p b t r kvs ∧ BkAt CB H b d (bkL 1 zs) ∧ H x = some (.dK kvs) ∧ H m = some (.dK (bkL 1 zs)) ∧ zs.Nodup ∧
  d ≠ t ∧ d ≠ x ∧ d ≠ m ∧ t ≠ x ∧ t ≠ m ∧ x ≠ m ∧ zs.length ≤ 800 ∧ kvs.length ≤ 800 ∧
  ∀ (n : Int) H', CkAt C H' p b t r (putK kvs (Sum.inl n : Key) (.str z)) → BkAt CB H' b d (bkL 1 (addZ zs z)) → H' x = some (.dK (putK kvs (Sum.inl n : Key) (.str z))) → H' m = some (.dK (bkL 1 (addZ zs z))) → But [d, t, x, m] H H' → Q (.bl true) H'
theorem ok_law_put (T : Txt K mg P) : FnOk P w K mg base CX0 6 T.f_law_put T.d_law_put ["store", "book", "text", "texts", "numbers"] (spPut T.C_Chunks T.C_Book) := by
  refine T.F_law_put.ok sc_law_put (fun vs H Q E h => ?_) (fun cdv A outer s H vs Q E hr h => ?_)
  · obtain ⟨p, b, t, d, x, m, r, kvs, zs, z, rfl, _⟩ := h
    rfl
  · obtain ⟨p, b, t, d, x, m, r, kvs, zs, z, rfl, hC, hB, hx, hm, nd, n1, n2, n3, n4, n5, n6, hl, hl2, q⟩ := h
    have hu := hu_of hr
    obtain ⟨dx, hp⟩ := hC.1
    obtain ⟨bx, hb⟩ := hB.1
    have pd : ∀ {c : Addr} {kv : List (Key × V)}, H c = some (.dK kv) → p ≠ c ∧ b ≠ c := fun h => ⟨ne_of hp h (by intro z; cases z), ne_of hb h (by intro z; cases z)⟩
    have pt := pd hC.2
    have pdd := pd hB.2
    have px := pd hx
    have pm := pd hm
    refine ⟨_, pss_cons (ps_set (i := 5) sc_law_put.nd rfl (by first | exact Or.inl rfl | exact Or.inr rfl) (pe_meth (pv 0) T.cl_Chunks T.me_Chunks_put (ok_Chunks_put T) (hr.mono (by first | decide | omega)) T.b_Chunks_put .nil pass0 (pa_cons (pv 2) (pa_nil))))
      (pss_cons (ps_if (PW.pt (pw_or (pt_not (pt_val (pe_call (ok_law_is T) (hr.mono (by first | decide | omega)) (by rfl) T.g_law_is T.F_law_is.kp T.b_law_is .nil pass0 (pa_cons (pe_meth (pv 1) T.cl_Book T.me_Book_find (ok_Book_find T) (hr.mono (by first | decide | omega)) T.b_Book_find .nil pass0 (pa_cons (pv 2) (pa_nil))) (pa_cons (pv 5) (pa_nil)))))) (pw_or1 (pt_cmpR op_lt (pv 5) (pe_int) (nomark _)))))
      (pss_one (ps_ret (pe_bl)))
      (pss_nil))
      (pss_cons (ps_lock (ps_for PassesOwn.never rfl (pi_keys (pv 4)) (pg_name (i := 6) sc_law_put.nd rfl (by first | exact Or.inl rfl | exact Or.inr rfl))
      (pss_one (ps_if (pt_cmpR op_ne (pe_cmpR op_eq (pv 6) (pv 2) (nomark _)) (pe_cmpR op_eq (pe_dget hu (pv 4) (pv 6) (fun _ _ => rfl)) (pv 5) (nomark _)) (nomark _))
      (pss_one (ps_ret (pe_bl)))
      (pss_nil)))))
      (pss_cons (ps_dput hu (pv 4) (pv 2) (pv 5) rfl)
      (pss_cons (ps_dput hu (pv 3) (pv 5) (pv 2) rfl)
      (pss_one (ps_ret (pe_bl))))))), ?_⟩
    refine ⟨_, rfl, p, dx, _, rfl, hp, cF_no b r t (by decide +kernel) (by decide +kernel) (by decide +kernel), _, rfl, p, b, t, d, r, kvs, bkL 1 zs, z, rfl, hC, hB, nums_bk 1 zs, n1, by rw [bkL_len]; omega, by omega, fun n H1 hv hd1 ht1 b1 => ?_⟩
    have hn : n = 1 + (posZ z (addZ zs z) : Nat) := by
      rw [addK_bk, bkL_val, if_pos (addZ_mem zs z)] at hv
      have := Option.some.inj hv
      cases this
      rfl
    rw [addK_bk] at hd1
    have k1 : ∀ {c : Addr} {o : HO}, H c = some o → c ≠ d → c ≠ t → H1 c = some o := fun e c1 c2 => b1 _ _ e (by simp; exact ⟨c1, c2⟩)
    have hp1 := k1 hp pdd.1 pt.1
    have hb1 := k1 hb pdd.2 pt.2
    have hx1 := k1 hx n2.symm n4.symm
    have hm1 := k1 hm n3.symm n5.symm
    have hB1 : BkAt T.C_Book H1 b d (bkL 1 (addZ zs z)) := ⟨⟨bx, hb1⟩, hd1⟩
    have hf : getK (bkL 1 (addZ zs z)) z = .int n := by
      unfold getK
      rw [bkL_val, if_pos (addZ_mem zs z), hn] <;> rfl
    refine q_when (b := false) (et_or (a := false) (b := false) (et_is (et_not (et_B (ev_call (z := .bl true) (ea_cons (ev_is (ev_bfind (ev_var rfl) (ev_var rfl) hB1) hf) (ea_cons (ev_var rfl) ea_nil)) fun H3 e3 Q3 q3 E3 => ⟨n, n, rfl, fun H4 e4 => by rw [decide_eq_true rfl]; exact q3 H4 e4⟩))) rfl) fun _ => et_is (et_test (ev_bin0 (ev_var rfl) ev_c)) (decide_eq_false (by omega))) (fun z => nomatch z) fun _ H2 e2 => ?_
    have hm2 := e2 _ _ hm1
    refine q_forK hm2 (fun H3 => ev_var rfl) (fun od i σ' H' => ∃ y : Option V, σ' = [some (.ref p), some (.ref b), some (.str z), some (.ref x), some (.ref m), some (.int n), y] ∧ Ex (upd H2 m (.frz od (.dK (bkL 1 zs)))) H')
      (fun od H3 e3 => ⟨_, rfl, e3⟩) (fun od i σ' H' ⟨_, _, e⟩ => e _ _ upd_same) (fun od i k v σ' H' D' hk h f1 f2 f3 => ?_) (fun od σ' H' h => ?_)
    · obtain ⟨y, rfl, e⟩ := h
      obtain ⟨w, hw, rfl, rfl⟩ := bkL_get hk
      have hv1 : valV (bkL 1 zs) (Sum.inr w : Key) = some (.int (1 + (i : Nat))) := by
        rw [bkL_val, if_pos (List.mem_of_getElem? hw), posZ_uniq nd hw]
      refine s_when (b := false) (et_is (et_test (ev_neB (ev_eqS (ev_var rfl) (ev_var rfl)) (ev_eqI (ev_dgetF (k := Sum.inr w) (ev_var rfl) (ev_var rfl) (e _ _ upd_same) hv1) (ev_var rfl)))) ?_) (fun z => nomatch z) fun _ H3 e3 => f1 _ _ ⟨_, rfl, e.trans e3⟩
      have key := addZ_eq (z := z) nd hw
      rw [← hn] at key
      have key2 : decide (w = z) = decide ((1 : Int) + (i : Nat) = n) := decide_eq_decide.mpr key
      rw [key2]
      simp
    · obtain ⟨y, rfl, e⟩ := h
      have e3 := Ex.unlock e hm2
      generalize upd H' m (.dK (bkL 1 zs)) = H3 at e3
      have E3 := e2.trans e3
      have hm3 := e3 _ _ hm2
      have k3 : ∀ {c : Addr} {o : HO}, H1 c = some o → c ≠ m → upd H3 m (.dK (bkL 1 (addZ zs z))) c = some o := fun h hc => by rw [upd_ne hc]; exact E3 _ _ h
      refine ⟨_, rfl, _, rfl, _, rfl, m, _, rfl, DPut.k (k := Sum.inr z) hm3 (szk (by rw [bkL_len]; omega)), ?_⟩
      rw [hn, putK_bk nd, ← hn]
      have hx4 := k3 hx1 n6
      refine ⟨_, rfl, _, rfl, _, rfl, x, _, rfl, DPut.k (k := Sum.inl n) hx4 (szk (by omega)), ?_⟩
      have k5 : ∀ {c : Addr} {o : HO}, H1 c = some o → c ≠ m → c ≠ x → upd (upd H3 m (.dK (bkL 1 (addZ zs z)))) x (.dK (putK kvs (Sum.inl n) (.str z))) c = some o := fun h hc h2 => by rw [upd_ne h2]; exact k3 h hc
      refine q n _ ⟨⟨dx, k5 hp1 pm.1 px.1⟩, k5 ht1 n5 n4⟩ ⟨⟨bx, k5 hb1 pm.2 px.2⟩, k5 hd1 n3 n2⟩ upd_same (by rw [upd_ne n6.symm]; exact upd_same) fun c o h hc => ?_
      simp only [List.mem_cons, List.not_mem_nil, or_false, not_or] at hc
      exact k5 (k1 h hc.1 hc.2.1) hc.2.2.2 hc.2.2.1


/-! ### _law_told -/
theorem sorted_uniq {xs ys ks : List Int} (h1 : xs.Perm ks) (h2 : ys.Perm ks) (s1 : xs.Pairwise (· ≤ ·)) (s2 : ys.Pairwise (· ≤ ·)) : xs = ys :=
  List.Perm.eq_of_pairwise (le := (· ≤ ·)) (fun a b _ _ h1 h2 => by omega) s1 s2 (h1.trans h2.symm)
theorem keys_ints {kvs : List (Key × V)} {ks : List Int} (h : kvs.map (·.1) = ks.map Sum.inl) : (kvs.map fun kv => kV kv.1) = ks.map V.int := by
  have e : (kvs.map fun kv => kV kv.1) = (kvs.map (·.1)).map kV := by rw [List.map_map] <;> rfl
  rw [e, h, List.map_map] <;> rfl
def spTold (C : Addr) : Sp := fun vs H Q _ => ∃ (p b t x : Addr) (r : Int) (kvs : List (Key × V)), vs = [.ref p, .ref x] ∧ CkAt C H p b t r kvs ∧ H x = some (.dK kvs) ∧ Ints kvs ∧ kvs.length < 64 ∧ ∀ H', Ex H H' → Q (.bl true) H'
theorem ok_law_told (T : Txt K mg P) : FnOk P w K mg base CX0 3 T.f_law_told T.d_law_told ["store", "texts"] (spTold T.C_Chunks) := by
  refine T.F_law_told.ok sc_law_told (fun vs H Q E h => ?_) (fun cdv A outer s H vs Q E hr h => ?_)
  · obtain ⟨p, b, t, x, r, kvs, rfl, _⟩ := h
    rfl
  · obtain ⟨p, b, t, x, r, kvs, rfl, hC, hx, hI, h64, q⟩ := h
    have hu := hu_of hr
    obtain ⟨ks, hk⟩ := hI.keys
    have hkl : ks.length = kvs.length := by
      have := congrArg List.length hk
      simpa using this.symm
    have adr : ∀ {H' : Hp} {σ : L2.St} {D : Ends}, Ex H H' → σ[0]? = some (some (V.ref p)) → (∀ (ys : List Int) (a : Addr), ys.Perm ks → ys.Pairwise (· ≤ ·) → H' a = none → D.nx (σ.set 2 (some (.ref a))) (upd H' a (.lst (ys.map V.int)))) →
        tAsg (tMeth T.C_Chunks "addresses" (spCkA T.C_Chunks) [] E0 (tVar 0) tNil) (gName 2) D σ H' := fun {H' σ D} e hσ k => by
      have hC' := hC.mono e
      obtain ⟨dx, hp⟩ := hC'.1
      exact ⟨_, hσ, p, dx, _, rfl, hp, cF_no b r t (by decide +kernel) (by decide +kernel) (by decide +kernel), p, b, t, r, kvs, ks, rfl, hC', hk, by omega, fun ys a h1 h2 h3 => k ys a h1 h2 h3⟩
    refine ⟨_, pss_cons (ps_set (i := 2) sc_law_told.nd rfl (by first | exact Or.inl rfl | exact Or.inr rfl) (pe_meth0 (pv 0) T.cl_Chunks T.me_Chunks_addresses (ok_Chunks_addresses T) (hr.mono (by first | decide | omega)) T.b_Chunks_addresses .nil pass0))
      (pss_cons (ps_set (i := 3) sc_law_told.nd rfl (by first | exact Or.inl rfl | exact Or.inr rfl) (pe_callB cr_sorted (by rfl) T.m_sorted (by decide +kernel) (pa_cons (pe_callTy (call_list_dK rfl) (by rfl) T.m_list (by decide +kernel) (pa_cons (pv 1) (pa_nil))) (pa_nil))))
      (pss_cons (ps_for PassesOwn.never rfl (pi_range1 (by rfl) T.m_range (pa_cons (pe_int) (pa_nil))) (pg_name (i := 4) sc_law_told.nd rfl (by first | exact Or.inl rfl | exact Or.inr rfl))
      (pss_cons (ps_if (PW.pt (pw_or (pt_not (pt_val (pe_callB (r := rIsi K) call_isi (by rfl) T.m_isinstance (by decide +kernel) (pa_cons (pv 2) (pa_cons (pe_bltn (v := .ty "list") (by rfl) T.m_list (by decide +kernel) rfl) (pa_nil)))))) (pw_or1 (pt_cmpR op_ne (pe_callB (r := rLenQ K) call_len_seq (by rfl) T.m_len (by decide +kernel) (pa_cons (pv 2) (pa_nil))) (pe_callB (r := rLenQ K) call_len_seq (by rfl) T.m_len (by decide +kernel) (pa_cons (pv 3) (pa_nil))) (nomark _)))))
      (pss_one (ps_ret (pe_bl)))
      (pss_nil))
      (pss_cons (ps_if (pt_cmpR (r := rNeD K) (op_neD hr.units) (pe_lc (own := [("j", 5)]) (g := gName 5) rfl sc_law_told.nd (pi_range1 (by rfl) T.m_range (pa_cons (pe_callB (r := rLenQ K) call_len_seq (by rfl) T.m_len (by decide +kernel) (pa_cons (pv 3) (pa_nil))) (pa_nil))) (blkOk_by (N := ["store", "texts", "actual", "expected", "k", "j"]) (sc := defScope s_law_told) (by decide +kernel)) (fun _ _ _ _ _ => pg_name (i := 5) sc_law_told.nd rfl (Or.inl rfl)) (fun _ _ _ _ _ => pts_one (pt_not (pt_val (pe_call (ok_law_is T) (hr.mono (by first | decide | omega)) (by rfl) T.g_law_is T.F_law_is.kp T.b_law_is .nil pass0 (pa_cons (pe_ix (r := rIxL K) ix_list (pv 2) (pv 5) (fun _ _ => rfl)) (pa_cons (pe_ix (r := rIxL K) ix_list (pv 3) (pv 5) (fun _ _ => rfl)) (pa_nil))))))) (fun _ _ _ _ _ => pv 5)) (pe_lst (pa_nil)) (nomark _))
      (pss_one (ps_ret (pe_bl)))
      (pss_nil))
      (pss_cons (ps_expr (pe_bm PySem.F.plainAttrs_list PySem.F.slot_list_append PySem.F.type_list_append mt_append (pv 2) (pa_cons (pe_int) (pa_nil))))
      (pss_cons (ps_asg (pe_un un_neg (pe_int)) (pg_sub (pv 2) (pe_int) set_list))
      (pss_one (ps_set (i := 2) sc_law_told.nd rfl (by first | exact Or.inl rfl | exact Or.inr rfl) (pe_meth0 (pv 0) T.cl_Chunks T.me_Chunks_addresses (ok_Chunks_addresses T) (hr.mono (by first | decide | omega)) T.b_Chunks_addresses .nil pass0))))))))
      (pss_one (ps_ret (pe_call (ok_law_is T) (hr.mono (by first | decide | omega)) (by rfl) T.g_law_is T.F_law_is.kp T.b_law_is .nil pass0 (pa_cons (pe_callB (call_lenO T.me_Chunks___len.at_ T.me_Chunks___len.fn (ok_Chunks___len T) (hr.mono (by first | decide | omega)) T.b_Chunks___len) (by rfl) T.m_len (by decide +kernel) (pa_cons (pv 0) (pa_nil))) (pa_cons (pe_callB call_lenD (by rfl) T.m_len (by decide +kernel) (pa_cons (pv 1) (pa_nil))) (pa_nil)))))))), ?_⟩
    refine adr (D := { nx := _, rt := Q, bk := _, ct := _ }) (Ex.refl H) rfl fun ys a hp1 hs1 ha => ?_
    have hyl : ys.length < 64 := by rw [hp1.length_eq]; omega
    have e1 : Ex H (upd H a (.lst (ys.map V.int))) := Ex.new ha
    have hx1 := e1 _ _ hx
    refine ⟨_, rfl, x, kvs, rfl, hx1, fun l hl => ⟨l, ks, rfl, ?_, by omega, fun ys2 c hp2 hs2 hc => ?_⟩⟩
    · rw [← keys_ints hk]
      exact sq_of upd_same
    obtain rfl : ys = ys2 := sorted_uniq hp1 hp2 hs1 hs2
    have e2 : Ex (upd H a (.lst (ys.map V.int))) (upd (upd (upd H a (.lst (ys.map V.int))) l (.lst (kvs.map fun kv => kV kv.1))) c (.lst (ys.map V.int))) := (Ex.new hl).trans (Ex.new hc)
    have hca : a ≠ c := ne_of_none ((Ex.new (o := .lst (kvs.map fun kv => kV kv.1)) hl) _ _ (upd_same (H := H) (a := a) (o := .lst (ys.map V.int)))) hc
    have hc0 : H c = none := fresh_back (e1.trans (Ex.new hl)) hc
    refine q_forR1 (n := 2) (ea_cons ev_c ea_nil) (by decide) (fun i σ' H' => ∃ (a' : Addr) (x4 x5 : Option V), σ' = [some (.ref p), some (.ref x), some (.ref a'), some (.ref c), x4, x5] ∧ Ex H H' ∧ H a' = none ∧ H' a' = some (.lst (ys.map V.int)) ∧ H' c = some (.lst (ys.map V.int)) ∧ a' ≠ c)
      (fun H3 e3 => ⟨a, _, _, rfl, (e1.trans e2).trans e3, ha, e3 _ _ (e2 _ _ upd_same), e3 _ _ upd_same, hca⟩) (fun i σ' H' hi h => ?_) (fun σ' H' h => ?_)
    · obtain ⟨a', x4, x5, rfl, E3, h0, h1, h2, h3⟩ := h
      refine q_when (b := false) (et_or (a := false) (b := false) (et_is (et_not (et_B (ev_isi (K := K) (a := "list") (r := true) (ev_var rfl) (fun H5 e5 => tyx_lst (sq_of (e5 _ _ h1))) (by decide +kernel)))) rfl) fun _ => et_is (et_test (ev_neI (ev_lenQ (K := K) (ev_var rfl) (sq_of h1)) (ev_lenQ (K := K) (ev_var rfl) (sq_of h2)))) (by simp)) (fun z => nomatch z) fun _ H4 e4 => ?_
      have gv : given (ys.length : Int).toNat (fun _ => false) (fun _ => V.non) = [] := by
        have : ∀ n, given n (fun _ => false) (fun _ => V.non) = [] := fun n => by
          induction n with
          | zero => rfl
          | succ n ih => simp [given, ih]
        exact this _
      have hlc := el_lcR1 (σ := [some (.ref p), some (.ref x), some (.ref a'), some (.ref c), some (.int (i : Int)), x5]) (H := H4) (te := tVar 5) (ta := tCons (tCB (rLenQ K) (tCons (tVar 3) tNil)) tNil) (j := 5) (vs := [5]) (n := (ys.length : Int))
        (t := tNot (tB (tCall spIs [] E0 (tCons (tOp (rIxL K) (tVar 2) (tVar 5)) (tCons (tOp (rIxL K) (tVar 3) (tVar 5)) tNil))))) (fun _ => false) (fun _ => V.non) (ea_cons (ev_is (ev_lenQ (K := K) (ev_var rfl) (sq_of (e4 _ _ h2))) (by simp)) ea_nil) ⟨by omega, by omega⟩ (fun _ => rfl)
        (fun j H5 e5 hj => by
          have hj2 : j < ys.length := by omega
          have hy : (ys.map V.int)[j]? = some (.int ys[j]) := by rw [List.getElem?_map, List.getElem?_eq_getElem hj2] <;> rfl
          have ix : ∀ {k : Nat} {l : Addr}, (wipe [some (V.ref p), some (.ref x), some (.ref a'), some (.ref c), some (.int (i : Int)), x5] [5]).set 5 (some (V.int (j : Int))) = [some (V.ref p), some (.ref x), some (.ref a'), some (.ref c), some (.int (i : Int)), some (.int (j : Int))] := fun {_ _} => rfl
          refine et_is (et_not (et_B (ev_call (z := .bl true) (ea_cons (ev_ixL (K := K) (v := .int ys[j]) (ev_var rfl) (ev_var rfl) (sq_of (e5 _ _ (e4 _ _ h1))) (at_nat hy)) (ea_cons (ev_ixL (K := K) (v := .int ys[j]) (ev_var rfl) (ev_var rfl) (sq_of (e5 _ _ (e4 _ _ h2))) (at_nat hy)) ea_nil)) fun H6 e6 Q6 q6 E6 => ⟨_, _, rfl, fun H7 e7 => by rw [decide_eq_true rfl]; exact q6 H7 e7⟩))) rfl)
        (fun j H5 e5 hj z => nomatch z)
      rw [gv] at hlc
      refine q_when (b := false) (et_is (et_test (ev_neNil (K := K) hlc (by simp))) rfl) (fun z => nomatch z) fun _ H5 e5 => ?_
      have h15 := e5 _ _ (e4 _ _ h1)
      refine s_appZ (K := K) (D := { nx := _, rt := _, bk := _, ct := _ }) h15 (ev_var rfl) ev_c (by rw [List.length_map, sizeLine_eq]; omega) fun H6 e6 => ?_
      have E6 := ((E3.trans e4).trans e5).trans e6
      refine ⟨1, rfl, _, rfl, a', ys.map V.int ++ [V.int 0], 0, 0, rfl, rfl, upd_same, ixN_nat (j := 0) (by simp), ?_⟩
      have m1 : ∀ {o : HO}, Ex H (upd (upd H6 a' (.lst (ys.map V.int ++ [V.int 0]))) a' o) := (E6.mut h0).mut h0
      refine adr m1 rfl fun ys' a2 hp3 hs3 ha2 => ?_
      obtain rfl : ys = ys' := sorted_uniq hp1 hp3 hs1 hs3
      have hc6 : (upd (upd H6 a' (.lst (ys.map V.int ++ [V.int 0]))) a' (.lst ((ys.map V.int ++ [V.int 0]).set 0 (V.int (-1))))) c = some (.lst (ys.map V.int)) := by
        rw [upd_ne h3.symm, upd_ne h3.symm]
        exact e6 _ _ (e5 _ _ (e4 _ _ h2))
      exact ⟨a2, _, _, rfl, m1.trans (Ex.new ha2), fresh_back m1 ha2, upd_same, Ex.new ha2 _ _ hc6, (ne_of_none hc6 ha2).symm⟩
    · obtain ⟨a', x4, x5, rfl, E3, h0, h1, h2, h3⟩ := h
      have hC3 := hC.mono E3
      have hx3 := E3 _ _ hx
      refine s_ret (ev_call (z := .bl true) (ea_cons (x := .int (kvs.length : Int)) ?hLen (ea_cons (x := .int (kvs.length : Int)) (fun H4 e4 Q4 q4 => ⟨_, rfl, x, kvs, rfl, e4 _ _ hx3, q4 H4 (Ex.refl H4)⟩) ea_nil)) fun H6 e6 Q6 q6 E6 => ⟨_, _, rfl, fun H7 e7 => by rw [decide_eq_true rfl]; exact q6 H7 e7⟩) fun H4 e4 => q H4 (E3.trans e4)
      case hLen =>
        intro H4 e4 Q4 q4
        obtain ⟨dx, hp⟩ := (hC3.mono e4).1
        exact ⟨_, rfl, p, dx, _, rfl, hp, p, b, t, r, kvs, rfl, hC3.mono e4, _, rfl, ⟨by omega, by omega⟩, q4 H4 (Ex.refl H4)⟩


/-! ### two stores over one book, and what the law holds of them -/
def pr {α : Type} (w : Nat) (a b : α) : List α := if w = 0 then [a, b] else [b, a]
theorem pr_at {α : Type} {w : Nat} (hw : w = 0 ∨ w = 1) (a b : α) : (pr w a b)[w]? = some a := by
  rcases hw with rfl | rfl <;> rfl
theorem pr_set {α : Type} {w : Nat} (hw : w = 0 ∨ w = 1) (a b c : α) : (pr w a b).set w c = pr w c b := by
  rcases hw with rfl | rfl <;> rfl
theorem pr_len {α : Type} {w : Nat} (a b : α) : (pr w a b).length = 2 := by
  unfold pr
  split <;> rfl
structure Sto where
  p : Addr
  t : Addr
  x : Addr
  r : Int
  kvs : List (Key × V)
structure KS (CB CC : Addr) (H0 H : Hp) (w : Nat) (pl b d sl hl rl nm : Addr) (ts zs : List Str) (s o : Sto) (m : Nat) : Prop where
  ex : Ex H0 H
  pool : H pl = some (.lst (ts.map V.str))
  book : BkAt CB H b d (bkL 1 zs)
  stores : H sl = some (.lst (pr w (.ref s.p) (.ref o.p)))
  helds : H hl = some (.lst (pr w (.ref s.x) (.ref o.x)))
  reads : H rl = some (.lst (pr w (.int s.r) (.int o.r)))
  nums : H nm = some (.dK (bkL 1 zs))
  cs : CkAt CC H s.p b s.t s.r s.kvs
  co : CkAt CC H o.p b o.t o.r o.kvs
  xs : H s.x = some (.dK s.kvs)
  xo : H o.x = some (.dK o.kvs)
  f1 : H0 d = none
  f2 : H0 nm = none
  f3 : H0 rl = none
  f4 : H0 s.p = none ∧ H0 s.t = none ∧ H0 s.x = none
  f5 : H0 o.p = none ∧ H0 o.t = none ∧ H0 o.x = none
  n0 : d ≠ nm
  ns : s.t ≠ s.x ∧ d ≠ s.t ∧ d ≠ s.x ∧ nm ≠ s.t ∧ nm ≠ s.x
  no : o.t ≠ o.x ∧ d ≠ o.t ∧ d ≠ o.x ∧ nm ≠ o.t ∧ nm ≠ o.x
  so : s.t ≠ o.t ∧ s.t ≠ o.x ∧ s.x ≠ o.t ∧ s.x ≠ o.x
  pp : s.p ≠ o.p
  bs : b ≠ s.p
  bo : b ≠ o.p
  rn : pl ≠ rl ∧ sl ≠ rl ∧ hl ≠ rl
  zn : zs.Nodup
  gs : Ints s.kvs ∧ Strs s.kvs
  go : Ints o.kvs ∧ Strs o.kvs
  le : zs.length ≤ m ∧ s.kvs.length ≤ m ∧ o.kvs.length ≤ m
section
variable {CB CC : Addr} {H0 H H'' : Hp} {w : Nat} {pl b d sl hl rl nm : Addr} {ts zs zs' : List Str} {s o : Sto} {m m' : Nat}
theorem KS.mono (k : KS CB CC H0 H w pl b d sl hl rl nm ts zs s o m) (e : Ex H H'') : KS CB CC H0 H'' w pl b d sl hl rl nm ts zs s o m :=
  { k with ex := k.ex.trans e, pool := e _ _ k.pool, book := k.book.mono e, stores := e _ _ k.stores, helds := e _ _ k.helds, reads := e _ _ k.reads, nums := e _ _ k.nums, cs := k.cs.mono e, co := k.co.mono e, xs := e _ _ k.xs, xo := e _ _ k.xo }
theorem KS.up (k : KS CB CC H0 H w pl b d sl hl rl nm ts zs s o m) (h : m ≤ m') : KS CB CC H0 H w pl b d sl hl rl nm ts zs s o m' :=
  { k with le := ⟨by have := k.le.1; omega, by have := k.le.2.1; omega, by have := k.le.2.2; omega⟩ }
theorem pr_swap {α : Type} {w : Nat} (hw : w = 0 ∨ w = 1) (a b : α) : pr w a b = pr (1 - w) b a := by
  rcases hw with rfl | rfl <;> rfl
theorem KS.swap (hw : w = 0 ∨ w = 1) (k : KS CB CC H0 H w pl b d sl hl rl nm ts zs s o m) : KS CB CC H0 H (1 - w) pl b d sl hl rl nm ts zs o s m :=
  { ex := k.ex, pool := k.pool, book := k.book, stores := by rw [← pr_swap hw]; exact k.stores, helds := by rw [← pr_swap hw]; exact k.helds, reads := by rw [← pr_swap hw]; exact k.reads, nums := k.nums, cs := k.co, co := k.cs, xs := k.xo, xo := k.xs,
    f1 := k.f1, f2 := k.f2, f3 := k.f3, f4 := k.f5, f5 := k.f4, n0 := k.n0, ns := k.no, no := k.ns, so := ⟨k.so.1.symm, k.so.2.2.1.symm, k.so.2.1.symm, k.so.2.2.2.symm⟩, pp := k.pp.symm, bs := k.bo, bo := k.bs, rn := k.rn, zn := k.zn, gs := k.go, go := k.gs, le := ⟨k.le.1, k.le.2.2, k.le.2.1⟩ }
theorem KS.ne (k : KS CB CC H0 H w pl b d sl hl rl nm ts zs s o m) : (s.p ≠ rl ∧ s.p ≠ d ∧ s.p ≠ nm ∧ s.p ≠ s.t ∧ s.p ≠ s.x) ∧ (b ≠ rl ∧ b ≠ d ∧ b ≠ nm ∧ b ≠ s.t ∧ b ≠ s.x) ∧ (rl ≠ d ∧ rl ≠ nm ∧ rl ≠ s.t ∧ rl ≠ s.x) := by
  obtain ⟨⟨dx, hp⟩, ht⟩ := k.cs
  obtain ⟨⟨bx, hb⟩, hd⟩ := k.book
  exact ⟨⟨ne_of hp k.reads (by intro z; cases z), ne_of hp hd (by intro z; cases z), ne_of hp k.nums (by intro z; cases z), ne_of hp ht (by intro z; cases z), ne_of hp k.xs (by intro z; cases z)⟩,
    ⟨ne_of hb k.reads (by intro z; cases z), ne_of hb hd (by intro z; cases z), ne_of hb k.nums (by intro z; cases z), ne_of hb ht (by intro z; cases z), ne_of hb k.xs (by intro z; cases z)⟩,
    ⟨ne_of k.reads hd (by intro z; cases z), ne_of k.reads k.nums (by intro z; cases z), ne_of k.reads ht (by intro z; cases z), ne_of k.reads k.xs (by intro z; cases z)⟩⟩
theorem KS.step {r' : Int} {kvs' : List (Key × V)} (k : KS CB CC H0 H w pl b d sl hl rl nm ts zs s o m) (f : But [d, nm, rl, s.p, s.t, s.x] H H'') (h1 : BkAt CB H'' b d (bkL 1 zs')) (h2 : H'' nm = some (.dK (bkL 1 zs'))) (h3 : H'' rl = some (.lst (pr w (.int r') (.int o.r))))
    (h4 : CkAt CC H'' s.p b s.t r' kvs') (h5 : H'' s.x = some (.dK kvs')) (zn : zs'.Nodup) (g : Ints kvs' ∧ Strs kvs') (hm : m ≤ m') (l1 : zs'.length ≤ m') (l2 : kvs'.length ≤ m') :
    KS CB CC H0 H'' w pl b d sl hl rl nm ts zs' ⟨s.p, s.t, s.x, r', kvs'⟩ o m' := by
  obtain ⟨⟨dx, hp⟩, ht⟩ := k.cs
  obtain ⟨⟨ox, hop⟩, hot⟩ := k.co
  have f' : ∀ {c : Addr} {u : HO}, H c = some u → c ≠ d → c ≠ nm → c ≠ rl → c ≠ s.p → c ≠ s.t → c ≠ s.x → H'' c = some u := fun h a1 a2 a3 a4 a5 a6 => f _ _ h (by simp; exact ⟨a1, a2, a3, a4, a5, a6⟩)
  have lst : ∀ {c : Addr} {l : List V}, H c = some (.lst l) → c ≠ rl → H'' c = some (.lst l) := fun h n =>
    f' h (ne_of h k.book.2 (by intro z; cases z)) (ne_of h k.nums (by intro z; cases z)) n (ne_of h hp (by intro z; cases z)) (ne_of h ht (by intro z; cases z)) (ne_of h k.xs (by intro z; cases z))
  have dct : ∀ {c : Addr} {l : List (Key × V)}, H c = some (.dK l) → c ≠ d → c ≠ nm → c ≠ s.t → c ≠ s.x → H'' c = some (.dK l) := fun h a1 a2 a3 a4 =>
    f' h a1 a2 (ne_of h k.reads (by intro z; cases z)) (ne_of h hp (by intro z; cases z)) a3 a4
  exact { k with
    ex := fun c u h => f' (k.ex _ _ h) (ne_of_none h k.f1) (ne_of_none h k.f2) (ne_of_none h k.f3) (ne_of_none h k.f4.1) (ne_of_none h k.f4.2.1) (ne_of_none h k.f4.2.2)
    pool := lst k.pool k.rn.1
    book := h1
    stores := lst k.stores k.rn.2.1
    helds := lst k.helds k.rn.2.2
    reads := h3
    nums := h2
    cs := h4
    co := ⟨⟨ox, f' hop (ne_of hop k.book.2 (by intro z; cases z)) (ne_of hop k.nums (by intro z; cases z)) (ne_of hop k.reads (by intro z; cases z)) k.pp.symm (ne_of hop ht (by intro z; cases z)) (ne_of hop k.xs (by intro z; cases z))⟩, dct hot k.no.2.1.symm k.no.2.2.2.1.symm k.so.1.symm k.so.2.2.1.symm⟩
    xs := h5
    xo := dct k.xo k.no.2.2.1.symm k.no.2.2.2.2.symm k.so.2.1.symm k.so.2.2.2.symm
    zn := zn
    gs := g
    le := ⟨l1, l2, by have := k.le.2.2; omega⟩ }
end
theorem Ints.put {kvs : List (Key × V)} (h : Ints kvs) (n : Int) (v : V) : Ints (putK kvs (Sum.inl n : Key) v) := fun kv hkv => by
  unfold putK at hkv
  split at hkv
  · obtain ⟨a, ha, rfl⟩ := List.mem_map.mp hkv
    obtain ⟨i, hi⟩ := h a ha
    split
    · exact ⟨i, hi⟩
    · exact ⟨i, hi⟩
  · rcases List.mem_append.mp hkv with h2 | h2
    · exact h kv h2
    · obtain rfl : kv = (Sum.inl n, v) := by simpa using h2
      exact ⟨n, rfl⟩
theorem Strs.put {kvs : List (Key × V)} (h : Strs kvs) (k : Key) (z : Str) : Strs (putK kvs k (.str z)) := fun j v hv => by
  rw [valV_put] at hv
  split at hv
  · exact ⟨z, (Option.some.inj hv).symm⟩
  · exact h j v hv
theorem putK_len (kvs : List (Key × V)) (k : Key) (v : V) : (putK kvs k v).length ≤ kvs.length + 1 := by
  unfold putK
  split
  · rw [List.length_map]; omega
  · rw [List.length_append]; exact Nat.le_refl _
theorem Ints.drop {kvs : List (Key × V)} (h : Ints kvs) (k : Key) : Ints (dropK kvs k) := fun kv hkv => h kv (List.mem_filter.mp hkv).1
theorem valV_drop {kvs : List (Key × V)} {k j : Key} {v : V} (h : valV (dropK kvs k) j = some v) : valV kvs j = some v := by
  induction kvs with
  | nil => exact h
  | cons a r ih =>
    by_cases e : a.1 = k
    · have ed : dropK (a :: r) k = dropK r k := by simp [dropK, e]
      rw [ed] at h
      have := ih h
      by_cases ej : a.1 = j
      · exfalso
        have hj : j = k := ej.symm.trans e
        have hn : valV (dropK r k) k = none := by
          cases hx : valV (dropK r k) k with
          | none => rfl
          | some u =>
            have y := valV_any k (dropK r k)
            rw [hx] at y
            obtain ⟨c, hc, hc2⟩ := List.any_eq_true.mp y
            have := (List.mem_filter.mp hc).2
            simp at this hc2
            exact absurd hc2 this
        rw [hj, hn] at h
        cases h
      · rw [valV_neg ej]; exact this
    · have ed : dropK (a :: r) k = a :: dropK r k := by simp [dropK, e]
      rw [ed] at h
      by_cases ej : a.1 = j
      · rw [valV_pos ej] at h ⊢; exact h
      · rw [valV_neg ej] at h ⊢; exact ih h
theorem Strs.drop {kvs : List (Key × V)} (h : Strs kvs) (k : Key) : Strs (dropK kvs k) := fun j v hv => h j v (valV_drop hv)
theorem t_callE {sp : Sp} {dvs vs : List V} {E : XK} {ta : TA} {σ : L2.St} {H : Hp} {Q : VK} (h : EvA ta σ H vs) (k : ∀ H1, Ex H H1 → sp (vs ++ dvs) H1 Q E) : tCall sp dvs E ta σ H Q := h H (Ex.refl H) _ fun H1 e1 => k H1 e1
theorem el_catN {σ : L2.St} {H : Hp} {ta tb : TE} {xs ys : List V} (ha : EvL ta σ H xs) (hb : EvL tb σ H ys) (hz : xs.length + ys.length ≤ 100000) : EvL (tOp rCat ta tb) σ H (xs ++ ys) := fun H1 e Q q =>
  ha H1 e _ fun p H2 np e2 hp => hb H2 (e.trans e2) _ fun q' H3 nq e3 hq => ⟨p, q', xs, ys, rfl, rfl, e3 _ _ hp, hq, by rw [sizeLine_eq]; omega, fun r hr => q r _ (fresh_back (e2.trans e3) hr) ((e2.trans e3).trans (Ex.new hr)) upd_same⟩
theorem ev_lenO {σ : L2.St} {H : Hp} {te : TE} {C p d : Addr} {kvs : List (Key × V)} (h : Ev te σ H (.ref p)) (b : BkAt C H p d kvs) (hl : kvs.length ≤ 900) :
    Ev (tCB (fun xs H Q => ∃ a dx fs, xs = [V.ref a] ∧ H a = some (.ins C dx fs) ∧ spBkL C [.ref a] H (fun v H' => ∃ n : Int, v = .int n ∧ (0 ≤ n ∧ n < 2 ^ 63) ∧ Q (.int n) H') E0) (tCons te tNil)) σ H (.int (kvs.length : Int)) := fun H1 e Q q => by
  obtain ⟨⟨dx, hp⟩, hd⟩ := b
  exact h H1 e _ fun H2 e2 => ⟨p, dx, aF d, rfl, (e.trans e2) _ _ hp, p, d, kvs, rfl, ⟨⟨dx, (e.trans e2) _ _ hp⟩, (e.trans e2) _ _ hd⟩, _, rfl, ⟨by omega, by omega⟩, q H2 e2⟩
theorem ev_ckr {K : PySem.W.Frag} {C p b t : Addr} {r : Int} {kvs : List (Key × V)} {σ : L2.St} {H : Hp} {te : TE} (h : Ev te σ H (.ref p)) (c : CkAt C H p b t r kvs) (hc : Cls K C) (hn : NoAttr K C "reads") : Ev (tFld K te "reads") σ H (.int r) := fun H1 e Q q => by
  obtain ⟨⟨dx, hp⟩, _⟩ := c
  exact h H1 e _ fun H2 e2 => ⟨p, C, dx, _, _, rfl, (e.trans e2) _ _ hp, hc, hn, cF_reads b r t, q H2 e2⟩
theorem q_book {C : Addr} {E : XK} {σ : L2.St} {H : Hp} {tz : TS} {D : Ends} {i : Nat} (k : ∀ b d H', Ex H H' → H b = none → H d = none → BkAt C H' b d [] → tz D (σ.set i (some (.ref b))) H') : tSeq (tAsg (tMake C (spBkI C) [] E tNil) (gName i)) tz D σ H := by
  intro p0 dx0 x1 x2 x3
  refine ⟨p0, dx0, rfl, upd_same, fun d0 H2 x4 x5 hp0 hd0 kp0 => ⟨rfl, ?_⟩⟩
  have e2 : Ex H H2 := fun b o e => kp0 b o (by rw [upd_ne (ne_of_none e x1), upd_ne (ne_of_none e x2)]; exact e) (ne_of_none e x1)
  have y0 : H d0 = none := by
    cases hh : H d0 with
    | none => rfl
    | some o =>
      by_cases hx : d0 = dx0
      · rw [hx, x2] at hh; cases hh
      · rw [upd_ne x5, upd_ne hx, hh] at x4; cases x4
  exact k p0 d0 H2 e2 x1 y0 ⟨⟨dx0, hp0⟩, hd0⟩
/-- one store is made -/
theorem t_store {C : Addr} {E : XK} {σ : L2.St} {H : Hp} {Q : VK} {j : Nat} {b : Addr} (hb : σ[j]? = some (some (.ref b))) (k : ∀ p t H', Ex H H' → H p = none → H t = none → CkAt C H' p b t 0 [] → Q (.ref p) H') : tMake C (spCkI C) [] E (tCons (tVar j) tNil) σ H Q := by
  refine ⟨_, hb, fun p dx x1 x2 x3 => ⟨p, dx, b, rfl, upd_same, fun t H2 x4 x5 hc kp => ⟨rfl, ?_⟩⟩⟩
  have e2 : Ex H H2 := fun c o e => kp c o (by rw [upd_ne (ne_of_none e x1), upd_ne (ne_of_none e x2)]; exact e) fun z => ne_of_none e x1 (List.mem_singleton.mp z)
  have y0 : H t = none := by
    cases hh : H t with
    | none => rfl
    | some o =>
      by_cases hx : t = dx
      · rw [hx, x2] at hh; cases hh
      · rw [upd_ne x5, upd_ne hx, hh] at x4; cases x4
  exact k p t H2 e2 x1 y0 hc
theorem q_dicts {σ : L2.St} {H : Hp} {tz : TS} {D : Ends} {i : Nat}
    (k : ∀ n0 n1 kl H', Ex H H' → H n0 = none → H n1 = none → n0 ≠ n1 → H' n0 = some (.dK []) → H' n1 = some (.dK []) → H' kl = some (.lst [.ref n0, .ref n1]) → tz D (σ.set i (some (.ref kl))) H') :
    tSeq (tAsg (tLst (tCons tDNewK (tCons tDNewK tNil))) (gName i)) tz D σ H := by
  intro n0 hn0 n1 hn1
  refine ⟨by show 2 ≤ sizeLine; decide, fun kl hkl => ?_⟩
  have e5 : Ex H (upd H n0 (.dK [])) := Ex.new hn0
  have e6 : Ex (upd H n0 (.dK [])) (upd (upd H n0 (.dK [])) n1 (.dK [])) := Ex.new hn1
  have e7 := Ex.new (o := .lst [.ref n0, .ref n1]) hkl
  exact k n0 n1 kl _ ((e5.trans e6).trans e7) hn0 (fresh_back e5 hn1) (ne_of_none upd_same hn1) ((e6.trans e7) _ _ upd_same) (e7 _ _ upd_same) upd_same
theorem q_stores {C : Addr} {E : XK} {σ : L2.St} {H : Hp} {tz : TS} {D : Ends} {i j : Nat} {b : Addr} (hb : σ[j]? = some (some (.ref b)))
    (k : ∀ p0 t0 p1 t1 H2 H3 sl, Ex H H2 → H p0 = none → H t0 = none → CkAt C H2 p0 b t0 0 [] → Ex H2 H3 → H2 p1 = none → H2 t1 = none → CkAt C H3 p1 b t1 0 [] → H3 sl = none → tz D (σ.set i (some (.ref sl))) (upd H3 sl (.lst [.ref p0, .ref p1]))) :
    tSeq (tAsg (tLst (tCons (tMake C (spCkI C) [] E (tCons (tVar j) tNil)) (tCons (tMake C (spCkI C) [] E (tCons (tVar j) tNil)) tNil))) (gName i)) tz D σ H :=
  t_store (Q := fun v H2 => tMake C (spCkI C) [] E (tCons (tVar j) tNil) σ H2 fun v2 H3 => ([v, v2] : List V).length ≤ sizeLine ∧ ∀ p, H3 p = none → tz D (σ.set i (some (.ref p))) (upd H3 p (.lst [v, v2]))) hb fun p0 t0 H2 e2 np0 nt0 hc0 =>
    t_store (Q := fun v2 H3 => ([V.ref p0, v2] : List V).length ≤ sizeLine ∧ ∀ p, H3 p = none → tz D (σ.set i (some (.ref p))) (upd H3 p (.lst [.ref p0, v2]))) hb fun p1 t1 H3 e3 np1 nt1 hc1 => ⟨by show 2 ≤ sizeLine; decide, fun sl hsl => k p0 t0 p1 t1 H2 H3 sl e2 np0 nt0 hc0 e3 np1 nt1 hc1 hsl⟩
theorem cv_isT {i : Int} {H : Hp} : SpV spIs [.int i, .int i] H (.bl true) := fun H1 e Q q E => ⟨i, i, rfl, fun H2 e2 => by rw [decide_eq_true rfl]; exact q H2 e2⟩
theorem small_log {n : Int} (h0 : 0 ≤ n) (h : n ≤ 100000) : n.natAbs.log2 < 1920 := Nat.lt_trans (PySem.Flt.log2_lt_of (k := 64) (by decide) (by omega)) (by decide)
theorem known_int {zs : List Str} {g : Int} {v : V} (hl : zs.length ≤ 60) (h : v ∈ (bkL 1 zs).map (·.2) ++ [V.int 0, V.int (((bkL 1 zs).length : Int) + 1 + g % 3)]) : ∃ n : Int, v = .int n ∧ n.natAbs.log2 < 1920 := by
  rcases List.mem_append.mp h with h | h
  · obtain ⟨kv, hkv, rfl⟩ := List.mem_map.mp h
    obtain ⟨j, hj, e⟩ := List.getElem_of_mem hkv
    obtain ⟨z, h1, h2, h3⟩ := bkL_get (n := 1) (zs := zs) (j := j) (k := kv.1) (v := kv.2) (by rw [List.getElem?_eq_getElem hj, e])
    rw [bkL_len] at hj
    exact ⟨_, h3, small_log (by omega) (by omega)⟩
  · simp only [List.mem_cons, List.not_mem_nil, or_false] at h
    rcases h with rfl | rfl
    · exact ⟨0, rfl, by decide⟩
    · rw [bkL_len]
      exact ⟨_, rfl, small_log (by omega) (by omega)⟩
theorem s_ifAnd {t1 t2 : TT} {tu : TS} {D : Ends} {σ : L2.St} {H : Hp} {b : Bool} (h : EvT t1 σ H b) (hT : b = true → ∀ H1, Ex H H1 → tIfS t2 tu tNext D σ H1) (hF : b = false → ∀ H1, Ex H H1 → D.nx σ H1) : tIfS (tAnd t1 t2) tu tNext D σ H := h H (Ex.refl H) _ fun H1 e1 => by
  cases b with
  | true => exact iteT (hT rfl H1 e1)
  | false => exact iteF (iteF (hF rfl H1 e1))


/-! ### law -/
def spLaw (K : PySem.W.Frag) : Sp := fun vs H Q _ => ∃ (a : Addr) (ns : List Int), vs = [.ref a] ∧ SqL K H a (ns.map V.int) ∧ ns.length ≤ 63 ∧ (∀ z ∈ ns, Builtin.Int.intBits z ≤ 1048576) ∧ ∀ H', Q (.bl true) H'
def times10 (c : Int) : Nat := if c / 30 % 2 = 0 then (c % 30).toNat else 54
theorem times10_le (c : Int) : times10 c ≤ 54 := by
  unfold times10
  split <;> omega
theorem ok_law (T : Txt K mg P) : FnOk P w K mg base CX0 7 T.f_law T.d_law ["script"] (spLaw K) := by
  refine T.F_law.ok sc_law (fun vs H Q E h => ?_) (fun cdv A outer s H vs Q E hr h => ?_)
  · obtain ⟨a, ns, rfl, _⟩ := h
    rfl
  · obtain ⟨a, ns, rfl, hS, hlen, hbits, q⟩ := h
    have hw : ∀ n ∈ ns, Wd n := fun n hn => Wd.bits (hbits n hn)
    have hu := hu_of hr
    refine ⟨_, pss_cons (ps_set (i := 1) sc_law.nd rfl (by first | exact Or.inl rfl | exact Or.inr rfl) (pe_make0 T.mk_Book (ok_Book___init T) (hr.mono (by first | decide | omega)) (by rfl) T.g_Book T.b_Book___init .nil pass0))
      (pss_cons (ps_set (i := 2) sc_law.nd rfl (by first | exact Or.inl rfl | exact Or.inr rfl) (pe_lst (pa_cons (pe_make T.mk_Chunks (ok_Chunks___init T) (hr.mono (by first | decide | omega)) (by rfl) T.g_Chunks T.b_Chunks___init .nil pass0 (pa_cons (pv 1) (pa_nil))) (pa_cons (pe_make T.mk_Chunks (ok_Chunks___init T) (hr.mono (by first | decide | omega)) (by rfl) T.g_Chunks T.b_Chunks___init .nil pass0 (pa_cons (pv 1) (pa_nil))) (pa_nil)))))
      (pss_cons (ps_set (i := 3) sc_law.nd rfl (by first | exact Or.inl rfl | exact Or.inr rfl) (pe_lst (pa_cons (pe_dnewK) (pa_cons (pe_dnewK) (pa_nil)))))
      (pss_cons (ps_set (i := 4) sc_law.nd rfl (by first | exact Or.inl rfl | exact Or.inr rfl) (pe_lst (pa_cons (pe_int) (pa_cons (pe_int) (pa_nil)))))
      (pss_cons (ps_set (i := 5) sc_law.nd rfl (by first | exact Or.inl rfl | exact Or.inr rfl) (pe_dnewK))
      (pss_cons (ps_setLc (i := 6) (own := [("k", 7)]) (g := gName 7) (tt := tYes) (by rfl) sc_law.nd rfl rfl (sw_true rfl rfl rfl (by decide +kernel)) (pi_range1 (by rfl) T.m_range (pa_cons (pe_int) (pa_nil))) (blkOk_by (N := ["script", "book", "stores", "held", "reads", "numbers", "pool", "k", "drawn", "which", "store", "choice", "known", "text", "address", "actual"]) (sc := defScope s_law) (by decide +kernel)) (fun _ _ _ _ _ => pg_name (i := 7) sc_law.nd rfl (Or.inl rfl)) (fun _ _ _ _ _ => pts_nil) (fun _ _ _ _ _ => pe_call (ok_law_leaf_text T) (hr.mono (by first | decide | omega)) (by rfl) T.g_law_leaf_text T.F_law_leaf_text.kp T.b_law_leaf_text .nil pass0 (pa_cons (pe_call (ok_law_leaf T) (hr.mono (by first | decide | omega)) (by rfl) T.g_law_leaf T.F_law_leaf.kp T.b_law_leaf .nil pass0 (pa_cons (pe_call (ok_law_thing T) (hr.mono (by first | decide | omega)) (by rfl) T.g_law_thing T.F_law_thing.kp T.b_law_thing .nil pass0 (pa_cons (pv 0) (pa_cons (pe_op op_add (pe_int) (pv 7)) (pa_nil)))) (pa_nil))) (pa_nil))))
      (pss_cons (ps_for PassesOwn.never rfl (pi_range1 (by rfl) T.m_range (pa_cons (pe_ix (r := rIxL K) ix_list (pe_lst (pa_cons (pe_op op_mod (pe_callTy call_int1 (by rfl) T.m_int (by decide +kernel) (pa_cons (pe_call (ok_law_cell T) (hr.mono (by first | decide | omega)) (by rfl) T.g_law_cell T.F_law_cell.kp T.b_law_cell .nil pass0 (pa_cons (pv 0) (pa_cons (pe_int) (pa_nil)))) (pa_nil))) (pe_int)) (pa_cons (pe_int) (pa_nil)))) (pe_op op_mod (pe_callTy call_int1 (by rfl) T.m_int (by decide +kernel) (pa_cons (pe_op op_fdivW (pe_call (ok_law_cell T) (hr.mono (by first | decide | omega)) (by rfl) T.g_law_cell T.F_law_cell.kp T.b_law_cell .nil pass0 (pa_cons (pv 0) (pa_cons (pe_int) (pa_nil)))) (pe_int)) (pa_nil))) (pe_int)) (fun _ _ => rfl)) (pa_nil))) (pg_name (i := 7) sc_law.nd rfl (by first | exact Or.inl rfl | exact Or.inr rfl))
      (pss_cons (ps_set (i := 8) sc_law.nd rfl (by first | exact Or.inl rfl | exact Or.inr rfl) (pe_call (ok_law_draws T) (hr.mono (by first | decide | omega)) (by rfl) T.g_law_draws T.F_law_draws.kp T.b_law_draws .nil pass0 (pa_cons (pe_call (ok_law_thing T) (hr.mono (by first | decide | omega)) (by rfl) T.g_law_thing T.F_law_thing.kp T.b_law_thing .nil pass0 (pa_cons (pv 0) (pa_cons (pe_op op_add (pe_int) (pv 7)) (pa_nil)))) (pa_cons (pe_int) (pa_cons (pe_int) (pa_cons (pe_int) (pa_nil)))))))
      (pss_cons (ps_set (i := 9) sc_law.nd rfl (by first | exact Or.inl rfl | exact Or.inr rfl) (pe_op op_mod (pe_callTy call_int1 (by rfl) T.m_int (by decide +kernel) (pa_cons (pe_ix (r := rIxL K) ix_list (pv 8) (pe_int) (fun _ _ => rfl)) (pa_nil))) (pe_int)))
      (pss_cons (ps_set (i := 10) sc_law.nd rfl (by first | exact Or.inl rfl | exact Or.inr rfl) (pe_ix (r := rIxL K) ix_list (pv 2) (pv 9) (fun _ _ => rfl)))
      (pss_cons (ps_set (i := 11) sc_law.nd rfl (by first | exact Or.inl rfl | exact Or.inr rfl) (pe_op op_mod (pe_callTy call_int1 (by rfl) T.m_int (by decide +kernel) (pa_cons (pe_ix (r := rIxL K) ix_list (pv 8) (pe_int) (fun _ _ => rfl)) (pa_nil))) (pe_int)))
      (pss_cons (ps_set (i := 12) sc_law.nd rfl (by first | exact Or.inl rfl | exact Or.inr rfl) (pe_op op_cat (pe_lock (pe_lc (own := [("text", 13)]) (g := gName 13) (tt := tYes) rfl sc_law.nd (pi_keys (pv 5)) (blkOk_by (N := ["script", "book", "stores", "held", "reads", "numbers", "pool", "k", "drawn", "which", "store", "choice", "known", "text", "address", "actual"]) (sc := defScope s_law) (by decide +kernel)) (fun _ _ _ _ _ => pg_name (i := 13) sc_law.nd rfl (Or.inl rfl)) (fun _ _ _ _ _ => pts_nil) (fun _ _ _ _ _ => pe_dget hu (pv 5) (pv 13) (fun _ _ => rfl)))) (pe_lst (pa_cons (pe_int) (pa_cons (pe_op op_add (pe_op op_add (pe_callB (call_lenO T.me_Book___len.at_ T.me_Book___len.fn (ok_Book___len T) (hr.mono (by first | decide | omega)) T.b_Book___len) (by rfl) T.m_len (by decide +kernel) (pa_cons (pv 1) (pa_nil))) (pe_int)) (pe_op op_mod (pe_callTy call_int1 (by rfl) T.m_int (by decide +kernel) (pa_cons (pe_ix (r := rIxL K) ix_list (pv 8) (pe_int) (fun _ _ => rfl)) (pa_nil))) (pe_int))) (pa_nil))))))
      (pss_cons (ps_set (i := 14) sc_law.nd rfl (by first | exact Or.inl rfl | exact Or.inr rfl) (pe_ix (r := rIxL K) ix_list (pv 12) (pe_op op_mod (pe_callTy call_int1 (by rfl) T.m_int (by decide +kernel) (pa_cons (pe_ix (r := rIxL K) ix_list (pv 8) (pe_int) (fun _ _ => rfl)) (pa_nil))) (pe_callB (r := rLenQ K) call_len_seq (by rfl) T.m_len (by decide +kernel) (pa_cons (pv 12) (pa_nil)))) (fun _ _ => rfl)))
      (pss_cut (ps_if (PW.pt (pw_and (pt_cmpR op_lt (pv 11) (pe_int) (nomark _)) (pw_and1 (pt_not (pt_val (pe_call (ok_law_put T) (hr.mono (by first | decide | omega)) (by rfl) T.g_law_put T.F_law_put.kp T.b_law_put .nil pass0 (pa_cons (pv 10) (pa_cons (pv 1) (pa_cons (pe_ix (r := rIxL K) ix_list (pv 6) (pe_op op_mod (pe_callTy call_int1 (by rfl) T.m_int (by decide +kernel) (pa_cons (pe_ix (r := rIxL K) ix_list (pv 8) (pe_int) (fun _ _ => rfl)) (pa_nil))) (pe_int)) (fun _ _ => rfl)) (pa_cons (pe_ix (r := rIxL K) ix_list (pv 3) (pv 9) (fun _ _ => rfl)) (pa_cons (pv 5) (pa_nil))))))))))))
      (pss_one (ps_ret (pe_bl)))
      (pss_nil))
      (pss_cut (ps_if (PW.pt (pw_or (pt_cmpR op_eq (pv 11) (pe_int) (nomark _)) (pw_or1 (pt_cmpR op_eq (pv 11) (pe_int) (nomark _)))))
      (pss_cons (ps_asg (pe_op op_add (pe_ix (r := rIxL K) ix_list (pv 4) (pv 9) (fun _ _ => rfl)) (pe_int)) (pg_sub (pv 4) (pv 9) set_list))
      (pss_one (ps_if (pt_not (pt_val (pe_call (ok_law_got T) (hr.mono (by first | decide | omega)) (by rfl) T.g_law_got T.F_law_got.kp T.b_law_got .nil pass0 (pa_cons (pv 10) (pa_cons (pv 14) (pa_cons (pe_ix (r := rIxL K) ix_list (pv 3) (pv 9) (fun _ _ => rfl)) (pa_nil)))))))
      (pss_one (ps_ret (pe_bl)))
      (pss_nil))))
      (pss_nil))
      (pss_cut (ps_if (pt_cmpR op_eq (pv 11) (pe_int) (nomark _))
      (pss_cons (ps_set (i := 15) sc_law.nd rfl (by first | exact Or.inl rfl | exact Or.inr rfl) (pe_meth (pv 10) T.cl_Chunks T.me_Chunks_has (ok_Chunks_has T) (hr.mono (by first | decide | omega)) T.b_Chunks_has .nil pass0 (pa_cons (pv 14) (pa_nil))))
      (pss_one (ps_if (PW.pt (pw_or (pt_not (pt_val (pe_callB (r := rIsi K) call_isi (by rfl) T.m_isinstance (by decide +kernel) (pa_cons (pv 15) (pa_cons (pe_bltn (v := .ty "bool") (by rfl) T.m_bool (by decide +kernel) rfl) (pa_nil)))))) (pw_or1 (pt_cmpR op_ne (pv 15) (pe_cmp (pc_din hu (pv 14) (pe_ix (r := rIxL K) ix_list (pv 3) (pv 9) (fun _ _ => rfl))) rfl) (nomark _)))))
      (pss_one (ps_ret (pe_bl)))
      (pss_nil))))
      (pss_nil))
      (pss_cut (ps_if (pt_cmpR op_eq (pv 11) (pe_int) (nomark _))
      (pss_cons (ps_if (pt_cmpR op_notN (pe_meth (pv 10) T.cl_Chunks T.me_Chunks_drop (ok_Chunks_drop T) (hr.mono (by first | decide | omega)) T.b_Chunks_drop .nil pass0 (pa_cons (pv 14) (pa_nil))) (pe_non) (nomark _))
      (pss_one (ps_ret (pe_bl)))
      (pss_nil))
      (pss_one (ps_expr (pe_dpop2 (pe_ix (r := rIxL K) ix_list (pv 3) (pv 9) (fun _ _ => rfl)) (pv 14) (pe_non) ⟨rfl, rfl, rfl, rfl⟩))))
      (pss_nil))
      (pss_cut (ps_if (PW.pt (pw_and (pt_cmpR op_eq (pv 11) (pe_int) (nomark _)) (pw_and1 (pt_not (pt_val (pe_call (ok_law_told T) (hr.mono (by first | decide | omega)) (by rfl) T.g_law_told T.F_law_told.kp T.b_law_told .nil pass0 (pa_cons (pv 10) (pa_cons (pe_ix (r := rIxL K) ix_list (pv 3) (pv 9) (fun _ _ => rfl)) (pa_nil)))))))))
      (pss_one (ps_ret (pe_bl)))
      (pss_nil))
      (pss_one (ps_if (PW.pt (pw_or (pt_not (pt_val (pe_call (ok_law_is T) (hr.mono (by first | decide | omega)) (by rfl) T.g_law_is T.F_law_is.kp T.b_law_is .nil pass0 (pa_cons (pe_fld (pe_ix (r := rIxL K) ix_list (pv 2) (pe_int) (fun _ _ => rfl)) rfl) (pa_cons (pe_ix (r := rIxL K) ix_list (pv 4) (pe_int) (fun _ _ => rfl)) (pa_nil)))))) (pw_or1 (pt_not (pt_val (pe_call (ok_law_is T) (hr.mono (by first | decide | omega)) (by rfl) T.g_law_is T.F_law_is.kp T.b_law_is .nil pass0 (pa_cons (pe_fld (pe_ix (r := rIxL K) ix_list (pv 2) (pe_int) (fun _ _ => rfl)) rfl) (pa_cons (pe_ix (r := rIxL K) ix_list (pv 4) (pe_int) (fun _ _ => rfl)) (pa_nil)))))))))
      (pss_one (ps_ret (pe_bl)))
      (pss_nil)))))))))))))))
      (pss_one (ps_ret (pe_and (pe_call (ok_law_told T) (hr.mono (by first | decide | omega)) (by rfl) T.g_law_told T.F_law_told.kp T.b_law_told .nil pass0 (pa_cons (pe_ix (r := rIxL K) ix_list (pv 2) (pe_int) (fun _ _ => rfl)) (pa_cons (pe_ix (r := rIxL K) ix_list (pv 3) (pe_int) (fun _ _ => rfl)) (pa_nil)))) (pe_one (pe_call (ok_law_told T) (hr.mono (by first | decide | omega)) (by rfl) T.g_law_told T.F_law_told.kp T.b_law_told .nil pass0 (pa_cons (pe_ix (r := rIxL K) ix_list (pv 2) (pe_int) (fun _ _ => rfl)) (pa_cons (pe_ix (r := rIxL K) ix_list (pv 3) (pe_int) (fun _ _ => rfl)) (pa_nil)))))))))))))), ?_⟩
    refine q_book fun b d H1 e1 nb nd hB => ?_
    refine q_stores rfl fun p0 t0 p1 t1 H2 H3 sl e2 np0 nt0 hc0 e3 np1 nt1 hc1 hsl => ?_
    have e4 := Ex.new (o := .lst [.ref p0, .ref p1]) hsl
    have hs4 := upd_same (H := H3) (a := sl) (o := .lst [.ref p0, .ref p1])
    generalize upd H3 sl (.lst [.ref p0, .ref p1]) = H4 at e4 hs4
    refine q_dicts fun x0 x1 hl H5 e5 nx0 nx1 nx hx0 hx1 hhl => ?_
    refine q_asgL (el_lst (ea_cons ev_c (ea_cons ev_c ea_nil)) (by show 2 ≤ 100000; decide)) fun rl H6 nrl e6 hrl => ?_
    refine fun nm hnm => ?_
    have e7 := Ex.new (o := .dK []) hnm
    have hn7 := upd_same (H := H6) (a := nm) (o := .dK [])
    generalize upd H6 nm (.dK []) = H7 at e7 hn7
    have E7 : Ex H H7 := (((((e1.trans e2).trans e3).trans e4).trans e5).trans e6).trans e7
    refine q_asgL (xs := ((List.range 8).map fun k => (⟨(encC (leafZ (thingZ ns (1 + k)))).toArray⟩ : Str)).map V.str) (el_mapR (n := 8) (ea_cons ev_c ea_nil) (by decide) (fun _ => rfl) (by simp) fun k y hk hy H8 e8 => ?hPool) fun pl H8 npl e8 hpl => ?_
    case hPool =>
      have hy2 : y = .str (⟨(encC (leafZ (thingZ ns (1 + k)))).toArray⟩ : Str) := by
        rw [List.getElem?_map, List.getElem?_map, List.getElem?_range hk] at hy
        exact (Option.some.inj hy).symm
      rw [hy2]
      have ct : Wd (thingZ ns (1 + k)) := Wd.thing hw (by omega)
      exact ev_call (ea_cons (ev_call (ea_cons (ev_call (ea_cons (ev_var rfl) (ea_cons (ev_is (ev_bin0 ev_c (ev_var rfl)) (congrArg V.int (show (1 : Int) + (k : Int) = ((1 + k : Nat) : Int) by omega))) ea_nil)) (cv_thing (ex_l (E7.trans e8) hS) hw (by omega))) ea_nil) (cv_leaf ct)) ea_nil) (cv_leaf_text (leafZ_sc _))
    have hzl : ((List.range 8).map fun k => (⟨(encC (leafZ (thingZ ns (1 + k)))).toArray⟩ : Str)).length = 8 := by simp
    generalize ((List.range 8).map fun k => (⟨(encC (leafZ (thingZ ns (1 + k)))).toArray⟩ : Str)) = ts at hpl hzl
    have E8 := E7.trans e8
    have q38 : Ex H3 H8 := (((e4.trans e5).trans e6).trans e7).trans e8
    have q28 := e3.trans q38
    have q18 := e2.trans q28
    have q48 : Ex H4 H8 := ((e5.trans e6).trans e7).trans e8
    have q58 : Ex H5 H8 := (e6.trans e7).trans e8
    have q68 : Ex H6 H8 := e7.trans e8
    obtain ⟨⟨dp0, hp0⟩, ht0⟩ := id hc0
    obtain ⟨⟨dp1, hp1⟩, ht1⟩ := id hc1
    obtain ⟨⟨dxb, hb⟩, hd⟩ := id hB
    have k0 : KS T.C_Book T.C_Chunks H H8 0 pl b d sl hl rl nm ts [] ⟨p0, t0, x0, 0, []⟩ ⟨p1, t1, x1, 0, []⟩ 0 := {
      ex := E8, pool := hpl, book := hB.mono q18, stores := q48 _ _ hs4, helds := q58 _ _ hhl, reads := q68 _ _ hrl, nums := e8 _ _ hn7, cs := hc0.mono q28, co := hc1.mono q38, xs := q58 _ _ hx0, xo := q58 _ _ hx1,
      f1 := nd, f2 := fresh_back (((((e1.trans e2).trans e3).trans e4).trans e5).trans e6) hnm, f3 := fresh_back ((((e1.trans e2).trans e3).trans e4).trans e5) nrl,
      f4 := ⟨fresh_back e1 np0, fresh_back e1 nt0, fresh_back (((e1.trans e2).trans e3).trans e4) nx0⟩, f5 := ⟨fresh_back (e1.trans e2) np1, fresh_back (e1.trans e2) nt1, fresh_back (((e1.trans e2).trans e3).trans e4) nx1⟩,
      n0 := ne_of_none (((((e2.trans e3).trans e4).trans e5).trans e6) _ _ hd) hnm,
      ns := ⟨ne_of_none ((e3.trans e4) _ _ ht0) nx0, ne_of_none hd nt0, ne_of_none (((e2.trans e3).trans e4) _ _ hd) nx0, (ne_of_none ((((e3.trans e4).trans e5).trans e6) _ _ ht0) hnm).symm, (ne_of_none (e6 _ _ hx0) hnm).symm⟩,
      no := ⟨ne_of_none (e4 _ _ ht1) nx1, ne_of_none (e2 _ _ hd) nt1, ne_of_none (((e2.trans e3).trans e4) _ _ hd) nx1, (ne_of_none (((e4.trans e5).trans e6) _ _ ht1) hnm).symm, (ne_of_none (e6 _ _ hx1) hnm).symm⟩,
      so := ⟨ne_of_none ht0 nt1, ne_of_none ((e3.trans e4) _ _ ht0) nx1, (ne_of_none (e4 _ _ ht1) nx0).symm, nx⟩,
      pp := ne_of_none hp0 np1, bs := ne_of_none hb np0, bo := ne_of_none (e2 _ _ hb) np1,
      rn := ⟨(ne_of_none (e7 _ _ hrl) npl).symm, ne_of_none (e5 _ _ hs4) nrl, ne_of_none hhl nrl⟩, zn := List.nodup_nil, gs := ⟨(fun _ h => nomatch h), (fun _ _ h => by cases h)⟩, go := ⟨(fun _ h => nomatch h), (fun _ _ h => by cases h)⟩, le := ⟨Nat.le_refl _, Nat.le_refl _, Nat.le_refl _⟩ }
    have hc := times10_le (cellZ ns 0)
    have m2 := Int.emod_nonneg (cellZ ns 0 / 30) (by decide : (2 : Int) ≠ 0)
    have m30 := Int.emod_nonneg (cellZ ns 0) (by decide : (30 : Int) ≠ 0)
    have hat : ([.int (cellZ ns 0 % 30), .int 54] : List V)[(cellZ ns 0 / 30 % 2).toNat]? = some (.int (times10 (cellZ ns 0) : Int)) := by
      unfold times10
      by_cases h2 : cellZ ns 0 / 30 % 2 = 0
      · rw [if_pos h2, h2, Int.toNat_of_nonneg m30] <;> rfl
      · have h1 : cellZ ns 0 / 30 % 2 = 1 := by omega
        rw [if_neg h2, h1] <;> rfl
    refine q_forR1 (n := (times10 (cellZ ns 0) : Int)) ?hA (by omega)
      (fun i σ' H' => ∃ (zs : List Str) (s o : Sto) (x7 x8 x9 x10 x11 x12 x13 x14 x15 : Option V), σ' = [some (.ref a), some (.ref b), some (.ref sl), some (.ref hl), some (.ref rl), some (.ref nm), some (.ref pl), x7, x8, x9, x10, x11, x12, x13, x14, x15] ∧ KS T.C_Book T.C_Chunks H H' 0 pl b d sl hl rl nm ts zs s o i)
      (fun H9 e9 => ⟨[], _, _, _, _, _, _, _, _, _, _, _, rfl, k0.mono e9⟩) (fun i σ' H' hi hP => ?_) (fun σ' H' hP => ?_)
    case hA => exact ea_cons (ev_ixN (xs := [.int (cellZ ns 0 % 30), .int 54]) (i := cellZ ns 0 / 30 % 2) (el_lst (ea_cons (ev_bin (ev_intI (ev_call (ea_cons (ev_var rfl) (ea_cons ev_c ea_nil)) (cv_cell (k := 0) (ex_l E8 hS)))) ev_c (by decide)) (ea_cons ev_c ea_nil)) (by show 2 ≤ 100000; decide)) (fun H8' e8' => ev_bin (ev_intI (ev_bin (ev_call (ea_cons (ev_var rfl) (ea_cons ev_c ea_nil)) (cv_cell (k := 0) (ex_l (E8.trans e8') hS))) ev_c ⟨by decide, by decide⟩)) ev_c (by decide)) (atI_of m2 hat)) ea_nil
    · obtain ⟨zs, s', o', x7, x8, x9, x10, x11, x12, x13, x14, x15, rfl, k0⟩ := hP
      have hi54 : i < 54 := by omega
      have ct : Wd (thingZ ns (9 + i)) := Wd.thing hw (by omega)
      refine q_asgL (xs := (draws (thingZ ns (9 + i)) 1 3 1000).map V.int) (el_call (ea_cons (ev_call (ea_cons (ev_var rfl) (ea_cons (ev_is (ev_bin0 ev_c (ev_var rfl)) (congrArg V.int (show (9 : Int) + (i : Int) = ((9 + i : Nat) : Int) by omega))) ea_nil)) (cv_thing (ex_l k0.ex hS) hw (by omega))) (ea_cons ev_c (ea_cons ev_c (ea_cons ev_c ea_nil)))) (cl_draws (count := 3) ct (by decide) (by decide) (by decide) (by decide))) fun hd H1 _ e1 hh => ?_
      have gl : (draws (thingZ ns (9 + i)) 1 3 1000).length = 3 := draws_len _ _ _ _
      generalize draws (thingZ ns (9 + i)) 1 3 1000 = gs at hh gl
      obtain ⟨g0, g1, g2, rfl⟩ : ∃ g0 g1 g2, gs = [g0, g1, g2] := by
        match gs, gl with
        | [x0, x1, x2], _ => exact ⟨x0, x1, x2, rfl⟩
      have it : ∀ {H' : Hp} {j : Nat} {x : Int} {σ : L2.St}, Ex H1 H' → σ[8]? = some (some (V.ref hd)) → [g0, g1, g2][j]? = some x → Ev (tOp (rIxL K) (tVar 8) (tC (.int (j : Int)))) σ H' (.int x) := fun e hσ hx => ev_ixL (K := K) (ev_var hσ) ev_c (sq_of (e _ _ hh)) (at_nat (by rw [List.getElem?_map, hx] <;> rfl))
      have m0 := Int.emod_nonneg g0 (by decide : (2 : Int) ≠ 0)
      have m0' := Int.emod_lt_of_pos g0 (by decide : (0 : Int) < 2)
      have m8 := Int.emod_nonneg g2 (by decide : (8 : Int) ≠ 0)
      have m8' := Int.emod_lt_of_pos g2 (by decide : (0 : Int) < 8)
      obtain ⟨w, hw2, hgw⟩ : ∃ w : Nat, (w = 0 ∨ w = 1) ∧ g0 % 2 = (w : Int) := ⟨(g0 % 2).toNat, by omega, by omega⟩
      obtain ⟨s, o, k1⟩ : ∃ s o, KS T.C_Book T.C_Chunks H H1 w pl b d sl hl rl nm ts zs s o i := by
        rcases hw2 with rfl | rfl
        · exact ⟨s', o', k0.mono e1⟩
        · exact ⟨o', s', (k0.mono e1).swap (.inl rfl)⟩
      clear k0
      refine q_asg (v := .int (w : Int)) (ev_is (ev_bin (ev_intI (it (j := 0) (Ex.refl H1) rfl rfl)) ev_c (by decide)) (congrArg V.int hgw)) fun H2 e2 => ?_
      have k2 := k1.mono e2
      refine q_asg (v := .ref s.p) (ev_ixL (K := K) (ev_var rfl) (ev_var rfl) (sq_of k2.stores) (at_nat (pr_at hw2 _ _))) fun H3 e3 => ?_
      have k3 := k2.mono e3
      refine q_asg (v := .int (g1 % 7)) (ev_bin (ev_intI (it (j := 1) (e2.trans e3) rfl rfl)) ev_c (by decide)) fun H4 e4 => ?_
      have k4 := k3.mono e4
      have E14 := (e2.trans e3).trans e4
      have zl := k4.le.1
      refine q_asgL (xs := (bkL 1 zs).map (·.2) ++ [V.int 0, V.int (((bkL 1 zs).length : Int) + 1 + g2 % 3)]) (el_catN (el_lcK (x := nm) k4.nums (fun H => ev_var rfl) (by rw [bkL_len]; omega) (fun _ => rfl) (by simp) (fun od j k v y hk hy H5 e5 => ?hKn))
        (el_lst (ea_cons ev_c (ea_cons (ev_bin0 (ev_bin0 (ev_lenO (ev_var rfl) k4.book (by rw [bkL_len]; omega)) ev_c) (ev_bin (ev_intI (it (j := 2) E14 rfl rfl)) ev_c (by decide))) ea_nil)) (by show 2 ≤ 100000; decide)) (by rw [List.length_map, bkL_len]; show zs.length + 2 ≤ 100000; omega)) fun kn H5 nkn e5 hkn => ?_
      case hKn =>
        have hv : y = v := by
          rw [List.getElem?_map, hk] at hy
          exact (Option.some.inj hy).symm
        obtain ⟨z, hz, rfl, hv2⟩ := bkL_get hk
        rw [hv]
        refine ev_dgetF (k := Sum.inr z) (ev_var rfl) (ev_var rfl) (e5 _ _ upd_same) ?_
        rw [bkL_val, if_pos (List.mem_of_getElem? hz), posZ_uniq k4.zn hz, hv2]
      have k5 := k4.mono e5
      have E15 := E14.trans e5
      have hkl : ((bkL 1 zs).map (·.2) ++ [V.int 0, V.int (((bkL 1 zs).length : Int) + 1 + g2 % 3)]).length = zs.length + 2 := by rw [List.length_append, List.length_map, bkL_len] <;> rfl
      have hki : ∀ v ∈ (bkL 1 zs).map (·.2) ++ [V.int 0, V.int (((bkL 1 zs).length : Int) + 1 + g2 % 3)], ∃ n : Int, v = .int n ∧ n.natAbs.log2 < 1920 := fun v hv => known_int (by omega) hv
      generalize (bkL 1 zs).map (·.2) ++ [V.int 0, V.int (((bkL 1 zs).length : Int) + 1 + g2 % 3)] = ks at hkn hkl hki
      have hk0 : (ks.length : Int) ≠ 0 := by omega
      have mk := Int.emod_nonneg g2 hk0
      have mk' := Int.emod_lt_of_pos g2 (show (0 : Int) < (ks.length : Int) by omega)
      obtain ⟨v, hv⟩ : ∃ v, ks[(g2 % (ks.length : Int)).toNat]? = some v := ⟨_, List.getElem?_eq_getElem (by omega)⟩
      obtain ⟨n, rfl, hnb⟩ := hki v (List.mem_of_getElem? hv)
      refine q_asg (v := .int n) (ev_ixL (K := K) (ev_var rfl) (ev_bin (ev_intI (it (j := 2) E15 rfl rfl)) (ev_lenQ (K := K) (ev_var rfl) (sq_of hkn)) (show (0 : Int) < (ks.length : Int) by omega)) (sq_of hkn) (atI_of mk hv)) fun H6 e6 => ?_
      have k6 := k5.mono e6
      have E16 := E15.trans e6
      let J : L2.St → Hp → Prop := fun σ' H' => ∃ (zs2 : List Str) (r2 : Int) (kv2 : List (Key × V)) (x13 x15 : Option V), σ' = [some (.ref a), some (.ref b), some (.ref sl), some (.ref hl), some (.ref rl), some (.ref nm), some (.ref pl), some (.int (i : Int)), some (.ref hd), some (.int (w : Int)), some (.ref s.p), some (.int (g1 % 7)), some (.ref kn), x13, some (.int n), x15] ∧ KS T.C_Book T.C_Chunks H H' w pl b d sl hl rl nm ts zs2 ⟨s.p, s.t, s.x, r2, kv2⟩ o (i + 1)
      refine q_cut (M := J) ?_ fun σ' H7 hM => ?_
      · by_cases hc2 : g1 % 7 < 2
        · refine (et_is (et_test (ev_bin0 (ev_var rfl) ev_c)) (decide_eq_true hc2)) H6 (Ex.refl H6) _ fun H7 e7 => iteT ?_
          have k7 := k6.mono e7
          obtain ⟨z, hz⟩ : ∃ z, ts[(g2 % 8).toNat]? = some z := ⟨_, List.getElem?_eq_getElem (by omega)⟩
          refine t_callE (ea_cons (ev_var rfl) (ea_cons (ev_var rfl) (ea_cons (ev_ixL (K := K) (v := .str z) (ev_var rfl) (ev_bin (ev_intI (it (j := 2) (E16.trans e7) rfl rfl)) ev_c (by decide)) (sq_of k7.pool) (atI_of m8 (by rw [List.getElem?_map, hz] <;> rfl))) (ea_cons (ev_ixL (K := K) (ev_var rfl) (ev_var rfl) (sq_of k7.helds) (at_nat (pr_at hw2 _ _))) (ea_cons (ev_var rfl) ea_nil))))) fun H8 e8 => ?_
          have k8 := k7.mono e8
          have ln := k8.le
          refine ⟨s.p, b, s.t, d, s.x, nm, s.r, s.kvs, zs, z, rfl, k8.cs, k8.book, k8.xs, k8.nums, k8.zn, k8.ns.2.1, k8.ns.2.2.1, k8.n0, k8.ns.1, k8.ns.2.2.2.1.symm, k8.ns.2.2.2.2.symm, by omega, by omega, fun n2 H9 c1 c2 c3 c4 c5 => ⟨true, rfl, iteF ?_⟩⟩
          have ne := k8.ne
          refine ⟨addZ zs z, s.r, putK s.kvs (Sum.inl n2) (.str z), _, _, rfl, k8.step (c5.sub fun c hc => ?_) c2 c4 (c5 _ _ k8.reads ?_) c1 c3 (addZ_nodup k8.zn) ⟨k8.gs.1.put _ _, k8.gs.2.put _ _⟩ (by omega) (by have := addZ_len zs z; omega) (by have := putK_len s.kvs (Sum.inl n2) (.str z); omega)⟩
          · simp only [List.mem_cons, List.not_mem_nil, or_false] at hc ⊢
            rcases hc with h | h | h | h <;> simp [h]
          · simp only [List.mem_cons, List.not_mem_nil, or_false, not_or]
            exact ⟨ne.2.2.1, ne.2.2.2.2.1, ne.2.2.2.2.2, ne.2.2.2.1⟩
        · refine (et_is (et_test (ev_bin0 (ev_var rfl) ev_c)) (decide_eq_false hc2)) H6 (Ex.refl H6) _ fun H7 e7 => iteF (iteF ?_)
          exact ⟨zs, s.r, s.kvs, _, _, rfl, (k6.mono e7).up (by omega)⟩
      obtain ⟨zs2, r2, kv2, x13', x15', rfl, k7⟩ := hM
      refine q_cut (M := J) ?_ fun σ' H8 hM => ?_
      · refine s_if (b := decide (g1 % 7 = 2) || decide (g1 % 7 = 3)) (et_or (et_test (ev_eqI (ev_var rfl) ev_c)) fun _ => et_test (ev_eqI (ev_var rfl) ev_c)) (fun _ H8 e8 => ?_) (fun _ H8 e8 => ⟨zs2, r2, kv2, _, _, rfl, k7.mono e8⟩)
        have k8 := k7.mono e8
        refine (ev_bin0 (ev_ixL (K := K) (v := .int r2) (ev_var rfl) (ev_var rfl) (sq_of k8.reads) (at_nat (pr_at hw2 _ _))) ev_c) H8 (Ex.refl H8) _ fun H9 e9 => ?_
        have k9 := k8.mono e9
        refine ⟨_, rfl, _, rfl, rl, _, (w : Int), w, rfl, rfl, k9.reads, ixN_nat (by rw [pr_len]; omega), ?_⟩
        rw [pr_set hw2]
        have ne := k9.ne
        obtain ⟨⟨px, hp9⟩, ht9⟩ := k9.cs
        obtain ⟨⟨bx, hb9⟩, hd9⟩ := k9.book
        refine t_callE (ea_cons (ev_var rfl) (ea_cons (ev_var rfl) (ea_cons (ev_ixL (K := K) (v := .ref s.x) (ev_var rfl) (ev_var rfl) (sq_of (by rw [upd_ne k9.rn.2.2]; exact k9.helds)) (at_nat (pr_at hw2 _ _))) ea_nil))) fun H11 e11 => ?_
        have u1 : ∀ {c : Addr} {u : HO}, H9 c = some u → c ≠ rl → H11 c = some u := fun h z => e11 _ _ (by rw [upd_ne z]; exact h)
        refine ⟨s.p, b, s.t, s.x, r2, n, kv2, rfl, ⟨⟨px, u1 hp9 ne.1.1⟩, u1 ht9 ne.2.2.2.2.1.symm⟩, u1 k9.xs ne.2.2.2.2.2.symm, k9.gs.2, hnb, fun H12 c1 b12 => ⟨true, rfl, iteF ?_⟩⟩
        have u2 : ∀ {c : Addr} {u : HO}, H9 c = some u → c ≠ rl → c ≠ s.p → H12 c = some u := fun h z z2 => b12 _ _ (u1 h z) fun hm => z2 (List.mem_singleton.mp hm)
        refine ⟨zs2, r2 + 1, kv2, _, _, rfl, k9.step (fun c u h hc => ?_) ⟨⟨bx, u2 hb9 ne.2.1.1 k9.bs⟩, u2 hd9 ne.2.2.1.symm ne.1.2.1.symm⟩ (u2 k9.nums ne.2.2.2.1.symm ne.1.2.2.1.symm) (b12 _ _ (e11 _ _ upd_same) fun hm => ne.1.1 (List.mem_singleton.mp hm).symm) c1 (u2 k9.xs ne.2.2.2.2.2.symm ne.1.2.2.2.2.symm) k9.zn k9.gs (Nat.le_refl _) k9.le.1 k9.le.2.1⟩
        simp only [List.mem_cons, List.not_mem_nil, or_false, not_or] at hc
        exact u2 h hc.2.2.1 hc.2.2.2.1
      obtain ⟨zs2, r2, kv2, x13', x15', rfl, k7⟩ := hM
      refine q_cut (M := J) ?_ fun σ' H8 hM => ?_
      · refine s_if (b := decide (g1 % 7 = 4)) (et_test (ev_eqI (ev_var rfl) ev_c)) (fun _ H8 e8 => ?_) (fun _ H8 e8 => ⟨zs2, r2, kv2, _, _, rfl, k7.mono e8⟩)
        have k8 := k7.mono e8
        obtain ⟨⟨px, hp8⟩, ht8⟩ := id k8.cs
        refine ⟨_, rfl, s.p, px, _, rfl, hp8, cF_no b r2 s.t (by decide +kernel) (by decide +kernel) (by decide +kernel), _, rfl, s.p, b, s.t, r2, n, kv2, rfl, k8.cs, ?_⟩
        exact s_when (b := false) (et_or (a := false) (b := false) (et_is (et_not (et_B (ev_isi (K := K) (a := "bool") (r := true) (ev_var rfl) (fun _ _ => .base (.bl _)) (by decide +kernel)))) rfl) fun _ => et_is (et_test (ev_neB (ev_var rfl) (ev_din (k := Sum.inl n) (ev_var rfl) (ev_ixL (K := K) (ev_var rfl) (ev_var rfl) (sq_of k8.helds) (at_nat (pr_at hw2 _ _))) k8.xs))) (by simp)) (fun z => nomatch z) fun _ H9 e9 => ⟨zs2, r2, kv2, _, _, rfl, k8.mono e9⟩
      obtain ⟨zs2, r2, kv2, x13', x15', rfl, k7⟩ := hM
      refine q_cut (M := J) ?_ fun σ' H8 hM => ?_
      · refine s_if (b := decide (g1 % 7 = 5)) (et_test (ev_eqI (ev_var rfl) ev_c)) (fun _ H8 e8 => ?_) (fun _ H8 e8 => ⟨zs2, r2, kv2, _, _, rfl, k7.mono e8⟩)
        have k8 := k7.mono e8
        obtain ⟨⟨px, hp8⟩, ht8⟩ := id k8.cs
        obtain ⟨⟨bx, hb8⟩, hd8⟩ := id k8.book
        have ne := k8.ne
        refine ⟨_, rfl, s.p, px, _, rfl, hp8, cF_no b r2 s.t (by decide +kernel) (by decide +kernel) (by decide +kernel), _, rfl, s.p, b, s.t, r2, n, kv2, rfl, k8.cs, fun H9 h9 b9 => ⟨rfl, _, rfl, iteF ?_⟩⟩
        have v1 : ∀ {c : Addr} {u : HO}, H8 c = some u → c ≠ s.t → H9 c = some u := fun h z => b9 _ _ h fun hm => z (List.mem_singleton.mp hm)
        refine (ev_ixL (K := K) (v := .ref s.x) (ev_var rfl) (ev_var rfl) (sq_of (v1 k8.helds (ne_of k8.helds ht8 (by intro z; cases z)))) (at_nat (pr_at hw2 _ _))) H9 (Ex.refl H9) _ fun H10 e10 => ?_
        have hx10 := e10 _ _ (v1 k8.xs k8.ns.1.symm)
        have fin : ∀ H11 : Hp, H11 s.x = some (.dK (dropK kv2 (Sum.inl n))) → (∀ c u, H10 c = some u → c ≠ s.x → H11 c = some u) → J [some (.ref a), some (.ref b), some (.ref sl), some (.ref hl), some (.ref rl), some (.ref nm), some (.ref pl), some (.int (i : Int)), some (.ref hd), some (.int (w : Int)), some (.ref s.p), some (.int (g1 % 7)), some (.ref kn), x13', some (.int n), x15'] H11 := fun H11 h1 h2 => by
          have v2 : ∀ {c : Addr} {u : HO}, H8 c = some u → c ≠ s.t → c ≠ s.x → H11 c = some u := fun h z z2 => h2 _ _ (e10 _ _ (v1 h z)) z2
          have dl := dropK_le kv2 (Sum.inl n : Key)
          have l2 := k8.le.2.1
          refine ⟨zs2, r2, dropK kv2 (Sum.inl n), _, _, rfl, k8.step (fun c u h hc => ?_) ⟨⟨bx, v2 hb8 ne.2.1.2.2.2.1 ne.2.1.2.2.2.2⟩, v2 hd8 k8.ns.2.1 k8.ns.2.2.1⟩ (v2 k8.nums k8.ns.2.2.2.1 k8.ns.2.2.2.2) (v2 k8.reads ne.2.2.2.2.1 ne.2.2.2.2.2) ⟨⟨px, v2 hp8 ne.1.2.2.2.1 ne.1.2.2.2.2⟩, h2 _ _ (e10 _ _ h9) k8.ns.1⟩ h1 k8.zn ⟨k8.gs.1.drop _, k8.gs.2.drop _⟩ (Nat.le_refl _) k8.le.1 (Nat.le_trans dl l2)⟩
          simp only [List.mem_cons, List.not_mem_nil, or_false, not_or] at hc
          exact v2 h hc.2.2.2.2.1 hc.2.2.2.2.2
        exact ⟨s.x, rfl, .inl ⟨kv2, .inl hx10⟩, _, rfl, kv2, Sum.inl n, hx10, rfl, fun v hv => fin _ upd_same fun c u h z => by rw [upd_ne z]; exact h, fun hv => fin _ (by rw [dropK_none hv]; exact hx10) fun c u h _ => h⟩
      obtain ⟨zs2, r2, kv2, x13', x15', rfl, k7⟩ := hM
      refine q_cut (M := J) ?_ fun σ' H8 hM => ?_
      · refine s_ifAnd (b := decide (g1 % 7 = 6)) (et_test (ev_eqI (ev_var rfl) ev_c)) (fun _ H8 e8 => ?_) (fun _ H8 e8 => ⟨zs2, r2, kv2, _, _, rfl, k7.mono e8⟩)
        have k8 := k7.mono e8
        refine t_callE (ea_cons (ev_var rfl) (ea_cons (ev_ixL (K := K) (v := .ref s.x) (ev_var rfl) (ev_var rfl) (sq_of k8.helds) (at_nat (pr_at hw2 _ _))) ea_nil)) fun H9 e9 => ?_
        have k9 := k8.mono e9
        have l2 := k9.le.2.1
        exact ⟨s.p, b, s.t, s.x, r2, kv2, rfl, k9.cs, k9.xs, k9.gs.1, Nat.lt_of_le_of_lt l2 (by omega), fun H10 e10 => ⟨true, rfl, iteF ⟨zs2, r2, kv2, _, _, rfl, k9.mono e10⟩⟩⟩
      obtain ⟨zs2, r2, kv2, x13', x15', rfl, k7⟩ := hM
      obtain ⟨sA, oA, kA⟩ : ∃ s o, KS T.C_Book T.C_Chunks H H8 0 pl b d sl hl rl nm ts zs2 s o (i + 1) := by
        rcases hw2 with rfl | rfl
        · exact ⟨_, _, k7⟩
        · exact ⟨_, _, k7.swap (.inr rfl)⟩
      exact s_when (b := false) (et_or (a := false) (b := false) (et_is (et_not (et_B (ev_call (z := .bl true) (ea_cons (ev_ckr (ev_ixL (K := K) (i := 0) (ev_var rfl) ev_c (sq_of kA.stores) rfl) kA.cs T.cl_Chunks T.na_Chunks_reads) (ea_cons (ev_ixL (K := K) (i := 0) (ev_var rfl) ev_c (sq_of kA.reads) rfl) ea_nil)) cv_isT))) rfl)
        fun _ => et_is (et_not (et_B (ev_call (z := .bl true) (ea_cons (ev_ckr (ev_ixL (K := K) (i := 1) (ev_var rfl) ev_c (sq_of kA.stores) rfl) kA.co T.cl_Chunks T.na_Chunks_reads) (ea_cons (ev_ixL (K := K) (i := 1) (ev_var rfl) ev_c (sq_of kA.reads) rfl) ea_nil)) cv_isT))) rfl) (fun z => nomatch z) fun _ H9 e9 => ⟨zs2, sA, oA, _, _, _, _, _, _, _, _, _, rfl, kA.mono e9⟩
    · obtain ⟨zs, s', o', x7, x8, x9, x10, x11, x12, x13, x14, x15, rfl, k0⟩ := hP
      have l54 := k0.le
      have told : ∀ {p x t : Addr} {r : Int} {kvs : List (Key × V)}, CkAt T.C_Chunks H' p b t r kvs → H' x = some (.dK kvs) → Ints kvs → kvs.length < 64 → SpV (spTold T.C_Chunks) [.ref p, .ref x] H' (.bl true) := fun {p x t r kvs} h1 h2 h3 h4 H1 e Q q E => ⟨p, b, t, x, r, kvs, rfl, h1.mono e, e _ _ h2, h3, h4, fun H2 e2 => q H2 e2⟩
      exact s_ret (v := .bl true) (ev_andV (a := true) (ev_call (ea_cons (ev_ixL (K := K) (i := 0) (ev_var rfl) ev_c (sq_of k0.stores) rfl) (ea_cons (ev_ixL (K := K) (i := 0) (ev_var rfl) ev_c (sq_of k0.helds) rfl) ea_nil)) (told k0.cs k0.xs k0.gs.1 (by omega))) fun _ =>
        ev_call (ea_cons (ev_ixL (K := K) (i := 1) (ev_var rfl) ev_c (sq_of k0.stores) rfl) (ea_cons (ev_ixL (K := K) (i := 1) (ev_var rfl) ev_c (sq_of k0.helds) rfl) ea_nil)) (told k0.co k0.xo k0.go.1 (by omega))) fun H9 e9 => q H9


end

theorem all_mk {l : PySem.W.OpenLaw} {w : World} {K : PySem.W.Frag} {h : Heap} {mg : Str → Option Value} {fa C_Book C_Chunks C_MissingChunk C_TornText C_UnknownTable C_VersionError f_Book___init f_Book___len f_Chunks___init f_Chunks___len f_Chunks_drop f_Chunks_has f_law_cell f_law_draws f_Chunks_get f_law_is f_law_integer f_law_signs f_law_char f_law_text f_law_leaf f_law_leaf_text f_Book_find f_Book_address f_Chunks_put f_law_thing f_Chunks_addresses f_law_got f_law_put f_law_told f_law : Addr} (X : K.In h) (G : h.Ns mainGlobals mg) (hfa : mg "law" = some (.ref fa))
    {f_MissingChunk___init cc_MissingChunk___init ca_MissingChunk___init : Addr} {od_MissingChunk___init an_MissingChunk___init : Option Addr} {sl_MissingChunk___init : Array (Option Value)} {oc_MissingChunk___init kV_MissingChunk___init dc_MissingChunk___init pm_MissingChunk___init ct_MissingChunk___init : Value}
    {od_Book___init an_Book___init : Option Addr} {sl_Book___init : Array (Option Value)} {oc_Book___init kV_Book___init dc_Book___init pm_Book___init cd_Book___init ct_Book___init : Value}
    {od_Book___len an_Book___len : Option Addr} {sl_Book___len : Array (Option Value)} {oc_Book___len kV_Book___len dc_Book___len pm_Book___len cd_Book___len ct_Book___len : Value}
    {od_Chunks___init an_Chunks___init : Option Addr} {sl_Chunks___init : Array (Option Value)} {oc_Chunks___init kV_Chunks___init dc_Chunks___init pm_Chunks___init cd_Chunks___init ct_Chunks___init : Value}
    {od_Chunks___len an_Chunks___len : Option Addr} {sl_Chunks___len : Array (Option Value)} {oc_Chunks___len kV_Chunks___len dc_Chunks___len pm_Chunks___len cd_Chunks___len ct_Chunks___len : Value}
    {od_Chunks_drop an_Chunks_drop : Option Addr} {sl_Chunks_drop : Array (Option Value)} {oc_Chunks_drop kV_Chunks_drop dc_Chunks_drop pm_Chunks_drop cd_Chunks_drop ct_Chunks_drop : Value}
    {od_Chunks_has an_Chunks_has : Option Addr} {sl_Chunks_has : Array (Option Value)} {oc_Chunks_has kV_Chunks_has dc_Chunks_has pm_Chunks_has cd_Chunks_has ct_Chunks_has : Value}
    {od_law_cell an_law_cell : Option Addr} {sl_law_cell : Array (Option Value)} {oc_law_cell kV_law_cell dc_law_cell pm_law_cell cd_law_cell ct_law_cell : Value}
    {od_law_draws an_law_draws : Option Addr} {sl_law_draws : Array (Option Value)} {oc_law_draws kV_law_draws dc_law_draws pm_law_draws cd_law_draws ct_law_draws : Value}
    {od_Chunks_get an_Chunks_get : Option Addr} {sl_Chunks_get : Array (Option Value)} {oc_Chunks_get kV_Chunks_get dc_Chunks_get pm_Chunks_get cd_Chunks_get ct_Chunks_get : Value}
    {od_law_is an_law_is : Option Addr} {sl_law_is : Array (Option Value)} {oc_law_is kV_law_is dc_law_is pm_law_is cd_law_is ct_law_is : Value}
    {od_law_integer an_law_integer : Option Addr} {sl_law_integer : Array (Option Value)} {oc_law_integer kV_law_integer dc_law_integer pm_law_integer cd_law_integer ct_law_integer : Value}
    {od_law_signs an_law_signs : Option Addr} {sl_law_signs : Array (Option Value)} {oc_law_signs kV_law_signs dc_law_signs pm_law_signs cd_law_signs ct_law_signs : Value}
    {od_law_char an_law_char : Option Addr} {sl_law_char : Array (Option Value)} {oc_law_char kV_law_char dc_law_char pm_law_char cd_law_char ct_law_char : Value}
    {od_law_text an_law_text : Option Addr} {sl_law_text : Array (Option Value)} {oc_law_text kV_law_text dc_law_text pm_law_text cd_law_text ct_law_text : Value}
    {od_law_leaf an_law_leaf : Option Addr} {sl_law_leaf : Array (Option Value)} {oc_law_leaf kV_law_leaf dc_law_leaf pm_law_leaf cd_law_leaf ct_law_leaf : Value}
    {od_law_leaf_text an_law_leaf_text : Option Addr} {sl_law_leaf_text : Array (Option Value)} {oc_law_leaf_text kV_law_leaf_text dc_law_leaf_text pm_law_leaf_text cd_law_leaf_text ct_law_leaf_text : Value}
    {od_Book_find an_Book_find : Option Addr} {sl_Book_find : Array (Option Value)} {oc_Book_find kV_Book_find dc_Book_find pm_Book_find cd_Book_find ct_Book_find : Value}
    {od_Book_address an_Book_address : Option Addr} {sl_Book_address : Array (Option Value)} {oc_Book_address kV_Book_address dc_Book_address pm_Book_address cd_Book_address ct_Book_address : Value}
    {od_Chunks_put an_Chunks_put : Option Addr} {sl_Chunks_put : Array (Option Value)} {oc_Chunks_put kV_Chunks_put dc_Chunks_put pm_Chunks_put cd_Chunks_put ct_Chunks_put : Value}
    {od_law_thing an_law_thing : Option Addr} {sl_law_thing : Array (Option Value)} {oc_law_thing kV_law_thing dc_law_thing pm_law_thing cd_law_thing ct_law_thing : Value}
    {od_Chunks_addresses an_Chunks_addresses : Option Addr} {sl_Chunks_addresses : Array (Option Value)} {oc_Chunks_addresses kV_Chunks_addresses dc_Chunks_addresses pm_Chunks_addresses cd_Chunks_addresses ct_Chunks_addresses : Value}
    {od_law_got an_law_got : Option Addr} {sl_law_got : Array (Option Value)} {oc_law_got kV_law_got dc_law_got pm_law_got cd_law_got ct_law_got : Value}
    {od_law_put an_law_put : Option Addr} {sl_law_put : Array (Option Value)} {oc_law_put kV_law_put dc_law_put pm_law_put cd_law_put ct_law_put : Value}
    {od_law_told an_law_told : Option Addr} {sl_law_told : Array (Option Value)} {oc_law_told kV_law_told dc_law_told pm_law_told cd_law_told ct_law_told : Value}
    {od_law an_law : Option Addr} {sl_law : Array (Option Value)} {oc_law kV_law dc_law pm_law cd_law ct_law : Value}
    (aC_Book : PySem.W.nsIn K mainGlobals "Book" = some (some (.ref C_Book))) (pg_Book : PySem.W.plainGet K C_Book Str.empty = true) (hd_Book : PySem.W.hasDictIn K C_Book = true) (po_Book : PySem.W.plainOver K C_Book = true) (sa_Book : PySem.W.findIn K (.ref C_Book) "__setattr__" = some (some (.builtin "object.__setattr__"))) (mk_Book : PySem.W.makesIn K C_Book = true) (kc_Book : PySem.W.keepIn K (.ref C_Book) = true)
    (na_Book__addresses : PySem.W.findIn K (.ref C_Book) "_addresses" = some none)
    (aC_Chunks : PySem.W.nsIn K mainGlobals "Chunks" = some (some (.ref C_Chunks))) (pg_Chunks : PySem.W.plainGet K C_Chunks Str.empty = true) (hd_Chunks : PySem.W.hasDictIn K C_Chunks = true) (po_Chunks : PySem.W.plainOver K C_Chunks = true) (sa_Chunks : PySem.W.findIn K (.ref C_Chunks) "__setattr__" = some (some (.builtin "object.__setattr__"))) (mk_Chunks : PySem.W.makesIn K C_Chunks = true) (kc_Chunks : PySem.W.keepIn K (.ref C_Chunks) = true)
    (na_Chunks_book : PySem.W.findIn K (.ref C_Chunks) "book" = some none)
    (na_Chunks_reads : PySem.W.findIn K (.ref C_Chunks) "reads" = some none)
    (na_Chunks__texts : PySem.W.findIn K (.ref C_Chunks) "_texts" = some none)
    (ax_MissingChunk : PySem.W.nsIn K mainGlobals "MissingChunk" = some (some (.ref C_MissingChunk)))
    (xo_MissingChunk : oexB K C_MissingChunk = true)
    (xz_MissingChunk : PySem.W.findIn K (.ref C_MissingChunk) "__setattr__" = some (some (.builtin "object.__setattr__")))
    (xk_MissingChunk : PySem.W.keepIn K (.ref C_MissingChunk) = true)
    (xb_MissingChunk : PySem.W.subIn K (.ref C_MissingChunk) (.type "BaseException") = some true)
    (xt_MissingChunk : PySem.W.typeIn K (.ref C_MissingChunk) = some (.type "type"))
    (xs_MissingChunk : PySem.W.subIn K (.ref C_MissingChunk) (.ref C_MissingChunk) = some true)
    (xg_MissingChunk : PySem.W.findIn K (.ref C_MissingChunk) "__getattribute__" = some (some (.builtin "BaseException.__getattribute__")))
    (xq_MissingChunk : PySem.W.findIn K (.ref C_MissingChunk) "__getattr__" = some none)
    (xd_MissingChunk : PySem.W.hasDictIn K C_MissingChunk = true)
    (xa_MissingChunk : PySem.W.findIn K (.ref C_MissingChunk) "__class__" = some (some (.builtin "object.__class__")))
    (xn_MissingChunk : PySem.W.specialIn K (.builtin "object.__class__") "__get__" = some (some (.builtin "getset_descriptor.__get__")))
    (xi_MissingChunk : PySem.W.takesIn K (.builtin "object.__class__") = some true)
    (xm_MissingChunk : PySem.W.mroIn K C_MissingChunk (.type "object") = some true)
    (xv_MissingChunk : PySem.W.kitOne K (.ref C_MissingChunk) (.type "ValueError") = some true)
    (ni_MissingChunk : PySem.W.findIn K (.ref C_MissingChunk) "__init__" = some (some (.ref f_MissingChunk___init)))
    (na_MissingChunk : PySem.W.findIn K (.ref C_MissingChunk) "address" = some none)
    (nl_MissingChunk : K.lookup f_MissingChunk___init = some ⟨oc_MissingChunk___init, od_MissingChunk___init, .func (PySem.W.fnX "__init__" "MissingChunk.__init__" (defArgs s_MissingChunk___init) (defBody s_MissingChunk___init) (defScope s_MissingChunk___init) [(Str.ofString "__class__", cc_MissingChunk___init)] .none kV_MissingChunk___init dc_MissingChunk___init pm_MissingChunk___init an_MissingChunk___init (.ref ca_MissingChunk___init) ct_MissingChunk___init), sl_MissingChunk___init⟩)
    (nc_MissingChunk : PySem.W.codeIn K (.ref ca_MissingChunk___init) "MissingChunk.__init__" = true)
    (nt_MissingChunk : PySem.W.typeIn K (.ref f_MissingChunk___init) = some (.type "function"))
    (nb_MissingChunk : supB K l.prog C_MissingChunk cc_MissingChunk___init ca_MissingChunk___init = true)
    (ns_MissingChunk : PySem.W.ks_superIn K C_MissingChunk C_MissingChunk "__init__" = some (some (.builtin "ValueError.__init__")))
    (np_MissingChunk : PySem.W.nsIn K cStatics "thirdparty.any" = some none)
    (nm_MissingChunk : PySem.W.mroIn K C_MissingChunk (.ref C_MissingChunk) = some true)
    (nv_MissingChunk : PySem.W.subIn K (.ref C_MissingChunk) (.type "ValueError") = some true)
    (ay_TornText : PySem.W.nsIn K mainGlobals "TornText" = some (some (.ref C_TornText)))
    (ko_MissingChunk_TornText : PySem.W.kitOne K (.ref C_MissingChunk) (.ref C_TornText) = some false)
    (ay_UnknownTable : PySem.W.nsIn K mainGlobals "UnknownTable" = some (some (.ref C_UnknownTable)))
    (ko_MissingChunk_UnknownTable : PySem.W.kitOne K (.ref C_MissingChunk) (.ref C_UnknownTable) = some false)
    (ay_VersionError : PySem.W.nsIn K mainGlobals "VersionError" = some (some (.ref C_VersionError)))
    (kp_MissingChunk_VersionError : PySem.W.kitOne K (.ref C_MissingChunk) (.ref C_VersionError) = some true)
    (a_Book___init : PySem.W.findIn K (.ref C_Book) "__init__" = some (some (.ref f_Book___init))) (i_Book___init : PySem.W.isFn K (.ref f_Book___init) = true) (l_Book___init : K.lookup f_Book___init = some ⟨oc_Book___init, od_Book___init, .func (PySem.W.fnOf "__init__" "Book.__init__" (defArgs s_Book___init) (defBody s_Book___init) (defScope s_Book___init) .none kV_Book___init dc_Book___init pm_Book___init an_Book___init cd_Book___init ct_Book___init), sl_Book___init⟩) (c_Book___init : PySem.W.codeIn K cd_Book___init "Book.__init__" = true) (k_Book___init : PySem.W.keepIn K (.ref f_Book___init) = true)
    (a_Book___len : PySem.W.findIn K (.ref C_Book) "__len__" = some (some (.ref f_Book___len))) (i_Book___len : PySem.W.isFn K (.ref f_Book___len) = true) (l_Book___len : K.lookup f_Book___len = some ⟨oc_Book___len, od_Book___len, .func (PySem.W.fnOf "__len__" "Book.__len__" (defArgs s_Book___len) (defBody s_Book___len) (defScope s_Book___len) .none kV_Book___len dc_Book___len pm_Book___len an_Book___len cd_Book___len ct_Book___len), sl_Book___len⟩) (c_Book___len : PySem.W.codeIn K cd_Book___len "Book.__len__" = true) (k_Book___len : PySem.W.keepIn K (.ref f_Book___len) = true)
    (a_Chunks___init : PySem.W.findIn K (.ref C_Chunks) "__init__" = some (some (.ref f_Chunks___init))) (i_Chunks___init : PySem.W.isFn K (.ref f_Chunks___init) = true) (l_Chunks___init : K.lookup f_Chunks___init = some ⟨oc_Chunks___init, od_Chunks___init, .func (PySem.W.fnOf "__init__" "Chunks.__init__" (defArgs s_Chunks___init) (defBody s_Chunks___init) (defScope s_Chunks___init) .none kV_Chunks___init dc_Chunks___init pm_Chunks___init an_Chunks___init cd_Chunks___init ct_Chunks___init), sl_Chunks___init⟩) (c_Chunks___init : PySem.W.codeIn K cd_Chunks___init "Chunks.__init__" = true) (k_Chunks___init : PySem.W.keepIn K (.ref f_Chunks___init) = true)
    (a_Chunks___len : PySem.W.findIn K (.ref C_Chunks) "__len__" = some (some (.ref f_Chunks___len))) (i_Chunks___len : PySem.W.isFn K (.ref f_Chunks___len) = true) (l_Chunks___len : K.lookup f_Chunks___len = some ⟨oc_Chunks___len, od_Chunks___len, .func (PySem.W.fnOf "__len__" "Chunks.__len__" (defArgs s_Chunks___len) (defBody s_Chunks___len) (defScope s_Chunks___len) .none kV_Chunks___len dc_Chunks___len pm_Chunks___len an_Chunks___len cd_Chunks___len ct_Chunks___len), sl_Chunks___len⟩) (c_Chunks___len : PySem.W.codeIn K cd_Chunks___len "Chunks.__len__" = true) (k_Chunks___len : PySem.W.keepIn K (.ref f_Chunks___len) = true)
    (a_Chunks_drop : PySem.W.findIn K (.ref C_Chunks) "drop" = some (some (.ref f_Chunks_drop))) (i_Chunks_drop : PySem.W.isFn K (.ref f_Chunks_drop) = true) (l_Chunks_drop : K.lookup f_Chunks_drop = some ⟨oc_Chunks_drop, od_Chunks_drop, .func (PySem.W.fnOf "drop" "Chunks.drop" (defArgs s_Chunks_drop) (defBody s_Chunks_drop) (defScope s_Chunks_drop) .none kV_Chunks_drop dc_Chunks_drop pm_Chunks_drop an_Chunks_drop cd_Chunks_drop ct_Chunks_drop), sl_Chunks_drop⟩) (c_Chunks_drop : PySem.W.codeIn K cd_Chunks_drop "Chunks.drop" = true) (k_Chunks_drop : PySem.W.keepIn K (.ref f_Chunks_drop) = true)
    (a_Chunks_has : PySem.W.findIn K (.ref C_Chunks) "has" = some (some (.ref f_Chunks_has))) (i_Chunks_has : PySem.W.isFn K (.ref f_Chunks_has) = true) (l_Chunks_has : K.lookup f_Chunks_has = some ⟨oc_Chunks_has, od_Chunks_has, .func (PySem.W.fnOf "has" "Chunks.has" (defArgs s_Chunks_has) (defBody s_Chunks_has) (defScope s_Chunks_has) .none kV_Chunks_has dc_Chunks_has pm_Chunks_has an_Chunks_has cd_Chunks_has ct_Chunks_has), sl_Chunks_has⟩) (c_Chunks_has : PySem.W.codeIn K cd_Chunks_has "Chunks.has" = true) (k_Chunks_has : PySem.W.keepIn K (.ref f_Chunks_has) = true)
    (a_law_cell : PySem.W.nsIn K mainGlobals "_law_cell" = some (some (.ref f_law_cell))) (l_law_cell : K.lookup f_law_cell = some ⟨oc_law_cell, od_law_cell, .func (PySem.W.fnOf "_law_cell" "_law_cell" (defArgs s_law_cell) (defBody s_law_cell) (defScope s_law_cell) .none kV_law_cell dc_law_cell pm_law_cell an_law_cell cd_law_cell ct_law_cell), sl_law_cell⟩) (c_law_cell : PySem.W.codeIn K cd_law_cell "_law_cell" = true) (k_law_cell : PySem.W.keepIn K (.ref f_law_cell) = true)
    (a_law_draws : PySem.W.nsIn K mainGlobals "_law_draws" = some (some (.ref f_law_draws))) (l_law_draws : K.lookup f_law_draws = some ⟨oc_law_draws, od_law_draws, .func (PySem.W.fnOf "_law_draws" "_law_draws" (defArgs s_law_draws) (defBody s_law_draws) (defScope s_law_draws) .none kV_law_draws dc_law_draws pm_law_draws an_law_draws cd_law_draws ct_law_draws), sl_law_draws⟩) (c_law_draws : PySem.W.codeIn K cd_law_draws "_law_draws" = true) (k_law_draws : PySem.W.keepIn K (.ref f_law_draws) = true)
    (a_Chunks_get : PySem.W.findIn K (.ref C_Chunks) "get" = some (some (.ref f_Chunks_get))) (i_Chunks_get : PySem.W.isFn K (.ref f_Chunks_get) = true) (l_Chunks_get : K.lookup f_Chunks_get = some ⟨oc_Chunks_get, od_Chunks_get, .func (PySem.W.fnOf "get" "Chunks.get" (defArgs s_Chunks_get) (defBody s_Chunks_get) (defScope s_Chunks_get) .none kV_Chunks_get dc_Chunks_get pm_Chunks_get an_Chunks_get cd_Chunks_get ct_Chunks_get), sl_Chunks_get⟩) (c_Chunks_get : PySem.W.codeIn K cd_Chunks_get "Chunks.get" = true) (k_Chunks_get : PySem.W.keepIn K (.ref f_Chunks_get) = true)
    (a_law_is : PySem.W.nsIn K mainGlobals "_law_is" = some (some (.ref f_law_is))) (l_law_is : K.lookup f_law_is = some ⟨oc_law_is, od_law_is, .func (PySem.W.fnOf "_law_is" "_law_is" (defArgs s_law_is) (defBody s_law_is) (defScope s_law_is) .none kV_law_is dc_law_is pm_law_is an_law_is cd_law_is ct_law_is), sl_law_is⟩) (c_law_is : PySem.W.codeIn K cd_law_is "_law_is" = true) (k_law_is : PySem.W.keepIn K (.ref f_law_is) = true)
    (a_law_integer : PySem.W.nsIn K mainGlobals "_law_integer" = some (some (.ref f_law_integer))) (l_law_integer : K.lookup f_law_integer = some ⟨oc_law_integer, od_law_integer, .func (PySem.W.fnOf "_law_integer" "_law_integer" (defArgs s_law_integer) (defBody s_law_integer) (defScope s_law_integer) .none kV_law_integer dc_law_integer pm_law_integer an_law_integer cd_law_integer ct_law_integer), sl_law_integer⟩) (c_law_integer : PySem.W.codeIn K cd_law_integer "_law_integer" = true) (k_law_integer : PySem.W.keepIn K (.ref f_law_integer) = true)
    (a_law_signs : PySem.W.nsIn K mainGlobals "_law_signs" = some (some (.ref f_law_signs))) (l_law_signs : K.lookup f_law_signs = some ⟨oc_law_signs, od_law_signs, .func (PySem.W.fnOf "_law_signs" "_law_signs" (defArgs s_law_signs) (defBody s_law_signs) (defScope s_law_signs) .none kV_law_signs dc_law_signs pm_law_signs an_law_signs cd_law_signs ct_law_signs), sl_law_signs⟩) (c_law_signs : PySem.W.codeIn K cd_law_signs "_law_signs" = true) (k_law_signs : PySem.W.keepIn K (.ref f_law_signs) = true)
    (a_law_char : PySem.W.nsIn K mainGlobals "_law_char" = some (some (.ref f_law_char))) (l_law_char : K.lookup f_law_char = some ⟨oc_law_char, od_law_char, .func (PySem.W.fnOf "_law_char" "_law_char" (defArgs s_law_char) (defBody s_law_char) (defScope s_law_char) .none kV_law_char dc_law_char pm_law_char an_law_char cd_law_char ct_law_char), sl_law_char⟩) (c_law_char : PySem.W.codeIn K cd_law_char "_law_char" = true) (k_law_char : PySem.W.keepIn K (.ref f_law_char) = true)
    (a_law_text : PySem.W.nsIn K mainGlobals "_law_text" = some (some (.ref f_law_text))) (l_law_text : K.lookup f_law_text = some ⟨oc_law_text, od_law_text, .func (PySem.W.fnOf "_law_text" "_law_text" (defArgs s_law_text) (defBody s_law_text) (defScope s_law_text) .none kV_law_text dc_law_text pm_law_text an_law_text cd_law_text ct_law_text), sl_law_text⟩) (c_law_text : PySem.W.codeIn K cd_law_text "_law_text" = true) (k_law_text : PySem.W.keepIn K (.ref f_law_text) = true)
    (a_law_leaf : PySem.W.nsIn K mainGlobals "_law_leaf" = some (some (.ref f_law_leaf))) (l_law_leaf : K.lookup f_law_leaf = some ⟨oc_law_leaf, od_law_leaf, .func (PySem.W.fnOf "_law_leaf" "_law_leaf" (defArgs s_law_leaf) (defBody s_law_leaf) (defScope s_law_leaf) .none kV_law_leaf dc_law_leaf pm_law_leaf an_law_leaf cd_law_leaf ct_law_leaf), sl_law_leaf⟩) (c_law_leaf : PySem.W.codeIn K cd_law_leaf "_law_leaf" = true) (k_law_leaf : PySem.W.keepIn K (.ref f_law_leaf) = true)
    (a_law_leaf_text : PySem.W.nsIn K mainGlobals "_law_leaf_text" = some (some (.ref f_law_leaf_text))) (l_law_leaf_text : K.lookup f_law_leaf_text = some ⟨oc_law_leaf_text, od_law_leaf_text, .func (PySem.W.fnOf "_law_leaf_text" "_law_leaf_text" (defArgs s_law_leaf_text) (defBody s_law_leaf_text) (defScope s_law_leaf_text) .none kV_law_leaf_text dc_law_leaf_text pm_law_leaf_text an_law_leaf_text cd_law_leaf_text ct_law_leaf_text), sl_law_leaf_text⟩) (c_law_leaf_text : PySem.W.codeIn K cd_law_leaf_text "_law_leaf_text" = true) (k_law_leaf_text : PySem.W.keepIn K (.ref f_law_leaf_text) = true)
    (a_Book_find : PySem.W.findIn K (.ref C_Book) "find" = some (some (.ref f_Book_find))) (i_Book_find : PySem.W.isFn K (.ref f_Book_find) = true) (l_Book_find : K.lookup f_Book_find = some ⟨oc_Book_find, od_Book_find, .func (PySem.W.fnOf "find" "Book.find" (defArgs s_Book_find) (defBody s_Book_find) (defScope s_Book_find) .none kV_Book_find dc_Book_find pm_Book_find an_Book_find cd_Book_find ct_Book_find), sl_Book_find⟩) (c_Book_find : PySem.W.codeIn K cd_Book_find "Book.find" = true) (k_Book_find : PySem.W.keepIn K (.ref f_Book_find) = true)
    (a_Book_address : PySem.W.findIn K (.ref C_Book) "address" = some (some (.ref f_Book_address))) (i_Book_address : PySem.W.isFn K (.ref f_Book_address) = true) (l_Book_address : K.lookup f_Book_address = some ⟨oc_Book_address, od_Book_address, .func (PySem.W.fnOf "address" "Book.address" (defArgs s_Book_address) (defBody s_Book_address) (defScope s_Book_address) .none kV_Book_address dc_Book_address pm_Book_address an_Book_address cd_Book_address ct_Book_address), sl_Book_address⟩) (c_Book_address : PySem.W.codeIn K cd_Book_address "Book.address" = true) (k_Book_address : PySem.W.keepIn K (.ref f_Book_address) = true)
    (a_Chunks_put : PySem.W.findIn K (.ref C_Chunks) "put" = some (some (.ref f_Chunks_put))) (i_Chunks_put : PySem.W.isFn K (.ref f_Chunks_put) = true) (l_Chunks_put : K.lookup f_Chunks_put = some ⟨oc_Chunks_put, od_Chunks_put, .func (PySem.W.fnOf "put" "Chunks.put" (defArgs s_Chunks_put) (defBody s_Chunks_put) (defScope s_Chunks_put) .none kV_Chunks_put dc_Chunks_put pm_Chunks_put an_Chunks_put cd_Chunks_put ct_Chunks_put), sl_Chunks_put⟩) (c_Chunks_put : PySem.W.codeIn K cd_Chunks_put "Chunks.put" = true) (k_Chunks_put : PySem.W.keepIn K (.ref f_Chunks_put) = true)
    (a_law_thing : PySem.W.nsIn K mainGlobals "_law_thing" = some (some (.ref f_law_thing))) (l_law_thing : K.lookup f_law_thing = some ⟨oc_law_thing, od_law_thing, .func (PySem.W.fnOf "_law_thing" "_law_thing" (defArgs s_law_thing) (defBody s_law_thing) (defScope s_law_thing) .none kV_law_thing dc_law_thing pm_law_thing an_law_thing cd_law_thing ct_law_thing), sl_law_thing⟩) (c_law_thing : PySem.W.codeIn K cd_law_thing "_law_thing" = true) (k_law_thing : PySem.W.keepIn K (.ref f_law_thing) = true)
    (a_Chunks_addresses : PySem.W.findIn K (.ref C_Chunks) "addresses" = some (some (.ref f_Chunks_addresses))) (i_Chunks_addresses : PySem.W.isFn K (.ref f_Chunks_addresses) = true) (l_Chunks_addresses : K.lookup f_Chunks_addresses = some ⟨oc_Chunks_addresses, od_Chunks_addresses, .func (PySem.W.fnOf "addresses" "Chunks.addresses" (defArgs s_Chunks_addresses) (defBody s_Chunks_addresses) (defScope s_Chunks_addresses) .none kV_Chunks_addresses dc_Chunks_addresses pm_Chunks_addresses an_Chunks_addresses cd_Chunks_addresses ct_Chunks_addresses), sl_Chunks_addresses⟩) (c_Chunks_addresses : PySem.W.codeIn K cd_Chunks_addresses "Chunks.addresses" = true) (k_Chunks_addresses : PySem.W.keepIn K (.ref f_Chunks_addresses) = true)
    (a_law_got : PySem.W.nsIn K mainGlobals "_law_got" = some (some (.ref f_law_got))) (l_law_got : K.lookup f_law_got = some ⟨oc_law_got, od_law_got, .func (PySem.W.fnOf "_law_got" "_law_got" (defArgs s_law_got) (defBody s_law_got) (defScope s_law_got) .none kV_law_got dc_law_got pm_law_got an_law_got cd_law_got ct_law_got), sl_law_got⟩) (c_law_got : PySem.W.codeIn K cd_law_got "_law_got" = true) (k_law_got : PySem.W.keepIn K (.ref f_law_got) = true)
    (a_law_put : PySem.W.nsIn K mainGlobals "_law_put" = some (some (.ref f_law_put))) (l_law_put : K.lookup f_law_put = some ⟨oc_law_put, od_law_put, .func (PySem.W.fnOf "_law_put" "_law_put" (defArgs s_law_put) (defBody s_law_put) (defScope s_law_put) .none kV_law_put dc_law_put pm_law_put an_law_put cd_law_put ct_law_put), sl_law_put⟩) (c_law_put : PySem.W.codeIn K cd_law_put "_law_put" = true) (k_law_put : PySem.W.keepIn K (.ref f_law_put) = true)
    (a_law_told : PySem.W.nsIn K mainGlobals "_law_told" = some (some (.ref f_law_told))) (l_law_told : K.lookup f_law_told = some ⟨oc_law_told, od_law_told, .func (PySem.W.fnOf "_law_told" "_law_told" (defArgs s_law_told) (defBody s_law_told) (defScope s_law_told) .none kV_law_told dc_law_told pm_law_told an_law_told cd_law_told ct_law_told), sl_law_told⟩) (c_law_told : PySem.W.codeIn K cd_law_told "_law_told" = true) (k_law_told : PySem.W.keepIn K (.ref f_law_told) = true)
    (a_law : PySem.W.nsIn K mainGlobals "law" = some (some (.ref f_law))) (l_law : K.lookup f_law = some ⟨oc_law, od_law, .func (PySem.W.fnOf "law" "law" (defArgs s_law) (defBody s_law) (defScope s_law) .none kV_law dc_law pm_law an_law cd_law ct_law), sl_law⟩) (c_law : PySem.W.codeIn K cd_law "law" = true) (k_law : PySem.W.keepIn K (.ref f_law) = true)
    (z_ValueError : PySem.W.nsIn K mainGlobals "ValueError" = some none)
    (z_bool : PySem.W.nsIn K mainGlobals "bool" = some none)
    (z_int : PySem.W.nsIn K mainGlobals "int" = some none)
    (z_isinstance : PySem.W.nsIn K mainGlobals "isinstance" = some none)
    (z_len : PySem.W.nsIn K mainGlobals "len" = some none)
    (z_list : PySem.W.nsIn K mainGlobals "list" = some none)
    (z_range : PySem.W.nsIn K mainGlobals "range" = some none)
    (z_sorted : PySem.W.nsIn K mainGlobals "sorted" = some none)
    (z_str : PySem.W.nsIn K mainGlobals "str" = some none)
    (z_super : PySem.W.nsIn K mainGlobals "super" = some none) :
    ∃ fd : FuncData, (∀ (s : Shared) (v : Value), BindsTo s fd ⟨[v], []⟩ [("script", v)]) ∧ ∀ base : Heap, K.In base → base.Ns mainGlobals mg → FnOk l.prog w K mg base CX0 7 fa fd ["script"] (spLaw K) := by
  have e := hfa.symm.trans (PySem.W.mg_of X G a_law)
  cases e
  have F_Book___init := fun_mk (st := s_Book___init) l_Book___init c_Book___init k_Book___init
  have F_Book___len := fun_mk (st := s_Book___len) l_Book___len c_Book___len k_Book___len
  have F_Chunks___init := fun_mk (st := s_Chunks___init) l_Chunks___init c_Chunks___init k_Chunks___init
  have F_Chunks___len := fun_mk (st := s_Chunks___len) l_Chunks___len c_Chunks___len k_Chunks___len
  have F_Chunks_drop := fun_mk (st := s_Chunks_drop) l_Chunks_drop c_Chunks_drop k_Chunks_drop
  have F_Chunks_has := fun_mk (st := s_Chunks_has) l_Chunks_has c_Chunks_has k_Chunks_has
  have F_law_cell := fun_mk (st := s_law_cell) l_law_cell c_law_cell k_law_cell
  have F_law_draws := fun_mk (st := s_law_draws) l_law_draws c_law_draws k_law_draws
  have F_Chunks_get := fun_mk (st := s_Chunks_get) l_Chunks_get c_Chunks_get k_Chunks_get
  have F_law_is := fun_mk (st := s_law_is) l_law_is c_law_is k_law_is
  have F_law_integer := fun_mk (st := s_law_integer) l_law_integer c_law_integer k_law_integer
  have F_law_signs := fun_mk (st := s_law_signs) l_law_signs c_law_signs k_law_signs
  have F_law_char := fun_mk (st := s_law_char) l_law_char c_law_char k_law_char
  have F_law_text := fun_mk (st := s_law_text) l_law_text c_law_text k_law_text
  have F_law_leaf := fun_mk (st := s_law_leaf) l_law_leaf c_law_leaf k_law_leaf
  have F_law_leaf_text := fun_mk (st := s_law_leaf_text) l_law_leaf_text c_law_leaf_text k_law_leaf_text
  have F_Book_find := fun_mk (st := s_Book_find) l_Book_find c_Book_find k_Book_find
  have F_Book_address := fun_mk (st := s_Book_address) l_Book_address c_Book_address k_Book_address
  have F_Chunks_put := fun_mk (st := s_Chunks_put) l_Chunks_put c_Chunks_put k_Chunks_put
  have F_law_thing := fun_mk (st := s_law_thing) l_law_thing c_law_thing k_law_thing
  have F_Chunks_addresses := fun_mk (st := s_Chunks_addresses) l_Chunks_addresses c_Chunks_addresses k_Chunks_addresses
  have F_law_got := fun_mk (st := s_law_got) l_law_got c_law_got k_law_got
  have F_law_put := fun_mk (st := s_law_put) l_law_put c_law_put k_law_put
  have F_law_told := fun_mk (st := s_law_told) l_law_told c_law_told k_law_told
  have F_law := fun_mk (st := s_law) l_law c_law k_law
  let T : Txt K mg l.prog := {
    C_Book := C_Book, g_Book := PySem.W.mg_of X G aC_Book, cl_Book := ⟨pg_Book, hd_Book, po_Book, sa_Book⟩,
    na_Book__addresses := na_Book__addresses,
    C_Chunks := C_Chunks, g_Chunks := PySem.W.mg_of X G aC_Chunks, cl_Chunks := ⟨pg_Chunks, hd_Chunks, po_Chunks, sa_Chunks⟩,
    na_Chunks_book := na_Chunks_book,
    na_Chunks_reads := na_Chunks_reads,
    na_Chunks__texts := na_Chunks__texts,
    C_MissingChunk := C_MissingChunk, e_MissingChunk := ⟨PySem.W.mg_of X G ax_MissingChunk, ⟨oexB_ok xo_MissingChunk, xz_MissingChunk, xb_MissingChunk, xt_MissingChunk, xk_MissingChunk⟩, xs_MissingChunk, ⟨xg_MissingChunk, xq_MissingChunk, xb_MissingChunk, xd_MissingChunk, xa_MissingChunk, xn_MissingChunk, xi_MissingChunk, xm_MissingChunk⟩⟩, kv_MissingChunk := xv_MissingChunk, f_MissingChunk___init := f_MissingChunk___init, d_MissingChunk___init := _, F_MissingChunk___init := funX_mk nl_MissingChunk nc_MissingChunk ni_MissingChunk nt_MissingChunk nb_MissingChunk ns_MissingChunk np_MissingChunk nm_MissingChunk nv_MissingChunk rfl rfl, b_MissingChunk___init := Binds.all (ps := ["self", "address"]) (fun us hl => match us, hl with | [_, _], _ => rfl), na_MissingChunk_address := na_MissingChunk,
    C_TornText := C_TornText, g_TornText := PySem.W.mg_of X G ay_TornText,
    kt_MissingChunk_TornText := ko_MissingChunk_TornText,
    C_UnknownTable := C_UnknownTable, g_UnknownTable := PySem.W.mg_of X G ay_UnknownTable,
    kt_MissingChunk_UnknownTable := ko_MissingChunk_UnknownTable,
    C_VersionError := C_VersionError, g_VersionError := PySem.W.mg_of X G ay_VersionError,
    ku_MissingChunk_VersionError := kp_MissingChunk_VersionError,
    f_Book___init := f_Book___init, d_Book___init := _, F_Book___init := F_Book___init, b_Book___init := (F_Book___init.binds (ps := ["self"]) fun _ _ _ _ _ _ us hl => match us, hl with | [_], _ => rfl),
    mk_Book := ⟨mk_Book, a_Book___init, i_Book___init, kc_Book⟩,
    f_Book___len := f_Book___len, d_Book___len := _, F_Book___len := F_Book___len, b_Book___len := (F_Book___len.binds (ps := ["self"]) fun _ _ _ _ _ _ us hl => match us, hl with | [_], _ => rfl),
    me_Book___len := ⟨a_Book___len, i_Book___len, k_Book___len⟩,
    f_Chunks___init := f_Chunks___init, d_Chunks___init := _, F_Chunks___init := F_Chunks___init, b_Chunks___init := (F_Chunks___init.binds (ps := ["self", "book"]) fun _ _ _ _ _ _ us hl => match us, hl with | [_, _], _ => rfl),
    mk_Chunks := ⟨mk_Chunks, a_Chunks___init, i_Chunks___init, kc_Chunks⟩,
    f_Chunks___len := f_Chunks___len, d_Chunks___len := _, F_Chunks___len := F_Chunks___len, b_Chunks___len := (F_Chunks___len.binds (ps := ["self"]) fun _ _ _ _ _ _ us hl => match us, hl with | [_], _ => rfl),
    me_Chunks___len := ⟨a_Chunks___len, i_Chunks___len, k_Chunks___len⟩,
    f_Chunks_drop := f_Chunks_drop, d_Chunks_drop := _, F_Chunks_drop := F_Chunks_drop, b_Chunks_drop := (F_Chunks_drop.binds (ps := ["self", "address"]) fun _ _ _ _ _ _ us hl => match us, hl with | [_, _], _ => rfl),
    me_Chunks_drop := ⟨a_Chunks_drop, i_Chunks_drop, k_Chunks_drop⟩,
    f_Chunks_has := f_Chunks_has, d_Chunks_has := _, F_Chunks_has := F_Chunks_has, b_Chunks_has := (F_Chunks_has.binds (ps := ["self", "address"]) fun _ _ _ _ _ _ us hl => match us, hl with | [_, _], _ => rfl),
    me_Chunks_has := ⟨a_Chunks_has, i_Chunks_has, k_Chunks_has⟩,
    f_law_cell := f_law_cell, d_law_cell := _, F_law_cell := F_law_cell, b_law_cell := (F_law_cell.binds (ps := ["script", "k"]) fun _ _ _ _ _ _ us hl => match us, hl with | [_, _], _ => rfl),
    g_law_cell := PySem.W.mg_of X G a_law_cell,
    f_law_draws := f_law_draws, d_law_draws := _, F_law_draws := F_law_draws, b_law_draws := (F_law_draws.binds (ps := ["cell", "salt", "count", "base"]) fun _ _ _ _ _ _ us hl => match us, hl with | [_, _, _, _], _ => rfl),
    g_law_draws := PySem.W.mg_of X G a_law_draws,
    f_Chunks_get := f_Chunks_get, d_Chunks_get := _, F_Chunks_get := F_Chunks_get, b_Chunks_get := (F_Chunks_get.binds (ps := ["self", "address"]) fun _ _ _ _ _ _ us hl => match us, hl with | [_, _], _ => rfl),
    me_Chunks_get := ⟨a_Chunks_get, i_Chunks_get, k_Chunks_get⟩,
    f_law_is := f_law_is, d_law_is := _, F_law_is := F_law_is, b_law_is := (F_law_is.binds (ps := ["actual", "expected"]) fun _ _ _ _ _ _ us hl => match us, hl with | [_, _], _ => rfl),
    g_law_is := PySem.W.mg_of X G a_law_is,
    f_law_integer := f_law_integer, d_law_integer := _, F_law_integer := F_law_integer, b_law_integer := (F_law_integer.binds (ps := ["cell"]) fun _ _ _ _ _ _ us hl => match us, hl with | [_], _ => rfl),
    g_law_integer := PySem.W.mg_of X G a_law_integer,
    f_law_signs := f_law_signs, d_law_signs := _, F_law_signs := F_law_signs, b_law_signs := (F_law_signs.binds (ps := ["cell", "length"]) fun _ _ _ _ _ _ us hl => match us, hl with | [_, _], _ => rfl),
    g_law_signs := PySem.W.mg_of X G a_law_signs,
    f_law_char := f_law_char, d_law_char := _, F_law_char := F_law_char, b_law_char := (F_law_char.binds (ps := ["number"]) fun _ _ _ _ _ _ us hl => match us, hl with | [_], _ => rfl),
    g_law_char := PySem.W.mg_of X G a_law_char,
    f_law_text := f_law_text, d_law_text := _, F_law_text := F_law_text, b_law_text := (F_law_text.binds (ps := ["cell"]) fun _ _ _ _ _ _ us hl => match us, hl with | [_], _ => rfl),
    g_law_text := PySem.W.mg_of X G a_law_text,
    f_law_leaf := f_law_leaf, d_law_leaf := _, F_law_leaf := F_law_leaf, b_law_leaf := (F_law_leaf.binds (ps := ["cell"]) fun _ _ _ _ _ _ us hl => match us, hl with | [_], _ => rfl),
    g_law_leaf := PySem.W.mg_of X G a_law_leaf,
    f_law_leaf_text := f_law_leaf_text, d_law_leaf_text := _, F_law_leaf_text := F_law_leaf_text, b_law_leaf_text := (F_law_leaf_text.binds (ps := ["leaf"]) fun _ _ _ _ _ _ us hl => match us, hl with | [_], _ => rfl),
    g_law_leaf_text := PySem.W.mg_of X G a_law_leaf_text,
    f_Book_find := f_Book_find, d_Book_find := _, F_Book_find := F_Book_find, b_Book_find := (F_Book_find.binds (ps := ["self", "text"]) fun _ _ _ _ _ _ us hl => match us, hl with | [_, _], _ => rfl),
    me_Book_find := ⟨a_Book_find, i_Book_find, k_Book_find⟩,
    f_Book_address := f_Book_address, d_Book_address := _, F_Book_address := F_Book_address, b_Book_address := (F_Book_address.binds (ps := ["self", "text"]) fun _ _ _ _ _ _ us hl => match us, hl with | [_, _], _ => rfl),
    me_Book_address := ⟨a_Book_address, i_Book_address, k_Book_address⟩,
    f_Chunks_put := f_Chunks_put, d_Chunks_put := _, F_Chunks_put := F_Chunks_put, b_Chunks_put := (F_Chunks_put.binds (ps := ["self", "text"]) fun _ _ _ _ _ _ us hl => match us, hl with | [_, _], _ => rfl),
    me_Chunks_put := ⟨a_Chunks_put, i_Chunks_put, k_Chunks_put⟩,
    f_law_thing := f_law_thing, d_law_thing := _, F_law_thing := F_law_thing, b_law_thing := (F_law_thing.binds (ps := ["script", "k"]) fun _ _ _ _ _ _ us hl => match us, hl with | [_, _], _ => rfl),
    g_law_thing := PySem.W.mg_of X G a_law_thing,
    f_Chunks_addresses := f_Chunks_addresses, d_Chunks_addresses := _, F_Chunks_addresses := F_Chunks_addresses, b_Chunks_addresses := (F_Chunks_addresses.binds (ps := ["self"]) fun _ _ _ _ _ _ us hl => match us, hl with | [_], _ => rfl),
    me_Chunks_addresses := ⟨a_Chunks_addresses, i_Chunks_addresses, k_Chunks_addresses⟩,
    f_law_got := f_law_got, d_law_got := _, F_law_got := F_law_got, b_law_got := (F_law_got.binds (ps := ["store", "address", "texts"]) fun _ _ _ _ _ _ us hl => match us, hl with | [_, _, _], _ => rfl),
    g_law_got := PySem.W.mg_of X G a_law_got,
    f_law_put := f_law_put, d_law_put := _, F_law_put := F_law_put, b_law_put := (F_law_put.binds (ps := ["store", "book", "text", "texts", "numbers"]) fun _ _ _ _ _ _ us hl => match us, hl with | [_, _, _, _, _], _ => rfl),
    g_law_put := PySem.W.mg_of X G a_law_put,
    f_law_told := f_law_told, d_law_told := _, F_law_told := F_law_told, b_law_told := (F_law_told.binds (ps := ["store", "texts"]) fun _ _ _ _ _ _ us hl => match us, hl with | [_, _], _ => rfl),
    g_law_told := PySem.W.mg_of X G a_law_told,
    f_law := fa, d_law := _, F_law := F_law, b_law := (F_law.binds (ps := ["script"]) fun _ _ _ _ _ _ us hl => match us, hl with | [_], _ => rfl),
    g_law := PySem.W.mg_of X G a_law,
    m_ValueError := PySem.W.mg_none_of X G z_ValueError,
    m_bool := PySem.W.mg_none_of X G z_bool,
    m_int := PySem.W.mg_none_of X G z_int,
    m_isinstance := PySem.W.mg_none_of X G z_isinstance,
    m_len := PySem.W.mg_none_of X G z_len,
    m_list := PySem.W.mg_none_of X G z_list,
    m_range := PySem.W.mg_none_of X G z_range,
    m_sorted := PySem.W.mg_none_of X G z_sorted,
    m_str := PySem.W.mg_none_of X G z_str,
    m_super := PySem.W.mg_none_of X G z_super }
  exact ⟨PySem.W.fnOf "law" "law" (defArgs s_law) (defBody s_law) (defScope s_law) .none kV_law dc_law pm_law an_law cd_law ct_law, fun s v => .of_eq rfl, fun base _ _ => ok_law T⟩

end Vt

open PySem PySem.W PyProof.Rows
set_option maxHeartbeats 0 in
theorem PySem.Challenge.cw_versiontables_k10_chunk_store_holds : PySem.Challenge.rw_versiontables_k10_chunk_store.Holds := by
  w_on; o_law; k_head; (case hw => w_witness2)
  k_fill
  refine L2.walk_ofB (l := PySem.Challenge.rw_versiontables_k10_chunk_store) (n := 63) (k := 7) (x := "script") (CX := fun _ => L2.CX0) (sp := fun w => Vt.spLaw _) rfl (by decide) rfl ⟨rfl, by decide, by decide⟩ (fun w h Y => PySem.W.kIn_of Y) ?F (fun _ _ a ns hl hb _ hS => ⟨a, ns, rfl, hS, hl, hb, fun _ => rfl⟩) (fun _ _ _ _ _ h => h)
  case F =>
    intro w mg fa h KX G hmg
    refine' Vt.all_mk KX G hmg ?aC_Book ?pg_Book ?hd_Book ?po_Book ?sa_Book ?mk_Book ?kc_Book ?na_Book__addresses ?aC_Chunks ?pg_Chunks ?hd_Chunks ?po_Chunks ?sa_Chunks ?mk_Chunks ?kc_Chunks ?na_Chunks_book ?na_Chunks_reads ?na_Chunks__texts ?ax_MissingChunk ?xo_MissingChunk ?xz_MissingChunk ?xk_MissingChunk ?xb_MissingChunk ?xt_MissingChunk ?xs_MissingChunk ?xg_MissingChunk ?xq_MissingChunk ?xd_MissingChunk ?xa_MissingChunk ?xn_MissingChunk ?xi_MissingChunk ?xm_MissingChunk ?xv_MissingChunk ?ni_MissingChunk ?na_MissingChunk ?nl_MissingChunk ?nc_MissingChunk ?nt_MissingChunk ?nb_MissingChunk ?ns_MissingChunk ?np_MissingChunk ?nm_MissingChunk ?nv_MissingChunk ?ay_TornText ?ko_MissingChunk_TornText ?ay_UnknownTable ?ko_MissingChunk_UnknownTable ?ay_VersionError ?kp_MissingChunk_VersionError ?a_Book___init ?i_Book___init ?l_Book___init ?c_Book___init ?k_Book___init ?a_Book___len ?i_Book___len ?l_Book___len ?c_Book___len ?k_Book___len ?a_Chunks___init ?i_Chunks___init ?l_Chunks___init ?c_Chunks___init ?k_Chunks___init ?a_Chunks___len ?i_Chunks___len ?l_Chunks___len ?c_Chunks___len ?k_Chunks___len ?a_Chunks_drop ?i_Chunks_drop ?l_Chunks_drop ?c_Chunks_drop ?k_Chunks_drop ?a_Chunks_has ?i_Chunks_has ?l_Chunks_has ?c_Chunks_has ?k_Chunks_has ?a_law_cell ?l_law_cell ?c_law_cell ?k_law_cell ?a_law_draws ?l_law_draws ?c_law_draws ?k_law_draws ?a_Chunks_get ?i_Chunks_get ?l_Chunks_get ?c_Chunks_get ?k_Chunks_get ?a_law_is ?l_law_is ?c_law_is ?k_law_is ?a_law_integer ?l_law_integer ?c_law_integer ?k_law_integer ?a_law_signs ?l_law_signs ?c_law_signs ?k_law_signs ?a_law_char ?l_law_char ?c_law_char ?k_law_char ?a_law_text ?l_law_text ?c_law_text ?k_law_text ?a_law_leaf ?l_law_leaf ?c_law_leaf ?k_law_leaf ?a_law_leaf_text ?l_law_leaf_text ?c_law_leaf_text ?k_law_leaf_text ?a_Book_find ?i_Book_find ?l_Book_find ?c_Book_find ?k_Book_find ?a_Book_address ?i_Book_address ?l_Book_address ?c_Book_address ?k_Book_address ?a_Chunks_put ?i_Chunks_put ?l_Chunks_put ?c_Chunks_put ?k_Chunks_put ?a_law_thing ?l_law_thing ?c_law_thing ?k_law_thing ?a_Chunks_addresses ?i_Chunks_addresses ?l_Chunks_addresses ?c_Chunks_addresses ?k_Chunks_addresses ?a_law_got ?l_law_got ?c_law_got ?k_law_got ?a_law_put ?l_law_put ?c_law_put ?k_law_put ?a_law_told ?l_law_told ?c_law_told ?k_law_told ?a_law ?l_law ?c_law ?k_law ?z_ValueError ?z_bool ?z_int ?z_isinstance ?z_len ?z_list ?z_range ?z_sorted ?z_str ?z_super
    (case aC_Book => k_is)
    (case pg_Book => k_is)
    (case hd_Book => k_is)
    (case po_Book => k_is)
    (case sa_Book => k_is)
    (case mk_Book => k_is)
    (case kc_Book => k_is)
    (case na_Book__addresses => k_is)
    (case aC_Chunks => k_is)
    (case pg_Chunks => k_is)
    (case hd_Chunks => k_is)
    (case po_Chunks => k_is)
    (case sa_Chunks => k_is)
    (case mk_Chunks => k_is)
    (case kc_Chunks => k_is)
    (case na_Chunks_book => k_is)
    (case na_Chunks_reads => k_is)
    (case na_Chunks__texts => k_is)
    (case ax_MissingChunk => k_is)
    (case xo_MissingChunk => kernel_rfl)
    (case xz_MissingChunk => k_is)
    (case xk_MissingChunk => k_is)
    (case xb_MissingChunk => k_is)
    (case xt_MissingChunk => k_is)
    (case xs_MissingChunk => first | rfl | k_is)
    (case xg_MissingChunk => k_is)
    (case xq_MissingChunk => k_is)
    (case xd_MissingChunk => k_is)
    (case xa_MissingChunk => k_is)
    (case xn_MissingChunk => first | rfl | k_is)
    (case xi_MissingChunk => first | rfl | k_is)
    (case xm_MissingChunk => k_is)
    (case xv_MissingChunk => first | rfl | k_is)
    (case ni_MissingChunk => k_is)
    (case na_MissingChunk => k_is)
    (case nl_MissingChunk => k_is)
    (case nc_MissingChunk => k_is)
    (case nt_MissingChunk => k_is)
    (case nb_MissingChunk => kernel_rfl)
    (case ns_MissingChunk => kernel_rfl)
    (case np_MissingChunk => k_is)
    (case nm_MissingChunk => first | rfl | k_is)
    (case nv_MissingChunk => first | rfl | k_is)
    (case ay_TornText => k_is)
    (case ko_MissingChunk_TornText => first | rfl | k_is)
    (case ay_UnknownTable => k_is)
    (case ko_MissingChunk_UnknownTable => first | rfl | k_is)
    (case ay_VersionError => k_is)
    (case kp_MissingChunk_VersionError => first | rfl | k_is)
    (case a_Book___init => k_is)
    (case i_Book___init => k_is)
    (case l_Book___init => k_is)
    (case c_Book___init => k_is)
    (case k_Book___init => k_is)
    (case a_Book___len => k_is)
    (case i_Book___len => k_is)
    (case l_Book___len => k_is)
    (case c_Book___len => k_is)
    (case k_Book___len => k_is)
    (case a_Chunks___init => k_is)
    (case i_Chunks___init => k_is)
    (case l_Chunks___init => k_is)
    (case c_Chunks___init => k_is)
    (case k_Chunks___init => k_is)
    (case a_Chunks___len => k_is)
    (case i_Chunks___len => k_is)
    (case l_Chunks___len => k_is)
    (case c_Chunks___len => k_is)
    (case k_Chunks___len => k_is)
    (case a_Chunks_drop => k_is)
    (case i_Chunks_drop => k_is)
    (case l_Chunks_drop => k_is)
    (case c_Chunks_drop => k_is)
    (case k_Chunks_drop => k_is)
    (case a_Chunks_has => k_is)
    (case i_Chunks_has => k_is)
    (case l_Chunks_has => k_is)
    (case c_Chunks_has => k_is)
    (case k_Chunks_has => k_is)
    (case a_law_cell => k_is)
    (case l_law_cell => k_is)
    (case c_law_cell => k_is)
    (case k_law_cell => k_is)
    (case a_law_draws => k_is)
    (case l_law_draws => k_is)
    (case c_law_draws => k_is)
    (case k_law_draws => k_is)
    (case a_Chunks_get => k_is)
    (case i_Chunks_get => k_is)
    (case l_Chunks_get => k_is)
    (case c_Chunks_get => k_is)
    (case k_Chunks_get => k_is)
    (case a_law_is => k_is)
    (case l_law_is => k_is)
    (case c_law_is => k_is)
    (case k_law_is => k_is)
    (case a_law_integer => k_is)
    (case l_law_integer => k_is)
    (case c_law_integer => k_is)
    (case k_law_integer => k_is)
    (case a_law_signs => k_is)
    (case l_law_signs => k_is)
    (case c_law_signs => k_is)
    (case k_law_signs => k_is)
    (case a_law_char => k_is)
    (case l_law_char => k_is)
    (case c_law_char => k_is)
    (case k_law_char => k_is)
    (case a_law_text => k_is)
    (case l_law_text => k_is)
    (case c_law_text => k_is)
    (case k_law_text => k_is)
    (case a_law_leaf => k_is)
    (case l_law_leaf => k_is)
    (case c_law_leaf => k_is)
    (case k_law_leaf => k_is)
    (case a_law_leaf_text => k_is)
    (case l_law_leaf_text => k_is)
    (case c_law_leaf_text => k_is)
    (case k_law_leaf_text => k_is)
    (case a_Book_find => k_is)
    (case i_Book_find => k_is)
    (case l_Book_find => k_is)
    (case c_Book_find => k_is)
    (case k_Book_find => k_is)
    (case a_Book_address => k_is)
    (case i_Book_address => k_is)
    (case l_Book_address => k_is)
    (case c_Book_address => k_is)
    (case k_Book_address => k_is)
    (case a_Chunks_put => k_is)
    (case i_Chunks_put => k_is)
    (case l_Chunks_put => k_is)
    (case c_Chunks_put => k_is)
    (case k_Chunks_put => k_is)
    (case a_law_thing => k_is)
    (case l_law_thing => k_is)
    (case c_law_thing => k_is)
    (case k_law_thing => k_is)
    (case a_Chunks_addresses => k_is)
    (case i_Chunks_addresses => k_is)
    (case l_Chunks_addresses => k_is)
    (case c_Chunks_addresses => k_is)
    (case k_Chunks_addresses => k_is)
    (case a_law_got => k_is)
    (case l_law_got => k_is)
    (case c_law_got => k_is)
    (case k_law_got => k_is)
    (case a_law_put => k_is)
    (case l_law_put => k_is)
    (case c_law_put => k_is)
    (case k_law_put => k_is)
    (case a_law_told => k_is)
    (case l_law_told => k_is)
    (case c_law_told => k_is)
    (case k_law_told => k_is)
    (case a_law => k_is)
    (case l_law => k_is)
    (case c_law => k_is)
    (case k_law => k_is)
    (case z_ValueError => k_is)
    (case z_bool => k_is)
    (case z_int => k_is)
    (case z_isinstance => k_is)
    (case z_len => k_is)
    (case z_list => k_is)
    (case z_range => k_is)
    (case z_sorted => k_is)
    (case z_str => k_is)
    (case z_super => k_is)
